import Derived.Test.YtgeiamgeclbiaaaGreatDoorWa
namespace Go.Proofs.YtgeiamgeclbiaaaGreatDoor
open Go.RowKit Go.Maps Go.WideMaps
set_option maxRecDepth 20000
set_option maxHeartbeats 8000000
theorem grown_step{w wr W:World}{g o:Nat}{v:Value}(h:w.grownBy wr (some g))(hb:Below wr.heap.size wr W):w.grownBy (W.setCell ⟨g,o,none⟩ v) (some g):=
 ⟨hb.os.trans h.os,hb.tape.trans h.tape,hb.output.trans h.output,by have:=hb.size;have:=h.size;simp;omega,fun i hi hne=>(heap_setCell_other _ _ _ _ (by simpa using fun e=>hne (by rw [e]))).trans ((hb.block i (Nat.lt_of_lt_of_le hi h.size)).trans (h.block i hi hne))⟩
def MC(w:World)(a:Option Addr)(n k:Nat):Prop:=n=0∨∃ g cur,a=some ⟨g,0,none⟩/\w.heap[g]?=some (.cells cur 113 (0,0))/\∀ q,q<n->cur[q * 2]?=some (.string (mtx (k+2 * q)))/\cur[q * 2+1]?=some (.int .i64 ((k+2 * q+1:Nat):Int))
def M3(w:World)(t:TypeId)(a:Option Addr)(n k:Nat):Prop:=n=0∨∃ g cur,a=some ⟨g,0,none⟩/\w.heap[g]?=some (.cells cur t (0,0))/\∀ q,q<n->cur[q * 3]?=some (.int .i64 ((k+3 * q:Nat):Int))/\cur[q * 3+1]?=some (.int .i64 ((k+3 * q+1:Nat):Int))/\cur[q * 3+2]?=some (.string (mtx (k+3 * q+2)))
theorem bk_some{g n:Nat}(h:n≠0):bk (some ⟨g,0,none⟩) n=some g:=by unfold bk;rw [if_neg h];rfl
theorem WR.gr{w w':World}{lo hi:Nat}{t:TypeId}{z:Nat}{a a':Option Addr}{n n':Nat}(h:WR w lo hi t z a n)(hg:w.grownBy w' (bk a' n'))(hd:Dj a n a' n'):WR w' lo hi t z a n:=by
 by_cases e:n=0
 · exact Or.inl e
 ·
  rcases h with h | ⟨g,cur,rfl,h2,h3,h4,h5⟩
  · exact Or.inl h
  ·
   rcases hd with hd | hd
   · rw [bk_some e] at hd;cases hd
   · rw [bk_some e] at hd;exact Or.inr ⟨g,cur,rfl,h2,h3,rowG' h4 hg hd,h5⟩
theorem MC.gr{w w':World}{a:Option Addr}{n k:Nat}{r:Option Nat}(h:MC w a n k)(hg:w.grownBy w' r)(hd:bk a n=none∨bk a n≠r):MC w' a n k:=by
 by_cases e:n=0
 · exact Or.inl e
 ·
  rcases h with h | ⟨g,cur,rfl,h2,h3⟩
  · exact Or.inl h
  · rw [bk_some e] at hd;exact Or.inr ⟨g,cur,rfl,rowG' h2 hg (hd.resolve_left (by simp)),h3⟩
theorem M3.gr{w w':World}{t:TypeId}{a:Option Addr}{n k:Nat}{r:Option Nat}(h:M3 w t a n k)(hg:w.grownBy w' r)(hd:bk a n=none∨bk a n≠r):M3 w' t a n k:=by
 by_cases e:n=0
 · exact Or.inl e
 ·
  rcases h with h | ⟨g,cur,rfl,h2,h3⟩
  · exact Or.inl h
  · rw [bk_some e] at hd;exact Or.inr ⟨g,cur,rfl,rowG' h2 hg (hd.resolve_left (by simp)),h3⟩
theorem MC.later{w w':World}{a:Option Addr}{n k:Nat}(h:MC w a n k)(hb:Below w.heap.size w w'):MC w' a n k:=by
 rcases h with h | ⟨g,cur,rfl,h2,h3⟩
 · exact Or.inl h
 · exact Or.inr ⟨g,cur,rfl,rowL h2 hb,h3⟩
theorem M3.later{w w':World}{t:TypeId}{a:Option Addr}{n k:Nat}(h:M3 w t a n k)(hb:Below w.heap.size w w'):M3 w' t a n k:=by
 rcases h with h | ⟨g,cur,rfl,h2,h3⟩
 · exact Or.inl h
 · exact Or.inr ⟨g,cur,rfl,rowL h2 hb,h3⟩
theorem markCl_some(g n c z:Nat)(cur0:Array Value)(w:World)(hg0:w.heap[g]?=some (.cells cur0 113 (0,0)))(hcs:n * 2<=cur0.size)(hz0:0<z)(hz:z+2 * n<9000000000000000000) :
 Calls Tryz.prog 45 #[.slice (some ⟨g,0,none⟩) n c,.int .i64 (z:Int)] w fun e w'=>e=.returned (.int .i64 ((z+2 * n:Nat):Int))/\(∃ cur,w'.heap[g]?=some (.cells cur 113 (0,0))/\cur.size=cur0.size/\∀ q,q<n->cur[q * 2]?=some (.string (mtx (z+2 * q)))/\cur[q * 2+1]?=some (.int .i64 ((z+2 * q+1:Nat):Int)))/\w.grownBy w' (some g):=by
 go_enter Tryz.func45,Tryz.ntmps45
 go_wp2;go_loopw [1,5] (fun k i wr=>∃ (j:Nat) (K:Int) (cur:Array Value),k=.int .i64 K/\K=((z+2 * j:Nat):Int)/\j<=n/\i=.int .i64 j/\wr.heap[g]?=some (.cells cur 113 (0,0))/\cur.size=cur0.size/\(∀ q,q<j->cur[q * 2]?=some (.string (mtx (z+2 * q)))/\cur[q * 2+1]?=some (.int .i64 ((z+2 * q+1:Nat):Int)))/\w.grownBy wr (some g)) (fun _ i _=>n - (intOf i).toNat)
 case atStart=>exact⟨0,_,cur0,rfl,by omega,by omega,rfl,hg0,rfl,fun q hq=>by omega,grefl _ _⟩
 case round=>
  obtain⟨j,K,cur,rfl,hK,hj,rfl,hg,hsz,hall,hgr⟩:=hrel;have HK:Hid (K=((z+2 * j:Nat):Int)):=hK;have hK0:0<K:=by omega
  have hK1:K<9000000000000000000:=by omega
  clear hK;have HG:Hid (wr.heap[g]?=some (.cells cur 113 (0,0))):=hg;have HALL:Hid (∀ q,q<j->cur[q * 2]?=some (.string (mtx (z+2 * q)))/\cur[q * 2+1]?=some (.int .i64 ((z+2 * q+1:Nat):Int))):=hall;clear hg hall;by_cases hlt:j<n
  ·
   obtain⟨y0,hy0⟩:∃ y,mtx (z+2 * j)=y:=⟨_,rfl⟩;have HY0:Hid (mtx (z+2 * j)=y0):=hy0;clear hy0;obtain⟨v0,hv0⟩:=there (A:=cur) (k:=j * 2) (by omega);obtain⟨v1,hv1⟩:=there (A:=cur) (k:=j * 2+1) (by omega);have HV:Hid (cur[j * 2]?=some v0/\cur[j * 2+1]?=some v1):=⟨hv0,hv1⟩;clear hv0 hv1;go_upto_region 6 with (go_at_call 96;refine(markText_as (z+2 * j) _ _ (by have:=HK.out;omega) (by omega) (by omega) y0 HY0.out).mono ?_;rintro e u0 ⟨rfl,hb0⟩;have K0:Hid (u0.heap[g]?=some (.cells (cur) 113 (0,0))):=rowL HG.out hb0;have c0:u0.cell? ⟨g,j * 2,none⟩=some v0:=(cell_of_row _ _ _ _ _ _ K0.out).trans (HV.out.1);have f0:u0.frozen? ⟨g,j * 2,none⟩=false:=frozen_of_row _ _ _ _ _ K0.out)
   have HG0:Hid ((u0.setCell ⟨g,j * 2,none⟩ (.string y0)).heap[g]?=some (.cells (cur.setIfInBounds (j * 2) (.string y0)) 113 (0,0))):=heap_setCell_same _ _ _ _ _ _ K0.out;have hgr0:w.grownBy (u0.setCell ⟨g,j * 2,none⟩ (.string y0)) (some g):=grown_step hgr (hb0);obtain⟨W0,hW0⟩:∃ W,u0.setCell ⟨g,j * 2,none⟩ (.string y0)=W:=⟨_,rfl⟩;rw [hW0] at HG0 hgr0 ⊢;clear hW0 c0 f0;have c1:W0.cell? ⟨g,j * 2+1,none⟩=some v1:=(cell_of_row _ _ _ _ _ _ HG0.out).trans (setA (HV.out.2) (by omega));have f1:W0.frozen? ⟨g,j * 2+1,none⟩=false:=frozen_of_row _ _ _ _ _ HG0.out;go_wp2;go_roundw
   case rel=>
    refine⟨j+1,_,_,rfl,by have:=HK.out;omega,by omega,by go_num,heap_setCell_same _ _ _ _ _ _ HG0.out,by simpa using hsz,fun q hq=>?_,grown_step hgr0 (Below.refl _ _)⟩;by_cases e:q=j
    · subst e;rw [HY0.out];exact⟨setA (setS (by first | omega | (simp only [Array.size_setIfInBounds];omega))) (by omega),(setS (by first | omega | (simp only [Array.size_setIfInBounds];omega))).trans (by rw [show (K+1:Int)=((z+2 * q+1:Nat):Int) from by have:=HK.out;omega])⟩
    · obtain⟨r0,r1⟩:=HALL.out q (by omega);exact⟨setA (setA (r0) (by omega)) (by omega),setA (setA (r1) (by omega)) (by omega)⟩
   case measure=>simp [intOf];omega
  ·
   obtain rfl:j=n:=by omega
   go_wp2;go_ret
   exact⟨by rw [HK.out];rfl,⟨cur,HG.out,hsz,HALL.out⟩,hgr⟩
theorem markCl_zero(a:Option Addr)(c z:Nat)(w:World):Calls Tryz.prog 45 #[.slice a 0 c,.int .i64 (z:Int)] w fun e w'=>e=.returned (.int .i64 (z:Int))/\w'=w:=by
 go_enter Tryz.func45,Tryz.ntmps45
 go_wp2;go_loop [1,5] (fun k i=>k=.int .i64 (z:Int)/\i=.int .i64 0) (fun _ _=>0)
 case atStart=>exact⟨rfl,rfl⟩
 case round=>
  obtain⟨rfl,rfl⟩:=hrel;go_wp2;go_ret
  exact⟨rfl,rfl⟩
theorem markCl(lo hi:Nat)(a:Option Addr)(n c z:Nat)(w:World)(h:WR w lo hi 113 2 a n)(hz0:0<z)(hz:z+2 * n<9000000000000000000) :
 Calls Tryz.prog 45 #[.slice a n c,.int .i64 (z:Int)] w fun e w'=>e=.returned (.int .i64 ((z+2 * n:Nat):Int))/\MC w' a n z/\w.grownBy w' (bk a n):=by
 by_cases e:n=0
 · subst e;refine(markCl_zero a c z w).mono ?_;rintro e w' ⟨rfl,rfl⟩;exact⟨rfl,Or.inl rfl,grefl _ _⟩
 ·
  rcases h with h | ⟨g,cur,rfl,h2,h3,h4,h5⟩
  · exact absurd h e
  · refine(markCl_some g n c z cur w h4 h5 hz0 hz).mono ?_;rintro e' w' ⟨rfl,⟨cur',k1,-,k2⟩,k3⟩;exact⟨rfl,Or.inr ⟨g,cur',rfl,k1,k2⟩,by rw [bk_some e];exact k3⟩
theorem markVl_some(g n c z:Nat)(cur0:Array Value)(w:World)(hg0:w.heap[g]?=some (.cells cur0 66 (0,0)))(hcs:n * 3<=cur0.size)(hz0:0<z)(hz:z+3 * n<9000000000000000000) :
 Calls Tryz.prog 46 #[.slice (some ⟨g,0,none⟩) n c,.int .i64 (z:Int)] w fun e w'=>e=.returned (.int .i64 ((z+3 * n:Nat):Int))/\(∃ cur,w'.heap[g]?=some (.cells cur 66 (0,0))/\cur.size=cur0.size/\∀ q,q<n->cur[q * 3]?=some (.int .i64 ((z+3 * q:Nat):Int))/\cur[q * 3+1]?=some (.int .i64 ((z+3 * q+1:Nat):Int))/\cur[q * 3+2]?=some (.string (mtx (z+3 * q+2))))/\w.grownBy w' (some g):=by
 go_enter Tryz.func46,Tryz.ntmps46
 go_wp2;go_loopw [1,5] (fun k i wr=>∃ (j:Nat) (K:Int) (cur:Array Value),k=.int .i64 K/\K=((z+3 * j:Nat):Int)/\j<=n/\i=.int .i64 j/\wr.heap[g]?=some (.cells cur 66 (0,0))/\cur.size=cur0.size/\(∀ q,q<j->cur[q * 3]?=some (.int .i64 ((z+3 * q:Nat):Int))/\cur[q * 3+1]?=some (.int .i64 ((z+3 * q+1:Nat):Int))/\cur[q * 3+2]?=some (.string (mtx (z+3 * q+2))))/\w.grownBy wr (some g)) (fun _ i _=>n - (intOf i).toNat)
 case atStart=>exact⟨0,_,cur0,rfl,by omega,by omega,rfl,hg0,rfl,fun q hq=>by omega,grefl _ _⟩
 case round=>
  obtain⟨j,K,cur,rfl,hK,hj,rfl,hg,hsz,hall,hgr⟩:=hrel;have HK:Hid (K=((z+3 * j:Nat):Int)):=hK;have hK0:0<K:=by omega
  have hK1:K<9000000000000000000:=by omega
  clear hK;have HG:Hid (wr.heap[g]?=some (.cells cur 66 (0,0))):=hg;have HALL:Hid (∀ q,q<j->cur[q * 3]?=some (.int .i64 ((z+3 * q:Nat):Int))/\cur[q * 3+1]?=some (.int .i64 ((z+3 * q+1:Nat):Int))/\cur[q * 3+2]?=some (.string (mtx (z+3 * q+2)))):=hall;clear hg hall;by_cases hlt:j<n
  ·
   obtain⟨y0,hy0⟩:∃ y,mtx (z+3 * j+2)=y:=⟨_,rfl⟩;have HY0:Hid (mtx (z+3 * j+2)=y0):=hy0;clear hy0;obtain⟨v0,hv0⟩:=there (A:=cur) (k:=j * 3) (by omega);obtain⟨v1,hv1⟩:=there (A:=cur) (k:=j * 3+1) (by omega);obtain⟨v2,hv2⟩:=there (A:=cur) (k:=j * 3+2) (by omega);have HV:Hid (cur[j * 3]?=some v0/\cur[j * 3+1]?=some v1/\cur[j * 3+2]?=some v2):=⟨hv0,hv1,hv2⟩;clear hv0 hv1 hv2;have c0:wr.cell? ⟨g,j * 3,none⟩=some v0:=(cell_of_row _ _ _ _ _ _ HG.out).trans (HV.out.1);have f0:wr.frozen? ⟨g,j * 3,none⟩=false:=frozen_of_row _ _ _ _ _ HG.out;go_upto_region 6 with (fail)
   have HG0:Hid ((wr.setCell ⟨g,j * 3,none⟩ (.int .i64 K)).heap[g]?=some (.cells (cur.setIfInBounds (j * 3) (.int .i64 K)) 66 (0,0))):=heap_setCell_same _ _ _ _ _ _ HG.out;have hgr0:w.grownBy (wr.setCell ⟨g,j * 3,none⟩ (.int .i64 K)) (some g):=grown_step hgr (Below.refl _ _);obtain⟨W0,hW0⟩:∃ W,wr.setCell ⟨g,j * 3,none⟩ (.int .i64 K)=W:=⟨_,rfl⟩;rw [hW0] at HG0 hgr0 ⊢;clear hW0 c0 f0;have c1:W0.cell? ⟨g,j * 3+1,none⟩=some v1:=(cell_of_row _ _ _ _ _ _ HG0.out).trans (setA (HV.out.2.1) (by omega));have f1:W0.frozen? ⟨g,j * 3+1,none⟩=false:=frozen_of_row _ _ _ _ _ HG0.out;go_upto_region 8 with (fail)
   have HG1:Hid ((W0.setCell ⟨g,j * 3+1,none⟩ (.int .i64 (K+1))).heap[g]?=some (.cells ((cur.setIfInBounds (j * 3) (.int .i64 K)).setIfInBounds (j * 3+1) (.int .i64 (K+1))) 66 (0,0))):=heap_setCell_same _ _ _ _ _ _ HG0.out;have hgr1:w.grownBy (W0.setCell ⟨g,j * 3+1,none⟩ (.int .i64 (K+1))) (some g):=grown_step hgr0 (Below.refl _ _);obtain⟨W1,hW1⟩:∃ W,W0.setCell ⟨g,j * 3+1,none⟩ (.int .i64 (K+1))=W:=⟨_,rfl⟩;rw [hW1] at HG1 hgr1 ⊢;clear hW1 c1 f1;go_wp2_with (go_at_call 96;refine(markText_as (z+3 * j+2) _ _ (by have:=HK.out;omega) (by omega) (by omega) y0 HY0.out).mono ?_;rintro e u2 ⟨rfl,hb2⟩;have K2:Hid (u2.heap[g]?=some (.cells ((cur.setIfInBounds (j * 3) (.int .i64 K)).setIfInBounds (j * 3+1) (.int .i64 (K+1))) 66 (0,0))):=rowL HG1.out hb2;have c2:u2.cell? ⟨g,j * 3+2,none⟩=some v2:=(cell_of_row _ _ _ _ _ _ K2.out).trans (setA (setA (HV.out.2.2) (by omega)) (by omega));have f2:u2.frozen? ⟨g,j * 3+2,none⟩=false:=frozen_of_row _ _ _ _ _ K2.out)
   go_roundw
   case rel=>
    refine⟨j+1,_,_,rfl,by have:=HK.out;omega,by omega,by go_num,heap_setCell_same _ _ _ _ _ _ K2.out,by simpa using hsz,fun q hq=>?_,grown_step hgr1 (hb2)⟩;by_cases e:q=j
    · subst e;rw [HY0.out];exact⟨setA (setA ((setS (by first | omega | (simp only [Array.size_setIfInBounds];omega))).trans (by rw [show (K:Int)=((z+3 * q:Nat):Int) from by have:=HK.out;omega])) (by omega)) (by omega),setA ((setS (by first | omega | (simp only [Array.size_setIfInBounds];omega))).trans (by rw [show (K+1:Int)=((z+3 * q+1:Nat):Int) from by have:=HK.out;omega])) (by omega),setS (by first | omega | (simp only [Array.size_setIfInBounds];omega))⟩
    · obtain⟨r0,r1,r2⟩:=HALL.out q (by omega);exact⟨setA (setA (setA (r0) (by omega)) (by omega)) (by omega),setA (setA (setA (r1) (by omega)) (by omega)) (by omega),setA (setA (setA (r2) (by omega)) (by omega)) (by omega)⟩
   case measure=>simp [intOf];omega
  ·
   obtain rfl:j=n:=by omega
   go_wp2;go_ret
   exact⟨by rw [HK.out];rfl,⟨cur,HG.out,hsz,HALL.out⟩,hgr⟩
theorem markVl_zero(a:Option Addr)(c z:Nat)(w:World):Calls Tryz.prog 46 #[.slice a 0 c,.int .i64 (z:Int)] w fun e w'=>e=.returned (.int .i64 (z:Int))/\w'=w:=by
 go_enter Tryz.func46,Tryz.ntmps46
 go_wp2;go_loop [1,5] (fun k i=>k=.int .i64 (z:Int)/\i=.int .i64 0) (fun _ _=>0)
 case atStart=>exact⟨rfl,rfl⟩
 case round=>
  obtain⟨rfl,rfl⟩:=hrel;go_wp2;go_ret
  exact⟨rfl,rfl⟩
theorem markVl(lo hi:Nat)(a:Option Addr)(n c z:Nat)(w:World)(h:WR w lo hi 66 3 a n)(hz0:0<z)(hz:z+3 * n<9000000000000000000) :
 Calls Tryz.prog 46 #[.slice a n c,.int .i64 (z:Int)] w fun e w'=>e=.returned (.int .i64 ((z+3 * n:Nat):Int))/\M3 w' 66 a n z/\w.grownBy w' (bk a n):=by
 by_cases e:n=0
 · subst e;refine(markVl_zero a c z w).mono ?_;rintro e w' ⟨rfl,rfl⟩;exact⟨rfl,Or.inl rfl,grefl _ _⟩
 ·
  rcases h with h | ⟨g,cur,rfl,h2,h3,h4,h5⟩
  · exact absurd h e
  · refine(markVl_some g n c z cur w h4 h5 hz0 hz).mono ?_;rintro e' w' ⟨rfl,⟨cur',k1,-,k2⟩,k3⟩;exact⟨rfl,Or.inr ⟨g,cur',rfl,k1,k2⟩,by rw [bk_some e];exact k3⟩
theorem markIt_some(g n c z:Nat)(cur0:Array Value)(w:World)(hg0:w.heap[g]?=some (.cells cur0 108 (0,0)))(hcs:n * 3<=cur0.size)(hz0:0<z)(hz:z+3 * n<9000000000000000000) :
 Calls Tryz.prog 47 #[.slice (some ⟨g,0,none⟩) n c,.int .i64 (z:Int)] w fun e w'=>e=.returned (.int .i64 ((z+3 * n:Nat):Int))/\(∃ cur,w'.heap[g]?=some (.cells cur 108 (0,0))/\cur.size=cur0.size/\∀ q,q<n->cur[q * 3]?=some (.int .i64 ((z+3 * q:Nat):Int))/\cur[q * 3+1]?=some (.int .i64 ((z+3 * q+1:Nat):Int))/\cur[q * 3+2]?=some (.string (mtx (z+3 * q+2))))/\w.grownBy w' (some g):=by
 go_enter Tryz.func47,Tryz.ntmps47
 go_wp2;go_loopw [1,5] (fun k i wr=>∃ (j:Nat) (K:Int) (cur:Array Value),k=.int .i64 K/\K=((z+3 * j:Nat):Int)/\j<=n/\i=.int .i64 j/\wr.heap[g]?=some (.cells cur 108 (0,0))/\cur.size=cur0.size/\(∀ q,q<j->cur[q * 3]?=some (.int .i64 ((z+3 * q:Nat):Int))/\cur[q * 3+1]?=some (.int .i64 ((z+3 * q+1:Nat):Int))/\cur[q * 3+2]?=some (.string (mtx (z+3 * q+2))))/\w.grownBy wr (some g)) (fun _ i _=>n - (intOf i).toNat)
 case atStart=>exact⟨0,_,cur0,rfl,by omega,by omega,rfl,hg0,rfl,fun q hq=>by omega,grefl _ _⟩
 case round=>
  obtain⟨j,K,cur,rfl,hK,hj,rfl,hg,hsz,hall,hgr⟩:=hrel;have HK:Hid (K=((z+3 * j:Nat):Int)):=hK;have hK0:0<K:=by omega
  have hK1:K<9000000000000000000:=by omega
  clear hK;have HG:Hid (wr.heap[g]?=some (.cells cur 108 (0,0))):=hg;have HALL:Hid (∀ q,q<j->cur[q * 3]?=some (.int .i64 ((z+3 * q:Nat):Int))/\cur[q * 3+1]?=some (.int .i64 ((z+3 * q+1:Nat):Int))/\cur[q * 3+2]?=some (.string (mtx (z+3 * q+2)))):=hall;clear hg hall;by_cases hlt:j<n
  ·
   obtain⟨y0,hy0⟩:∃ y,mtx (z+3 * j+2)=y:=⟨_,rfl⟩;have HY0:Hid (mtx (z+3 * j+2)=y0):=hy0;clear hy0;obtain⟨v0,hv0⟩:=there (A:=cur) (k:=j * 3) (by omega);obtain⟨v1,hv1⟩:=there (A:=cur) (k:=j * 3+1) (by omega);obtain⟨v2,hv2⟩:=there (A:=cur) (k:=j * 3+2) (by omega);have HV:Hid (cur[j * 3]?=some v0/\cur[j * 3+1]?=some v1/\cur[j * 3+2]?=some v2):=⟨hv0,hv1,hv2⟩;clear hv0 hv1 hv2;have c0:wr.cell? ⟨g,j * 3,none⟩=some v0:=(cell_of_row _ _ _ _ _ _ HG.out).trans (HV.out.1);have f0:wr.frozen? ⟨g,j * 3,none⟩=false:=frozen_of_row _ _ _ _ _ HG.out;go_upto_region 6 with (fail)
   have HG0:Hid ((wr.setCell ⟨g,j * 3,none⟩ (.int .i64 K)).heap[g]?=some (.cells (cur.setIfInBounds (j * 3) (.int .i64 K)) 108 (0,0))):=heap_setCell_same _ _ _ _ _ _ HG.out;have hgr0:w.grownBy (wr.setCell ⟨g,j * 3,none⟩ (.int .i64 K)) (some g):=grown_step hgr (Below.refl _ _);obtain⟨W0,hW0⟩:∃ W,wr.setCell ⟨g,j * 3,none⟩ (.int .i64 K)=W:=⟨_,rfl⟩;rw [hW0] at HG0 hgr0 ⊢;clear hW0 c0 f0;have c1:W0.cell? ⟨g,j * 3+1,none⟩=some v1:=(cell_of_row _ _ _ _ _ _ HG0.out).trans (setA (HV.out.2.1) (by omega));have f1:W0.frozen? ⟨g,j * 3+1,none⟩=false:=frozen_of_row _ _ _ _ _ HG0.out;go_upto_region 8 with (fail)
   have HG1:Hid ((W0.setCell ⟨g,j * 3+1,none⟩ (.int .i64 (K+1))).heap[g]?=some (.cells ((cur.setIfInBounds (j * 3) (.int .i64 K)).setIfInBounds (j * 3+1) (.int .i64 (K+1))) 108 (0,0))):=heap_setCell_same _ _ _ _ _ _ HG0.out;have hgr1:w.grownBy (W0.setCell ⟨g,j * 3+1,none⟩ (.int .i64 (K+1))) (some g):=grown_step hgr0 (Below.refl _ _);obtain⟨W1,hW1⟩:∃ W,W0.setCell ⟨g,j * 3+1,none⟩ (.int .i64 (K+1))=W:=⟨_,rfl⟩;rw [hW1] at HG1 hgr1 ⊢;clear hW1 c1 f1;go_wp2_with (go_at_call 96;refine(markText_as (z+3 * j+2) _ _ (by have:=HK.out;omega) (by omega) (by omega) y0 HY0.out).mono ?_;rintro e u2 ⟨rfl,hb2⟩;have K2:Hid (u2.heap[g]?=some (.cells ((cur.setIfInBounds (j * 3) (.int .i64 K)).setIfInBounds (j * 3+1) (.int .i64 (K+1))) 108 (0,0))):=rowL HG1.out hb2;have c2:u2.cell? ⟨g,j * 3+2,none⟩=some v2:=(cell_of_row _ _ _ _ _ _ K2.out).trans (setA (setA (HV.out.2.2) (by omega)) (by omega));have f2:u2.frozen? ⟨g,j * 3+2,none⟩=false:=frozen_of_row _ _ _ _ _ K2.out)
   go_roundw
   case rel=>
    refine⟨j+1,_,_,rfl,by have:=HK.out;omega,by omega,by go_num,heap_setCell_same _ _ _ _ _ _ K2.out,by simpa using hsz,fun q hq=>?_,grown_step hgr1 (hb2)⟩;by_cases e:q=j
    · subst e;rw [HY0.out];exact⟨setA (setA ((setS (by first | omega | (simp only [Array.size_setIfInBounds];omega))).trans (by rw [show (K:Int)=((z+3 * q:Nat):Int) from by have:=HK.out;omega])) (by omega)) (by omega),setA ((setS (by first | omega | (simp only [Array.size_setIfInBounds];omega))).trans (by rw [show (K+1:Int)=((z+3 * q+1:Nat):Int) from by have:=HK.out;omega])) (by omega),setS (by first | omega | (simp only [Array.size_setIfInBounds];omega))⟩
    · obtain⟨r0,r1,r2⟩:=HALL.out q (by omega);exact⟨setA (setA (setA (r0) (by omega)) (by omega)) (by omega),setA (setA (setA (r1) (by omega)) (by omega)) (by omega),setA (setA (setA (r2) (by omega)) (by omega)) (by omega)⟩
   case measure=>simp [intOf];omega
  ·
   obtain rfl:j=n:=by omega
   go_wp2;go_ret
   exact⟨by rw [HK.out];rfl,⟨cur,HG.out,hsz,HALL.out⟩,hgr⟩
theorem markIt_zero(a:Option Addr)(c z:Nat)(w:World):Calls Tryz.prog 47 #[.slice a 0 c,.int .i64 (z:Int)] w fun e w'=>e=.returned (.int .i64 (z:Int))/\w'=w:=by
 go_enter Tryz.func47,Tryz.ntmps47
 go_wp2;go_loop [1,5] (fun k i=>k=.int .i64 (z:Int)/\i=.int .i64 0) (fun _ _=>0)
 case atStart=>exact⟨rfl,rfl⟩
 case round=>
  obtain⟨rfl,rfl⟩:=hrel;go_wp2;go_ret
  exact⟨rfl,rfl⟩
set_option maxRecDepth 20000
set_option maxHeartbeats 8000000
theorem heldVl(a:Option Addr)(n c z:Nat)(w:World)(h:M3 w 66 a n z)(hz0:0<z)(hz:z+3 * n<9000000000000000000) :
 Calls Tryz.prog 49 #[.slice a n c,.int .i64 (z:Int)] w fun e w'=>e=.returned (.int .i64 ((z+3 * n:Nat):Int))/\Below w.heap.size w w':=by
 have hb0:=Below.refl w.heap.size w;go_enter Tryz.func49,Tryz.ntmps49
 go_wp2;go_loopw [1,5] (fun k i wr=>∃ (j:Nat) (K:Int),k=.int .i64 K/\K=((z+3 * j:Nat):Int)/\j<=n/\i=.int .i64 j/\Below w.heap.size w wr) (fun _ i _=>n - (intOf i).toNat)
 case atStart=>exact⟨0,_,rfl,by omega,by omega,rfl,hb0⟩
 case round=>
  obtain⟨j,K,rfl,hK,hj,rfl,hb⟩:=hrel;have HK:Hid (K=((z+3 * j:Nat):Int)):=hK;have hK0:0<K:=by omega
  have hK1:K<9000000000000000000:=by omega
  by_cases hlt:j<n
  ·
   have hjn:(j:Int)<n:=by omega
   obtain⟨y0,hy0⟩:∃ y,mtx (z+3 * j+2)=y:=⟨_,rfl⟩;have HY0:Hid (mtx (z+3 * j+2)=y0):=hy0;rcases h.later hb with h0 | ⟨g,cur,rfl,hg,hall⟩
   · omega
   obtain⟨r0,r1,r2⟩:=hall j hlt;rw [show ((z+3 * j:Nat):Int)=K from by omega] at r0
   have c0:wr.cell? ⟨g,j * 3,none⟩=some (.int .i64 K):=(cell_of_row _ _ _ _ _ _ hg).trans r0;rw [show ((z+3 * j+1:Nat):Int)=K+1 from by omega] at r1
   have c1:wr.cell? ⟨g,j * 3+1,none⟩=some (.int .i64 (K+1)):=(cell_of_row _ _ _ _ _ _ hg).trans r1;rw [hy0] at r2;have c2:wr.cell? ⟨g,j * 3+2,none⟩=some (.string y0):=(cell_of_row _ _ _ _ _ _ hg).trans r2;clear hy0 hK hg hall r0 r1 r2;have e0:=eqS_same y0;go_upto_region 10 with (fail)
   refine wp_region_held_drew (S:=fun x=>Below wr.heap.size wr x) (by kernel_rfl) (bdrV _) (fun jH=>?_);refine tk 0 (⟨some 30,.move (.tmp 0),41,"exact.go:556",#[],none⟩:Oper) (fun x jS=>by go_simp<;>rfl) jH ?_
   try simp only [zS]
   refine tk 1 (⟨some 31,.move (.tmp 5),3,"exact.go:556",#[],none⟩:Oper) (fun x jS=>by go_simp<;>rfl) jH ?_
   try simp only [zS]
   refine tk 2 (⟨some 32,.indexAddr 41 (.tmp 30) (.tmp 31),0,"exact.go:556",#[⟨0,.data⟩,⟨1,.data⟩],none⟩:Oper) (fun x jS=>by go_simp<;>rfl) jH ?_
   try simp only [zS]
   refine tk 3 (⟨some 33,.fieldAddr 66 (.tmp 32) 2,0,"exact.go:556",#[⟨2,.data⟩],none⟩:Oper) (fun x jS=>by go_simp<;>rfl) jH ?_
   try simp only [zS]
   refine tk 4 (⟨some 34,.load 9 (.tmp 33),9,"exact.go:556",#[⟨3,.data⟩],none⟩:Oper) (fun x jS=>by have k0:=keepB jS c0;have k1:=keepB jS c1;have k2:=keepB jS c2;go_simp<;>rfl) jH ?_
   try simp only [zS]
   refine tk 5 (⟨some 35,.move (.tmp 1),3,"exact.go:556",#[],none⟩:Oper) (fun x jS=>by go_simp<;>rfl) jH ?_
   try simp only [zS]
   refine rd 6 (⟨some 36,.call ⟨.value (.func 96),#[.tmp 35],#[3]⟩,9,"exact.go:556",#[⟨5,.data⟩],none⟩:Oper) (fun K hK=>?_);go_simp;refine(markText_as (z+3 * j+2) _ _ (by have:=HK.out;omega) (by omega) (by omega) y0 HY0.out).mono ?_;rintro e w2 ⟨rfl,hb2⟩;refine hK.out _ _ (bstep jH hb2) (fun jH=>?_);clear hK K;try simp only [zS]
   refine tk 7 (⟨some 37,.binOp .neq 9 (.tmp 34) (.tmp 36) 9,4,"exact.go:556",#[⟨4,.data⟩,⟨6,.data⟩],none⟩:Oper) (fun x jS=>by go_simp<;>rfl) jH ?_
   try simp only [zS]
   refine wpAnyH_done (by kernel_rfl) ?_ _;have k0:=keepB jH c0;have k1:=keepB jH c1;have k2:=keepB jH c2;go_wp2;go_roundw
   case rel=>exact⟨j+1,_,rfl,by have:=HK.out;omega,by omega,by go_num,bstep hb jH⟩
   case measure=>simp [intOf];omega
  ·
   obtain rfl:j=n:=by omega
   clear hK;go_wp2;go_ret
   exact⟨by rw [HK.out];rfl,hb⟩
set_option maxRecDepth 20000
set_option maxHeartbeats 8000000
theorem Dj.symm{a a':Option Addr}{n n':Nat}(h:Dj a n a' n'):Dj a' n' a n:=by
 unfold Dj at *;rcases h with h | h
 ·
  cases e:bk a' n' with
  | none=>exact Or.inl rfl
  | some x=>rw [h];exact Or.inr (by simp)
 · exact Or.inr (fun e=>h e.symm)
def sm(M:Nat->Nat):Nat->Nat
 | 0=>0
 | k+1=>sm M k+M k
theorem sm_succ(M:Nat->Nat)(k:Nat):sm M (k+1)=sm M k+M k:=rfl
theorem sm_le(M:Nat->Nat){k:Nat}:∀ {n:Nat},k<=n->sm M k<=sm M n
 | 0,h=>by
  obtain rfl:k=0:=by omega
  exact Nat.le_refl _
 | n+1,h=>by
  by_cases e:k=n+1
  · subst e;exact Nat.le_refl _
  · have:=sm_le M (k:=k) (n:=n) (by omega);rw [sm_succ];omega
theorem markClA(lo hi:Nat)(a:Option Addr)(n c z:Nat)(Z:Int)(hZ:Z=(z:Int))(w:World)(h:WR w lo hi 113 2 a n)(hz0:0<z)(hz:z+2 * n<9000000000000000000) :
 Calls Tryz.prog 45 #[.slice a n c,.int .i64 Z] w fun e w'=>∃ K:Int,e=.returned (.int .i64 K)/\Hid (K=((z+2 * n:Nat):Int))/\MC w' a n z/\w.grownBy w' (bk a n):=by
 subst hZ;refine(markCl lo hi a n c z w h hz0 hz).mono ?_;rintro e w' ⟨rfl,h1,h2⟩;exact⟨_,rfl,rfl,h1,h2⟩
theorem markVlA(lo hi:Nat)(a:Option Addr)(n c z:Nat)(Z:Int)(hZ:Z=(z:Int))(w:World)(h:WR w lo hi 66 3 a n)(hz0:0<z)(hz:z+3 * n<9000000000000000000) :
 Calls Tryz.prog 46 #[.slice a n c,.int .i64 Z] w fun e w'=>∃ K:Int,e=.returned (.int .i64 K)/\Hid (K=((z+3 * n:Nat):Int))/\M3 w' 66 a n z/\w.grownBy w' (bk a n):=by
 subst hZ;refine(markVl lo hi a n c z w h hz0 hz).mono ?_;rintro e w' ⟨rfl,h1,h2⟩;exact⟨_,rfl,rfl,h1,h2⟩
theorem heldVlA(a:Option Addr)(n c z:Nat)(Z:Int)(hZ:Z=(z:Int))(w:World)(h:M3 w 66 a n z)(hz0:0<z)(hz:z+3 * n<9000000000000000000) :
 Calls Tryz.prog 49 #[.slice a n c,.int .i64 Z] w fun e w'=>∃ K:Int,e=.returned (.int .i64 K)/\Hid (K=((z+3 * n:Nat):Int))/\Below w.heap.size w w':=by
 subst hZ;refine(heldVl a n c z w h hz0 hz).mono ?_;rintro e w' ⟨rfl,h1⟩;exact⟨_,rfl,rfl,h1⟩
structure OutG(n:Nat)(A:Nat->Option Addr)(M:Nat->Nat)(w w':World):Prop where
 os:w'.os=w.os
 tape:w'.tape=w.tape
 output:w'.output=w.output
 size:w.heap.size<=w'.heap.size
 block:∀ b,b<w.heap.size->(∀ i,i<n->bk (A i) (M i)≠some b)->w'.heap[b]?=w.heap[b]?
theorem OutG.refl(n:Nat)(A:Nat->Option Addr)(M:Nat->Nat)(w:World):OutG n A M w w:=⟨rfl,rfl,rfl,Nat.le_refl _,fun _ _ _=>rfl⟩
theorem OutG.step{n:Nat}{A:Nat->Option Addr}{M:Nat->Nat}{w a b:World}(h:OutG n A M w a){j:Nat}(hj:j<n)(g:a.grownBy b (bk (A j) (M j))):OutG n A M w b:=
 ⟨g.os.trans h.os,g.tape.trans h.tape,g.output.trans h.output,Nat.le_trans h.size g.size,fun k hk hn=>(g.block k (Nat.lt_of_lt_of_le hk h.size) (fun e=>hn j hj e.symm)).trans (h.block k hk hn)⟩
theorem OutG.row{n:Nat}{A:Nat->Option Addr}{M:Nat->Nat}{w w':World}(h:OutG n A M w w'){q:Nat}{o:Obj}(hq:w.heap[q]?=some o)(hn:∀ i,i<n->bk (A i) (M i)≠some q):w'.heap[q]?=some o:=
 (h.block q (Array.getElem?_eq_some_iff.1 hq).1 hn).trans hq
theorem markVss(lo hi g n c z:Nat)(Z:Int)(hZ:Z=(z:Int))(cur:Array Value)(A:Nat->Option Addr)(C M:Nat->Nat)(w:World)(hrow:w.heap[g]?=some (.cells cur 41 (0,0)))(hat:∀ i,i<n->cur[i]?=some (.slice (A i) (M i) (C i)))(hw:∀ i,i<n->WR w lo hi 66 3 (A i) (M i))(hji:∀ i,i<n->bk (A i) (M i)≠some g)(hjik:∀ i k,k<i->i<n->Dj (A i) (M i) (A k) (M k))(hz0:0<z)(hz:z+3 * sm M n<9000000000000000000)(hn:n<=1048576) :
 Calls Tryz.prog 16 #[.slice (some ⟨g,0,none⟩) n c,.int .i64 Z] w fun e w'=>∃ K:Int,e=.returned (.int .i64 K)/\Hid (K=((z+3 * sm M n:Nat):Int))/\w'.heap[g]?=some (.cells cur 41 (0,0))/\(∀ i,i<n->M3 w' 66 (A i) (M i) (z+3 * sm M i))/\OutG n A M w w':=by
 go_enter Tryz.func16,Tryz.ntmps16
 go_wp2;go_loopw [1,5] (fun k i wr=>∃ (j:Nat) (K:Int),k=.int .i64 K/\K=((z+3 * sm M j:Nat):Int)/\j<=n/\i=.int .i64 j/\wr.heap[g]?=some (.cells cur 41 (0,0))/\(∀ i,i<j->M3 wr 66 (A i) (M i) (z+3 * sm M i))/\(∀ i,j<=i->i<n->WR wr lo hi 66 3 (A i) (M i))/\OutG n A M w wr) (fun _ i _=>n - (intOf i).toNat)
 case atStart=>exact⟨0,_,rfl,hZ,by omega,rfl,hrow,fun i hi=>by omega,fun i _ hi=>hw i hi,OutG.refl _ _ _ _⟩
 case round=>
  obtain⟨j,K,rfl,hK,hj,rfl,hg,hM,hW,hG⟩:=hrel;have HK:Hid (K=((z+3 * sm M j:Nat):Int)):=hK;have HM:Hid (∀ i,i<j->M3 wr 66 (A i) (M i) (z+3 * sm M i)):=hM;have HW:Hid (∀ i,j<=i->i<n->WR wr lo hi 66 3 (A i) (M i)):=hW;have HG:Hid (wr.heap[g]?=some (.cells cur 41 (0,0))):=hg;by_cases hlt:j<n
  ·
   have hjn:(j:Int)<n:=by omega
   have c0:wr.cell? ⟨g,j,none⟩=some (.slice (A j) (M j) (C j)):=(cell_of_row _ _ _ _ _ _ hg).trans (hat j hlt);have hs1:=sm_le M (k:=j+1) (n:=n) hlt;rw [sm_succ] at hs1;have hC:=markVlA lo hi (A j) (M j) (C j) (z+3 * sm M j) K hK wr (hW j (Nat.le_refl _) hlt) (by omega) (by omega);clear hK hM hW hg;go_wp2_with (go_at_call 46;refine hC.mono ?_;rintro e w2 ⟨K2,rfl,HK2,hM2,hg2⟩)
   go_roundw
   case rel=>
    refine⟨j+1,K2,rfl,?_,by omega,by go_num,rowG' HG.out hg2 (fun e=>hji j hlt e.symm),fun i hi=>?_,fun i h1 h2=>(HW.out i (by omega) h2).gr hg2 (hjik i j (by omega) h2),hG.step hlt hg2⟩
    · rw [HK2.out,sm_succ];omega
    ·
     by_cases e:i=j
     · subst e;exact hM2
     · exact(HM.out i (by omega)).gr hg2 (hjik j i (by omega) hlt).symm
   case measure=>simp [intOf];omega
  ·
   obtain rfl:j=n:=by omega
   clear hK hM hW hg;go_wp2;go_ret
   exact⟨K,rfl,HK,HG.out,HM.out,hG⟩
theorem markVss0(a:Option Addr)(c:Nat)(Z:Int)(w:World):Calls Tryz.prog 16 #[.slice a 0 c,.int .i64 Z] w fun e w'=>e=.returned (.int .i64 Z)/\w'=w:=by
 go_enter Tryz.func16,Tryz.ntmps16
 go_wp2;go_loop [1,5] (fun k i=>k=.int .i64 Z/\i=.int .i64 0) (fun _ _=>0)
 case atStart=>exact⟨rfl,rfl⟩
 case round=>
  obtain⟨rfl,rfl⟩:=hrel;go_wp2;go_ret
  exact⟨rfl,rfl⟩
theorem heldVss0(a:Option Addr)(c:Nat)(Z:Int)(w:World):Calls Tryz.prog 17 #[.slice a 0 c,.int .i64 Z] w fun e w'=>e=.returned (.int .i64 Z)/\w'=w:=by
 go_enter Tryz.func17,Tryz.ntmps17
 go_wp2;go_loop [1,5] (fun k i=>k=.int .i64 Z/\i=.int .i64 0) (fun _ _=>0)
 case atStart=>exact⟨rfl,rfl⟩
 case round=>
  obtain⟨rfl,rfl⟩:=hrel;go_wp2;go_ret
  exact⟨rfl,rfl⟩
theorem heldVss(g n c z:Nat)(Z:Int)(hZ:Z=(z:Int))(cur:Array Value)(A:Nat->Option Addr)(C M:Nat->Nat)(w:World)(hrow:w.heap[g]?=some (.cells cur 41 (0,0)))(hat:∀ i,i<n->cur[i]?=some (.slice (A i) (M i) (C i)))(hM:∀ i,i<n->M3 w 66 (A i) (M i) (z+3 * sm M i))(hz0:0<z)(hz:z+3 * sm M n<9000000000000000000)(hn:n<=1048576) :
 Calls Tryz.prog 17 #[.slice (some ⟨g,0,none⟩) n c,.int .i64 Z] w fun e w'=>∃ K:Int,e=.returned (.int .i64 K)/\Hid (K=((z+3 * sm M n:Nat):Int))/\Below w.heap.size w w':=by
 have hb0:=Below.refl w.heap.size w;have HM:Hid (∀ i,i<n->M3 w 66 (A i) (M i) (z+3 * sm M i)):=hM;have HG:Hid (w.heap[g]?=some (.cells cur 41 (0,0))):=hrow;clear hM hrow;go_enter Tryz.func17,Tryz.ntmps17
 go_wp2;go_loopw [1,5] (fun k i wr=>∃ (j:Nat) (K:Int),k=.int .i64 K/\K=((z+3 * sm M j:Nat):Int)/\j<=n/\i=.int .i64 j/\Below w.heap.size w wr) (fun _ i _=>n - (intOf i).toNat)
 case atStart=>exact⟨0,_,rfl,hZ,by omega,rfl,hb0⟩
 case round=>
  obtain⟨j,K,rfl,hK,hj,rfl,hb⟩:=hrel;have HK:Hid (K=((z+3 * sm M j:Nat):Int)):=hK;by_cases hlt:j<n
  ·
   have hjn:(j:Int)<n:=by omega
   have c0:wr.cell? ⟨g,j,none⟩=some (.slice (A j) (M j) (C j)):=(cell_of_row _ _ _ _ _ _ (rowL HG.out hb)).trans (hat j hlt);have hs1:=sm_le M (k:=j+1) (n:=n) hlt;rw [sm_succ] at hs1;have hC:=heldVlA (A j) (M j) (C j) (z+3 * sm M j) K hK wr ((HM.out j hlt).later hb) (by omega) (by omega);clear hK;go_wp2_with (go_at_call 49;refine hC.mono ?_;rintro e w2 ⟨K2,rfl,HK2,hb2⟩;have hK2:0<=K2:=(by rw [HK2.out];omega))
   go_roundw
   case rel=>
    refine⟨j+1,K2,rfl,?_,by omega,by go_num,bstep hb hb2⟩;rw [HK2.out,sm_succ];omega
   case measure=>simp [intOf];omega
  ·
   obtain rfl:j=n:=by omega
   clear hK;go_wp2;go_ret
   exact⟨K,rfl,HK,hb⟩
set_option maxRecDepth 20000
set_option maxHeartbeats 8000000
theorem heldCl(a:Option Addr)(n c z:Nat)(w:World)(h:MC w a n z)(hz0:0<z)(hz:z+2 * n<9000000000000000000) :
 Calls Tryz.prog 111 #[.slice a n c,.int .i64 (z:Int)] w fun e w'=>e=.returned (.int .i64 ((z+2 * n:Nat):Int))/\Below w.heap.size w w':=by
 have hb0:=Below.refl w.heap.size w;go_enter Tryz.func111,Tryz.ntmps111
 go_wp2;go_loopw [1,5] (fun k i wr=>∃ (j:Nat) (K:Int),k=.int .i64 K/\K=((z+2 * j:Nat):Int)/\j<=n/\i=.int .i64 j/\Below w.heap.size w wr) (fun _ i _=>n - (intOf i).toNat)
 case atStart=>exact⟨0,_,rfl,by omega,by omega,rfl,hb0⟩
 case round=>
  obtain⟨j,K,rfl,hK,hj,rfl,hb⟩:=hrel;have HK:Hid (K=((z+2 * j:Nat):Int)):=hK;have hK0:0<K:=by omega
  have hK1:K<9000000000000000000:=by omega
  by_cases hlt:j<n
  ·
   have hjn:(j:Int)<n:=by omega
   obtain⟨y0,hy0⟩:∃ y,mtx (z+2 * j)=y:=⟨_,rfl⟩;have HY0:Hid (mtx (z+2 * j)=y0):=hy0;rcases h.later hb with h0 | ⟨g,cur,rfl,hg,hall⟩
   · omega
   obtain⟨r0,r1⟩:=hall j hlt;rw [hy0] at r0;have c0:wr.cell? ⟨g,j * 2,none⟩=some (.string y0):=(cell_of_row _ _ _ _ _ _ hg).trans r0;rw [show ((z+2 * j+1:Nat):Int)=K+1 from by omega] at r1
   have c1:wr.cell? ⟨g,j * 2+1,none⟩=some (.int .i64 (K+1)):=(cell_of_row _ _ _ _ _ _ hg).trans r1;clear hy0 hK hg hall r0 r1;have e0:=eqS_same y0;go_upto_region 4 with (fail)
   refine wp_region_held_drew (S:=fun x=>Below wr.heap.size wr x) (by kernel_rfl) (bdrV _) (fun jH=>?_);refine tk 0 (⟨some 12,.move (.tmp 0),40,"exact.go:522",#[],none⟩:Oper) (fun x jS=>by go_simp<;>rfl) jH ?_
   try simp only [zS]
   refine tk 1 (⟨some 13,.move (.tmp 5),3,"exact.go:522",#[],none⟩:Oper) (fun x jS=>by go_simp<;>rfl) jH ?_
   try simp only [zS]
   refine tk 2 (⟨some 14,.indexAddr 40 (.tmp 12) (.tmp 13),0,"exact.go:522",#[⟨0,.data⟩,⟨1,.data⟩],none⟩:Oper) (fun x jS=>by go_simp<;>rfl) jH ?_
   try simp only [zS]
   refine tk 3 (⟨some 15,.fieldAddr 113 (.tmp 14) 0,0,"exact.go:522",#[⟨2,.data⟩],none⟩:Oper) (fun x jS=>by go_simp<;>rfl) jH ?_
   try simp only [zS]
   refine tk 4 (⟨some 16,.load 9 (.tmp 15),9,"exact.go:522",#[⟨3,.data⟩],none⟩:Oper) (fun x jS=>by have k0:=keepB jS c0;have k1:=keepB jS c1;go_simp<;>rfl) jH ?_
   try simp only [zS]
   refine tk 5 (⟨some 17,.move (.tmp 1),3,"exact.go:522",#[],none⟩:Oper) (fun x jS=>by go_simp<;>rfl) jH ?_
   try simp only [zS]
   refine rd 6 (⟨some 18,.call ⟨.value (.func 96),#[.tmp 17],#[3]⟩,9,"exact.go:522",#[⟨5,.data⟩],none⟩:Oper) (fun K hK=>?_);go_simp;refine(markText_as (z+2 * j) _ _ (by have:=HK.out;omega) (by omega) (by omega) y0 HY0.out).mono ?_;rintro e w2 ⟨rfl,hb2⟩;refine hK.out _ _ (bstep jH hb2) (fun jH=>?_);clear hK K;try simp only [zS]
   refine tk 7 (⟨some 19,.binOp .neq 9 (.tmp 16) (.tmp 18) 9,4,"exact.go:522",#[⟨4,.data⟩,⟨6,.data⟩],none⟩:Oper) (fun x jS=>by go_simp<;>rfl) jH ?_
   try simp only [zS]
   refine wpAnyH_done (by kernel_rfl) ?_ _;have k0:=keepB jH c0;have k1:=keepB jH c1;go_wp2;go_roundw
   case rel=>exact⟨j+1,_,rfl,by have:=HK.out;omega,by omega,by go_num,bstep hb jH⟩
   case measure=>simp [intOf];omega
  ·
   obtain rfl:j=n:=by omega
   clear hK;go_wp2;go_ret
   exact⟨by rw [HK.out];rfl,hb⟩
end Go.Proofs.YtgeiamgeclbiaaaGreatDoor
