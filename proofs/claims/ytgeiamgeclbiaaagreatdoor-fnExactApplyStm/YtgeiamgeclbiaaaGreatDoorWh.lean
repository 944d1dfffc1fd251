import Derived.Test.YtgeiamgeclbiaaaGreatDoorWf
namespace Go.Proofs.YtgeiamgeclbiaaaGreatDoor
open Go.RowKit Go.Maps Go.WideMaps
set_option maxRecDepth 20000
set_option maxHeartbeats 4000000
theorem WR.kp{w w':World}{lo hi:Nat}{t:TypeId}{z:Nat}{a:Option Addr}{n:Nat}(h:WR w lo hi t z a n)(k:KpR lo hi w w'):WR w' lo hi t z a n:=by
 rcases h with h | ⟨g,cur,h1,h2,h3,h4,h5⟩
 · exact Or.inl h
 · exact Or.inr ⟨g,cur,h1,h2,h3,k g h2 h3 _ h4,h5⟩
theorem WR.hi{w:World}{lo hi lo' hi':Nat}{t:TypeId}{z:Nat}{a:Option Addr}{n:Nat}(h:WR w lo hi t z a n)(h1:lo'<=lo)(h2:hi<=hi'):WR w lo' hi' t z a n:=h.wide (Below.refl _ _) h1 h2
theorem WR.set{w:World}{lo R i:Nat}{v:Value}{t:TypeId}{z:Nat}{a:Option Addr}{n:Nat}(h:WR w lo w.heap.size t z a n)(hR:R<lo):WR (w.setCell ⟨R,i,none⟩ v) lo (w.setCell ⟨R,i,none⟩ v).heap.size t z a n:=(h.kp (KpR.set hR)).hi (Nat.le_refl _) (by simp)
theorem SR.kp{w w':World}{lo hi:Nat}{u t:TypeId}{g n:Nat}{m:Nat->Nat}(h:SR w lo hi u t g n m)(k:KpR lo hi w w'):SR w' lo hi u t g n m:=by
 obtain⟨h1,h2,cur,h3,h4⟩:=h;refine⟨h1,h2,cur,k g h1 h2 _ h3,fun j hj=>?_⟩;obtain⟨hm,q,e1,e2⟩:=h4 j hj;exact⟨hm,q,e1,e2.kp k⟩
theorem SR.hi{w:World}{lo hi lo' hi':Nat}{u t:TypeId}{g n:Nat}{m:Nat->Nat}(h:SR w lo hi u t g n m)(k1:lo'<=lo)(k2:hi<=hi'):SR w lo' hi' u t g n m:=by
 obtain⟨h1,h2,cur,h3,h4⟩:=h;refine⟨by omega,by omega,cur,h3,fun j hj=>?_⟩;obtain⟨hm,q,e1,e2⟩:=h4 j hj;exact⟨hm,q,e1,e2.hi k1 k2⟩
theorem toCols'(a:Option Addr)(n c:Nat)(C:Nat->Clm)(w:World)(h:CL w a n C)(hn:n<=1048576) :
 Calls Tryz.prog 30 #[.slice a n c] w fun e w'=>∃ g,w.heap.size<=g/\e=.returned (.slice (some ⟨g,0,none⟩) n n)/\CL w' (some ⟨g,0,none⟩) n C/\WR w' w.heap.size w'.heap.size 113 2 (some ⟨g,0,none⟩) n/\Below w.heap.size w w':=by
 have hmk:=make_any (t:=40) Tryz.underlying40 Tryz.infoCol n hn (by omega);go_enter Tryz.func30,Tryz.ntmps30
 go_wp2;clear hmk;go_loopw [4] (fun i wr=>∃ (k:Nat) (cur:Array Value),k<=n/\i=.int .i64 k/\wr.heap[w.heap.size]?=some (.cells cur 113 (0,0))/\cur.size=n * 2/\(∀ j,j<k->cur[j * 2]?=some (.string (C j).s)/\cur[j * 2+1]?=some (.int .i64 (C j).t))/\Below w.heap.size w wr) (fun i _=>n - (intOf i).toNat)
 case atStart=>exact⟨0,_,by omega,rfl,heap_alloc_new _ _,made_size _ _,fun j hj=>by omega,bal _ _⟩
 case round=>
  obtain⟨k,cur,hk,rfl,hG,hsz,hall,hb⟩:=hrel;have HG:Hid (wr.heap[w.heap.size]?=some (.cells cur 113 (0,0))):=hG;clear hG;by_cases hlt:k<n
  ·
   obtain⟨b,off,rfl,c0,c1,hs⟩:=h.later hb k hlt;obtain⟨v0,hv0⟩:=there (A:=cur) (k:=k * 2) (by omega);obtain⟨v1,hv1⟩:=there (A:=cur) (k:=k * 2+1) (by omega);go_wp2_with (go_at_call 70;refine(toCol _ _ _).mono ?_;rintro e w1 ⟨rfl,hb1⟩;have HG1:Hid (w1.heap[w.heap.size]?=some (.cells cur 113 (0,0))):=(hb1.block _ (Array.getElem?_eq_some_iff.1 HG.out).1).trans HG.out;have g0:w1.cell? ⟨w.heap.size,k * 2,none⟩=some v0:=(cell_of_row w1 _ _ _ _ _ HG1.out).trans hv0;have f0:w1.frozen? ⟨w.heap.size,k * 2,none⟩=false:=frozen_of_row w1 _ _ _ _ HG1.out;have g1:w1.cell? ⟨w.heap.size,k * 2+1,none⟩=some v1:=(cell_of_row w1 _ _ _ _ _ HG1.out).trans hv1;have f1:w1.frozen? ⟨w.heap.size,k * 2+1,none⟩=false:=frozen_of_row w1 _ _ _ _ HG1.out;replace hb1:=bstep hb hb1)
   go_roundw
   case rel=>
    refine⟨k+1,((cur.setIfInBounds (k * 2) (.string (C k).s)).setIfInBounds (k * 2+1) (.int .i64 (C k).t)),by omega,by go_num,(heap_setCell_same _ _ _ _ _ _ (heap_setCell_same _ _ _ _ _ _ HG1.out)),by simpa using hsz,fun j hj=>?_,((hb1.setCell (by simp) _).setCell (by simp) _)⟩;by_cases e:j=k
    · subst e;exact⟨(setA (setS (by omega)) (by omega)),(setS (by simp only [Array.size_setIfInBounds];omega))⟩
    · exact⟨(setA (setA (hall j (by omega)).1 (by omega)) (by omega)),(setA (setA (hall j (by omega)).2 (by omega)) (by omega))⟩
   case measure=>simp [intOf];omega
  ·
   obtain rfl:k=n:=by omega
   go_wp2;go_ret
   refine⟨_,Nat.le_refl _,rfl,fun j hj=>?_,Or.inr ⟨_,cur,rfl,Nat.le_refl _,(Array.getElem?_eq_some_iff.1 HG.out).1,HG.out,by omega⟩,hb⟩;have:=hall j hj;have hsj:=(h j hj).choose_spec.choose_spec.2.2.2;exact⟨_,0,rfl,by rw [Nat.zero_add,cell_of_row wr _ _ _ _ _ HG.out];exact this.1,by rw [Nat.zero_add,cell_of_row wr _ _ _ _ _ HG.out];exact this.2,hsj⟩
theorem toVals'(a:Option Addr)(n c:Nat)(I:Nat->Itm)(w:World)(h:IL w a n I)(hn:n<=1048576) :
 Calls Tryz.prog 31 #[.slice a n c] w fun e w'=>∃ g,w.heap.size<=g/\e=.returned (.slice (some ⟨g,0,none⟩) n n)/\IL w' (some ⟨g,0,none⟩) n I/\WR w' w.heap.size w'.heap.size 66 3 (some ⟨g,0,none⟩) n/\Below w.heap.size w w':=by
 have hmk:=make_any (t:=41) Tryz.underlying41 Tryz.infoVal n hn (by omega);go_enter Tryz.func31,Tryz.ntmps31
 go_wp2;clear hmk;go_loopw [4] (fun i wr=>∃ (k:Nat) (cur:Array Value),k<=n/\i=.int .i64 k/\wr.heap[w.heap.size]?=some (.cells cur 66 (0,0))/\cur.size=n * 3/\(∀ j,j<k->cur[j * 3]?=some (.int .i64 (I j).o)/\cur[j * 3+1]?=some (.int .i64 (I j).m)/\cur[j * 3+2]?=some (.string (I j).s))/\Below w.heap.size w wr) (fun i _=>n - (intOf i).toNat)
 case atStart=>exact⟨0,_,by omega,rfl,heap_alloc_new _ _,made_size _ _,fun j hj=>by omega,bal _ _⟩
 case round=>
  obtain⟨k,cur,hk,rfl,hG,hsz,hall,hb⟩:=hrel;have HG:Hid (wr.heap[w.heap.size]?=some (.cells cur 66 (0,0))):=hG;clear hG;by_cases hlt:k<n
  ·
   obtain⟨b,off,rfl,c0,c1,c2,hs⟩:=h.later hb k hlt;obtain⟨v0,hv0⟩:=there (A:=cur) (k:=k * 3) (by omega);obtain⟨v1,hv1⟩:=there (A:=cur) (k:=k * 3+1) (by omega);obtain⟨v2,hv2⟩:=there (A:=cur) (k:=k * 3+2) (by omega);go_wp2_with (go_at_call 71;refine(toVal _ _ _ _).mono ?_;rintro e w1 ⟨rfl,hb1⟩;have HG1:Hid (w1.heap[w.heap.size]?=some (.cells cur 66 (0,0))):=(hb1.block _ (Array.getElem?_eq_some_iff.1 HG.out).1).trans HG.out;have g0:w1.cell? ⟨w.heap.size,k * 3,none⟩=some v0:=(cell_of_row w1 _ _ _ _ _ HG1.out).trans hv0;have f0:w1.frozen? ⟨w.heap.size,k * 3,none⟩=false:=frozen_of_row w1 _ _ _ _ HG1.out;have g1:w1.cell? ⟨w.heap.size,k * 3+1,none⟩=some v1:=(cell_of_row w1 _ _ _ _ _ HG1.out).trans hv1;have f1:w1.frozen? ⟨w.heap.size,k * 3+1,none⟩=false:=frozen_of_row w1 _ _ _ _ HG1.out;have g2:w1.cell? ⟨w.heap.size,k * 3+2,none⟩=some v2:=(cell_of_row w1 _ _ _ _ _ HG1.out).trans hv2;have f2:w1.frozen? ⟨w.heap.size,k * 3+2,none⟩=false:=frozen_of_row w1 _ _ _ _ HG1.out;replace hb1:=bstep hb hb1)
   go_roundw
   case rel=>
    refine⟨k+1,(((cur.setIfInBounds (k * 3) (.int .i64 (I k).o)).setIfInBounds (k * 3+1) (.int .i64 (I k).m)).setIfInBounds (k * 3+2) (.string (I k).s)),by omega,by go_num,(heap_setCell_same _ _ _ _ _ _ (heap_setCell_same _ _ _ _ _ _ (heap_setCell_same _ _ _ _ _ _ HG1.out))),by simpa using hsz,fun j hj=>?_,(((hb1.setCell (by simp) _).setCell (by simp) _).setCell (by simp) _)⟩;by_cases e:j=k
    · subst e;exact⟨(setA (setA (setS (by omega)) (by omega)) (by omega)),(setA (setS (by simp only [Array.size_setIfInBounds];omega)) (by omega)),(setS (by simp only [Array.size_setIfInBounds];omega))⟩
    · exact⟨(setA (setA (setA (hall j (by omega)).1 (by omega)) (by omega)) (by omega)),(setA (setA (setA (hall j (by omega)).2.1 (by omega)) (by omega)) (by omega)),(setA (setA (setA (hall j (by omega)).2.2 (by omega)) (by omega)) (by omega))⟩
   case measure=>simp [intOf];omega
  ·
   obtain rfl:k=n:=by omega
   go_wp2;go_ret
   refine⟨_,Nat.le_refl _,rfl,fun j hj=>?_,Or.inr ⟨_,cur,rfl,Nat.le_refl _,(Array.getElem?_eq_some_iff.1 HG.out).1,HG.out,by omega⟩,hb⟩;have:=hall j hj;have hsj:=(h j hj).choose_spec.choose_spec.2.2.2.2;exact⟨_,0,rfl,by rw [Nat.zero_add,cell_of_row wr _ _ _ _ _ HG.out];exact this.1,by rw [Nat.zero_add,cell_of_row wr _ _ _ _ _ HG.out];exact this.2.1,by rw [Nat.zero_add,cell_of_row wr _ _ _ _ _ HG.out];exact this.2.2,hsj⟩
theorem toItms'(a:Option Addr)(n c:Nat)(I:Nat->Itm)(w:World)(h:IL w a n I)(hn:n<=1048576) :
 Calls Tryz.prog 32 #[.slice a n c] w fun e w'=>∃ g,w.heap.size<=g/\e=.returned (.slice (some ⟨g,0,none⟩) n n)/\IL w' (some ⟨g,0,none⟩) n I/\WR w' w.heap.size w'.heap.size 108 3 (some ⟨g,0,none⟩) n/\Below w.heap.size w w':=by
 have hmk:=make_any (t:=42) Tryz.underlying42 Tryz.infoItm n hn (by omega);go_enter Tryz.func32,Tryz.ntmps32
 go_wp2;clear hmk;go_loopw [4] (fun i wr=>∃ (k:Nat) (cur:Array Value),k<=n/\i=.int .i64 k/\wr.heap[w.heap.size]?=some (.cells cur 108 (0,0))/\cur.size=n * 3/\(∀ j,j<k->cur[j * 3]?=some (.int .i64 (I j).o)/\cur[j * 3+1]?=some (.int .i64 (I j).m)/\cur[j * 3+2]?=some (.string (I j).s))/\Below w.heap.size w wr) (fun i _=>n - (intOf i).toNat)
 case atStart=>exact⟨0,_,by omega,rfl,heap_alloc_new _ _,made_size _ _,fun j hj=>by omega,bal _ _⟩
 case round=>
  obtain⟨k,cur,hk,rfl,hG,hsz,hall,hb⟩:=hrel;have HG:Hid (wr.heap[w.heap.size]?=some (.cells cur 108 (0,0))):=hG;clear hG;by_cases hlt:k<n
  ·
   obtain⟨b,off,rfl,c0,c1,c2,hs⟩:=h.later hb k hlt;obtain⟨v0,hv0⟩:=there (A:=cur) (k:=k * 3) (by omega);obtain⟨v1,hv1⟩:=there (A:=cur) (k:=k * 3+1) (by omega);obtain⟨v2,hv2⟩:=there (A:=cur) (k:=k * 3+2) (by omega);go_wp2_with (go_at_call 72;refine(toItm _ _ _ _).mono ?_;rintro e w1 ⟨rfl,hb1⟩;have HG1:Hid (w1.heap[w.heap.size]?=some (.cells cur 108 (0,0))):=(hb1.block _ (Array.getElem?_eq_some_iff.1 HG.out).1).trans HG.out;have g0:w1.cell? ⟨w.heap.size,k * 3,none⟩=some v0:=(cell_of_row w1 _ _ _ _ _ HG1.out).trans hv0;have f0:w1.frozen? ⟨w.heap.size,k * 3,none⟩=false:=frozen_of_row w1 _ _ _ _ HG1.out;have g1:w1.cell? ⟨w.heap.size,k * 3+1,none⟩=some v1:=(cell_of_row w1 _ _ _ _ _ HG1.out).trans hv1;have f1:w1.frozen? ⟨w.heap.size,k * 3+1,none⟩=false:=frozen_of_row w1 _ _ _ _ HG1.out;have g2:w1.cell? ⟨w.heap.size,k * 3+2,none⟩=some v2:=(cell_of_row w1 _ _ _ _ _ HG1.out).trans hv2;have f2:w1.frozen? ⟨w.heap.size,k * 3+2,none⟩=false:=frozen_of_row w1 _ _ _ _ HG1.out;replace hb1:=bstep hb hb1)
   go_roundw
   case rel=>
    refine⟨k+1,(((cur.setIfInBounds (k * 3) (.int .i64 (I k).o)).setIfInBounds (k * 3+1) (.int .i64 (I k).m)).setIfInBounds (k * 3+2) (.string (I k).s)),by omega,by go_num,(heap_setCell_same _ _ _ _ _ _ (heap_setCell_same _ _ _ _ _ _ (heap_setCell_same _ _ _ _ _ _ HG1.out))),by simpa using hsz,fun j hj=>?_,(((hb1.setCell (by simp) _).setCell (by simp) _).setCell (by simp) _)⟩;by_cases e:j=k
    · subst e;exact⟨(setA (setA (setS (by omega)) (by omega)) (by omega)),(setA (setS (by simp only [Array.size_setIfInBounds];omega)) (by omega)),(setS (by simp only [Array.size_setIfInBounds];omega))⟩
    · exact⟨(setA (setA (setA (hall j (by omega)).1 (by omega)) (by omega)) (by omega)),(setA (setA (setA (hall j (by omega)).2.1 (by omega)) (by omega)) (by omega)),(setA (setA (setA (hall j (by omega)).2.2 (by omega)) (by omega)) (by omega))⟩
   case measure=>simp [intOf];omega
  ·
   obtain rfl:k=n:=by omega
   go_wp2;go_ret
   refine⟨_,Nat.le_refl _,rfl,fun j hj=>?_,Or.inr ⟨_,cur,rfl,Nat.le_refl _,(Array.getElem?_eq_some_iff.1 HG.out).1,HG.out,by omega⟩,hb⟩;have:=hall j hj;have hsj:=(h j hj).choose_spec.choose_spec.2.2.2.2;exact⟨_,0,rfl,by rw [Nat.zero_add,cell_of_row wr _ _ _ _ _ HG.out];exact this.1,by rw [Nat.zero_add,cell_of_row wr _ _ _ _ _ HG.out];exact this.2.1,by rw [Nat.zero_add,cell_of_row wr _ _ _ _ _ HG.out];exact this.2.2,hsj⟩
theorem toRows'(a:Option Addr)(n c:Nat)(m:Nat->Nat)(O:Nat->Nat->Itm)(w:World)(h:OL w a n m O)(hn:n<=1048576) :
 Calls Tryz.prog 114 #[.slice a n c] w fun e w'=>∃ g,w.heap.size<=g/\e=.returned (.slice (some ⟨g,0,none⟩) n n)/\OF w.heap.size w' g n m O/\SR w' w.heap.size w'.heap.size 41 66 g n m/\Below w.heap.size w w':=by
 have hmk:=make_any (t:=33) Tryz.underlying33 Tryz.infoRow n hn (by omega);rw [Nat.mul_one] at hmk;go_enter Tryz.func114,Tryz.ntmps114
 go_wp2;clear hmk;go_loopw [4] (fun i wr=>∃ (k:Nat) (cur:Array Value),k<=n/\i=.int .i64 k/\wr.heap[w.heap.size]?=some (.cells cur 41 (0,0))/\cur.size=n/\(∀ j,j<k->∃ g,w.heap.size<g/\cur[j]?=some (.slice (some ⟨g,0,none⟩) (m j) (m j))/\IL wr (some ⟨g,0,none⟩) (m j) (O j)/\WR wr (w.heap.size+1) wr.heap.size 66 3 (some ⟨g,0,none⟩) (m j))/\Below w.heap.size w wr) (fun i _=>n - (intOf i).toNat)
 case atStart=>exact⟨0,_,by omega,rfl,heap_alloc_new _ _,made_size _ _,fun j hj=>by omega,bal _ _⟩
 case round=>
  obtain⟨k,cur,hk,rfl,hG,hsz,hall,hb⟩:=hrel;have HG:Hid (wr.heap[w.heap.size]?=some (.cells cur 41 (0,0))):=hG;clear hG;by_cases hlt:k<n
  ·
   obtain⟨b,off,i,c',rfl,c0,hi,hm⟩:=h.later hb k hlt;obtain⟨v0,hv0⟩:=there (A:=cur) (k:=k) (by omega);have hlw:=(Array.getElem?_eq_some_iff.1 HG.out).1;go_wp2_with (go_at_call 31;refine(toVals' i _ c' _ _ hi hm).mono ?_;rintro e w1 ⟨g1,hg1,rfl,hI1,hW1,hb1⟩;have HG1:Hid (w1.heap[w.heap.size]?=some (.cells cur 41 (0,0))):=(hb1.block _ hlw).trans HG.out;have g0:w1.cell? ⟨w.heap.size,k,none⟩=some v0:=(cell_of_row w1 _ _ _ _ _ HG1.out).trans hv0;have f0:w1.frozen? ⟨w.heap.size,k,none⟩=false:=frozen_of_row w1 _ _ _ _ HG1.out;have hbo:=hb1;replace hb1:=bstep hb hb1)
   go_roundw
   case rel=>
    refine⟨k+1,cur.setIfInBounds k (.slice (some ⟨g1,0,none⟩) (m k) (m k)),by omega,by go_num,heap_setCell_same _ _ _ _ _ _ HG1.out,by simpa using hsz,fun j hj=>?_,hb1.setCell (by simp) _⟩;by_cases e:j=k
    · subst e;exact⟨g1,by omega,setS (by omega),hI1.set (by omega),(hW1.hi (by omega) (Nat.le_refl _)).set (by omega)⟩
    · obtain⟨g,hg,hcur,hI,hWj⟩:=hall j (by omega);exact⟨g,hg,setA hcur (by omega),(hI.later hbo).set (by omega),(hWj.wide hbo (Nat.le_refl _) hbo.size).set (by omega)⟩
   case measure=>simp [intOf];omega
  ·
   obtain rfl:k=n:=by omega
   go_wp2;go_ret
   refine⟨_,Nat.le_refl _,rfl,fun j hj=>?_,⟨Nat.le_refl _,(Array.getElem?_eq_some_iff.1 HG.out).1,cur,HG.out,fun j hj=>?_⟩,hb⟩;rotate_left
   · obtain⟨g,hg,hcur,-,hWj⟩:=hall j hj;obtain⟨_,_,_,_,_,_,_,hm⟩:=h j hj;exact⟨hm,g,hcur,hWj.hi (by omega) (Nat.le_refl _)⟩
   obtain⟨g,hg,hcur,hI,-⟩:=hall j hj;obtain⟨_,_,_,_,_,_,_,hm⟩:=h j hj;exact⟨g,by omega,by rw [cell_of_row wr _ _ _ _ _ HG.out];exact hcur,hI,hm⟩
theorem toOuts'(a:Option Addr)(n c:Nat)(m:Nat->Nat)(O:Nat->Nat->Itm)(w:World)(h:OL w a n m O)(hn:n<=1048576) :
 Calls Tryz.prog 33 #[.slice a n c] w fun e w'=>∃ g,w.heap.size<=g/\e=.returned (.slice (some ⟨g,0,none⟩) n n)/\OF w.heap.size w' g n m O/\SR w' w.heap.size w'.heap.size 42 108 g n m/\Below w.heap.size w w':=by
 have hmk:=make_any (t:=43) Tryz.underlying43 Tryz.infoOut n hn (by omega);rw [Nat.mul_one] at hmk;go_enter Tryz.func33,Tryz.ntmps33
 go_wp2;clear hmk;go_loopw [4] (fun i wr=>∃ (k:Nat) (cur:Array Value),k<=n/\i=.int .i64 k/\wr.heap[w.heap.size]?=some (.cells cur 42 (0,0))/\cur.size=n/\(∀ j,j<k->∃ g,w.heap.size<g/\cur[j]?=some (.slice (some ⟨g,0,none⟩) (m j) (m j))/\IL wr (some ⟨g,0,none⟩) (m j) (O j)/\WR wr (w.heap.size+1) wr.heap.size 108 3 (some ⟨g,0,none⟩) (m j))/\Below w.heap.size w wr) (fun i _=>n - (intOf i).toNat)
 case atStart=>exact⟨0,_,by omega,rfl,heap_alloc_new _ _,made_size _ _,fun j hj=>by omega,bal _ _⟩
 case round=>
  obtain⟨k,cur,hk,rfl,hG,hsz,hall,hb⟩:=hrel;have HG:Hid (wr.heap[w.heap.size]?=some (.cells cur 42 (0,0))):=hG;clear hG;by_cases hlt:k<n
  ·
   obtain⟨b,off,i,c',rfl,c0,hi,hm⟩:=h.later hb k hlt;obtain⟨v0,hv0⟩:=there (A:=cur) (k:=k) (by omega);have hlw:=(Array.getElem?_eq_some_iff.1 HG.out).1;go_wp2_with (go_at_call 32;refine(toItms' i _ c' _ _ hi hm).mono ?_;rintro e w1 ⟨g1,hg1,rfl,hI1,hW1,hb1⟩;have HG1:Hid (w1.heap[w.heap.size]?=some (.cells cur 42 (0,0))):=(hb1.block _ hlw).trans HG.out;have g0:w1.cell? ⟨w.heap.size,k,none⟩=some v0:=(cell_of_row w1 _ _ _ _ _ HG1.out).trans hv0;have f0:w1.frozen? ⟨w.heap.size,k,none⟩=false:=frozen_of_row w1 _ _ _ _ HG1.out;have hbo:=hb1;replace hb1:=bstep hb hb1)
   go_roundw
   case rel=>
    refine⟨k+1,cur.setIfInBounds k (.slice (some ⟨g1,0,none⟩) (m k) (m k)),by omega,by go_num,heap_setCell_same _ _ _ _ _ _ HG1.out,by simpa using hsz,fun j hj=>?_,hb1.setCell (by simp) _⟩;by_cases e:j=k
    · subst e;exact⟨g1,by omega,setS (by omega),hI1.set (by omega),(hW1.hi (by omega) (Nat.le_refl _)).set (by omega)⟩
    · obtain⟨g,hg,hcur,hI,hWj⟩:=hall j (by omega);exact⟨g,hg,setA hcur (by omega),(hI.later hbo).set (by omega),(hWj.wide hbo (Nat.le_refl _) hbo.size).set (by omega)⟩
   case measure=>simp [intOf];omega
  ·
   obtain rfl:k=n:=by omega
   go_wp2;go_ret
   refine⟨_,Nat.le_refl _,rfl,fun j hj=>?_,⟨Nat.le_refl _,(Array.getElem?_eq_some_iff.1 HG.out).1,cur,HG.out,fun j hj=>?_⟩,hb⟩;rotate_left
   · obtain⟨g,hg,hcur,-,hWj⟩:=hall j hj;obtain⟨_,_,_,_,_,_,_,hm⟩:=h j hj;exact⟨hm,g,hcur,hWj.hi (by omega) (Nat.le_refl _)⟩
   obtain⟨g,hg,hcur,hI,-⟩:=hall j hj;obtain⟨_,_,_,_,_,_,_,hm⟩:=h j hj;exact⟨g,by omega,by rw [cell_of_row wr _ _ _ _ _ HG.out];exact hcur,hI,hm⟩
set_option maxRecDepth 20000
set_option maxHeartbeats 8000000
def KpG(G:Nat)(w w':World):Prop:=∀ b o,G<=b->w.heap[b]?=some o->w'.heap[b]?=some o
theorem KpG.of{w w':World}(G:Nat)(hb:Below w.heap.size w w'):KpG G w w':=fun _ _ _ h=>rowL h hb
theorem KpG.trans{G:Nat}{a b c:World}(h:KpG G a b)(k:KpG G b c):KpG G a c:=fun x v hx hc=>k x v hx (h x v hx hc)
theorem KpG.set{G B i:Nat}{w:World}{v:Value}(h:B<G):KpG G w (w.setCell ⟨B,i,none⟩ v):=fun x u hx hc=>rowO hc (by omega)
theorem KpG.r{G lo hi:Nat}{w w':World}(h:KpG G w w')(hG:G<=lo):KpR lo hi w w':=fun g h1 _ o hg=>h g o (by omega) hg
theorem SR.wide{w w':World}{lo lo' hi hi':Nat}{u t:TypeId}{g n:Nat}{m:Nat->Nat}(h:SR w lo hi u t g n m)(hb:Below w.heap.size w w')(k1:lo'<=lo)(k2:hi<=hi'):SR w' lo' hi' u t g n m:=(h.kp (KpR.below hb)).hi k1 k2
theorem STb.kp{w w':World}{lo hi:Nat}{g n:Nat}{T:Nat->Td}(h:STb w lo hi g n T)(k:KpR lo hi w w'):STb w' lo hi g n T:=by
 obtain⟨h1,h2,cur,h3,h4,h5⟩:=h;refine⟨h1,h2,cur,k g h1 h2 _ h3,h4,fun j hj=>?_⟩;obtain⟨e1,e2,g1,g2,e3,e4,e5,e6⟩:=h5 j hj;exact⟨e1,e2,g1,g2,e3,e4,e5.kp k,e6.kp k⟩
theorem STb.hi{w:World}{lo hi lo' hi':Nat}{g n:Nat}{T:Nat->Td}(h:STb w lo hi g n T)(k1:lo'<=lo)(k2:hi<=hi'):STb w lo' hi' g n T:=by
 obtain⟨h1,h2,cur,h3,h4,h5⟩:=h;refine⟨by omega,by omega,cur,h3,h4,fun j hj=>?_⟩;obtain⟨e1,e2,g1,g2,e3,e4,e5,e6⟩:=h5 j hj;exact⟨e1,e2,g1,g2,e3,e4,e5.hi k1 k2,e6.hi k1 k2⟩
theorem TF.tn{G g n:Nat}{w:World}{T:Nat->Td}(h:TF G w g n T):TN w g n T:=fun j hj=>by
 obtain⟨g1,g2,h1,h2,c0,c1,c2,hC,hO,hs⟩:=h j hj;exact⟨g1,g2,_,c0,c1,c2,Nat.le_refl _,hC,hO.ol,hs⟩
theorem toTab'(s:ByteArray)(n:Nat)(C:Nat->Clm)(r:Nat)(m:Nat->Nat)(R:Nat->Nat->Itm)(ac:Option Addr)(cc:Nat)(ar:Option Addr)(cr:Nat)(w:World)(hC:CL w ac n C)(hR:OL w ar r m R)(hn:n<=1048576)(hr:r<=1048576) :
 Calls Tryz.prog 69 #[.agg #[.string s,.slice ac n cc,.slice ar r cr]] w fun e w'=>∃ g1 g2,w.heap.size<=g1/\w.heap.size<=g2/\e=.returned (.agg #[.string s,.slice (some ⟨g1,0,none⟩) n n,.slice (some ⟨g2,0,none⟩) r r])/\CL w' (some ⟨g1,0,none⟩) n C/\OF w.heap.size w' g2 r m R/\WR w' w.heap.size w'.heap.size 113 2 (some ⟨g1,0,none⟩) n/\SR w' w.heap.size w'.heap.size 41 66 g2 r m/\Below w.heap.size w w':=by
 have hR0:=Q3.new w #[.string s,.slice ac n cc,.slice ar r cr] #[.string ⟨#[]⟩,.slice none 0 0,.slice none 0 0] #[.string s,.slice none 0 0,.slice none 0 0];have hbW:Below w.heap.size w (((w.alloc (.cells #[.string s,.slice ac n cc,.slice ar r cr] 99)).alloc (.cells #[.string ⟨#[]⟩,.slice none 0 0,.slice none 0 0] 62)).alloc (.cells #[.string s,.slice none 0 0,.slice none 0 0] 62)):=below3 _ _ _ _;have hW:(((w.alloc (.cells #[.string s,.slice ac n cc,.slice ar r cr] 99)).alloc (.cells #[.string ⟨#[]⟩,.slice none 0 0,.slice none 0 0] 62)).alloc (.cells #[.string s,.slice none 0 0,.slice none 0 0] 62)).heap.size=w.heap.size+1+1+1:=by simp
 obtain⟨G,hG⟩:∃ G:Nat,G=w.heap.size+1+1+1:=⟨_,rfl⟩;go_enter Tryz.func69,Tryz.ntmps69
 go_wp2_with (first | (go_at_call 114;refine(toRows' _ _ _ m R _ (hR.later (bset B1 (by omega))) hr).mono ?_;rintro e w2 ⟨g2,hg2,rfl,hL2,hS2,hb2⟩;have r2:Q3 w2 w.heap.size #[.string s,.slice ac n cc,.slice ar r cr] #[.string ⟨#[]⟩,.slice none 0 0,.slice none 0 0] #[.string s,.slice (some ⟨g1,0,none⟩) n n,.slice none 0 0]:=(r1.set).later hb2;have B2:Below w.heap.size w w2:=bstep (bset B1 (by omega)) hb2;have s2:w1.heap.size<=w2.heap.size:=(by simpa using hb2.size);have hGs:G<=(w1.setCell ⟨w.heap.size+1+1,1,none⟩ (.slice (some ⟨g1,0,none⟩) n n)).heap.size:=(by simp;omega);have hG2:G<=g2:=Nat.le_trans hGs hg2;have K2:Kp G w1 w2:=(Kp.set (by omega)).trans (Kp.of G hb2);have N2:KpG G w1 w2:=(KpG.set (by omega)).trans (KpG.of G hb2);have x2_0:w2.cell? ⟨w.heap.size+1+1,0,none⟩=some (.string s):=(cell_of_row _ _ 0 _ _ _ r2.x).trans rfl;have x2_1:w2.cell? ⟨w.heap.size+1+1,1,none⟩=some (.slice (some ⟨g1,0,none⟩) n n):=(cell_of_row _ _ 1 _ _ _ r2.x).trans rfl;have z2_0:w2.cell? ⟨w.heap.size+1,0,none⟩=some (.string ⟨#[]⟩):=(cell_of_row _ _ 0 _ _ _ r2.z).trans rfl;have zf_0:w2.frozen? ⟨w.heap.size+1,0,none⟩=false:=frozen_of_row _ _ 0 _ _ r2.z;have z2_1:w2.cell? ⟨w.heap.size+1,1,none⟩=some (.slice none 0 0):=(cell_of_row _ _ 1 _ _ _ r2.z).trans rfl;have zf_1:w2.frozen? ⟨w.heap.size+1,1,none⟩=false:=frozen_of_row _ _ 1 _ _ r2.z;have z2_2:w2.cell? ⟨w.heap.size+1,2,none⟩=some (.slice none 0 0):=(cell_of_row _ _ 2 _ _ _ r2.z).trans rfl;have zf_2:w2.frozen? ⟨w.heap.size+1,2,none⟩=false:=frozen_of_row _ _ 2 _ _ r2.z;have m2_2:w2.cell? ⟨w.heap.size+1+1,2,none⟩=some (.slice none 0 0):=(cell_of_row _ _ 2 _ _ _ r2.x).trans rfl;have f2_2:w2.frozen? ⟨w.heap.size+1+1,2,none⟩=false:=frozen_of_row _ _ 2 _ _ r2.x) | (go_at_call 30;refine(toCols' _ _ _ C _ (hC.later hbW) hn).mono ?_;rintro e w1 ⟨g1,hg1,rfl,hL1,hS1,hb1⟩;have r1:Q3 w1 w.heap.size #[.string s,.slice ac n cc,.slice ar r cr] #[.string ⟨#[]⟩,.slice none 0 0,.slice none 0 0] #[.string s,.slice none 0 0,.slice none 0 0]:=(hR0).later hb1;have B1:Below w.heap.size w w1:=bstep hbW hb1;have s1:=hb1.size;have hG1:G<=g1:=(by omega);have l1_2:w1.cell? ⟨w.heap.size,2,none⟩=some (.slice ar r cr):=(cell_of_row _ _ 2 _ _ _ r1.a).trans rfl;have m1_1:w1.cell? ⟨w.heap.size+1+1,1,none⟩=some (.slice none 0 0):=(cell_of_row _ _ 1 _ _ _ r1.x).trans rfl;have f1_1:w1.frozen? ⟨w.heap.size+1+1,1,none⟩=false:=frozen_of_row _ _ 1 _ _ r1.x))
 have KV:∀ v0 v1 v2 v3,Kp G w2 ((((w2.setCell ⟨w.heap.size+1+1,2,none⟩ v0).setCell ⟨w.heap.size+1,0,none⟩ v1).setCell ⟨w.heap.size+1,1,none⟩ v2).setCell ⟨w.heap.size+1,2,none⟩ v3):=fun v0 v1 v2 v3=>(((Kp.set (by omega)).trans (Kp.set (by omega))).trans (Kp.set (by omega))).trans (Kp.set (by omega));have NV:∀ v0 v1 v2 v3,KpG G w2 ((((w2.setCell ⟨w.heap.size+1+1,2,none⟩ v0).setCell ⟨w.heap.size+1,0,none⟩ v1).setCell ⟨w.heap.size+1,1,none⟩ v2).setCell ⟨w.heap.size+1,2,none⟩ v3):=fun v0 v1 v2 v3=>(((KpG.set (by omega)).trans (KpG.set (by omega))).trans (KpG.set (by omega))).trans (KpG.set (by omega));have BV:∀ v0 v1 v2 v3,Below w.heap.size w ((((w2.setCell ⟨w.heap.size+1+1,2,none⟩ v0).setCell ⟨w.heap.size+1,0,none⟩ v1).setCell ⟨w.heap.size+1,1,none⟩ v2).setCell ⟨w.heap.size+1,2,none⟩ v3):=fun v0 v1 v2 v3=>bset (bset (bset (bset B2 (by omega)) (by omega)) (by omega)) (by omega);have RV:=fun v0 v1 v2 v3=>heap_setCell_same _ _ 2 _ _ v3 (heap_setCell_same _ _ 1 _ _ v2 (heap_setCell_same _ _ 0 _ _ v1 (rowO (B:=w.heap.size+1+1) (B':=w.heap.size+1) (i:=2) (v:=v0) r2.z (by omega))));refine bodyPost_ret (v:=.agg #[.string s,.slice (some ⟨g1,0,none⟩) n n,.slice (some ⟨g2,0,none⟩) r r]) (results_cell_row Tryz.results69 _ _ (w.heap.size+1) 62 _ (0,0) _ rfl (RV _ _ _ _) Tryz.underlying62 rfl (by kernel_rfl)) rfl ⟨g1,g2,by omega,by omega,rfl,?_,?_,(hS1.kp ((N2.trans (NV _ _ _ _)).r (by omega))).hi (by omega) (by simp;omega),(hS2.kp ((NV _ _ _ _).r hGs)).hi (by omega) (by simp),BV _ _ _ _⟩
 · exact hL1.kp (K2.trans (KV _ _ _ _)) hG1
 ·
  have hq:=hL2.kp (KV (.slice (some ⟨g2,0,none⟩) r r) (.string s) (.slice (some ⟨g1,0,none⟩) n n) (.slice (some ⟨g2,0,none⟩) r r)) hG2 hGs;exact fun k hk=>by
   obtain⟨q,h1,h2,h3,h4⟩:=hq k hk;exact⟨q,by omega,h2,h3,h4⟩
theorem toTabs'(a:Option Addr)(n c:Nat)(T:Nat->Td)(w:World)(h:TL w a n T)(hn:n<=1048576) :
 Calls Tryz.prog 29 #[.slice a n c] w fun e w'=>∃ g,w.heap.size<=g/\e=.returned (.slice (some ⟨g,0,none⟩) n n)/\TF w.heap.size w' g n T/\STb w' w.heap.size w'.heap.size g n T/\Below w.heap.size w w':=by
 have hmk:=make_any (t:=36) Tryz.underlying36 Tryz.infoTab n hn (by omega);go_enter Tryz.func29,Tryz.ntmps29
 go_wp2;clear hmk;go_loopw [4] (fun i wr=>∃ (k:Nat) (cur:Array Value),k<=n/\i=.int .i64 k/\wr.heap[w.heap.size]?=some (.cells cur 62 (0,0))/\cur.size=n * 3/\(∀ j,j<k->∃ g1 g2,w.heap.size+1<=g1/\w.heap.size+1<=g2/\cur[j * 3]?=some (.string (T j).s)/\cur[j * 3+1]?=some (.slice (some ⟨g1,0,none⟩) (T j).n (T j).n)/\cur[j * 3+2]?=some (.slice (some ⟨g2,0,none⟩) (T j).r (T j).r)/\CL wr (some ⟨g1,0,none⟩) (T j).n (T j).C/\OF (w.heap.size+1) wr g2 (T j).r (T j).m (T j).R/\WR wr (w.heap.size+1) wr.heap.size 113 2 (some ⟨g1,0,none⟩) (T j).n/\SR wr (w.heap.size+1) wr.heap.size 41 66 g2 (T j).r (T j).m)/\Below w.heap.size w wr) (fun i _=>n - (intOf i).toNat)
 case atStart=>exact⟨0,_,by omega,rfl,heap_alloc_new _ _,made_size _ _,fun j hj=>by omega,bal _ _⟩
 case round=>
  obtain⟨k,cur,hk,rfl,hG,hsz,hall,hb⟩:=hrel;have HG:Hid (wr.heap[w.heap.size]?=some (.cells cur 62 (0,0))):=hG;clear hG;by_cases hlt:k<n
  ·
   obtain⟨b,off,ac,cc,ar,cr,rfl,c0,c1,c2,hC,hO,hs⟩:=h.later hb k hlt;obtain⟨v0,hv0⟩:=there (A:=cur) (k:=k * 3) (by omega);obtain⟨v1,hv1⟩:=there (A:=cur) (k:=k * 3+1) (by omega);obtain⟨v2,hv2⟩:=there (A:=cur) (k:=k * 3+2) (by omega);have hlw:=(Array.getElem?_eq_some_iff.1 HG.out).1;go_wp2_with (go_at_call 69;refine(toTab' _ _ _ _ _ _ ac cc ar cr _ hC hO hs.co.1 hs.ro.1).mono ?_;rintro e w1 ⟨g1,g2,hg1,hg2,rfl,hC1,hO1,hW1,hS1,hb1⟩;have HG1:Hid (w1.heap[w.heap.size]?=some (.cells cur 62 (0,0))):=(hb1.block _ hlw).trans HG.out;have e0:w1.cell? ⟨w.heap.size,k * 3,none⟩=some v0:=(cell_of_row w1 _ _ _ _ _ HG1.out).trans hv0;have f0:w1.frozen? ⟨w.heap.size,k * 3,none⟩=false:=frozen_of_row w1 _ _ _ _ HG1.out;have e1:w1.cell? ⟨w.heap.size,k * 3+1,none⟩=some v1:=(cell_of_row w1 _ _ _ _ _ HG1.out).trans hv1;have f1:w1.frozen? ⟨w.heap.size,k * 3+1,none⟩=false:=frozen_of_row w1 _ _ _ _ HG1.out;have e2:w1.cell? ⟨w.heap.size,k * 3+2,none⟩=some v2:=(cell_of_row w1 _ _ _ _ _ HG1.out).trans hv2;have f2:w1.frozen? ⟨w.heap.size,k * 3+2,none⟩=false:=frozen_of_row w1 _ _ _ _ HG1.out;have hbo:=hb1;replace hb1:=bstep hb hb1)
   have KV:∀ u0 u1 u2,Kp (w.heap.size+1) w1 (((w1.setCell ⟨w.heap.size,k * 3,none⟩ u0).setCell ⟨w.heap.size,k * 3+1,none⟩ u1).setCell ⟨w.heap.size,k * 3+2,none⟩ u2):=fun u0 u1 u2=>((Kp.set (by omega)).trans (Kp.set (by omega))).trans (Kp.set (by omega));have NV:∀ u0 u1 u2,KpG (w.heap.size+1) w1 (((w1.setCell ⟨w.heap.size,k * 3,none⟩ u0).setCell ⟨w.heap.size,k * 3+1,none⟩ u1).setCell ⟨w.heap.size,k * 3+2,none⟩ u2):=fun u0 u1 u2=>((KpG.set (by omega)).trans (KpG.set (by omega))).trans (KpG.set (by omega));have KO:Kp (w.heap.size+1) wr w1:=Kp.of _ hbo;go_roundw
   case rel=>
    refine⟨k+1,(((cur.setIfInBounds (k * 3) (.string (T k).s)).setIfInBounds (k * 3+1) (.slice (some ⟨g1,0,none⟩) (T k).n (T k).n)).setIfInBounds (k * 3+2) (.slice (some ⟨g2,0,none⟩) (T k).r (T k).r)),by omega,by go_num,(heap_setCell_same _ _ _ _ _ _ (heap_setCell_same _ _ _ _ _ _ (heap_setCell_same _ _ _ _ _ _ HG1.out))),by simpa using hsz,fun j hj=>?_,(((hb1.setCell (by simp) _).setCell (by simp) _).setCell (by simp) _)⟩;by_cases e:j=k
    ·
     subst e;refine⟨g1,g2,by omega,by omega,(setA (setA (setS (by omega)) (by omega)) (by omega)),(setA (setS (by simp only [Array.size_setIfInBounds];omega)) (by omega)),(setS (by simp only [Array.size_setIfInBounds];omega)),hC1.kp (KV _ _ _) (by omega),?_,(hW1.kp ((NV _ _ _).r (by omega))).hi (by omega) (by simp),(hS1.kp ((NV _ _ _).r (by omega))).hi (by omega) (by simp)⟩;have hq:=hO1.kp (KV (.string (T j).s) (.slice (some ⟨g1,0,none⟩) (T j).n (T j).n) (.slice (some ⟨g2,0,none⟩) (T j).r (T j).r)) (by omega) (by omega);exact fun q hq'=>by
      obtain⟨x,h1,h2,h3,h4⟩:=hq q hq';exact⟨x,by omega,h2,h3,h4⟩
    · obtain⟨p1,p2,hp1,hp2,x0,x1,x2,hC2,hO2,hW2,hS2⟩:=hall j (by omega);exact⟨p1,p2,hp1,hp2,(setA (setA (setA x0 (by omega)) (by omega)) (by omega)),(setA (setA (setA x1 (by omega)) (by omega)) (by omega)),(setA (setA (setA x2 (by omega)) (by omega)) (by omega)),hC2.kp (KO.trans (KV _ _ _)) hp1,hO2.kp (KO.trans (KV _ _ _)) hp2 (Nat.le_refl _),(hW2.kp (((KpG.of _ hbo).trans (NV _ _ _)).r (Nat.le_refl _))).hi (Nat.le_refl _) (by have:=hbo.size;simp;omega),(hS2.kp (((KpG.of _ hbo).trans (NV _ _ _)).r (Nat.le_refl _))).hi (Nat.le_refl _) (by have:=hbo.size;simp;omega)⟩
   case measure=>simp [intOf];omega
  ·
   obtain rfl:k=n:=by omega
   go_wp2;go_ret
   refine⟨_,Nat.le_refl _,rfl,fun j hj=>?_,⟨Nat.le_refl _,(Array.getElem?_eq_some_iff.1 HG.out).1,cur,HG.out,by omega,fun j hj=>?_⟩,hb⟩;rotate_left
   · obtain⟨p1,p2,hp1,hp2,x0,x1,x2,-,-,hW2,hS2⟩:=hall j hj;obtain⟨_,_,_,_,_,_,_,_,_,_,_,_,hs⟩:=h j hj;exact⟨hs.co.1,hs.ro.1,p1,p2,x1,x2,hW2.hi (by omega) (Nat.le_refl _),hS2.hi (by omega) (Nat.le_refl _)⟩
   obtain⟨p1,p2,hp1,hp2,x0,x1,x2,hC2,hO2,-,-⟩:=hall j hj;obtain⟨_,_,_,_,_,_,_,_,_,_,_,_,hs⟩:=h j hj;exact⟨p1,p2,by omega,by omega,by rw [cell_of_row wr _ _ _ _ _ HG.out];exact x0,by rw [cell_of_row wr _ _ _ _ _ HG.out];exact x1,by rw [cell_of_row wr _ _ _ _ _ HG.out];exact x2,hC2,fun q hq=>by
    obtain⟨x,h1,h2,h3,h4⟩:=hO2 q hq;exact⟨x,by omega,h2,h3,h4⟩,hs⟩
theorem toDb'(a:Option Addr)(n c:Nat)(T:Nat->Td)(w:World)(h:TL w a n T)(hn:n<=1048576) :
 Calls Tryz.prog 8 #[.agg #[.slice a n c]] w fun e w'=>∃ g,e=.returned (.agg #[.slice (some ⟨g,0,none⟩) n n])/\TN w' g n T/\STb w' w.heap.size w'.heap.size g n T/\Below w.heap.size w w':=by
 have hR0:=D3.new w #[.slice a n c] #[.slice none 0 0] #[.slice none 0 0];have hbW:Below w.heap.size w (((w.alloc (.cells #[.slice a n c] 24)).alloc (.cells #[.slice none 0 0] 38)).alloc (.cells #[.slice none 0 0] 38)):=below3 _ _ _ _;have hW:(((w.alloc (.cells #[.slice a n c] 24)).alloc (.cells #[.slice none 0 0] 38)).alloc (.cells #[.slice none 0 0] 38)).heap.size=w.heap.size+1+1+1:=by simp
 obtain⟨G,hG⟩:∃ G:Nat,G=w.heap.size+1+1+1:=⟨_,rfl⟩;go_enter Tryz.func8,Tryz.ntmps8
 go_wp2_with (go_at_call 29;refine(toTabs' _ _ _ T _ (h.later hbW) hn).mono ?_;rintro e w1 ⟨g1,hg1,rfl,hL1,hS1,hb1⟩;have r1:D3 w1 w.heap.size #[.slice a n c] #[.slice none 0 0] #[.slice none 0 0]:=hR0.later hb1;have B1:Below w.heap.size w w1:=bstep hbW hb1;have hG1:G<=g1:=(by omega);have hGs:G<=(((w.alloc (.cells #[.slice a n c] 24)).alloc (.cells #[.slice none 0 0] 38)).alloc (.cells #[.slice none 0 0] 38)).heap.size:=(by omega);have m1:w1.cell? ⟨w.heap.size+1+1,0,none⟩=some (.slice none 0 0):=(cell_of_row _ _ 0 _ _ _ r1.x).trans rfl;have f1:w1.frozen? ⟨w.heap.size+1+1,0,none⟩=false:=frozen_of_row _ _ 0 _ _ r1.x;have z1:w1.cell? ⟨w.heap.size+1,0,none⟩=some (.slice none 0 0):=(cell_of_row _ _ 0 _ _ _ r1.z).trans rfl;have zf1:w1.frozen? ⟨w.heap.size+1,0,none⟩=false:=frozen_of_row _ _ 0 _ _ r1.z)
 have KV:∀ v0 v1,Kp G w1 ((w1.setCell ⟨w.heap.size+1+1,0,none⟩ v0).setCell ⟨w.heap.size+1,0,none⟩ v1):=fun v0 v1=>(Kp.set (by omega)).trans (Kp.set (by omega));have NV:∀ v0 v1,KpG G w1 ((w1.setCell ⟨w.heap.size+1+1,0,none⟩ v0).setCell ⟨w.heap.size+1,0,none⟩ v1):=fun v0 v1=>(KpG.set (by omega)).trans (KpG.set (by omega));have BV:∀ v0 v1,Below w.heap.size w ((w1.setCell ⟨w.heap.size+1+1,0,none⟩ v0).setCell ⟨w.heap.size+1,0,none⟩ v1):=fun v0 v1=>bset (bset B1 (by omega)) (by omega);have RV:=fun v0 v1=>heap_setCell_same _ _ 0 _ _ v1 (rowO (B:=w.heap.size+1+1) (B':=w.heap.size+1) (i:=0) (v:=v0) r1.z (by omega));refine bodyPost_ret (v:=.agg #[.slice (some ⟨g1,0,none⟩) n n]) (results_cell_row Tryz.results8 _ _ (w.heap.size+1) 38 _ (0,0) _ rfl (RV _ _) Tryz.underlying38 rfl (by kernel_rfl)) rfl ⟨g1,rfl,?_,(hS1.kp ((NV _ _).r hGs)).hi (by omega) (by simp),BV _ _⟩;exact(hL1.kp (KV _ _) hG1 hGs).tn
end Go.Proofs.YtgeiamgeclbiaaaGreatDoor
