import Derived.Test.YtfnfdllflgmhnaaGreatDoorWc
import Derived.Test.YtfnfdllflgmhnaaGreatDoorEe
open Array renaming getElem?_eq_some_iff → XS
open Go renaming Calls → XR, Value → XU, World → ο, cell_of_row → ε, frozen_of_row → ζ, heap_alloc_new → η, heap_setCell_same → π
open Go.Ending renaming returned → ρ
open Go.IntKind renaming i64 → κ
open Go.Obj renaming cells → γ
open Go.Proofs.Tryz renaming prog → μ
open Go.RowKit renaming Below → υ, intOf → XX
open Go.RowKit.Below renaming refl → Xa
open Go.Value renaming int → ι, slice → σ, agg → χ, string → τ
open Nat renaming le_refl → XK, le_trans → Xe, zero_add → XT
open Option renaming none → ν, some → ς
open Option.some renaming inj → XM
open Or renaming inl → Xc, inr → Xi
namespace Go.Proofs.YtfnfdllflgmhnaaGreatDoor
open Go.RowKit Go.Maps Go.WideMaps
set_option maxRecDepth 20000
set_option maxHeartbeats 8000000
theorem Dj.symm{a a':Option Addr}{n n':Nat}(h:Dj a n a' n'):Dj a' n' a n:=by
 unfold Dj at *;rcases h with h | h
 ·
  cases e:bk a' n' with
  | none=>exact Xc rfl
  | some x=>rw [h];exact Xi (by simp)
 · exact Xi (λe=>h e.symm)
def sm(M:Nat->Nat):Nat->Nat
 | 0=>0
 | k+1=>sm M k+M k
theorem Dx(M:Nat->Nat)(k:Nat):sm M (k+1)=sm M k+M k:=rfl
theorem La(M:Nat->Nat){k:Nat}:∀ {n:Nat},k<=n->sm M k<=sm M n
 | 0,h=>by
  obtain rfl:k=0:=by omega
  exact XK _
 | n+1,h=>by
  by_cases e:k=n+1
  · subst e;exact XK _
  · have:=La M (k:=k) (n:=n) (by omega);rw [Dx];omega
theorem Pc(lo hi:Nat)(a:Option Addr)(n c z:Nat)(Z:Int)(hZ:Z=(z:Int))(w:ο)(h:WR w lo hi 94 3 a n)(hz0:0<z)(hz:z+3 * n<9000000000000000000) :
 XR μ 36 #[σ a n c,ι κ Z] w λe w'=>∃ K:Int,e=ρ (ι κ K)/\Hid (K=((z+3 * n:Nat):Int))/\M3 w' 94 a n z/\w.grownBy w' (bk a n):=by
 subst hZ;refine(S8 lo hi a n c z w h hz0 hz).mono ?_;rintro e w' ⟨rfl,h1,h2⟩;exact⟨_,rfl,rfl,h1,h2⟩
theorem Px(a:Option Addr)(n c z:Nat)(Z:Int)(hZ:Z=(z:Int))(w:ο)(h:M3 w 94 a n z)(hz0:0<z)(hz:z+3 * n<9000000000000000000) :
 XR μ 37 #[σ a n c,ι κ Z] w λe w'=>∃ K:Int,e=ρ (ι κ K)/\Hid (K=((z+3 * n:Nat):Int))/\υ w.heap.size w w':=by
 subst hZ;refine(TV a n c z w h hz0 hz).mono ?_;rintro e w' ⟨rfl,h1⟩;exact⟨_,rfl,rfl,h1⟩
structure OutG(n:Nat)(A:Nat->Option Addr)(M:Nat->Nat)(w w':ο):Prop where
 os:w'.os=w.os
 tape:w'.tape=w.tape
 output:w'.output=w.output
 size:w.heap.size<=w'.heap.size
 block:∀ b,b<w.heap.size->(∀ i,i<n->bk (A i) (M i)≠ς b)->w'.heap[b]?=w.heap[b]?
theorem OutG.refl(n:Nat)(A:Nat->Option Addr)(M:Nat->Nat)(w:ο):OutG n A M w w:=⟨rfl,rfl,rfl,XK _,λ_ _ _=>rfl⟩
theorem OutG.step{n:Nat}{A:Nat->Option Addr}{M:Nat->Nat}{w a b:ο}(h:OutG n A M w a){j:Nat}(hj:j<n)(g:a.grownBy b (bk (A j) (M j))):OutG n A M w b:=
 ⟨g.os.trans h.os,g.tape.trans h.tape,g.output.trans h.output,Xe h.size g.size,λk hk hn=>(g.block k (Nat.lt_of_lt_of_le hk h.size) (λe=>hn j hj e.symm)).trans (h.block k hk hn)⟩
theorem OutG.row{n:Nat}{A:Nat->Option Addr}{M:Nat->Nat}{w w':ο}(h:OutG n A M w w'){q:Nat}{o:Obj}(hq:w.heap[q]?=ς o)(hn:∀ i,i<n->bk (A i) (M i)≠ς q):w'.heap[q]?=ς o:=
 (h.block q (XS.1 hq).1 hn).trans hq
theorem Pb(lo hi g n c z:Nat)(Z:Int)(hZ:Z=(z:Int))(cur:Array XU)(A:Nat->Option Addr)(C M:Nat->Nat)(w:ο)(hrow:w.heap[g]?=ς (γ cur 60 (0,0)))(hat:∀ i,i<n->cur[i]?=ς (σ (A i) (M i) (C i)))(hw:∀ i,i<n->WR w lo hi 94 3 (A i) (M i))(hji:∀ i,i<n->bk (A i) (M i)≠ς g)(hjik:∀ i k,k<i->i<n->Dj (A i) (M i) (A k) (M k))(hz0:0<z)(hz:z+3 * sm M n<9000000000000000000)(hn:n<=1048576) :
 XR μ 11 #[σ (ς ⟨g,0,ν⟩) n c,ι κ Z] w λe w'=>∃ K:Int,e=ρ (ι κ K)/\Hid (K=((z+3 * sm M n:Nat):Int))/\w'.heap[g]?=ς (γ cur 60 (0,0))/\(∀ i,i<n->M3 w' 94 (A i) (M i) (z+3 * sm M i))/\OutG n A M w w':=by
 go_enter Tryz.func11,Tryz.ntmps11
 go_wp2;go_loopw [1,5] (λk i wr=>∃ (j:Nat) (K:Int),k=ι κ K/\K=((z+3 * sm M j:Nat):Int)/\j<=n/\i=ι κ j/\wr.heap[g]?=ς (γ cur 60 (0,0))/\(∀ i,i<j->M3 wr 94 (A i) (M i) (z+3 * sm M i))/\(∀ i,j<=i->i<n->WR wr lo hi 94 3 (A i) (M i))/\OutG n A M w wr) (λ_ i _=>n - (XX i).toNat)
 case atStart=>exact⟨0,_,rfl,hZ,by omega,rfl,hrow,λi hi=>by omega,λi _ hi=>hw i hi,OutG.refl _ _ _ _⟩
 case round=>
  obtain⟨j,K,rfl,hK,hj,rfl,hg,hM,hW,hG⟩:=hrel;have HK:Hid (K=((z+3 * sm M j:Nat):Int)):=hK;have HM:Hid (∀ i,i<j->M3 wr 94 (A i) (M i) (z+3 * sm M i)):=hM;have HW:Hid (∀ i,j<=i->i<n->WR wr lo hi 94 3 (A i) (M i)):=hW;have HG:Hid (wr.heap[g]?=ς (γ cur 60 (0,0))):=hg;by_cases hlt:j<n
  ·
   have hjn:(j:Int)<n:=by omega
   have c0:wr.cell? ⟨g,j,ν⟩=ς (σ (A j) (M j) (C j)):=(ε _ _ _ _ _ _ hg).trans (hat j hlt);have hs1:=La M (k:=j+1) (n:=n) hlt;rw [Dx] at hs1;have hC:=Pc lo hi (A j) (M j) (C j) (z+3 * sm M j) K hK wr (hW j (XK _) hlt) (by omega) (by omega);clear hK hM hW hg;go_wp2_with (go_at_call 36;refine hC.mono ?_;rintro e w2 ⟨K2,rfl,HK2,hM2,hg2⟩)
   go_roundw
   case rel=>
    refine⟨j+1,K2,rfl,?_,by omega,by go_num,Bq HG.out hg2 (λe=>hji j hlt e.symm),λi hi=>?_,λi h1 h2=>(HW.out i (by omega) h2).gr hg2 (hjik i j (by omega) h2),hG.step hlt hg2⟩
    · rw [HK2.out,Dx];omega
    ·
     by_cases e:i=j
     · subst e;exact hM2
     · exact(HM.out i (by omega)).gr hg2 (hjik j i (by omega) hlt).symm
   case measure=>simp [XX];omega
  ·
   obtain rfl:j=n:=by omega
   clear hK hM hW hg;go_wp2;go_ret
   exact⟨K,rfl,HK,HG.out,HM.out,hG⟩
theorem M5(a:Option Addr)(c:Nat)(Z:Int)(w:ο):XR μ 11 #[σ a 0 c,ι κ Z] w λe w'=>e=ρ (ι κ Z)/\w'=w:=by
 go_enter Tryz.func11,Tryz.ntmps11
 go_wp2;go_loop [1,5] (λk i=>k=ι κ Z/\i=ι κ 0) (λ_ _=>0)
 case atStart=>exact⟨rfl,rfl⟩
 case round=>
  obtain⟨rfl,rfl⟩:=hrel;go_wp2;go_ret
  exact⟨rfl,rfl⟩
theorem NT(a:Option Addr)(c:Nat)(Z:Int)(w:ο):XR μ 12 #[σ a 0 c,ι κ Z] w λe w'=>e=ρ (ι κ Z)/\w'=w:=by
 go_enter Tryz.func12,Tryz.ntmps12
 go_wp2;go_loop [1,5] (λk i=>k=ι κ Z/\i=ι κ 0) (λ_ _=>0)
 case atStart=>exact⟨rfl,rfl⟩
 case round=>
  obtain⟨rfl,rfl⟩:=hrel;go_wp2;go_ret
  exact⟨rfl,rfl⟩
theorem Pw(g n c z:Nat)(Z:Int)(hZ:Z=(z:Int))(cur:Array XU)(A:Nat->Option Addr)(C M:Nat->Nat)(w:ο)(hrow:w.heap[g]?=ς (γ cur 60 (0,0)))(hat:∀ i,i<n->cur[i]?=ς (σ (A i) (M i) (C i)))(hM:∀ i,i<n->M3 w 94 (A i) (M i) (z+3 * sm M i))(hz0:0<z)(hz:z+3 * sm M n<9000000000000000000)(hn:n<=1048576) :
 XR μ 12 #[σ (ς ⟨g,0,ν⟩) n c,ι κ Z] w λe w'=>∃ K:Int,e=ρ (ι κ K)/\Hid (K=((z+3 * sm M n:Nat):Int))/\υ w.heap.size w w':=by
 have hb0:=Xa w.heap.size w;have HM:Hid (∀ i,i<n->M3 w 94 (A i) (M i) (z+3 * sm M i)):=hM;have HG:Hid (w.heap[g]?=ς (γ cur 60 (0,0))):=hrow;clear hM hrow;go_enter Tryz.func12,Tryz.ntmps12
 go_wp2;go_loopw [1,5] (λk i wr=>∃ (j:Nat) (K:Int),k=ι κ K/\K=((z+3 * sm M j:Nat):Int)/\j<=n/\i=ι κ j/\υ w.heap.size w wr) (λ_ i _=>n - (XX i).toNat)
 case atStart=>exact⟨0,_,rfl,hZ,by omega,rfl,hb0⟩
 case round=>
  obtain⟨j,K,rfl,hK,hj,rfl,hb⟩:=hrel;have HK:Hid (K=((z+3 * sm M j:Nat):Int)):=hK;by_cases hlt:j<n
  ·
   have hjn:(j:Int)<n:=by omega
   have c0:wr.cell? ⟨g,j,ν⟩=ς (σ (A j) (M j) (C j)):=(ε _ _ _ _ _ _ (AC HG.out hb)).trans (hat j hlt);have hs1:=La M (k:=j+1) (n:=n) hlt;rw [Dx] at hs1;have hC:=Px (A j) (M j) (C j) (z+3 * sm M j) K hK wr ((HM.out j hlt).later hb) (by omega) (by omega);clear hK;go_wp2_with (go_at_call 37;refine hC.mono ?_;rintro e w2 ⟨K2,rfl,HK2,hb2⟩;have hK2:0<=K2:=(by rw [HK2.out];omega))
   go_roundw
   case rel=>
    refine⟨j+1,K2,rfl,?_,by omega,by go_num,AA hb hb2⟩;rw [HK2.out,Dx];omega
   case measure=>simp [XX];omega
  ·
   obtain rfl:j=n:=by omega
   clear hK;go_wp2;go_ret
   exact⟨K,rfl,HK,hb⟩
theorem WR.ne{w:ο}{lo hi:Nat}{t:TypeId}{z:Nat}{a:Option Addr}{n Q:Nat}(h:WR w lo hi t z a n)(hQ:Q<lo∨hi<=Q):ς Q≠bk a n:=by
 rcases h with rfl | ⟨g,cur,rfl,h2,h3,-⟩
 · rw [Kb];simp
 ·
  by_cases e:n=0
  · subst e;rw [Kb];simp
  · rw [D5 e];intro e2;have e3:Q=g:=XM e2;omega
def EX(t:TypeId)(i:Nat):Prop:=t=92∨t=94∨(t=135∨t=144∨t=9)∨(t=100/\i % 3=0)
structure Mk(lo hi:Nat)(w w':ο):Prop where
 os:w'.os=w.os
 tape:w'.tape=w.tape
 output:w'.output=w.output
 size:w.heap.size<=w'.heap.size
 out:∀ b:Nat,b<w.heap.size->b<lo∨hi<=b->w'.heap[b]?=w.heap[b]?
 ins:∀ (b:Nat) (cur:Array XU) (t:TypeId),w.heap[b]?=ς (γ cur t (0,0))->∃ cur':Array XU,w'.heap[b]?=ς (γ cur' t (0,0))/\cur'.size=cur.size/\∀ i,¬EX t i->cur'[i]?=cur[i]?
theorem Mk.refl(lo hi:Nat)(w:ο):Mk lo hi w w:=⟨rfl,rfl,rfl,XK _,λ_ _ _=>rfl,λ_ cur _ h=>⟨cur,h,rfl,λ_ _=>rfl⟩⟩
theorem Mk.below{lo hi:Nat}{w w':ο}(h:υ w.heap.size w w'):Mk lo hi w w':=⟨h.os,h.tape,h.output,h.size,λb hb _=>h.block b hb,λ_ cur _ hc=>⟨cur,AC hc h,rfl,λ_ _=>rfl⟩⟩
theorem Mk.trans{lo hi:Nat}{a b c:ο}(h:Mk lo hi a b)(k:Mk lo hi b c):Mk lo hi a c:=
 ⟨k.os.trans h.os,k.tape.trans h.tape,k.output.trans h.output,Xe h.size k.size,λx hx hn=>(k.out x (Nat.lt_of_lt_of_le hx h.size) hn).trans (h.out x hx hn),λx cur t hc=>by
  obtain⟨c1,h1,h2,h3⟩:=h.ins x cur t hc;obtain⟨c2,k1,k2,k3⟩:=k.ins x c1 t h1;exact⟨c2,k1,k2.trans h2,λi hi=>(k3 i hi).trans (h3 i hi)⟩⟩
theorem Mk.grown{lo hi g:Nat}{w w':ο}{cur cur':Array XU}{t:TypeId}(hg:w.grownBy w' (ς g))(h1:w.heap[g]?=ς (γ cur t (0,0)))(h2:w'.heap[g]?=ς (γ cur' t (0,0)))(hs:cur'.size=cur.size)(ha:lo<=g)(hb:g<hi)(ht:∀ i,EX t i):Mk lo hi w w':=
 ⟨hg.os,hg.tape,hg.output,hg.size,λx hx hn=>hg.block x hx (λe=>by have e2:x=g:=XM e;omega),λx c u hc=>by
  by_cases e:x=g
  ·
   subst e;rw [h1] at hc;simp only [Option.some.injEq,Obj.cells.injEq] at hc
   obtain⟨rfl,rfl,-⟩:=hc;exact⟨cur',h2,hs,λi hi=>absurd (ht i) hi⟩
  · exact⟨c,B9 hc hg (λe2=>e (XM e2)),rfl,λ_ _=>rfl⟩⟩
theorem Mk.row{lo hi:Nat}{w w':ο}(h:Mk lo hi w w'){q:Nat}{o:Obj}(hq:w.heap[q]?=ς o)(hn:q<lo∨hi<=q):w'.heap[q]?=ς o:=(h.out q (XS.1 hq).1 hn).trans hq
theorem WR.mk{w w':ο}{lo hi:Nat}{t:TypeId}{z:Nat}{a:Option Addr}{n:Nat}(h:WR w lo hi t z a n)(k:Mk lo hi w w'):WR w' lo hi t z a n:=by
 rcases h with h | ⟨g,cur,e1,e2,e3,e4,e5⟩
 · exact Xc h
 · obtain⟨c,k1,k2,-⟩:=k.ins g cur t e4;exact Xi ⟨g,c,e1,e2,e3,k1,by omega⟩
def SR(w:ο)(lo hi:Nat)(u t:TypeId)(g n:Nat)(m:Nat->Nat):Prop:=lo<=g/\g<hi/\∃ cur,w.heap[g]?=ς (γ cur u (0,0))/\∀ k,k<n->m k<=1048576/\∃ q,cur[k]?=ς (σ (ς ⟨q,0,ν⟩) (m k) (m k))/\WR w lo hi t 3 (ς ⟨q,0,ν⟩) (m k)
theorem SR.mk{w w':ο}{lo hi:Nat}{u t:TypeId}{g n:Nat}{m:Nat->Nat}(h:SR w lo hi u t g n m)(k:Mk lo hi w w')(hu:∀ i,¬EX u i):SR w' lo hi u t g n m:=by
 obtain⟨h1,h2,cur,h3,h4⟩:=h;obtain⟨c,k1,k2,k3⟩:=k.ins g cur u h3;refine⟨h1,h2,c,k1,λj hj=>?_⟩;obtain⟨hm,q,e1,e2⟩:=h4 j hj;exact⟨hm,q,(k3 j (hu j)).trans e1,e2.mk k⟩
def STb(w:ο)(lo hi:Nat)(g n:Nat)(T:Nat->Td):Prop:=lo<=g/\g<hi/\∃ cur,w.heap[g]?=ς (γ cur 100 (0,0))/\n * 3<=cur.size/\∀ k,k<n->(T k).n<=1048576/\(T k).r<=1048576/\∃ g1 g2,cur[k * 3+1]?=ς (σ (ς ⟨g1,0,ν⟩) (T k).n (T k).n)/\cur[k * 3+2]?=ς (σ (ς ⟨g2,0,ν⟩) (T k).r (T k).r)/\WR w lo hi 92 2 (ς ⟨g1,0,ν⟩) (T k).n/\SR w lo hi 60 94 g2 (T k).r (T k).m
theorem NW:∀ i,¬EX 60 i:=λi h=>by rcases h with h | h | h | ⟨h,-⟩ <;> exact absurd h (by decide)
theorem STb.mk{w w':ο}{lo hi:Nat}{g n:Nat}{T:Nat->Td}(h:STb w lo hi g n T)(k:Mk lo hi w w'):STb w' lo hi g n T:=by
 obtain⟨h1,h2,cur,h3,h4,h5⟩:=h;obtain⟨c,k1,k2,k3⟩:=k.ins g cur _ h3;refine⟨h1,h2,c,k1,by omega,λj hj=>?_⟩;obtain⟨e1,e2,g1,g2,e3,e4,e5,e6⟩:=h5 j hj;exact⟨e1,e2,g1,g2,(k3 _ (λh=>by rcases h with h | h | h | ⟨-,h⟩ <;> first | omega | exact absurd h (by decide))).trans e3,(k3 _ (λh=>by rcases h with h | h | h | ⟨-,h⟩ <;> first | omega | exact absurd h (by decide))).trans e4,e5.mk k,e6.mk k NW⟩
theorem Iz:∀ i,EX 92 i:=λi=>by unfold EX;simp
theorem Wh(lo hi:Nat)(a:Option Addr)(n c z:Nat)(Z:Int)(hZ:Z=(z:Int))(w:ο)(h:WR w lo hi 92 2 a n)(hz0:0<z)(hz:z+2 * n<9000000000000000000) :
 XR μ 123 #[σ a n c,ι κ Z] w λe w'=>∃ K:Int,e=ρ (ι κ K)/\Hid (K=((z+2 * n:Nat):Int))/\Mk lo hi w w':=by
 subst hZ;by_cases e:n=0
 · subst e;refine(IU a c z w).mono ?_;rintro e w' ⟨rfl,rfl⟩;exact⟨_,rfl,(show _=_ by simp),Mk.refl _ _ _⟩
 ·
  rcases h with h | ⟨g,cur,rfl,h2,h3,h4,h5⟩
  · exact absurd h e
  · refine(IV g n c z cur w h4 h5 hz0 hz).mono ?_;rintro e' w' ⟨rfl,⟨cur',k1,ks,k2⟩,k3⟩;exact⟨_,rfl,rfl,Mk.grown k3 h4 k1 ks h2 h3 Iz⟩
theorem Kk:∀ i,EX 94 i:=λi=>by unfold EX;simp
theorem We(lo hi:Nat)(a:Option Addr)(n c z:Nat)(Z:Int)(hZ:Z=(z:Int))(w:ο)(h:WR w lo hi 94 3 a n)(hz0:0<z)(hz:z+3 * n<9000000000000000000) :
 XR μ 36 #[σ a n c,ι κ Z] w λe w'=>∃ K:Int,e=ρ (ι κ K)/\Hid (K=((z+3 * n:Nat):Int))/\Mk lo hi w w':=by
 subst hZ;by_cases e:n=0
 · subst e;refine(FK a c z w).mono ?_;rintro e w' ⟨rfl,rfl⟩;exact⟨_,rfl,(show _=_ by simp),Mk.refl _ _ _⟩
 ·
  rcases h with h | ⟨g,cur,rfl,h2,h3,h4,h5⟩
  · exact absurd h e
  · refine(FM g n c z cur w h4 h5 hz0 hz).mono ?_;rintro e' w' ⟨rfl,⟨cur',k1,ks,k2⟩,k3⟩;exact⟨_,rfl,rfl,Mk.grown k3 h4 k1 ks h2 h3 Kk⟩
theorem S7(lo hi g n c z:Nat)(m:Nat->Nat)(Z:Int)(hZ:Z=(z:Int))(w:ο)(h:SR w lo hi 60 94 g n m)(hz0:0<z)(hz:z+3 * (n * 1048576)<9000000000000000000)(hn:n<=1048576) :
 XR μ 11 #[σ (ς ⟨g,0,ν⟩) n c,ι κ Z] w λe w'=>∃ (K:Int) (k:Nat),e=ρ (ι κ K)/\Hid (K=(k:Int))/\z<=k/\k<=z+3 * (n * 1048576)/\Mk lo hi w w':=by
 go_enter Tryz.func11,Tryz.ntmps11
 go_wp2;go_loopw [1,5] (λk i wr=>∃ (j y:Nat) (K:Int),k=ι κ K/\K=(y:Int)/\z<=y/\y<=z+3 * (j * 1048576)/\j<=n/\i=ι κ j/\Mk lo hi w wr) (λ_ i _=>n - (XX i).toNat)
 case atStart=>exact⟨0,z,Z,rfl,hZ,XK _,by omega,by omega,rfl,Mk.refl _ _ _⟩
 case round=>
  obtain⟨j,y,K,rfl,hK,hy1,hy2,hj,rfl,hM⟩:=hrel;have HK:Hid (K=(y:Int)):=hK;have hK0:0<K:=by omega
  have hK1:K<9000000000000000000:=by
   have:j * 1048576<=n * 1048576:=Nat.mul_le_mul_right _ hj;omega
  clear hK;by_cases hlt:j<n
  ·
   obtain⟨-,-,cur,hr,hall⟩:=h.mk hM NW;obtain⟨hm,q,hq,hw⟩:=hall j hlt;have c0:wr.cell? ⟨g,j,ν⟩=ς (σ (ς ⟨q,0,ν⟩) (m j) (m j)):=(ε _ _ _ _ _ _ hr).trans hq;have hb1:(j+1) * 1048576<=n * 1048576:=Nat.mul_le_mul_right _ hlt;have HM:=We lo hi (ς ⟨q,0,ν⟩) (m j) (m j) y K HK.out wr hw (by omega) (by omega);clear hr hall hq;have hjn:(j:Int)<n:=by omega
   go_wp2_with (go_at_call 36;refine HM.mono ?_;rintro e w1 ⟨K1,rfl,HK1,hM1⟩)
   go_roundw
   case rel=>exact⟨j+1,y+3 * m j,K1,rfl,HK1.out,by omega,by omega,by omega,by go_num,hM.trans hM1⟩
   case measure=>simp [XX];omega
  ·
   obtain rfl:j=n:=by omega
   go_wp2;go_ret
   exact⟨K,y,rfl,HK,hy1,hy2,hM⟩
theorem Mk.set{lo hi g i:Nat}{w:ο}{cur:Array XU}{v:XU}(hr:w.heap[g]?=ς (γ cur 100 (0,0)))(h1:lo<=g)(h2:g<hi)(h3:i % 3=0):Mk lo hi w (w.setCell ⟨g,i,ν⟩ v):=
 ⟨rfl,rfl,rfl,by simp,λx hx hn=>heap_setCell_other _ _ _ _ (by show x≠g;omega),λx c u hc=>by
  by_cases e:x=g
  ·
   subst e;rw [hr] at hc;simp only [Option.some.injEq,Obj.cells.injEq] at hc
   obtain⟨rfl,rfl,-⟩:=hc;refine⟨_,π _ _ _ _ _ _ hr,by simp,λj hj=>?_⟩;rw [Array.getElem?_setIfInBounds,if_neg (λe=>hj (by subst e;exact Xi (Xi (Xi ⟨rfl,h3⟩))))]
  · exact⟨c,AS hc e,rfl,λ_ _=>rfl⟩⟩
theorem Mk.cell{lo hi g i:Nat}{w w':ο}{cur:Array XU}(k:Mk lo hi w w')(hr:w.heap[g]?=ς (γ cur 100 (0,0)))(h:¬i % 3=0):w'.cell? ⟨g,i,ν⟩=cur[i]?:=by
 obtain⟨c,k1,-,k3⟩:=k.ins g cur _ hr;exact(ε _ _ _ _ _ _ k1).trans (k3 i (λh2=>by rcases h2 with h2 | h2 | h2 | ⟨-,h2⟩ <;> first | exact h h2 | exact absurd h2 (by decide)))
theorem S6(lo hi g n c z:Nat)(T:Nat->Td)(Z:Int)(hZ:Z=(z:Int))(w:ο)(h:STb w lo hi g n T)(hz0:0<z)(hz:z+n * 3298540000000<9000000000000000000)(hn:n<=1048576) :
 XR μ 63 #[σ (ς ⟨g,0,ν⟩) n c,ι κ Z] w λe w'=>∃ (K:Int) (k:Nat),e=ρ (ι κ K)/\Hid (K=(k:Int))/\z<=k/\k<=z+n * 3298540000000/\Mk lo hi w w':=by
 go_enter Tryz.func63,Tryz.ntmps63
 go_wp2;go_loopw [1,5] (λk i wr=>∃ (j y:Nat) (K:Int),k=ι κ K/\K=(y:Int)/\z<=y/\y<=z+j * 3298540000000/\j<=n/\i=ι κ j/\Mk lo hi w wr) (λ_ i _=>n - (XX i).toNat)
 case atStart=>exact⟨0,z,Z,rfl,hZ,XK _,by omega,by omega,rfl,Mk.refl _ _ _⟩
 case round=>
  obtain⟨j,y,K,rfl,hK,hy1,hy2,hj,rfl,hM⟩:=hrel;have HK:Hid (K=(y:Int)):=hK;have hK0:0<K:=by omega
  have hK1:K<9000000000000000000:=by omega
  clear hK;by_cases hlt:j<n
  ·
   obtain⟨hlo,hhi,cur,hr,hcs,hall⟩:=h.mk hM;obtain⟨e1,e2,g1,g2,e3,e4,e5,e6⟩:=hall j hlt;obtain⟨tn,htn⟩:∃ x,(T j).n=x:=⟨_,rfl⟩;obtain⟨tr,htr⟩:∃ x,(T j).r=x:=⟨_,rfl⟩;obtain⟨tm,htm⟩:∃ x,(T j).m=x:=⟨_,rfl⟩;rw [htn] at e1 e3 e5;rw [htr] at e2 e4 e6;rw [htm] at e6;have HR:Hid (wr.heap[g]?=ς (γ cur 100 (0,0))/\cur[j * 3+1]?=ς (σ (ς ⟨g1,0,ν⟩) tn tn)/\cur[j * 3+2]?=ς (σ (ς ⟨g2,0,ν⟩) tr tr)):=⟨hr,e3,e4⟩;obtain⟨v0,hv0⟩:=there (A:=cur) (k:=j * 3) (by omega);have HV0:Hid (cur[j * 3]?=ς v0):=hv0;clear hr e3 e4 hall hv0 htn htr htm;obtain⟨y0,hy0⟩:∃ x,FJ y=x:=⟨_,rfl⟩;have HY0:Hid (FJ y=y0):=hy0;clear hy0;have hjn:(j:Int)<n:=by omega
   go_upto_region 5 with (go_at_call 62;refine(Br y _ _ HK.out (by omega) (by omega) y0 HY0.out).mono ?_;rintro e u0 ⟨rfl,hb0⟩;have K0:Hid (u0.heap[g]?=ς (γ cur 100 (0,0))):=AC HR.out.1 hb0;have c0:u0.cell? ⟨g,j * 3,ν⟩=ς v0:=(ε _ _ _ _ _ _ K0.out).trans HV0.out;have f0:u0.frozen? ⟨g,j * 3,ν⟩=false:=ζ _ _ _ _ _ K0.out)
   have hM0:Mk lo hi wr (u0.setCell ⟨g,j * 3,ν⟩ (τ y0)):=(Mk.below hb0).trans (Mk.set K0.out hlo hhi (by omega));clear c0 f0;generalize u0.setCell ⟨g,j * 3,ν⟩ (τ y0)=W0 at hM0 ⊢;have c1:W0.cell? ⟨g,j * 3+1,ν⟩=ς (σ (ς ⟨g1,0,ν⟩) tn tn):=(hM0.cell HR.out.1 (by omega)).trans HR.out.2.1;have HC:=Wh lo hi (ς ⟨g1,0,ν⟩) tn tn (y+1) (K+1) (by have:=HK.out;omega) W0 (e5.mk hM0) (by omega) (by omega);go_wp2_with (first | (go_at_call 11;have _h:=hM2;refine(S7 lo hi g2 tr tr (y+1+2 * tn) tm K1 HK1.out _ (e6.mk hM2 NW) (by omega) (by omega) e2).mono ?_;rintro e w3 ⟨K3,k3,rfl,HK3,hk1,hk2,hM3⟩) | (go_at_call 123;refine HC.mono ?_;rintro e w2 ⟨K1,rfl,HK1,hM1⟩;have hM2:=hM0.trans hM1;have c2:w2.cell? ⟨g,j * 3+2,ν⟩=ς (σ (ς ⟨g2,0,ν⟩) tr tr):=(hM2.cell HR.out.1 (by omega)).trans HR.out.2.2))
   go_roundw
   case rel=>exact⟨j+1,k3,K3,rfl,HK3.out,by omega,by omega,by omega,by go_num,hM.trans (hM2.trans hM3)⟩
   case measure=>simp [XX];omega
  ·
   obtain rfl:j=n:=by omega
   go_wp2;go_ret
   exact⟨K,y,rfl,HK,hy1,hy2,hM⟩
theorem Wg(lo hi g n c z:Nat)(T:Nat->Td)(Z:Int)(hZ:Z=(z:Int))(w:ο)(h:STb w lo hi g n T)(hz0:0<z)(hz:z+n * 3298540000000<9000000000000000000)(hn:n<=1048576) :
 XR μ 34 #[χ #[σ (ς ⟨g,0,ν⟩) n c],ι κ Z] w λe w'=>∃ (K:Int) (k:Nat),e=ρ (ι κ K)/\Hid (K=(k:Int))/\z<=k/\k<=z+n * 3298540000000/\Mk lo hi w w':=by
 have hb0:=AE w (γ #[σ (ς ⟨g,0,ν⟩) n c] 45);have hM0:=Mk.below (lo:=lo) (hi:=hi) hb0;have HT:=S6 lo hi g n c z T Z hZ _ (h.mk hM0) hz0 hz hn;clear hZ h;have c0:(w.alloc (γ #[σ (ς ⟨g,0,ν⟩) n c] 45)).cell? ⟨w.heap.size,0,ν⟩=ς (σ (ς ⟨g,0,ν⟩) n c):=(ε _ _ 0 _ _ _ (η w _)).trans rfl;generalize hW:w.alloc (γ #[σ (ς ⟨g,0,ν⟩) n c] 45)=W at HT hM0 c0;subst hW;go_enter Tryz.func34,Tryz.ntmps34
 go_wp2_with (go_at_call 63;refine HT.mono ?_;rintro e w1 ⟨K,k,rfl,HK,hk1,hk2,hM1⟩)
 go_ret
 exact⟨K,k,rfl,HK,hk1,hk2,hM0.trans hM1⟩
set_option maxHeartbeats 4000000
theorem WR.hi{w:ο}{lo hi lo' hi':Nat}{t:TypeId}{z:Nat}{a:Option Addr}{n:Nat}(h:WR w lo hi t z a n)(h1:lo'<=lo)(h2:hi<=hi'):WR w lo' hi' t z a n:=h.wide (Xa _ _) h1 h2
theorem WR.set{w:ο}{lo R i:Nat}{v:XU}{t:TypeId}{z:Nat}{a:Option Addr}{n:Nat}(h:WR w lo w.heap.size t z a n)(hR:R<lo):WR (w.setCell ⟨R,i,ν⟩ v) lo (w.setCell ⟨R,i,ν⟩ v).heap.size t z a n:=(h.kp (KpR.set hR)).hi (XK _) (by simp)
theorem SR.kp{w w':ο}{lo hi:Nat}{u t:TypeId}{g n:Nat}{m:Nat->Nat}(h:SR w lo hi u t g n m)(k:KpR lo hi w w'):SR w' lo hi u t g n m:=by
 obtain⟨h1,h2,cur,h3,h4⟩:=h;refine⟨h1,h2,cur,k g h1 h2 _ h3,λj hj=>?_⟩;obtain⟨hm,q,e1,e2⟩:=h4 j hj;exact⟨hm,q,e1,e2.kp k⟩
theorem SR.hi{w:ο}{lo hi lo' hi':Nat}{u t:TypeId}{g n:Nat}{m:Nat->Nat}(h:SR w lo hi u t g n m)(k1:lo'<=lo)(k2:hi<=hi'):SR w lo' hi' u t g n m:=by
 obtain⟨h1,h2,cur,h3,h4⟩:=h;refine⟨by omega,by omega,cur,h3,λj hj=>?_⟩;obtain⟨hm,q,e1,e2⟩:=h4 j hj;exact⟨hm,q,e1,e2.hi k1 k2⟩
theorem OI(a:Option Addr)(n c:Nat)(C:Nat->Clm)(w:ο)(h:CL w a n C)(hn:n<=1048576) :
 XR μ 137 #[σ a n c] w λe w'=>∃ g,w.heap.size<=g/\e=ρ (σ (ς ⟨g,0,ν⟩) n n)/\CL w' (ς ⟨g,0,ν⟩) n C/\WR w' w.heap.size w'.heap.size 92 2 (ς ⟨g,0,ν⟩) n/\υ w.heap.size w w':=by
 have hmk:=C1 (t:=59) Tryz.underlying59 Tryz.infoCol n hn (by omega);go_enter Tryz.func137,Tryz.ntmps137
 go_wp2;clear hmk;go_loopw [4] (λi wr=>∃ (k:Nat) (cur:Array XU),k<=n/\i=ι κ k/\wr.heap[w.heap.size]?=ς (γ cur 92 (0,0))/\cur.size=n * 2/\(∀ j,j<k->cur[j * 2]?=ς (τ (C j).s)/\cur[j * 2+1]?=ς (ι κ (C j).t))/\υ w.heap.size w wr) (λi _=>n - (XX i).toNat)
 case atStart=>exact⟨0,_,by omega,rfl,η _ _,Bv _ _,λj hj=>by omega,AE _ _⟩
 case round=>
  obtain⟨k,cur,hk,rfl,hG,hsz,hall,hb⟩:=hrel;have HG:Hid (wr.heap[w.heap.size]?=ς (γ cur 92 (0,0))):=hG;clear hG;by_cases hlt:k<n
  ·
   obtain⟨b,off,rfl,c0,c1,hs⟩:=h.later hb k hlt;obtain⟨v0,hv0⟩:=there (A:=cur) (k:=k * 2) (by omega);obtain⟨v1,hv1⟩:=there (A:=cur) (k:=k * 2+1) (by omega);go_wp2_with (go_at_call 180;refine(Tw _ _ _).mono ?_;rintro e w1 ⟨rfl,hb1⟩;have HG1:Hid (w1.heap[w.heap.size]?=ς (γ cur 92 (0,0))):=(hb1.block _ (XS.1 HG.out).1).trans HG.out;have g0:w1.cell? ⟨w.heap.size,k * 2,ν⟩=ς v0:=(ε w1 _ _ _ _ _ HG1.out).trans hv0;have f0:w1.frozen? ⟨w.heap.size,k * 2,ν⟩=false:=ζ w1 _ _ _ _ HG1.out;have g1:w1.cell? ⟨w.heap.size,k * 2+1,ν⟩=ς v1:=(ε w1 _ _ _ _ _ HG1.out).trans hv1;have f1:w1.frozen? ⟨w.heap.size,k * 2+1,ν⟩=false:=ζ w1 _ _ _ _ HG1.out;replace hb1:=AA hb hb1)
   go_roundw
   case rel=>
    refine⟨k+1,((cur.setIfInBounds (k * 2) (τ (C k).s)).setIfInBounds (k * 2+1) (ι κ (C k).t)),by omega,by go_num,(π _ _ _ _ _ _ (π _ _ _ _ _ _ HG1.out)),by simpa using hsz,λj hj=>?_,((hb1.setCell (by simp) _).setCell (by simp) _)⟩;by_cases e:j=k
    · subst e;exact⟨(setA (Df (by omega)) (by omega)),(Df (by simp only [Array.size_setIfInBounds];omega))⟩
    · exact⟨(setA (setA (hall j (by omega)).1 (by omega)) (by omega)),(setA (setA (hall j (by omega)).2 (by omega)) (by omega))⟩
   case measure=>simp [XX];omega
  ·
   obtain rfl:k=n:=by omega
   go_wp2;go_ret
   refine⟨_,XK _,rfl,λj hj=>?_,Xi ⟨_,cur,rfl,XK _,(XS.1 HG.out).1,HG.out,by omega⟩,hb⟩;have:=hall j hj;have hsj:=(h j hj).choose_spec.choose_spec.2.2.2;exact⟨_,0,rfl,by rw [XT,ε wr _ _ _ _ _ HG.out];exact this.1,by rw [XT,ε wr _ _ _ _ _ HG.out];exact this.2,hsj⟩
theorem OE(a:Option Addr)(n c:Nat)(I:Nat->Itm)(w:ο)(h:IL w a n I)(hn:n<=1048576) :
 XR μ 181 #[σ a n c] w λe w'=>∃ g,w.heap.size<=g/\e=ρ (σ (ς ⟨g,0,ν⟩) n n)/\IL w' (ς ⟨g,0,ν⟩) n I/\WR w' w.heap.size w'.heap.size 94 3 (ς ⟨g,0,ν⟩) n/\υ w.heap.size w w':=by
 have hmk:=C1 (t:=60) Tryz.underlying60 Tryz.infoVal n hn (by omega);go_enter Tryz.func181,Tryz.ntmps181
 go_wp2;clear hmk;go_loopw [4] (λi wr=>∃ (k:Nat) (cur:Array XU),k<=n/\i=ι κ k/\wr.heap[w.heap.size]?=ς (γ cur 94 (0,0))/\cur.size=n * 3/\(∀ j,j<k->cur[j * 3]?=ς (ι κ (I j).o)/\cur[j * 3+1]?=ς (ι κ (I j).m)/\cur[j * 3+2]?=ς (τ (I j).s))/\υ w.heap.size w wr) (λi _=>n - (XX i).toNat)
 case atStart=>exact⟨0,_,by omega,rfl,η _ _,Bv _ _,λj hj=>by omega,AE _ _⟩
 case round=>
  obtain⟨k,cur,hk,rfl,hG,hsz,hall,hb⟩:=hrel;have HG:Hid (wr.heap[w.heap.size]?=ς (γ cur 94 (0,0))):=hG;clear hG;by_cases hlt:k<n
  ·
   obtain⟨b,off,rfl,c0,c1,c2,hs⟩:=h.later hb k hlt;obtain⟨v0,hv0⟩:=there (A:=cur) (k:=k * 3) (by omega);obtain⟨v1,hv1⟩:=there (A:=cur) (k:=k * 3+1) (by omega);obtain⟨v2,hv2⟩:=there (A:=cur) (k:=k * 3+2) (by omega);go_wp2_with (go_at_call 205;refine(Tq _ _ _ _).mono ?_;rintro e w1 ⟨rfl,hb1⟩;have HG1:Hid (w1.heap[w.heap.size]?=ς (γ cur 94 (0,0))):=(hb1.block _ (XS.1 HG.out).1).trans HG.out;have g0:w1.cell? ⟨w.heap.size,k * 3,ν⟩=ς v0:=(ε w1 _ _ _ _ _ HG1.out).trans hv0;have f0:w1.frozen? ⟨w.heap.size,k * 3,ν⟩=false:=ζ w1 _ _ _ _ HG1.out;have g1:w1.cell? ⟨w.heap.size,k * 3+1,ν⟩=ς v1:=(ε w1 _ _ _ _ _ HG1.out).trans hv1;have f1:w1.frozen? ⟨w.heap.size,k * 3+1,ν⟩=false:=ζ w1 _ _ _ _ HG1.out;have g2:w1.cell? ⟨w.heap.size,k * 3+2,ν⟩=ς v2:=(ε w1 _ _ _ _ _ HG1.out).trans hv2;have f2:w1.frozen? ⟨w.heap.size,k * 3+2,ν⟩=false:=ζ w1 _ _ _ _ HG1.out;replace hb1:=AA hb hb1)
   go_roundw
   case rel=>
    refine⟨k+1,(((cur.setIfInBounds (k * 3) (ι κ (I k).o)).setIfInBounds (k * 3+1) (ι κ (I k).m)).setIfInBounds (k * 3+2) (τ (I k).s)),by omega,by go_num,(π _ _ _ _ _ _ (π _ _ _ _ _ _ (π _ _ _ _ _ _ HG1.out))),by simpa using hsz,λj hj=>?_,(((hb1.setCell (by simp) _).setCell (by simp) _).setCell (by simp) _)⟩;by_cases e:j=k
    · subst e;exact⟨(setA (setA (Df (by omega)) (by omega)) (by omega)),(setA (Df (by simp only [Array.size_setIfInBounds];omega)) (by omega)),(Df (by simp only [Array.size_setIfInBounds];omega))⟩
    · exact⟨(setA (setA (setA (hall j (by omega)).1 (by omega)) (by omega)) (by omega)),(setA (setA (setA (hall j (by omega)).2.1 (by omega)) (by omega)) (by omega)),(setA (setA (setA (hall j (by omega)).2.2 (by omega)) (by omega)) (by omega))⟩
   case measure=>simp [XX];omega
  ·
   obtain rfl:k=n:=by omega
   go_wp2;go_ret
   refine⟨_,XK _,rfl,λj hj=>?_,Xi ⟨_,cur,rfl,XK _,(XS.1 HG.out).1,HG.out,by omega⟩,hb⟩;have:=hall j hj;have hsj:=(h j hj).choose_spec.choose_spec.2.2.2.2;exact⟨_,0,rfl,by rw [XT,ε wr _ _ _ _ _ HG.out];exact this.1,by rw [XT,ε wr _ _ _ _ _ HG.out];exact this.2.1,by rw [XT,ε wr _ _ _ _ _ HG.out];exact this.2.2,hsj⟩
theorem OH(a:Option Addr)(n c:Nat)(m:Nat->Nat)(O:Nat->Nat->Itm)(w:ο)(h:OL w a n m O)(hn:n<=1048576) :
 XR μ 138 #[σ a n c] w λe w'=>∃ g,w.heap.size<=g/\e=ρ (σ (ς ⟨g,0,ν⟩) n n)/\OF w.heap.size w' g n m O/\SR w' w.heap.size w'.heap.size 60 94 g n m/\υ w.heap.size w w':=by
 have hmk:=C1 (t:=36) Tryz.underlying36 Tryz.infoRow n hn (by omega);rw [Nat.mul_one] at hmk;go_enter Tryz.func138,Tryz.ntmps138
 go_wp2;clear hmk;go_loopw [4] (λi wr=>∃ (k:Nat) (cur:Array XU),k<=n/\i=ι κ k/\wr.heap[w.heap.size]?=ς (γ cur 60 (0,0))/\cur.size=n/\(∀ j,j<k->∃ g,w.heap.size<g/\cur[j]?=ς (σ (ς ⟨g,0,ν⟩) (m j) (m j))/\IL wr (ς ⟨g,0,ν⟩) (m j) (O j)/\WR wr (w.heap.size+1) wr.heap.size 94 3 (ς ⟨g,0,ν⟩) (m j))/\υ w.heap.size w wr) (λi _=>n - (XX i).toNat)
 case atStart=>exact⟨0,_,by omega,rfl,η _ _,Bv _ _,λj hj=>by omega,AE _ _⟩
 case round=>
  obtain⟨k,cur,hk,rfl,hG,hsz,hall,hb⟩:=hrel;have HG:Hid (wr.heap[w.heap.size]?=ς (γ cur 60 (0,0))):=hG;clear hG;by_cases hlt:k<n
  ·
   obtain⟨b,off,i,c',rfl,c0,hi,hm⟩:=h.later hb k hlt;obtain⟨v0,hv0⟩:=there (A:=cur) (k:=k) (by omega);have hlw:=(XS.1 HG.out).1;go_wp2_with (go_at_call 181;refine(OE i _ c' _ _ hi hm).mono ?_;rintro e w1 ⟨g1,hg1,rfl,hI1,hW1,hb1⟩;have HG1:Hid (w1.heap[w.heap.size]?=ς (γ cur 60 (0,0))):=(hb1.block _ hlw).trans HG.out;have g0:w1.cell? ⟨w.heap.size,k,ν⟩=ς v0:=(ε w1 _ _ _ _ _ HG1.out).trans hv0;have f0:w1.frozen? ⟨w.heap.size,k,ν⟩=false:=ζ w1 _ _ _ _ HG1.out;have hbo:=hb1;replace hb1:=AA hb hb1)
   go_roundw
   case rel=>
    refine⟨k+1,cur.setIfInBounds k (σ (ς ⟨g1,0,ν⟩) (m k) (m k)),by omega,by go_num,π _ _ _ _ _ _ HG1.out,by simpa using hsz,λj hj=>?_,hb1.setCell (by simp) _⟩;by_cases e:j=k
    · subst e;exact⟨g1,by omega,Df (by omega),hI1.set (by omega),(hW1.hi (by omega) (XK _)).set (by omega)⟩
    · obtain⟨g,hg,hcur,hI,hWj⟩:=hall j (by omega);exact⟨g,hg,setA hcur (by omega),(hI.later hbo).set (by omega),(hWj.wide hbo (XK _) hbo.size).set (by omega)⟩
   case measure=>simp [XX];omega
  ·
   obtain rfl:k=n:=by omega
   go_wp2;go_ret
   refine⟨_,XK _,rfl,λj hj=>?_,⟨XK _,(XS.1 HG.out).1,cur,HG.out,λj hj=>?_⟩,hb⟩;rotate_left
   · obtain⟨g,hg,hcur,-,hWj⟩:=hall j hj;obtain⟨_,_,_,_,_,_,_,hm⟩:=h j hj;exact⟨hm,g,hcur,hWj.hi (by omega) (XK _)⟩
   obtain⟨g,hg,hcur,hI,-⟩:=hall j hj;obtain⟨_,_,_,_,_,_,_,hm⟩:=h j hj;exact⟨g,by omega,by rw [ε wr _ _ _ _ _ HG.out];exact hcur,hI,hm⟩
