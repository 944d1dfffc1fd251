import Derived.Test.YtoeencbghldmdaaGreatDoorCb
import Derived.Test.YtoeencbghldmdaaGreatDoorKg
import Derived.Deep.DeepCutAuto
import Derived.Deep.Onto
import Derived.Deep.RegionHeld3
open Bool renaming and_eq_true → VO
open Go renaming Value → VN, World → ο, cell_of_row → ε, heap_alloc_new → η, Calls → VK, bodyPost_ret → VE, frozen_of_row → ζ, wpList_append_lies → VR
open Go.Ending renaming returned → ρ
open Go.IntKind renaming i64 → κ
open Go.Obj renaming cells → γ
open Go.Proofs.Tryz renaming prog → μ
open Go.RowKit renaming intOf → VQ
open Go.Value renaming int → ι, slice → σ, string → τ, agg → χ, pointer → ψ
open Go.World renaming news_of_block → VI
open List renaming length_append → VJ
open Nat renaming not_lt_zero → Vc, le_refl → VD, le_trans → VX, zero_add → VM, zero_le → VS
open Option renaming none → ν, some → ς
open Option.some renaming inj → VF
open Or renaming inr → Vb, inl → VV
namespace Go.Proofs.YtoeencbghldmdaaGreatDoor
open Go.RowKit
def Co(w:ο)(a:Option Addr)(n:Nat):Prop:=
 ∀ k,k<n->∃ b off m s,a=ς ⟨b,off,ν⟩/\w.cell? ⟨b,off+k * 2,ν⟩=ς (τ s)/\w.cell? ⟨b,off+k * 2+1,ν⟩=ς (ι κ m)/\BI s m=true
def It(w:ο)(a:Option Addr)(n:Nat):Prop:=
 ∀ k,k<n->∃ b off o m s,a=ς ⟨b,off,ν⟩/\w.cell? ⟨b,off+k * 3,ν⟩=ς (ι κ o)/\w.cell? ⟨b,off+k * 3+1,ν⟩=ς (ι κ m)/\w.cell? ⟨b,off+k * 3+2,ν⟩=ς (τ s)/\G6 o m s=true
def Ie(w:ο)(a:Option Addr)(n:Nat):Prop:=∃ I:Nat->Itm,IL w a n I/\AI I n=true/\n<=15/\∀ k,k<n->GK (I k).m
theorem JC(w:ο)(a:Option Addr):Ie w a 0:=⟨λ_=>⟨0,0,⟨#[]⟩⟩,λk hk=>absurd hk (Vc _),by simp [AI],by omega,λk hk=>absurd hk (Vc _)⟩
def Ou(w:ο)(a:Option Addr)(n:Nat):Prop:=
 ∀ k,k<n->∃ b off i m c,a=ς ⟨b,off,ν⟩/\w.cell? ⟨b,off+k,ν⟩=ς (σ i m c)/\Ie w i m/\1<=m
structure SP where
 k:Int
 tb:ByteArray
 a2:Option Addr
 n2:Nat
 c2:Nat
 a3:Option Addr
 n3:Nat
 c3:Nat
 col:ByteArray
 a5:Option Addr
 n5:Nat
 c5:Nat
 a6:Option Addr
 n6:Nat
 c6:Nat
 a7:Option Addr
 n7:Nat
 c7:Nat
abbrev SP.cs(p:SP):Array VN:=#[ι κ p.k,τ p.tb,σ p.a2 p.n2 p.c2,σ p.a3 p.n3 p.c3,τ p.col,σ p.a5 p.n5 p.c5,σ p.a6 p.n6 p.c6,σ p.a7 p.n7 p.c7]
structure Sm(w:ο)(p:SP):Prop where
 tb:AM p.tb=true
 col:p.col.size=0∨AM p.col=true
 co:Co w p.a2 p.n2
 va:It w p.a3 p.n3
 ex:Ie w p.a5 p.n5
 wh:Ie w p.a6 p.n6
 ou:Ou w p.a7 p.n7
 l2:p.n2<=100
 l3:p.n3<=100
 l7:p.n7<=3
def M8(p:SP):Prop:=
 (p.k=1/\1<=p.n2/\p.n2<=20/\p.n3=0/\p.col.size=0/\p.n5=0/\p.n6=0/\p.n7=0)∨(p.k=2/\p.n2=0/\1<=p.n3/\p.n3<=20/\p.col.size=0/\p.n5=0/\p.n6=0/\p.n7=0)∨(p.k=3/\p.n2=0/\p.n3=0/\AM p.col=true/\1<=p.n5/\p.n7=0)∨(p.k=4/\p.n2=0/\p.n3=0/\p.col.size=0/\p.n5=0/\p.n7=0)∨(p.k=5/\p.n2=0/\p.n3=0/\p.col.size=0/\p.n5=0/\1<=p.n7)
structure Bj(w:ο)(g:Nat)(p:SP):Prop where
 c0:w.cell? ⟨g,0,ν⟩=ς (ι κ p.k)
 c1:w.cell? ⟨g,1,ν⟩=ς (τ p.tb)
 c2:w.cell? ⟨g,2,ν⟩=ς (σ p.a2 p.n2 p.c2)
 c3:w.cell? ⟨g,3,ν⟩=ς (σ p.a3 p.n3 p.c3)
 c4:w.cell? ⟨g,4,ν⟩=ς (τ p.col)
 c5:w.cell? ⟨g,5,ν⟩=ς (σ p.a5 p.n5 p.c5)
 c6:w.cell? ⟨g,6,ν⟩=ς (σ p.a6 p.n6 p.c6)
 c7:w.cell? ⟨g,7,ν⟩=ς (σ p.a7 p.n7 p.c7)
theorem Bj.new(w:ο)(p:SP)(t:TypeId):Bj (w.alloc (γ p.cs t)) w.heap.size p:=
 ⟨(ε _ _ 0 _ _ _ (η w _)).trans rfl,(ε _ _ 1 _ _ _ (η w _)).trans rfl,(ε _ _ 2 _ _ _ (η w _)).trans rfl,(ε _ _ 3 _ _ _ (η w _)).trans rfl,(ε _ _ 4 _ _ _ (η w _)).trans rfl,(ε _ _ 5 _ _ _ (η w _)).trans rfl,(ε _ _ 6 _ _ _ (η w _)).trans rfl,(ε _ _ 7 _ _ _ (η w _)).trans rfl⟩
set_option maxRecDepth 20000
set_option maxHeartbeats 2000000
theorem g0(w:ο)(r:Option Nat):w.grownBy w r:=⟨rfl,rfl,rfl,VD _,λ_ _ _=>rfl⟩
theorem P2{w w1:ο}{o:Obj}{r:Option Nat}(h:(w.alloc o).grownBy w1 r):w.grownBy w1 r:=AQ (AU w o r) h
def Uv(p:ByteArray->Bool):VN->Bool
 | τ s=>p s
 | _=>false
def U5(p:Int->Bool):VN->Bool
 | ι κ x=>p x
 | _=>false
theorem EV{w w1:ο}{A:Array VN}{t:TypeId}{g:Nat}(p:ByteArray->Bool)(hG:(w.alloc (γ A t)).grownBy w1 (ς g))(hg:g<w.heap.size)(hA:A.toList.all (Uv p)=true)(k:Nat)(hk:k<A.size):∃ s:ByteArray,w1.cell? ⟨w.heap.size,k,ν⟩=ς (τ s)/\p s=true:=by
 have h1:=List.all_eq_true.1 hA A[k] (by simp);have h2:∃ s:ByteArray,A[k]?=ς (τ s)/\p s=true:=by
  rw [Array.getElem?_eq_getElem hk];generalize A[k]=v at h1;cases v with
  | string s=>exact⟨s,rfl,h1⟩
  | _=>simp [Uv] at h1
 obtain⟨s,e,hs⟩:=h2;exact⟨s,Aw hG ((ε _ _ k _ _ _ (η w _)).trans e) (λe=>by have:=VF e;simp at this;omega),hs⟩
theorem GV{w w1:ο}{A:Array VN}{t:TypeId}{g:Nat}(p:Int->Bool)(hG:(w.alloc (γ A t)).grownBy w1 (ς g))(hg:g<w.heap.size)(hA:A.toList.all (U5 p)=true)(k:Nat)(hk:k<A.size):∃ x:Int,w1.cell? ⟨w.heap.size,k,ν⟩=ς (ι κ x)/\p x=true:=by
 have h1:=List.all_eq_true.1 hA A[k] (by simp);have h2:∃ x:Int,A[k]?=ς (ι κ x)/\p x=true:=by
  rw [Array.getElem?_eq_getElem hk];generalize A[k]=v at h1;match v,h1 with
  | ι κ x,h=>exact⟨x,rfl,h⟩
 obtain⟨x,e,hx⟩:=h2;exact⟨x,Aw hG ((ε _ _ k _ _ _ (η w _)).trans e) (λe=>by have:=VF e;simp at this;omega),hx⟩
theorem JL(g B:Nat)(ca:Option Addr)(cn cc z s:Nat)(w:ο)(h:Cu w g B ca cn cc z s)(hz:z<=1000000000000)(hB:B<=w.heap.size) :
 VK μ 86 #[ψ (ς ⟨g,0,ν⟩)] w λe w'=>∃ (T:ByteArray) (z' s':Nat),e=ρ (τ T)/\AM T=true/\z'<=z+1/\Cu w' g B ca cn cc z' s'/\w.grownBy w' (ς g):=by
 have hlt:=h.lt;go_enter Tryz.func86,Tryz.ntmps86
 go_wp2_with (go_at_call 39;refine(Az g B ca cn cc z s _ (h.gr (AU w _ ν) (λ_ h=>by cases h) hB) (by omega) _ (by omega)).mono ?_;rintro e w1 ⟨r,z1,s1,rfl,hr0,hr1,-,hz1',hC1,hG1⟩;obtain⟨k,rfl⟩:∃ k:Nat,r=k:=⟨r.toNat,by omega⟩;obtain⟨S,hS,hSs⟩:=EV AM hG1 (by omega) (by kernel_rfl) k (by show k<4;omega))
 go_ret
 exact⟨S,z1,s1,rfl,hSs,hz1',hC1,P2 hG1⟩
theorem EU(g B:Nat)(ca:Option Addr)(cn cc z s:Nat)(w:ο)(h:Cu w g B ca cn cc z s)(hz:z<=1000000000000)(hB:B<=w.heap.size) :
 VK μ 123 #[ψ (ς ⟨g,0,ν⟩)] w λe w'=>∃ (T:ByteArray) (z' s':Nat),e=ρ (τ T)/\A6 T=true/\z'<=z+1/\Cu w' g B ca cn cc z' s'/\w.grownBy w' (ς g):=by
 have hlt:=h.lt;go_enter Tryz.func123,Tryz.ntmps123
 go_wp2_with (go_at_call 39;refine(Az g B ca cn cc z s _ (h.gr (AU w _ ν) (λ_ h=>by cases h) hB) (by omega) _ (by omega)).mono ?_;rintro e w1 ⟨r,z1,s1,rfl,hr0,hr1,-,hz1',hC1,hG1⟩;obtain⟨k,rfl⟩:∃ k:Nat,r=k:=⟨r.toNat,by omega⟩;obtain⟨S,hS,hSs⟩:=EV A6 hG1 (by omega) (by kernel_rfl) k (by show k<8;omega))
 go_ret
 exact⟨S,z1,s1,rfl,hSs,hz1',hC1,P2 hG1⟩
theorem Ew(g B:Nat)(ca:Option Addr)(cn cc z s:Nat)(w:ο)(h:Cu w g B ca cn cc z s)(hz:z<=1000000000000)(hB:B<=w.heap.size) :
 VK μ 122 #[ψ (ς ⟨g,0,ν⟩)] w λe w'=>∃ (x:Int) (z' s':Nat),e=ρ (ι κ x)/\nR x=true/\z'<=z+1/\Cu w' g B ca cn cc z' s'/\w.grownBy w' (ς g):=by
 have hlt:=h.lt;go_enter Tryz.func122,Tryz.ntmps122
 go_wp2_with (go_at_call 39;refine(Az g B ca cn cc z s _ (h.gr (AU w _ ν) (λ_ h=>by cases h) hB) (by omega) _ (by omega)).mono ?_;rintro e w1 ⟨r,z1,s1,rfl,hr0,hr1,-,hz1',hC1,hG1⟩;obtain⟨k,rfl⟩:∃ k:Nat,r=k:=⟨r.toNat,by omega⟩;obtain⟨S,hS,hSn⟩:=GV nR hG1 (by omega) (by kernel_rfl) k (by show k<12;omega))
 go_ret
 exact⟨S,z1,s1,rfl,hSn,hz1',hC1,P2 hG1⟩
structure B3(w:ο)(g:Nat)(x y z:VN):Prop where
 c0:w.cell? ⟨g,0,ν⟩=ς x
 c1:w.cell? ⟨g,1,ν⟩=ς y
 c2:w.cell? ⟨g,2,ν⟩=ς z
 f0:w.frozen? ⟨g,0,ν⟩=false
 f1:w.frozen? ⟨g,1,ν⟩=false
 f2:w.frozen? ⟨g,2,ν⟩=false
theorem B3.new(w:ο)(x y z:VN)(t:TypeId):B3 (w.alloc (γ #[x,y,z] t)) w.heap.size x y z:=
 ⟨(ε _ _ 0 _ _ _ (η w _)).trans rfl,(ε _ _ 1 _ _ _ (η w _)).trans rfl,(ε _ _ 2 _ _ _ (η w _)).trans rfl,
  ζ _ _ 0 _ _ (η w _),ζ _ _ 1 _ _ (η w _),ζ _ _ 2 _ _ (η w _)⟩
theorem N6{w w':ο}{p:Addr}{v:VN}{r:Option Nat}(hg:w.grownBy w' r)(hc:w.cell? p=ς v)(hf:w.frozen? p=false)(hne:ς p.block≠r):w'.frozen? p=false:=
 (World.frozen?_of_block (hg.block p.block (World.block_lt_of_cell? _ _ hc) hne)).trans hf
theorem B3.gr{w w':ο}{g:Nat}{x y z:VN}{r:Option Nat}(h:B3 w g x y z)(hg:w.grownBy w' r)(hne:ς g≠r):B3 w' g x y z:=
 ⟨Aw hg h.c0 hne,Aw hg h.c1 hne,Aw hg h.c2 hne,N6 hg h.c0 h.f0 hne,N6 hg h.c1 h.f1 hne,N6 hg h.c2 h.f2 hne⟩
theorem KH(w:ο)(b:Nat)(x y z:VN):w.grownBy (((w.setCell ⟨b,0,ν⟩ x).setCell ⟨b,1,ν⟩ y).setCell ⟨b,2,ν⟩ z) (ς b):=AQ (AQ (Ai w b 0 x) (Ai _ b 1 y)) (Ai _ b 2 z)
theorem Gs(w:ο)(g:Nat)(x y z x' y' z':VN)(h:B3 w g x y z) :
 (((w.setCell ⟨g,0,ν⟩ x').setCell ⟨g,1,ν⟩ y').setCell ⟨g,2,ν⟩ z').cell? ⟨g,0,ν⟩=ς x'/\(((w.setCell ⟨g,0,ν⟩ x').setCell ⟨g,1,ν⟩ y').setCell ⟨g,2,ν⟩ z').cell? ⟨g,1,ν⟩=ς y'/\(((w.setCell ⟨g,0,ν⟩ x').setCell ⟨g,1,ν⟩ y').setCell ⟨g,2,ν⟩ z').cell? ⟨g,2,ν⟩=ς z':=by
 have n01:(⟨g,0,ν⟩:Addr)≠⟨g,1,ν⟩:=λh=>by cases h
 have n02:(⟨g,0,ν⟩:Addr)≠⟨g,2,ν⟩:=λh=>by cases h
 have n12:(⟨g,1,ν⟩:Addr)≠⟨g,2,ν⟩:=λh=>by cases h
 have a0:=World.cell?_setCell_same (v:=x') (h:=h.c0) ..;have a1:=(World.cell?_setCell_other (v:=x') (h:=n01) ..).trans h.c1;have a2:=(World.cell?_setCell_other (v:=x') (h:=n02) ..).trans h.c2;have b0:=(World.cell?_setCell_other (v:=y') (h:=n01.symm) ..).trans a0;have b1:=World.cell?_setCell_same (v:=y') (h:=a1) ..;have b2:=(World.cell?_setCell_other (v:=y') (h:=n12) ..).trans a2;exact⟨(World.cell?_setCell_other (h:=n02.symm) ..).trans b0,(World.cell?_setCell_other (h:=n12.symm) ..).trans b1,World.cell?_setCell_same (h:=b2) ..⟩
theorem Cu.gw{w w':ο}{g B b:Nat}{ca:Option Addr}{cn cc z s:Nat}(h:Cu w g B ca cn cc z s)(hg:w.grownBy w' (ς b))(hb:B<=b)(hB:B<=w.heap.size):Cu w' g B ca cn cc z s:=
 h.gr hg (λk e=>by have:=VF e;omega) hB
theorem Dn(g B:Nat)(ca:Option Addr)(cn cc z s:Nat)(kd:Int)(w:ο)(h:Cu w g B ca cn cc z s)(hz:z<=1000000000000)(hB:B<=w.heap.size) :
 VK μ 88 #[ψ (ς ⟨g,0,ν⟩),ι κ kd] w λe w'=>∃ (o m:Int) (T:ByteArray) (z' s':Nat),e=ρ (χ #[ι κ o,ι κ m,τ T])/\G6 o m T=true/\z'<=z+1/\Cu w' g B ca cn cc z' s'/\w.grownBy w' (ς g):=by
 have hlt:=h.lt;have q0:=B3.new w (ι κ 0) (ι κ 0) (τ ⟨#[]⟩) 60;go_enter Tryz.func88,Tryz.ntmps88
 go_wp2_with (first | (go_at_call 122;refine(Ew g B ca cn cc z s _ (h.gr (AU w _ ν) (λ_ h=>by cases h) hB) (by omega) (by simp;omega)).mono ?_;rintro e w1 ⟨x,z1,s1,rfl,hxn,hz1',hC1,hG1⟩;have q1:=q0.gr hG1 (λe=>by have:=VF e;omega);obtain⟨c0,c1,c2,f0,f1,f2⟩:=id q1) | (go_at_call 123;refine(EU g B ca cn cc z s _ (h.gr (AU w _ ν) (λ_ h=>by cases h) hB) (by omega) (by simp;omega)).mono ?_;rintro e w1 ⟨T,z1,s1,rfl,hT,hz1',hC1,hG1⟩;have q1:=q0.gr hG1 (λe=>by have:=VF e;omega);obtain⟨c0,c1,c2,f0,f1,f2⟩:=id q1))
 · obtain⟨r0,r1,r2⟩:=Gs w1 w.heap.size _ _ _ (ι κ 1) (ι κ x) (τ ⟨#[]⟩) q1;exact VE (v:=χ #[ι κ 1,ι κ x,τ ⟨#[]⟩]) (by simp [results,Tryz.results88,go_sem,r0,r1,r2]) rfl ⟨1,x,⟨#[]⟩,z1,s1,rfl,U3 hxn,hz1',hC1.gw (KH _ _ _ _ _) hB (VX hB (P2 hG1).size),Ch (P2 hG1) (KH _ _ _ _ _) (λj e=>by have:=VF e;omega)⟩
 · obtain⟨r0,r1,r2⟩:=Gs w1 w.heap.size _ _ _ (ι κ 2) (ι κ 0) (τ T) q1;exact VE (v:=χ #[ι κ 2,ι κ 0,τ T]) (by simp [results,Tryz.results88,go_sem,r0,r1,r2]) rfl ⟨2,0,T,z1,s1,rfl,U2 hT,hz1',hC1.gw (KH _ _ _ _ _) hB (VX hB (P2 hG1).size),Ch (P2 hG1) (KH _ _ _ _ _) (λj e=>by have:=VF e;omega)⟩
theorem LN(w:ο)(A:Array VN)(t:TypeId)(n:Nat)(h:∀ k,k<n->∃ m s,A[k * 2]?=ς (τ s)/\A[k * 2+1]?=ς (ι κ m)/\BI s m=true):Co (w.alloc (γ A t)) (ς ⟨w.heap.size,0,ν⟩) n:=λk hk=>by
 obtain⟨m,s,e0,e1,hs⟩:=h k hk;exact⟨w.heap.size,0,m,s,rfl,by rw [VM];exact(ε _ _ _ _ _ _ (η w _)).trans e0,by rw [VM];exact(ε _ _ _ _ _ _ (η w _)).trans e1,hs⟩
theorem MP(x:ByteArray)(w:ο):VK μ 84 #[τ x] w λe w'=>∃ n:Nat,1<=n/\n<=3/\e=ρ (σ (ς ⟨w.heap.size,0,ν⟩) n n)/\Co w' (ς ⟨w.heap.size,0,ν⟩) n/\w.heap.size<w'.heap.size/\w.grownBy w' ν:=by
 go_enter Tryz.func84,Tryz.ntmps84
 go_wp2
 ·
  go_ret
  exact⟨3,by omega,by omega,rfl,LN w _ _ 3 (λk hk=>by
   rcases k with _ | _ | _ | k
   · exact⟨_,_,rfl,rfl,by kernel_rfl⟩
   · exact⟨_,_,rfl,rfl,by kernel_rfl⟩
   · exact⟨_,_,rfl,rfl,by kernel_rfl⟩
   · omega),by simp,AU w _ ν⟩
 ·
  go_ret
  exact⟨2,by omega,by omega,rfl,LN w _ _ 2 (λk hk=>by
   rcases k with _ | _ | k
   · exact⟨_,_,rfl,rfl,by kernel_rfl⟩
   · exact⟨_,_,rfl,rfl,by kernel_rfl⟩
   · omega),by simp,AU w _ ν⟩
 ·
  go_ret
  exact⟨1,by omega,by omega,rfl,LN w _ _ 1 (λk hk=>by
   rcases k with _ | k
   · exact⟨_,_,rfl,rfl,by kernel_rfl⟩
   · omega),by simp,AU w _ ν⟩
set_option maxHeartbeats 4000000
theorem Tryz.info42i:(Tryz.prog.info? 42).map (λi=>(i.zero,i.size,i.bytes))=ς (ς (χ #[ι κ 0,ι κ 0,τ ⟨#[]⟩]),3,32):=by kernel_rfl
theorem My(x:Int):0<=AW x/\AW x<=2:=by
 unfold AW;repeat' split
 all_goals omega
def Ot(i:Itm):List VN:=[ι κ i.o,ι κ i.m,τ i.s]
def Dl:Itm:=⟨0,0,⟨#[]⟩⟩
def Hh:List Itm->Int->Option Int
 | [],d=>ς d
 | i :: t,d=>if Fc i.o i.m i.s=true/\AW i.o<=d then Hh t (d+(1 - AW i.o)) else ν
theorem Gm:∀ (A B:List Itm) (d r:Int),Hh A d=ς r->Hh (A ++ B) d=Hh B r
 | [],B,d,r,h=>by
  simp only [Hh,Option.some.injEq] at h
  rw [h];rfl
 | i :: t,B,d,r,h=>by
  simp only [Hh,List.cons_append] at h ⊢
  split at h
  ·
   rename_i hc
   rw [if_pos hc];exact Gm t B _ _ h
  · cases h
theorem Oc:∀ (A:List Itm) (d r c:Int),0<=c->Hh A d=ς r->Hh A (d+c)=ς (r+c)
 | [],d,r,c,_,h=>by
  simp only [Hh,Option.some.injEq] at h ⊢
  rw [h]
 | i :: t,d,r,c,hc,h=>by
  simp only [Hh] at h ⊢
  split at h
  ·
   rename_i hk
   rw [if_pos ⟨hk.1,by omega⟩,show d+c+(1 - AW i.o)=d+(1 - AW i.o)+c by omega];exact Oc t _ _ _ hc h
  · cases h
theorem Oe(L:List Itm):∀ n d,n<=L.length->Hh (L.take n) 0=ς d->ex (λk=>L.getD k Dl) n=ς d
 | 0,d,_,h=>by simpa [Hh,ex] using h
 | n+1,d,hn,h=>by
  have e1:L.take (n+1)=L.take n ++ [L.getD n Dl]:=by
   rw [List.take_succ_eq_append_getElem (by omega)];simp [show n<L.length by omega]
  rcases h1:Hh (L.take n) 0 with _ | r
  ·
   exfalso
   have key:∀ (A B:List Itm) (d:Int),Hh A d=ν->Hh (A ++ B) d=ν:=by
    intro A B;induction A with
    | nil=>intro d h;simp [Hh] at h
    | cons i t ih=>
     intro d h;simp only [Hh,List.cons_append] at h ⊢
     split at h
     ·
      rename_i hc
      rw [if_pos hc];exact ih _ h
     ·
      rename_i hc
      rw [if_neg hc]
   rw [e1,key _ _ _ h1] at h;cases h
  ·
   have h2:=Oe L n r (by omega) h1;rw [e1,Gm _ _ _ _ h1] at h;simp only [Hh] at h
   rw [ex,h2];simp only
   split at h
   ·
    rename_i hc
    rw [if_pos ⟨(iR hc.1).1,hc.2⟩];simpa using h
   · cases h
theorem Od:∀ (L:List Itm) (d r:Int),Hh L d=ς r->∀ k,k<L.length->GK (L.getD k Dl).m
 | [],_,_,_,k,hk=>by simp at hk
 | i :: t,d,r,h,k,hk=>by
  simp only [Hh] at h
  split at h
  ·
   rename_i hc
   rcases k with _ | k
   · exact(iR hc.1).2
   · have:=Od t _ _ h k (by simpa using hk);simpa using this
  · cases h
def Ied(d:Int)(n:Nat)(xs:List VN):Prop:=0<=d/\∃ L:List Itm,L.length=n/\xs=L.flatMap Ot/\Hh L 0=ς d
theorem Ied.len{d:Int}{n:Nat}{xs:List VN}(h:Ied d n xs):xs.length=n * 3:=by
 obtain⟨-,L,rfl,rfl,-⟩:=h;induction L with
 | nil=>rfl
 | cons i t ih=>simp only [List.flatMap_cons,VJ,ih,List.length_cons,Ot,List.length_nil];omega
theorem Ied.cells1{d:Int}{n:Nat}{xs:List VN}(h:Ied d n xs):∀ u∈xs,u.oneCell'=true:=λu hu=>by
 obtain⟨-,L,-,rfl,-⟩:=h;obtain⟨i,-,hi⟩:=List.mem_flatMap.1 hu;simp only [Ot,List.mem_cons,List.not_mem_nil,or_false] at hi
 rcases hi with rfl | rfl | rfl <;> rfl
theorem Ied.app{d d':Int}{n m:Nat}{xs ys:List VN}(h:Ied d n xs)(k:Ied d' m ys):Ied (d+d') (n+m) (xs ++ ys):=by
 obtain⟨h0,L,rfl,rfl,h1⟩:=h;obtain⟨k0,M,rfl,rfl,k1⟩:=k;refine⟨by omega,L ++ M,by simp,by simp,?_⟩;rw [Gm _ _ _ _ h1];have:=Oc M 0 d' d h0 k1;rw [Int.zero_add,Int.add_comm] at this;exact this
theorem Ied.op{d:Int}{n:Nat}{xs:List VN}(h:Ied d n xs)(x y:Int)(s:ByteArray)(ho:Fc x y s=true)(ha:AW x<=d):Ied (d+(1 - AW x)) (n+1) (xs ++ [ι κ x,ι κ y,τ s]):=by
 obtain⟨h0,L,rfl,rfl,h1⟩:=h;refine⟨by have:=My x;omega,L ++ [⟨x,y,s⟩],by simp,by simp [Ot],?_⟩;rw [Gm _ _ _ _ h1];simp [Hh,ho,ha]
theorem Ied.one(o m:Int)(s:ByteArray)(h:Fc o m s=true)(ha:AW o=0):Ied 1 1 [ι κ o,ι κ m,τ s]:=by
 refine⟨by omega,[⟨o,m,s⟩],rfl,rfl,?_⟩;simp [Hh,h,ha]
theorem HU{w:ο}{base e g n cap:Nat}{xs:List VN}(h:w.ownsRow base e 3 (σ (ς ⟨g,0,ν⟩) n cap) n xs)(hx:Ied 1 n xs)(h1:1<=n)(hn:n<=15):Ie w (ς ⟨g,0,ν⟩) n:=by
 obtain⟨-,L,hl,rfl,he⟩:=hx;have hex:=Oe L n 1 (by omega) (by rw [List.take_of_length_le (by omega)];exact he);have hc:=h.cells (g:=g) rfl;have get:∀ (L:List Itm) k,k<L.length->(L.flatMap Ot)[k * 3]?=ς (ι κ (L.getD k Dl).o)/\(L.flatMap Ot)[k * 3+1]?=ς (ι κ (L.getD k Dl).m)/\(L.flatMap Ot)[k * 3+2]?=ς (τ (L.getD k Dl).s):=by
  intro L;induction L with
  | nil=>intro k hk;simp at hk
  | cons i t ih=>
   intro k hk;rcases k with _ | k
   · exact⟨rfl,rfl,rfl⟩
   ·
    obtain⟨a0,a1,a2⟩:=ih k (by simpa using hk);have sh:∀ j,((i :: t).flatMap Ot)[j+3]?=(t.flatMap Ot)[j]?:=λj=>by
     rw [List.flatMap_cons,List.getElem?_append_right (by simp [Ot])];simp [Ot]
    refine⟨?_,?_,?_⟩
    · rw [show (k+1) * 3=k * 3+3 by omega,sh];simpa using a0
    · rw [show (k+1) * 3+1=k * 3+1+3 by omega,sh];simpa using a1
    · rw [show (k+1) * 3+2=k * 3+2+3 by omega,sh];simpa using a2
 refine⟨λk=>L.getD k Dl,λk hk=>?_,?_,hn,λk hk=>Od L _ _ he k (by omega)⟩
 ·
  obtain⟨a0,a1,a2⟩:=get L k (by omega);have hsz:=Qb hex k hk;refine⟨g,0,rfl,?_,?_,?_,by show (L.getD k Dl).s.size<=_;omega⟩
  · rw [VM];have:=hc _ _ a0;rwa [GE] at this
  · rw [VM];have:=hc _ _ a1;rwa [GE] at this
  · rw [VM];have:=hc _ _ a2;rwa [GE] at this
 ·
  simp only [AI,AZ,hex,Bool.or_eq_true,decide_eq_true_eq,VO]
  exact Vb ⟨by simp [Bn];omega,trivial⟩
def Its(n:Nat)(xs:List VN):Prop:=xs.length=n * 3/\∀ k,k<n->∃ (o m:Int) (s:ByteArray),xs[k * 3]?=ς (ι κ o)/\xs[k * 3+1]?=ς (ι κ m)/\xs[k * 3+2]?=ς (τ s)/\G6 o m s=true
theorem Its.one(o m:Int)(s:ByteArray)(hs:G6 o m s=true):Its 1 [ι κ o,ι κ m,τ s]:=⟨rfl,λk hk=>by
 obtain rfl:k=0:=by omega
 exact⟨o,m,s,rfl,rfl,rfl,hs⟩⟩
theorem Its.app{n m:Nat}{xs ys:List VN}(h:Its n xs)(k:Its m ys):Its (n+m) (xs ++ ys):=⟨by rw [VJ,h.1,k.1];omega,λj hj=>by
 have h1:=h.1;by_cases hjn:j<n
 ·
  obtain⟨o,q,s,e0,e1,e2,hs⟩:=h.2 j hjn;refine⟨o,q,s,?_,?_,?_,hs⟩
  · rw [List.getElem?_append_left (by omega)];exact e0
  · rw [List.getElem?_append_left (by omega)];exact e1
  · rw [List.getElem?_append_left (by omega)];exact e2
 ·
  obtain⟨o,q,s,e0,e1,e2,hs⟩:=k.2 (j - n) (by omega);refine⟨o,q,s,?_,?_,?_,hs⟩
  · rw [List.getElem?_append_right (by omega),←e0];congr 1;omega
  · rw [List.getElem?_append_right (by omega),←e1];congr 1;omega
  · rw [List.getElem?_append_right (by omega),←e2];congr 1;omega⟩
theorem JA{w:ο}{base e g n cap:Nat}{xs:List VN}(h:w.ownsRow base e 3 (σ (ς ⟨g,0,ν⟩) n cap) n xs)(hx:Its n xs):It w (ς ⟨g,0,ν⟩) n:=λk hk=>by
 obtain⟨o,m,s,e0,e1,e2,hs⟩:=hx.2 k hk;have hc:=h.cells (g:=g) rfl;refine⟨g,0,o,m,s,rfl,?_,?_,?_,hs⟩
 · rw [VM];have:=hc _ _ e0;rwa [GE] at this
 · rw [VM];have:=hc _ _ e1;rwa [GE] at this
 · rw [VM];have:=hc _ _ e2;rwa [GE] at this
def pb:Nat->Nat
 | 0=>5
 | f+1=>5+2 * pb f
def nb:Nat->Nat
 | 0=>1
 | f+1=>2 * nb f+1
theorem MB{w w':ο}{a:Option Addr}{n g:Nat}(h:Co w a n)(hg:w.grownBy w' (ς g))(ha:∀ b off,a=ς ⟨b,off,ν⟩->b≠g):Co w' a n:=λk hk=>by
 obtain⟨b,off,m,s,e,h0,h1,hs⟩:=h k hk;exact⟨b,off,m,s,e,Aw hg h0 (λe'=>ha b off e (VF e')),Aw hg h1 (λe'=>ha b off e (VF e')),hs⟩
theorem Cu.al{w:ο}{g B:Nat}{ca:Option Addr}{cn cc z s:Nat}(h:Cu w g B ca cn cc z s)(hB:B<=w.heap.size)(o:Obj):Cu (w.alloc o) g B ca cn cc z s:=h.gr (AU w o ν) (λ_ h=>by cases h) hB
theorem Mc(w:ο)(base:Nat)(o m:Int)(t:ByteArray)(hb:base<=w.heap.size):(w.alloc (γ #[ι κ o,ι κ m,τ t] 42)).ownsRow base 42 3 (σ (ς ⟨w.heap.size,0,ν⟩) 1 1) 1 [ι κ o,ι κ m,τ t]:=
 World.ownsRow_lit w #[ι κ o,ι κ m,τ t] 1 hb (by simp [maxLen]) rfl
theorem Sq(w:ο)(Z:Obj)(base:Nat)(o m:Int)(t:ByteArray)(hb:base<=w.heap.size):((w.alloc Z).alloc (γ #[ι κ o,ι κ m,τ t] 42)).ownsRow base 42 3 (σ (ς ⟨w.heap.size+1,0,ν⟩) 1 1) 1 [ι κ o,ι κ m,τ t]:=by
 have h:=Mc (w.alloc Z) base o m t (by simp;omega);simpa using h
theorem Its.cells1{n:Nat}{xs:List VN}(h:Its n xs):∀ u∈xs,u.oneCell'=true:=λu hu=>by
 obtain⟨i,hi,rfl⟩:=List.mem_iff_getElem.1 hu;have hl:=h.1;obtain⟨o,m,s,e0,e1,e2,-⟩:=h.2 (i / 3) (by omega);have hm:=Nat.mod_lt i (show 0<3 by omega);have hi':xs[i]?=ς xs[i]:=List.getElem?_eq_getElem hi;rcases (show i=i / 3 * 3∨i=i / 3 * 3+1∨i=i / 3 * 3+2 by omega) with e | e | e
 · rw [←e,hi'] at e0;rw [VF e0];rfl
 · rw [←e,hi'] at e1;rw [VF e1];rfl
 · rw [←e,hi'] at e2;rw [VF e2];rfl
theorem UT:pb 0=5:=rfl
theorem T3(f:Nat):pb (f+1)=5+2 * pb f:=rfl
theorem Ut(f:Nat):nb (f+1)=2 * nb f+1:=rfl
theorem I4:∀ f,1<=nb f
 | 0=>by show 1<=1;omega
 | f+1=>by rw [Ut];omega
theorem Lk{s:ByteArray}{m:Int}(h:BI s m=true):Fc 3 0 s=true:=by
 simp only [BI,VO] at h
 exact T4 (by simp [Aq,h.1])
theorem Lj{x:Int}(h:nR x=true):Fc 1 x ⟨#[]⟩=true:=U6 h
theorem Li{s:ByteArray}(h:A6 s=true):Fc 2 0 s=true:=T4 (by simp [Aq,h])
theorem RM{x:Int}(h:Bn x 4 13=true):Fc x 0 ⟨#[]⟩=true:=by
 have z:(⟨#[]⟩:ByteArray).size=0:=rfl;exact T4 (by simp [Aq,h,z])
theorem JM(g B:Nat)(ca:Option Addr)(cn cc:Nat)(d:Int)(z s:Nat)(a:Option Addr)(n c:Nat)(kd:Int)(w:ο)(hd:d=3)(h:Cu w g B ca cn cc z s)(hz:z<=100000000000)(hB:B<=w.heap.size)(hco:Co w a n)(ha:∀ b off,a=ς ⟨b,off,ν⟩->b≠g)(hn1:1<=n)(hn:n<=100) :
 VK μ 87 #[ψ (ς ⟨g,0,ν⟩),σ a n c,ι κ kd,ι κ d] w λe w'=>∃ (m gz cap z' s':Nat) (xs:List VN),e=ρ (σ (ς ⟨gz,0,ν⟩) m cap)/\1<=m/\m<=nb 0/\Ied 1 m xs/\w'.ownsRow w.heap.size 42 3 (σ (ς ⟨gz,0,ν⟩) m cap) m xs/\z'<=z+pb 0/\Cu w' g B ca cn cc z' s'/\w.grownBy w' (ς g):=by
 subst hd;have hlt:=h.lt;have hC1:=h;have hG1:=g0 w (ς g);obtain⟨z1,hz1e⟩:∃ z1,z=z1:=⟨_,rfl⟩;obtain⟨s1,hs1e⟩:∃ s1,s=s1:=⟨_,rfl⟩;rw [hz1e,hs1e] at hC1;go_enter Tryz.func87,Tryz.ntmps87
 go_wp2;go_loopw [8,9,10] (λ_ i _ wr=>∃ j zz ss:Nat,j<=3/\i=ι κ j/\Cu wr g B ca cn cc zz ss/\zz<=z1+j/\w.grownBy wr (ς g)) (λ_ i _ _=>3 - (VQ i).toNat)
 case atStart=>exact⟨0,z1,s1,by omega,rfl,hC1,by omega,hG1⟩
 case round=>
  obtain⟨j,zz,ss,hj,rfl,hC,hzz,hG⟩:=hrel;have hsr:=hG.size;by_cases hj3:j<3
  ·
   go_wp2_with (go_at_call 39;refine(Az g B ca cn cc zz ss _ hC (by omega) _ (by omega)).mono ?_;rintro e w2 ⟨r,z2,s2,rfl,hr0,hr1,-,hz2,hC2,hG2⟩;obtain⟨k,rfl⟩:∃ k:Nat,r=k:=⟨r.toNat,by omega⟩;have hG3:=AQ hG hG2;have hs3:=hG3.size;obtain⟨b,off,m,S,rfl,c0,c1,hS⟩:=MB hco hG3 ha k (by omega))
   ·
    go_ret
    exact⟨1,_,_,z2,s2,_,rfl,by omega,by show 1<=1;omega,Ied.one _ _ _ (Lk hS) rfl,Sq w2 _ w.heap.size _ _ _ (by omega),by rw [UT];omega,(hC2.al (by omega) _).al (by simp;omega) _,AQ (AQ hG3 (AU _ _ _)) (AU _ _ _)⟩
   ·
    go_roundw
    case rel=>exact⟨j+1,z2,s2,by omega,by go_num,hC2.al (by omega) _,by omega,AQ hG3 (AU _ _ _)⟩
    case measure=>simp [VQ];omega
  ·
   go_wp2_with (first | (go_at_call 122;refine(Ew g B ca cn cc zz ss _ hC (by omega) (by omega)).mono ?_;rintro e w2 ⟨x,z2,s2,rfl,hxn,hz2,hC2,hG2⟩;have hG3:=AQ hG hG2;have hs3:=hG3.size) | (go_at_call 123;refine(EU g B ca cn cc zz ss _ hC (by omega) (by omega)).mono ?_;rintro e w2 ⟨T,z2,s2,rfl,hT,hz2,hC2,hG2⟩;have hG3:=AQ hG hG2;have hs3:=hG3.size))
   ·
    go_ret
    exact⟨1,_,_,z2,s2,_,rfl,by omega,by show 1<=1;omega,Ied.one _ _ _ (Lj hxn) rfl,Mc w2 w.heap.size _ _ _ (by omega),by rw [UT];omega,hC2.al (by omega) _,AQ hG3 (AU _ _ _)⟩
   ·
    go_ret
    exact⟨1,_,_,z2,s2,_,rfl,by omega,by show 1<=1;omega,Ied.one _ _ _ (Li hT) rfl,Mc w2 w.heap.size _ _ _ (by omega),by rw [UT];omega,hC2.al (by omega) _,AQ hG3 (AU _ _ _)⟩
theorem RI(a b:Int)(s:ByteArray):∀ u∈[ι κ a,ι κ b,τ s],u.oneCell'=true:=λu hu=>by
 simp only [List.mem_cons,List.not_mem_nil,or_false] at hu
 rcases hu with rfl | rfl | rfl <;> rfl
theorem Rt{x r:Int}(h:Bn x 4 13=true)(hr:AW x=r)(h2:¬r=2):r=1:=by
 simp only [Bn,VO,decide_eq_true_eq] at h
 subst hr;unfold AW at h2 ⊢;split
 · omega
 ·
  split
  · rfl
  ·
   rename_i a b
   rw [if_neg a,if_neg b] at h2;exact absurd rfl h2
theorem Dg(g B:Nat)(ca:Option Addr)(cn cc:Nat)(f:Nat):f<=3->∀ (d:Int) (z s:Nat) (a:Option Addr) (n c:Nat) (kd:Int) (w:ο),d+f=3->Cu w g B ca cn cc z s->z+200 * f<=10000000000->B<=w.heap.size->Co w a n->(∀ b off,a=ς ⟨b,off,ν⟩->b≠g)->1<=n->n<=100 ->
 VK μ 87 #[ψ (ς ⟨g,0,ν⟩),σ a n c,ι κ kd,ι κ d] w λe w'=>∃ (m gz cap z' s':Nat) (xs:List VN),e=ρ (σ (ς ⟨gz,0,ν⟩) m cap)/\1<=m/\m<=nb f/\Ied 1 m xs/\w'.ownsRow w.heap.size 42 3 (σ (ς ⟨gz,0,ν⟩) m cap) m xs/\z'<=z+pb f/\Cu w' g B ca cn cc z' s'/\w.grownBy w' (ς g):=by
 induction f with
 | zero=>
  intro hf d z s a n c kd w hd h hz hB hco ha hn1 hn;exact JM g B ca cn cc d z s a n c kd w (by omega) h (by omega) hB hco ha hn1 hn
 | succ f ih=>
  intro hf d z s a n c kd w hd h hz hB hco ha hn1 hn;obtain⟨i0,hi,hi0,hi1,hi2⟩:=info_parts Tryz.info42i;have HI:Hid (Tryz.prog.info? 42=ς i0):=hi;clear hi;have hlt:=h.lt;have hd2:d<=2:=by omega
  have hd0:-1<=d:=by omega
  have hpf:pb f<=100:=by
   rcases f with _ | _ | _ | f
   · decide
   · decide
   · decide
   · omega
  go_enter Tryz.func87,Tryz.ntmps87
  go_upto_if 51 with (go_at_call 39;refine(Az g B ca cn cc z s _ h (by omega) _ (by omega)).mono ?_;rintro e w1 ⟨r,z1,s1,rfl,hr0,hr1,-,hz1,hC1,hG1⟩)
  ·
   go_loopw [8,9,10] (λ_ i _ wr=>∃ j zz ss:Nat,j<=3/\i=ι κ j/\Cu wr g B ca cn cc zz ss/\zz<=z1+j/\w.grownBy wr (ς g)) (λ_ i _ _=>3 - (VQ i).toNat)
   case atStart=>exact⟨0,z1,s1,by omega,rfl,hC1,by omega,hG1⟩
   case round=>
    obtain⟨j,zz,ss,hj,rfl,hC,hzz,hG⟩:=hrel;have hsr:=hG.size;by_cases hj3:j<3
    ·
     go_wp2_with (go_at_call 39;refine(Az g B ca cn cc zz ss _ hC (by omega) _ (by omega)).mono ?_;rintro e w2 ⟨r,z2,s2,rfl,hr0,hr1,-,hz2,hC2,hG2⟩;obtain⟨k,rfl⟩:∃ k:Nat,r=k:=⟨r.toNat,by omega⟩;have hG3:=AQ hG hG2;have hs3:=hG3.size;obtain⟨b,off,m,S,rfl,c0,c1,hS⟩:=MB hco hG3 ha k (by omega))
     ·
      go_ret
      exact⟨1,_,_,z2,s2,_,rfl,by omega,I4 _,Ied.one _ _ _ (Lk hS) rfl,Sq w2 _ w.heap.size _ _ _ (by omega),by rw [T3];omega,(hC2.al (by omega) _).al (by simp;omega) _,AQ (AQ hG3 (AU _ _ _)) (AU _ _ _)⟩
     ·
      go_roundw
      case rel=>exact⟨j+1,z2,s2,by omega,by go_num,hC2.al (by omega) _,by omega,AQ hG3 (AU _ _ _)⟩
      case measure=>simp [VQ];omega
    ·
     go_wp2_with (first | (go_at_call 122;refine(Ew g B ca cn cc zz ss _ hC (by omega) (by omega)).mono ?_;rintro e w2 ⟨x,z2,s2,rfl,hxn,hz2,hC2,hG2⟩;have hG3:=AQ hG hG2;have hs3:=hG3.size) | (go_at_call 123;refine(EU g B ca cn cc zz ss _ hC (by omega) (by omega)).mono ?_;rintro e w2 ⟨T,z2,s2,rfl,hT,hz2,hC2,hG2⟩;have hG3:=AQ hG hG2;have hs3:=hG3.size))
     ·
      go_ret
      exact⟨1,_,_,z2,s2,_,rfl,by omega,I4 _,Ied.one _ _ _ (Lj hxn) rfl,Mc w2 w.heap.size _ _ _ (by omega),by rw [T3];omega,hC2.al (by omega) _,AQ hG3 (AU _ _ _)⟩
     ·
      go_ret
      exact⟨1,_,_,z2,s2,_,rfl,by omega,I4 _,Ied.one _ _ _ (Li hT) rfl,Mc w2 w.heap.size _ _ _ (by omega),by rw [T3];omega,hC2.al (by omega) _,AQ hG3 (AU _ _ _)⟩
  have hs1:=hG1.size;have hfst:True:=trivial;go_cut [11,12] (λo i wx=>∃ (x y:Int) (zc sc:Nat),o=ι κ x/\i=ι κ y/\Cu wx g B ca cn cc zc sc/\zc<=z+3/\w.grownBy wx (ς g)/\Bn x 4 13=true)
  case first=>
   go_wp2_with (first | (go_at_call 39;have _h:=hfst;refine(Az g B ca cn cc z1 s1 _ (hC1.al (by omega) _) (by omega) _ (by omega)).mono ?_;rintro e w2 ⟨r2,z2,s2,rfl,hr20,hr21,-,hz2,hC2,hG2⟩;obtain⟨k,rfl⟩:∃ k:Nat,r2=k:=⟨r2.toNat,by omega⟩;obtain⟨op,hop,hopb⟩:=GV (λx=>Bn x 4 13) hG2 (by omega) (by kernel_rfl) k (by show k<11;omega);have HOB:Hid (Bn op 4 13=true):=hopb;clear hopb;replace hG2:=AQ hG1 (P2 hG2);clear hfst) | (go_at_call 39;refine(Az g B ca cn cc z2 s2 _ hC2 (by omega) _ (by omega)).mono ?_;rintro e w3 ⟨r3,z3,s3,rfl,hr30,hr31,-,hz3,hC3,hG3⟩;replace hG3:=AQ hG2 hG3))
   all_goals go_meet
   all_goals first | exact⟨_,_,z3,s3,rfl,rfl,hC3,by omega,hG3,by first | exact HOB.out | kernel_rfl⟩ | exact⟨_,_,z2,s2,rfl,rfl,hC2,by omega,hG2,by first | exact HOB.out | kernel_rfl⟩ | exact⟨_,_,z1,s1,rfl,rfl,hC1,by omega,hG1,by kernel_rfl⟩
  case rest=>
   obtain⟨x,ic,zc,sc,rfl,rfl,hCc,hzc,hGc,hxb⟩:=hcut;have HXB:Hid (Bn x 4 13=true):=hxb;clear hxb;have hsc:=hGc.size;have hcoc:=MB hco hGc ha;have hone:True:=trivial;go_upto_if 80 with (first | (go_at_call 87;have _h:=hone;refine(ih (by omega) (d+1) zc sc a n c ic _ (by omega) hCc (by omega) (by omega) hcoc ha hn1 hn).mono ?_;rintro e w3 ⟨m1,g1,cap1,z3,s3,xs1,rfl,hm1,hm1',hI1,hO1,hz3,hC3,hG3⟩;replace hG3:=AQ hGc hG3;have hs3:=hG3.size;clear hone) | (go_at_call 56;refine(Ba x _).mono ?_;rintro e w4 ⟨rfl,rfl⟩;obtain⟨r,hrx⟩:∃ r,AW x=r:=⟨_,rfl⟩;rw [hrx];have HR:Hid (AW x=r):=hrx;clear hrx))
   go_cut [13] (λo wx=>∃ (m gz cap z' s':Nat) (xs:List VN),o=σ (ς ⟨gz,0,ν⟩) m cap/\1<=m/\m<=2 * nb f/\Ied (AW x) m xs/\wx.ownsRow w.heap.size 42 3 (σ (ς ⟨gz,0,ν⟩) m cap) m xs/\z'<=z+3+2 * pb f/\Cu wx g B ca cn cc z' s'/\w.grownBy wx (ς g))
   case first=>
    have hnbf:=I4 f;have hnbf8:nb f<=100:=by
     rcases f with _ | _ | _ | f
     · decide
     · decide
     · decide
     · omega
    by_cases hr2:r=2
    rotate_left
    ·
     go_wp2;all_goals go_meet
     exact⟨m1,g1,cap1,z3,s3,xs1,rfl,hm1,by omega,by rw [HR.out,Rt HXB.out HR.out hr2];exact hI1,hO1.mono hsc,by omega,hC3,hG3⟩
    go_wp2_with (first | (go_at_call 87;refine(ih (by omega) (d+1) z3 s3 a n c ic _ (by omega) hC3 (by omega) (by omega) (MB hco hG3 ha) ha hn1 hn).mono ?_;rintro e w5 ⟨m2,g2,cap2,z5,s5,xs2,rfl,hm2,hm2',hI2,hO2,hz5,hC5,hG5⟩;replace hO1:=AS hO1 hG5 (by omega);replace hG5:=AQ hG3 hG5;have hs5:=hG5.size) | (at_builtin;refine VR _ rfl _ _ _ rfl w.heap.size 42 i0 (χ #[ι κ 0,ι κ 0,τ ⟨#[]⟩]) 3 32 Tryz.underlying31 HI.out hi0 hi1 hi2 rfl (by omega) _ m1 _ rfl (hO1.mono hsc) ⟨g2,0,ν⟩ m2 cap2 xs2 rfl hI2.len (λj u hu=>hO2.cells rfl j u hu) hI2.cells1 (by omega) (by unfold maxLen;omega) (by omega) (by omega) _ rfl ?_;intro g6 cap6 w6 hO6 hgrow6 hat6 hlt6;replace hgrow6:w5.grownBy w6 (ς g1):=hgrow6;have hge1:=A3 hO1;have hC6:=hC5.gw hgrow6 (by omega) (by omega);have hG6:=Ch hG5 hgrow6 (λq hq=>by have e:g1=q:=VF hq;omega)))
    all_goals go_meet
    exact⟨m1+m2,g6,cap6,z5,s5,xs1 ++ xs2,rfl,by omega,by omega,by rw [HR.out,hr2];exact hI1.app hI2,hO6,by omega,hC6,hG6⟩
   case rest=>
    obtain⟨m1,g1,cap1,z7,s7,xs1,rfl,hm1,hm1',hI1,hO1,hz7,hC7,hG7⟩:=hcut;have hs7:=hG7.size;have hnbf8:nb f<=100:=by
     rcases f with _ | _ | _ | f
     · decide
     · decide
     · decide
     · omega
    go_wp2_with (at_builtin;refine VR _ rfl _ _ _ rfl w.heap.size 42 i0 (χ #[ι κ 0,ι κ 0,τ ⟨#[]⟩]) 3 32 Tryz.underlying31 HI.out hi0 hi1 hi2 rfl (by omega) _ m1 _ rfl (hO1.alloc _) ⟨wc.heap.size,0,ν⟩ 1 1 [ι κ x,ι κ 0,τ ⟨#[]⟩] rfl rfl (VI (η wc _)) (RI _ _ _) (by omega) (by unfold maxLen;omega) (by omega) (by simp;omega) _ rfl ?_;intro g8 cap8 w8 hO8 hgrow8 hat8 hlt8;replace hgrow8:(wc.alloc (γ #[ι κ x,ι κ 0,τ ⟨#[]⟩] 42)).grownBy w8 (ς g1):=hgrow8;have hge1:=A3 hO1;have hC8:=(hC7.al (by omega) _).gw hgrow8 (by omega) (by simp;omega);have hG8:=Ch (AQ hG7 (AU _ _ _)) hgrow8 (λq hq=>by have e:g1=q:=VF hq;omega))
    go_ret
    exact⟨m1+1,g8,cap8,z7,s7,_,rfl,by omega,by rw [Ut];omega,by have q:=hI1.op x 0 ⟨#[]⟩ (RM HXB.out) (Int.le_refl _);rwa [show AW x+(1 - AW x)=1 by omega] at q,hO8,by rw [T3];omega,hC8,hG8⟩
structure W8(w:ο)(b:Nat)(p:SP):Prop where
 q:Bj w b p
 f:∀ i,i<8->w.frozen? ⟨b,i,ν⟩=false
theorem RY{w w':ο}{b:Nat}{p:SP}{r:Option Nat}(h:Bj w b p)(hg:w.grownBy w' r)(hne:ς b≠r):Bj w' b p:=
 ⟨Aw hg h.c0 hne,Aw hg h.c1 hne,Aw hg h.c2 hne,Aw hg h.c3 hne,Aw hg h.c4 hne,Aw hg h.c5 hne,Aw hg h.c6 hne,Aw hg h.c7 hne⟩
theorem W8.gr{w w':ο}{b:Nat}{p:SP}{r:Option Nat}(h:W8 w b p)(hg:w.grownBy w' r)(hne:ς b≠r):W8 w' b p:=
 ⟨RY h.q hg hne,λi hi=>(World.frozen?_of_block (hg.block b (World.block_lt_of_cell? _ _ h.q.c0) hne)).trans (h.f i hi)⟩
theorem W8.new(w:ο)(p:SP)(t:TypeId):W8 (w.alloc (γ p.cs t)) w.heap.size p:=⟨Bj.new w p t,λi _=>ζ _ _ i _ _ (η w _)⟩
theorem Ef(w:ο)(b i:Nat)(v u:VN)(h:w.cell? ⟨b,i,ν⟩=ς u):(w.setCell ⟨b,i,ν⟩ v).cell? ⟨b,i,ν⟩=ς v:=World.cell?_setCell_same (h:=h) ..
theorem AO(w:ο)(b i j:Nat)(v u:VN)(hne:i≠j)(h:w.cell? ⟨b,j,ν⟩=ς u):(w.setCell ⟨b,i,ν⟩ v).cell? ⟨b,j,ν⟩=ς u:=(World.cell?_setCell_other (h:=λe=>hne (by cases e;rfl)) ..).trans h
theorem W8.s0{w:ο}{b:Nat}{p:SP}(h:W8 w b p)(k:Int):W8 (w.setCell ⟨b,0,ν⟩ (ι κ k)) b { p with k:=k }:=
 ⟨⟨Ef _ _ _ _ _ h.q.c0,AO _ _ 0 1 _ _ (by omega) h.q.c1,AO _ _ 0 2 _ _ (by omega) h.q.c2,AO _ _ 0 3 _ _ (by omega) h.q.c3,AO _ _ 0 4 _ _ (by omega) h.q.c4,AO _ _ 0 5 _ _ (by omega) h.q.c5,AO _ _ 0 6 _ _ (by omega) h.q.c6,AO _ _ 0 7 _ _ (by omega) h.q.c7⟩,λi hi=>by simpa using h.f i hi⟩
theorem W8.s2{w:ο}{b:Nat}{p:SP}(h:W8 w b p)(a:Option Addr)(n c:Nat):W8 (w.setCell ⟨b,2,ν⟩ (σ a n c)) b { p with a2:=a,n2:=n,c2:=c }:=
 ⟨⟨AO _ _ 2 0 _ _ (by omega) h.q.c0,AO _ _ 2 1 _ _ (by omega) h.q.c1,Ef _ _ _ _ _ h.q.c2,AO _ _ 2 3 _ _ (by omega) h.q.c3,AO _ _ 2 4 _ _ (by omega) h.q.c4,AO _ _ 2 5 _ _ (by omega) h.q.c5,AO _ _ 2 6 _ _ (by omega) h.q.c6,AO _ _ 2 7 _ _ (by omega) h.q.c7⟩,λi hi=>by simpa using h.f i hi⟩
theorem W8.s3{w:ο}{b:Nat}{p:SP}(h:W8 w b p)(a:Option Addr)(n c:Nat):W8 (w.setCell ⟨b,3,ν⟩ (σ a n c)) b { p with a3:=a,n3:=n,c3:=c }:=
 ⟨⟨AO _ _ 3 0 _ _ (by omega) h.q.c0,AO _ _ 3 1 _ _ (by omega) h.q.c1,AO _ _ 3 2 _ _ (by omega) h.q.c2,Ef _ _ _ _ _ h.q.c3,AO _ _ 3 4 _ _ (by omega) h.q.c4,AO _ _ 3 5 _ _ (by omega) h.q.c5,AO _ _ 3 6 _ _ (by omega) h.q.c6,AO _ _ 3 7 _ _ (by omega) h.q.c7⟩,λi hi=>by simpa using h.f i hi⟩
theorem W8.s4{w:ο}{b:Nat}{p:SP}(h:W8 w b p)(t:ByteArray):W8 (w.setCell ⟨b,4,ν⟩ (τ t)) b { p with col:=t }:=
 ⟨⟨AO _ _ 4 0 _ _ (by omega) h.q.c0,AO _ _ 4 1 _ _ (by omega) h.q.c1,AO _ _ 4 2 _ _ (by omega) h.q.c2,AO _ _ 4 3 _ _ (by omega) h.q.c3,Ef _ _ _ _ _ h.q.c4,AO _ _ 4 5 _ _ (by omega) h.q.c5,AO _ _ 4 6 _ _ (by omega) h.q.c6,AO _ _ 4 7 _ _ (by omega) h.q.c7⟩,λi hi=>by simpa using h.f i hi⟩
theorem W8.s5{w:ο}{b:Nat}{p:SP}(h:W8 w b p)(a:Option Addr)(n c:Nat):W8 (w.setCell ⟨b,5,ν⟩ (σ a n c)) b { p with a5:=a,n5:=n,c5:=c }:=
 ⟨⟨AO _ _ 5 0 _ _ (by omega) h.q.c0,AO _ _ 5 1 _ _ (by omega) h.q.c1,AO _ _ 5 2 _ _ (by omega) h.q.c2,AO _ _ 5 3 _ _ (by omega) h.q.c3,AO _ _ 5 4 _ _ (by omega) h.q.c4,Ef _ _ _ _ _ h.q.c5,AO _ _ 5 6 _ _ (by omega) h.q.c6,AO _ _ 5 7 _ _ (by omega) h.q.c7⟩,λi hi=>by simpa using h.f i hi⟩
theorem W8.s6{w:ο}{b:Nat}{p:SP}(h:W8 w b p)(a:Option Addr)(n c:Nat):W8 (w.setCell ⟨b,6,ν⟩ (σ a n c)) b { p with a6:=a,n6:=n,c6:=c }:=
 ⟨⟨AO _ _ 6 0 _ _ (by omega) h.q.c0,AO _ _ 6 1 _ _ (by omega) h.q.c1,AO _ _ 6 2 _ _ (by omega) h.q.c2,AO _ _ 6 3 _ _ (by omega) h.q.c3,AO _ _ 6 4 _ _ (by omega) h.q.c4,AO _ _ 6 5 _ _ (by omega) h.q.c5,Ef _ _ _ _ _ h.q.c6,AO _ _ 6 7 _ _ (by omega) h.q.c7⟩,λi hi=>by simpa using h.f i hi⟩
theorem W8.s7{w:ο}{b:Nat}{p:SP}(h:W8 w b p)(a:Option Addr)(n c:Nat):W8 (w.setCell ⟨b,7,ν⟩ (σ a n c)) b { p with a7:=a,n7:=n,c7:=c }:=
 ⟨⟨AO _ _ 7 0 _ _ (by omega) h.q.c0,AO _ _ 7 1 _ _ (by omega) h.q.c1,AO _ _ 7 2 _ _ (by omega) h.q.c2,AO _ _ 7 3 _ _ (by omega) h.q.c3,AO _ _ 7 4 _ _ (by omega) h.q.c4,AO _ _ 7 5 _ _ (by omega) h.q.c5,AO _ _ 7 6 _ _ (by omega) h.q.c6,Ef _ _ _ _ _ h.q.c7⟩,λi hi=>by simpa using h.f i hi⟩
def KA(x:Nat)(w w':ο):Prop:=∀ (q:Addr) (v:VN),x<q.block->w.cell? q=ς v->w'.cell? q=ς v
theorem KA.gr{x:Nat}{w w':ο}{r:Option Nat}(h:w.grownBy w' r)(hr:∀ k,r=ς k->k<=x):KA x w w':=λq v hq hc=>Aw h hc (λe=>by have:=hr q.block e.symm;omega)
theorem KA.set{x:Nat}(w:ο)(b i:Nat)(v:VN)(hb:b<=x):KA x w (w.setCell ⟨b,i,ν⟩ v):=KA.gr (Ai w b i v) (λk e=>by have:=VF e;omega)
theorem KA.trans{x:Nat}{a b c:ο}(h:KA x a b)(k:KA x b c):KA x a c:=λq v hq hc=>k q v hq (h q v hq hc)
def IE(x:Nat)(a:Option Addr):Prop:=∀ b off,a=ς ⟨b,off,ν⟩->x<b
theorem Fs(x:Nat):IE x ν:=λ_ _ e=>by cases e
theorem BG{x b off:Nat}(h:x<b):IE x (ς ⟨b,off,ν⟩):=λb' off' e=>by cases e;exact h
theorem It.ka{x:Nat}{w w':ο}{a:Option Addr}{n:Nat}(h:It w a n)(hk:KA x w w')(ha:IE x a):It w' a n:=λk hkn=>by
 obtain⟨b,off,o,m,s,e,h0,h1,h2,hs⟩:=h k hkn;exact⟨b,off,o,m,s,e,hk _ _ (ha _ _ e) h0,hk _ _ (ha _ _ e) h1,hk _ _ (ha _ _ e) h2,hs⟩
theorem Ie.ka{x:Nat}{w w':ο}{a:Option Addr}{n:Nat}(h:Ie w a n)(hk:KA x w w')(ha:IE x a):Ie w' a n:=by
 obtain⟨I,h1,h2⟩:=h;refine⟨I,λk hkn=>?_,h2⟩;obtain⟨b,off,e,c0,c1,c2,hs⟩:=h1 k hkn;exact⟨b,off,e,hk _ _ (ha _ _ e) c0,hk _ _ (ha _ _ e) c1,hk _ _ (ha _ _ e) c2,hs⟩
theorem Co.ka{x:Nat}{w w':ο}{a:Option Addr}{n:Nat}(h:Co w a n)(hk:KA x w w')(ha:IE x a):Co w' a n:=λk hkn=>by
 obtain⟨b,off,m,s,e,h0,h1,hs⟩:=h k hkn;exact⟨b,off,m,s,e,hk _ _ (ha _ _ e) h0,hk _ _ (ha _ _ e) h1,hs⟩
def Of(x:Nat)(w:ο)(a:Option Addr)(n:Nat):Prop:=
 ∀ k,k<n->∃ b off i m c,a=ς ⟨b,off,ν⟩/\x<b/\IE x i/\w.cell? ⟨b,off+k,ν⟩=ς (σ i m c)/\Ie w i m/\1<=m
theorem Of.ka{x:Nat}{w w':ο}{a:Option Addr}{n:Nat}(h:Of x w a n)(hk:KA x w w'):Of x w' a n:=λk hkn=>by
 obtain⟨b,off,i,m,c,e,hb,hi,h0,hit,hm⟩:=h k hkn;exact⟨b,off,i,m,c,e,hb,hi,hk _ _ hb h0,hit.ka hk hi,hm⟩
structure Sf(x:Nat)(w:ο)(p:SP):Prop where
 tb:AM p.tb=true
 col:p.col.size=0∨AM p.col=true
 co:Co w p.a2 p.n2
 va:It w p.a3 p.n3
 ex:Ie w p.a5 p.n5
 wh:Ie w p.a6 p.n6
 ou:Of x w p.a7 p.n7
 l2:p.n2<=100
 l3:p.n3<=100
 l5:p.n5<=100
 l6:p.n6<=100
 l7:p.n7<=3
 f2:IE x p.a2
 f3:IE x p.a3
 f5:IE x p.a5
 f6:IE x p.a6
theorem Sf.ka{x:Nat}{w w':ο}{p:SP}(h:Sf x w p)(hk:KA x w w'):Sf x w' p:=
 ⟨h.tb,h.col,h.co.ka hk h.f2,h.va.ka hk h.f3,h.ex.ka hk h.f5,h.wh.ka hk h.f6,h.ou.ka hk,h.l2,h.l3,h.l5,h.l6,h.l7,h.f2,h.f3,h.f5,h.f6⟩
theorem Sf.sm{x:Nat}{w:ο}{p:SP}(h:Sf x w p):Sm w p:=
 ⟨h.tb,h.col,h.co,h.va,h.ex,h.wh,λk hk=>by obtain⟨b,off,i,m,c,e,-,-,h0,hi,hm⟩:=h.ou k hk;exact⟨b,off,i,m,c,e,h0,hi,hm⟩,h.l2,h.l3,h.l7⟩
def p0(k:Int)(tb:ByteArray):SP:=⟨k,tb,ν,0,0,ν,0,0,⟨#[]⟩,ν,0,0,ν,0,0,ν,0,0⟩
theorem QM(x:Nat)(w:ο)(k:Int)(tb:ByteArray)(h:AM tb=true):Sf x w (p0 k tb):=
 ⟨h,VV rfl,λ_ h=>absurd h (Vc _),λ_ h=>absurd h (Vc _),JC _ _,JC _ _,λ_ h=>absurd h (Vc _),VS _,VS _,VS _,VS _,VS _,Fs x,Fs x,Fs x,Fs x⟩
structure Mk8(g B:Nat)(ca:Option Addr)(cn cc:Nat)(w:ο)(b2 b3:Nat)(p:SP)(z s:Nat)(wx:ο):Prop where
 cu:Cu wx g B ca cn cc z s
 r2:∃ p2,W8 wx b2 p2
 r3:W8 wx b3 p
 sf:Sf b3 wx p
 gr:w.grownBy wx (ς g)
theorem Mk8.lt3{g B:Nat}{ca:Option Addr}{cn cc:Nat}{w:ο}{b2 b3:Nat}{p:SP}{z s:Nat}{wx:ο}(h:Mk8 g B ca cn cc w b2 b3 p z s wx):b3<wx.heap.size:=World.block_lt_of_cell? _ _ h.r3.q.c0
theorem Mk8.call{g B:Nat}{ca:Option Addr}{cn cc:Nat}{w:ο}{b2 b3:Nat}{p:SP}{z s z' s':Nat}{wx w':ο}(h:Mk8 g B ca cn cc w b2 b3 p z s wx)(hg:wx.grownBy w' (ς g))(hc:Cu w' g B ca cn cc z' s')(h2:g<b2)(h3:b2<b3):Mk8 g B ca cn cc w b2 b3 p z' s' w':=
 ⟨hc,h.r2.imp λ_ q=>q.gr hg (λe=>by have:=VF e;omega),h.r3.gr hg (λe=>by have:=VF e;omega),h.sf.ka (KA.gr hg (λk e=>by have:=VF e;omega)),AQ h.gr hg⟩
theorem Mk8.al{g B:Nat}{ca:Option Addr}{cn cc:Nat}{w:ο}{b2 b3:Nat}{p:SP}{z s:Nat}{wx:ο}(h:Mk8 g B ca cn cc w b2 b3 p z s wx)(hB:B<=w.heap.size)(o:Obj):Mk8 g B ca cn cc w b2 b3 p z s (wx.alloc o):=
 ⟨h.cu.al (VX hB h.gr.size) o,h.r2.imp λ_ q=>q.gr (AU wx o ν) (λe=>by cases e),h.r3.gr (AU wx o ν) (λe=>by cases e),h.sf.ka (KA.gr (AU wx o ν) (λk e=>by cases e)),AQ h.gr (AU _ _ _)⟩
theorem Mk8.put{g B:Nat}{ca:Option Addr}{cn cc:Nat}{w:ο}{b2 b3:Nat}{p p':SP}{z s i:Nat}{v:VN}{wx:ο}(h:Mk8 g B ca cn cc w b2 b3 p z s wx)(hB:B<=w.heap.size)(h2:w.heap.size<=b2)(h3:b2<b3)(hw:W8 (wx.setCell ⟨b3,i,ν⟩ v) b3 p')(hs:Sf b3 wx p'):Mk8 g B ca cn cc w b2 b3 p' z s (wx.setCell ⟨b3,i,ν⟩ v):=
 ⟨h.cu.gw (Ai wx b3 i v) (by omega) (VX hB h.gr.size),h.r2.imp λ_ q=>q.gr (Ai wx b3 i v) (λe=>by have:=VF e;omega),hw,hs.ka (KA.set wx b3 i v (VD _)),Ch h.gr (Ai wx b3 i v) (λj e=>by have:=VF e;omega)⟩
theorem OU{w w':ο}{r:Option Nat}(h:w.grownBy w' ν):w.grownBy w' r:=⟨h.os,h.tape,h.output,h.size,λk hk _=>h.block k hk (λe=>by cases e)⟩
theorem Sf.wk{x:Nat}{w:ο}{p:SP}(h:Sf x w p)(k:Int):Sf x w { p with k:=k }:=
 ⟨h.tb,h.col,h.co,h.va,h.ex,h.wh,h.ou,h.l2,h.l3,h.l5,h.l6,h.l7,h.f2,h.f3,h.f5,h.f6⟩
theorem Sf.w2{x:Nat}{w:ο}{p:SP}(h:Sf x w p)(a:Option Addr)(n c:Nat)(hc:Co w a n)(hn:n<=100)(hf:IE x a):Sf x w { p with a2:=a,n2:=n,c2:=c }:=
 ⟨h.tb,h.col,hc,h.va,h.ex,h.wh,h.ou,hn,h.l3,h.l5,h.l6,h.l7,hf,h.f3,h.f5,h.f6⟩
theorem Sf.w3{x:Nat}{w:ο}{p:SP}(h:Sf x w p)(a:Option Addr)(n c:Nat)(hc:It w a n)(hn:n<=100)(hf:IE x a):Sf x w { p with a3:=a,n3:=n,c3:=c }:=
 ⟨h.tb,h.col,h.co,hc,h.ex,h.wh,h.ou,h.l2,hn,h.l5,h.l6,h.l7,h.f2,hf,h.f5,h.f6⟩
theorem Sf.w4{x:Nat}{w:ο}{p:SP}(h:Sf x w p)(t:ByteArray)(ht:t.size=0∨AM t=true):Sf x w { p with col:=t }:=
 ⟨h.tb,ht,h.co,h.va,h.ex,h.wh,h.ou,h.l2,h.l3,h.l5,h.l6,h.l7,h.f2,h.f3,h.f5,h.f6⟩
theorem Sf.w5{x:Nat}{w:ο}{p:SP}(h:Sf x w p)(a:Option Addr)(n c:Nat)(hc:Ie w a n)(hn:n<=100)(hf:IE x a):Sf x w { p with a5:=a,n5:=n,c5:=c }:=
 ⟨h.tb,h.col,h.co,h.va,hc,h.wh,h.ou,h.l2,h.l3,hn,h.l6,h.l7,h.f2,h.f3,hf,h.f6⟩
theorem Sf.w6{x:Nat}{w:ο}{p:SP}(h:Sf x w p)(a:Option Addr)(n c:Nat)(hc:Ie w a n)(hn:n<=100)(hf:IE x a):Sf x w { p with a6:=a,n6:=n,c6:=c }:=
 ⟨h.tb,h.col,h.co,h.va,h.ex,hc,h.ou,h.l2,h.l3,h.l5,hn,h.l7,h.f2,h.f3,h.f5,hf⟩
theorem Sf.w7{x:Nat}{w:ο}{p:SP}(h:Sf x w p)(a:Option Addr)(n c:Nat)(hc:Of x w a n)(hn:n<=3):Sf x w { p with a7:=a,n7:=n,c7:=c }:=
 ⟨h.tb,h.col,h.co,h.va,h.ex,h.wh,hc,h.l2,h.l3,h.l5,h.l6,hn,h.f2,h.f3,h.f5,h.f6⟩
structure Mj(g B:Nat)(ca:Option Addr)(cn cc:Nat)(w w0:ο)(b3:Nat)(p:SP)(z s:Nat)(wx:ο):Prop where
 m:Mk8 g B ca cn cc w w.heap.size b3 p z s wx
 ka:KA b3 w0 wx
 hB:B<=w.heap.size
 hg:g<B
 h3:w.heap.size<b3
 sz:w0.heap.size<=wx.heap.size
theorem Mj.call{g B:Nat}{ca:Option Addr}{cn cc:Nat}{w w0:ο}{b3:Nat}{p:SP}{z s:Nat}{wx:ο}{z' s':Nat}{w':ο}(h:Mj g B ca cn cc w w0 b3 p z s wx)(hg:wx.grownBy w' (ς g))(hc:Cu w' g B ca cn cc z' s'):Mj g B ca cn cc w w0 b3 p z' s' w':=
 ⟨h.m.call hg hc (by have:=h.hB;have:=h.hg;omega) h.h3,h.ka.trans (KA.gr hg (λk e=>by have:=h.hB;have:=h.hg;have:=h.h3;have e:g=k:=VF e;omega)),h.hB,h.hg,h.h3,VX h.sz hg.size⟩
theorem Mj.al{g B:Nat}{ca:Option Addr}{cn cc:Nat}{w w0:ο}{b3:Nat}{p:SP}{z s:Nat}{wx:ο}(h:Mj g B ca cn cc w w0 b3 p z s wx)(o:Obj):Mj g B ca cn cc w w0 b3 p z s (wx.alloc o):=
 ⟨h.m.al h.hB o,h.ka.trans (KA.gr (AU wx o ν) (λk e=>by cases e)),h.hB,h.hg,h.h3,VX h.sz (AU wx o ν).size⟩
theorem Mj.wk{g B:Nat}{ca:Option Addr}{cn cc:Nat}{w w0:ο}{b3:Nat}{p:SP}{z s:Nat}{wx:ο}(h:Mj g B ca cn cc w w0 b3 p z s wx)(k:Int):Mj g B ca cn cc w w0 b3 { p with k:=k } z s (wx.setCell ⟨b3,0,ν⟩ (ι κ k)):=
 ⟨h.m.put h.hB (VD _) h.h3 (h.m.r3.s0 k) (h.m.sf.wk k),h.ka.trans (KA.set wx b3 0 _ (VD _)),h.hB,h.hg,h.h3,VX h.sz (Ai wx b3 0 _).size⟩
theorem Mj.w2{g B:Nat}{ca:Option Addr}{cn cc:Nat}{w w0:ο}{b3:Nat}{p:SP}{z s:Nat}{wx:ο}(h:Mj g B ca cn cc w w0 b3 p z s wx)(a:Option Addr)(n c:Nat)(hc:Co wx a n)(hn:n<=100)(hf:IE b3 a):Mj g B ca cn cc w w0 b3 { p with a2:=a,n2:=n,c2:=c } z s (wx.setCell ⟨b3,2,ν⟩ (σ a n c)):=
 ⟨h.m.put h.hB (VD _) h.h3 (h.m.r3.s2 a n c) (h.m.sf.w2 a n c hc hn hf),h.ka.trans (KA.set wx b3 2 _ (VD _)),h.hB,h.hg,h.h3,VX h.sz (Ai wx b3 2 _).size⟩
theorem Mj.w3{g B:Nat}{ca:Option Addr}{cn cc:Nat}{w w0:ο}{b3:Nat}{p:SP}{z s:Nat}{wx:ο}(h:Mj g B ca cn cc w w0 b3 p z s wx)(a:Option Addr)(n c:Nat)(hc:It wx a n)(hn:n<=100)(hf:IE b3 a):Mj g B ca cn cc w w0 b3 { p with a3:=a,n3:=n,c3:=c } z s (wx.setCell ⟨b3,3,ν⟩ (σ a n c)):=
 ⟨h.m.put h.hB (VD _) h.h3 (h.m.r3.s3 a n c) (h.m.sf.w3 a n c hc hn hf),h.ka.trans (KA.set wx b3 3 _ (VD _)),h.hB,h.hg,h.h3,VX h.sz (Ai wx b3 3 _).size⟩
theorem Mj.w4{g B:Nat}{ca:Option Addr}{cn cc:Nat}{w w0:ο}{b3:Nat}{p:SP}{z s:Nat}{wx:ο}(h:Mj g B ca cn cc w w0 b3 p z s wx)(t:ByteArray)(ht:t.size=0∨AM t=true):Mj g B ca cn cc w w0 b3 { p with col:=t } z s (wx.setCell ⟨b3,4,ν⟩ (τ t)):=
 ⟨h.m.put h.hB (VD _) h.h3 (h.m.r3.s4 t) (h.m.sf.w4 t ht),h.ka.trans (KA.set wx b3 4 _ (VD _)),h.hB,h.hg,h.h3,VX h.sz (Ai wx b3 4 _).size⟩
theorem Mj.w5{g B:Nat}{ca:Option Addr}{cn cc:Nat}{w w0:ο}{b3:Nat}{p:SP}{z s:Nat}{wx:ο}(h:Mj g B ca cn cc w w0 b3 p z s wx)(a:Option Addr)(n c:Nat)(hc:Ie wx a n)(hn:n<=100)(hf:IE b3 a):Mj g B ca cn cc w w0 b3 { p with a5:=a,n5:=n,c5:=c } z s (wx.setCell ⟨b3,5,ν⟩ (σ a n c)):=
 ⟨h.m.put h.hB (VD _) h.h3 (h.m.r3.s5 a n c) (h.m.sf.w5 a n c hc hn hf),h.ka.trans (KA.set wx b3 5 _ (VD _)),h.hB,h.hg,h.h3,VX h.sz (Ai wx b3 5 _).size⟩
theorem Mj.w6{g B:Nat}{ca:Option Addr}{cn cc:Nat}{w w0:ο}{b3:Nat}{p:SP}{z s:Nat}{wx:ο}(h:Mj g B ca cn cc w w0 b3 p z s wx)(a:Option Addr)(n c:Nat)(hc:Ie wx a n)(hn:n<=100)(hf:IE b3 a):Mj g B ca cn cc w w0 b3 { p with a6:=a,n6:=n,c6:=c } z s (wx.setCell ⟨b3,6,ν⟩ (σ a n c)):=
 ⟨h.m.put h.hB (VD _) h.h3 (h.m.r3.s6 a n c) (h.m.sf.w6 a n c hc hn hf),h.ka.trans (KA.set wx b3 6 _ (VD _)),h.hB,h.hg,h.h3,VX h.sz (Ai wx b3 6 _).size⟩
theorem Tryz.info31s:(Tryz.prog.info? 31).map (λi=>(i.zero,i.size,i.bytes))=ς (ς (σ ν 0 0),1,24):=by kernel_rfl
theorem Tryz.info60v:(Tryz.prog.info? 60).map (λi=>(i.zero,i.size,i.bytes))=ς (ς (χ #[ι κ 0,ι κ 0,τ ⟨#[]⟩]),3,32):=by kernel_rfl
theorem S7{w w':ο}{b m:Nat}{y:Option Nat}(h:Ie w (ς ⟨b,0,ν⟩) m)(hg:w.grownBy w' y)(hy:ς b≠y):Ie w' (ς ⟨b,0,ν⟩) m:=by
 obtain⟨I,h1,h2⟩:=h;refine⟨I,λk hk=>?_,h2⟩;obtain⟨b',off,e,h0,h1,h2,hs⟩:=h1 k hk;cases e
 exact⟨b,0,rfl,Aw hg h0 hy,Aw hg h1 hy,Aw hg h2 hy,hs⟩
def Osl(x:Nat)(w:ο)(r:Option Nat)(xs:List VN):Prop:=∀ (k:Nat) (v:VN),xs[k]?=ς v->∃ b m c,v=σ (ς ⟨b,0,ν⟩) m c/\x<b/\ς b≠r/\b<w.heap.size/\Ie w (ς ⟨b,0,ν⟩) m/\1<=m
theorem Osl.gr{x:Nat}{w w':ο}{r y:Option Nat}{xs:List VN}(h:Osl x w r xs)(hg:w.grownBy w' y)(hy:y=r∨∀ k,y=ς k->k<=x):Osl x w' r xs:=λk v hv=>by
 obtain⟨b,m,c,e,hx,hr,hl,hi,hm⟩:=h k v hv;refine⟨b,m,c,e,hx,hr,Nat.lt_of_lt_of_le hl hg.size,S7 hi hg ?_,hm⟩;rcases hy with rfl | hy
 · exact hr
 · intro e';have:=hy b e'.symm;omega
theorem Osl.grow{x:Nat}{w w':ο}{r:Option Nat}{xs:List VN}(h:Osl x w r xs)(hg:w.grownBy w' r)(g':Nat)(hat:r=ς g'∨g'=w.heap.size):Osl x w' (ς g') xs:=λk v hv=>by
 obtain⟨b,m,c,e,hx,hr,hl,hi,hm⟩:=h k v hv;refine⟨b,m,c,e,hx,?_,Nat.lt_of_lt_of_le hl hg.size,S7 hi hg hr,hm⟩;rcases hat with rfl | hat
 · exact hr
 · intro e';have:b=g':=VF e';omega
theorem Osl.nil(x:Nat)(w:ο)(r:Option Nat):Osl x w r []:=λk v hv=>by simp at hv
theorem Osl.snoc{x:Nat}{w:ο}{r:Option Nat}{xs:List VN}(h:Osl x w r xs){b m c:Nat}(hx:x<b)(hr:ς b≠r)(hl:b<w.heap.size)(hi:Ie w (ς ⟨b,0,ν⟩) m)(hm:1<=m):Osl x w r (xs ++ [σ (ς ⟨b,0,ν⟩) m c]):=λk v hv=>by
 by_cases hk:k<xs.length
 · rw [List.getElem?_append_left hk] at hv;exact h k v hv
 ·
  rw [List.getElem?_append_right (by omega)] at hv;have hk0:k - xs.length=0:=by
   rcases Nat.eq_zero_or_pos (k - xs.length) with e | e
   · exact e
   · rw [List.getElem?_eq_none (by simp;omega)] at hv;cases hv
  rw [hk0] at hv;exact⟨b,m,c,(VF hv).symm,hx,hr,hl,hi,hm⟩
theorem K5{x base e n c:Nat}{w:ο}{a:Option Addr}{r:Option Nat}{xs:List VN}(h:w.ownsRow base e 1 (σ a n c) n xs)(ho:Osl x w r xs)(hb:x<base):Of x w a n:=λk hk=>by
 obtain⟨g,cap,e1,hg,-⟩:=h.form (by omega);have hl:xs.length=n * 1:=h.1;cases e1
 have hkl:k<xs.length:=by omega
 obtain⟨b,m,c',ev,hx,-,-,hi,hm⟩:=ho k xs[k] (List.getElem?_eq_getElem hkl);have hc:=h.cells (g:=g) rfl k _ (List.getElem?_eq_getElem hkl);rw [GE,ev] at hc;exact⟨g,0,ς ⟨b,0,ν⟩,m,c',rfl,by omega,BG hx,by rw [VM];exact hc,hi,hm⟩
theorem gd(w:ο)(r:Option Nat):w.grownBy w.drew r:=⟨rfl,rfl,rfl,VD _,λ_ _ _=>rfl⟩
theorem Mj.dr{g B:Nat}{ca:Option Addr}{cn cc:Nat}{w w0:ο}{b3:Nat}{p:SP}{z s:Nat}{wx:ο}(h:Mj g B ca cn cc w w0 b3 p z s wx):Mj g B ca cn cc w w0 b3 p z s wx.drew:=
 h.call (gd wx _) (h.m.cu.gr (gd wx ν) (λ_ e=>by cases e) (VX h.hB h.m.gr.size))
theorem Mj.w8{g B:Nat}{ca:Option Addr}{cn cc:Nat}{w w0:ο}{b3:Nat}{p:SP}{z s:Nat}{wx:ο}{w':ο}{r:Option Nat}(h:Mj g B ca cn cc w w0 b3 p z s wx)(hg:wx.grownBy w' r)(hr:∀ k,r=ς k->w0.heap.size<=k)(h0:b3<w0.heap.size):W8 w' b3 p:=
 h.m.r3.gr hg (λe=>by have:=hr b3 e.symm;omega)
theorem Mj.app{g B:Nat}{ca:Option Addr}{cn cc:Nat}{w w0:ο}{b3:Nat}{p:SP}{z s:Nat}{wx:ο}{p':SP}{w':ο}{r:Option Nat}{i:Nat}{v:VN}(h:Mj g B ca cn cc w w0 b3 p z s wx)(hg:wx.grownBy w' r)(hr:∀ k,r=ς k->w0.heap.size<=k)(h0:b3<w0.heap.size)(hw:W8 (w'.setCell ⟨b3,i,ν⟩ v) b3 p')(hs:Sf b3 w' p'):Mj g B ca cn cc w w0 b3 p' z s (w'.setCell ⟨b3,i,ν⟩ v):=by
 have hB:=h.hB;have h3:=h.h3;have hG:=h.m.gr.size;have hG':=hg.size;refine⟨⟨(h.m.cu.gr hg (λk e=>by have:=hr k e;omega) (by omega)).gw (Ai w' b3 i v) (by omega) (by omega),h.m.r2.imp λ_ q=>(q.gr hg (λe=>by have:=hr _ e.symm;omega)).gr (Ai w' b3 i v) (λe=>by have e:w.heap.size=b3:=VF e;omega),hw,hs.ka (KA.set w' b3 i v (VD _)),Ch (Ch h.m.gr hg (λj e=>by have:=hr j e;omega)) (Ai w' b3 i v) (λj e=>by have e:b3=j:=VF e;omega)⟩,?_,h.hB,h.hg,h.h3,VX h.sz (VX hg.size (Ai w' b3 i v).size)⟩;refine KA.trans (λq u hq hc=>Aw hg (h.ka q u hq hc) (λe=>?_)) (KA.set w' b3 i v (VD _));have h1:=hr q.block e.symm;have h2:=World.block_lt_of_cell? _ _ hc;omega
variable {P : Program} {ops : Array Oper} {Q : Exit -> Act -> ο -> Prop} {md : Region.Mode} {S : ο -> Prop} {t : Nat}
def AnyT(P:Program)(md:Region.Mode)(ops:Array Oper)(Q:Exit->Act->ο->Prop)(S:ο->Prop)(t:Nat):Nat->Array Bool->Act->ο->Prop
 | 0,l,a,w=>Region.ready md ops l=[]/\Q .normal a w
 | n+1,l,a,w=>(Region.ready md ops l=[]->Q .normal a w)/\∀ i∈Region.ready md ops l,wpOp P ops Q i (λa' w'=>(i≠t->S w')/\AnyT P md ops Q S t n (l.setIfInBounds i true) a' w') a w
theorem AnyT.any:∀ (n:Nat) (l:Array Bool) (a:Act) (w:ο),AnyT P md ops Q S t n l a w->wpAny P md ops Q n l a w
 | 0,_,_,_,h=>h
 | n+1,_,_,_,h=>⟨h.1,λi hi=>wpOp_mono (λa' w' h'=>AnyT.any n _ a' w' h'.2) (h.2 i hi)⟩
theorem Ja{i:Nat}{l:Array Bool}(h0:l.getD i true=false)(h1:l.getD i false=true):False:=by
 rcases Nat.lt_or_ge i l.size with h | h
 ·
  simp [h] at h0 h1
  rw [h0] at h1;cases h1
 · simp [Array.getElem?_eq_none h] at h1
theorem AnyT.first{i:Nat}{oi ot:Oper}{v:VN}(hi:ops[i]?=ς oi)(hit:i≠t)(ht:ops[t]?=ς ot)(hw:∃ e∈ot.after,Region.binds md e=true/\e.on=i)(hsel:∀ (j:Nat) (o:Oper) cs b,ops[j]?=ς o->o.op≠.select cs b)(hQ:∀ c a w,Q (.panic c) (a.put oi.dst v) w->Q (.panic c) a w)(n:Nat) :
 ∀ (l:Array Bool) (a:Act) (w:ο),(∀ j oj,ops[j]?=ς oj->j≠i->l.getD j true=false->(∀ e∈oj.after,Region.binds md e=true->e.on≠i)->oi.apart ops oj=true) ->
  i∈Region.ready md ops l->YieldsIf P ops S oi v a->S w->AnyT P md ops Q S t n (l.setIfInBounds i true) (a.put oi.dst v) w->AnyT P md ops Q S t (n+1) l a w:=by
 have ν:∀ {l:Array Bool},i∈Region.ready md ops l->Region.ready md ops l≠[]:=λhr e=>by rw [e] at hr;cases hr
 induction n with
 | zero=>
  intro l a w _ hr hy hS H;refine⟨λe=>absurd e (ν hr),λj hj=>?_⟩;rcases Decidable.em (j=i) with rfl | hne
  · exact hy.wpOp hi hS ⟨λ_=>hS,H⟩
  · have:=ready_mono hj hne;rw [H.1] at this;cases this
 | succ n ih=>
  intro l a w hfree hr hy hS H;refine⟨λe=>absurd e (ν hr),λj hj=>?_⟩;rcases Decidable.em (j=i) with rfl | hne
  · exact hy.wpOp hi hS ⟨λ_=>hS,H⟩
  ·
   obtain⟨hun,oj,hoj,hall⟩:=mem_ready.1 hj;have hiu:=(mem_ready.1 hr).1;have hjt:j≠t:=by
    rintro rfl;rw [ht] at hoj;cases hoj
    obtain⟨e,he,hb,rfl⟩:=hw;exact Ja hiu (hall e he hb)
   have hno:∀ e∈oj.after,Region.binds md e=true->e.on≠i:=λe he hb heq=>by
    have:=hall e he hb;rw [heq] at this;exact Ja hiu this
   refine wpOp_mono (λa' w' h3=>⟨λ_=>h3.2.1 hjt,ih (l.setIfInBounds j true) a' w' (λk ok hk hki hku hkn=>hfree k ok hk hki ?_ hkn) (ready_mono hr (Ne.symm hne)) h3.1 (h3.2.1 hjt) ?_⟩) (wpOp_putIf hoj (hfree j oj hoj hne hun hno) (λcs b=>hsel i oi cs b hi) (λcs b=>hsel j oj cs b hoj) hQ hy (H.2 j (ready_mono hj hne)))
   ·
    rcases Decidable.em (j=k) with rfl | hjk
    · exact hun
    · rwa [getD_set_ne true hjk] at hku
   · rw [Array.setIfInBounds_comm _ _ hne];exact h3.2.2
theorem AnyT.take{i:Nat}{oi ot:Oper}{v:VN}{n:Nat}{l:Array Bool}{a:Act}{w:ο}(hi:ops[i]?=ς oi)(hit:i≠t)(ht:ops[t]?=ς ot)(hw:(ot.after.any λe=>Region.binds md e && e.on == i)=true)
 (hs:Region.noSelect ops=true) (hf:Region.free md ops l i=true) (hr:(Region.ready md ops l).contains i=true)
 (hQ:∀ c a w,Q (.panic c) (a.put oi.dst v) w->Q (.panic c) a w) (hy:YieldsIf P ops S oi v a) (hS:S w)
 (h:AnyT P md ops Q S t n (l.setIfInBounds i true) (a.put oi.dst v) w):AnyT P md ops Q S t (n+1) l a w:=by
 have hw':∃ e∈ot.after,Region.binds md e=true/\e.on=i:=by
  obtain⟨k,hk,he⟩:=Array.any_eq_true.1 hw;rw [VO] at he;exact⟨ot.after[k],Array.getElem_mem hk,he.1,by simpa using he.2⟩
 exact AnyT.first hi hit ht hw' (Region.noSelect_spec hs) hQ n l a w (Region.free_spec hi hf) (by simpa using hr) hy hS h
def ReadyT(P:Program)(md:Region.Mode)(ops:Array Oper)(Q:Exit->Act->ο->Prop)(S:ο->Prop)(t n:Nat)(l:Array Bool)(a:Act)(w:ο)(rs:List Nat):Prop:=
 ∀ i∈rs,wpOp P ops Q i (λa' w'=>(i≠t->S w')/\AnyT P md ops Q S t n (l.setIfInBounds i true) a' w') a w
theorem ReadyT.nil{n:Nat}{l:Array Bool}{a:Act}{w:ο}:ReadyT P md ops Q S t n l a w []:=λ_ h=>by cases h
theorem ReadyT.cons{n:Nat}{l:Array Bool}{a:Act}{w:ο}{i:Nat}{o:Oper}{rs:List Nat}(ho:ops[i]?=ς o)
 (h:∀ K':Act->ο->Prop,Shut (∀ a w,(i≠t->S w)->AnyT P md ops Q S t n (l.setIfInBounds i true) a w->K' a w)->if Region.wanted o (yielded ops a.tmps)=true then Oper.wp P o a w K' Q else K' (a.put o.dst undef) w)
 (hs:ReadyT P md ops Q S t n l a w rs):ReadyT P md ops Q S t n l a w (i :: rs):=λj hj=>by
 rcases List.mem_cons.1 hj with rfl | hj
 · exact wpOp_step ho (λK' hK=>h K' (λa w hS hW=>hK a w ⟨hS,hW⟩))
 · exact hs j hj
theorem AnyT.ready{rs:List Nat}{n:Nat}{l:Array Bool}{a:Act}{w:ο}(hr:Region.ready md ops l=rs)(hne:rs≠[])(h:ReadyT P md ops Q S t n l a w rs):AnyT P md ops Q S t (n+1) l a w:=
 ⟨λh0=>absurd (hr ▸ h0) hne,hr ▸ h⟩
theorem AnyT.done{l:Array Bool}{a:Act}{w:ο}(hr:Region.ready md ops l=[])(h:Q .normal a w):∀ n,AnyT P md ops Q S t n l a w
 | 0=>⟨hr,h⟩
 | _+1=>⟨λ_=>h,by rw [hr];simp⟩
theorem AnyT.begin(S:ο->Prop)(t:Nat){id:Nat}{a:Act}{w:ο}(hm:P.follows .mixedOrders=true)(h:AnyT P .any ops Q S t ops.size (Array.replicate ops.size false) a w.drew):(Code.region id ops true).wp P Q a w:=
 wp_region_any hm (AnyT.any _ _ _ _ h)
theorem Tryz.info58c:(Tryz.prog.info? 58).map (λi=>(i.zero,i.size,i.bytes))=ς (ς (χ #[τ ⟨#[]⟩,ι κ 0]),2,24):=by kernel_rfl
def Cls(n:Nat)(xs:List VN):Prop:=xs.length=n * 2/\∀ k,k<n->∃ (m:Int) (s:ByteArray),xs[k * 2]?=ς (τ s)/\xs[k * 2+1]?=ς (ι κ m)/\BI s m=true
theorem Cls.nil:Cls 0 []:=⟨rfl,λ_ h=>absurd h (Vc _)⟩
theorem Cls.one(m:Int)(s:ByteArray)(hs:BI s m=true):Cls 1 [τ s,ι κ m]:=⟨rfl,λk hk=>by
 obtain rfl:k=0:=by omega
 exact⟨m,s,rfl,rfl,hs⟩⟩
theorem Cls.app{n m:Nat}{xs ys:List VN}(h:Cls n xs)(k:Cls m ys):Cls (n+m) (xs ++ ys):=⟨by rw [VJ,h.1,k.1];omega,λj hj=>by
 have h1:=h.1;by_cases hjn:j<n
 ·
  obtain⟨q,s,e0,e1,hs⟩:=h.2 j hjn;refine⟨q,s,?_,?_,hs⟩
  · rw [List.getElem?_append_left (by omega)];exact e0
  · rw [List.getElem?_append_left (by omega)];exact e1
 ·
  obtain⟨q,s,e0,e1,hs⟩:=k.2 (j - n) (by omega);refine⟨q,s,?_,?_,hs⟩
  · rw [List.getElem?_append_right (by omega),←e0];congr 1;omega
  · rw [List.getElem?_append_right (by omega),←e1];congr 1;omega⟩
theorem Cls.cells1{n:Nat}{xs:List VN}(h:Cls n xs):∀ u∈xs,u.oneCell'=true:=λu hu=>by
 obtain⟨i,hi,rfl⟩:=List.mem_iff_getElem.1 hu;have hl:=h.1;obtain⟨m,s,e0,e1,-⟩:=h.2 (i / 2) (by omega);have hi':xs[i]?=ς xs[i]:=List.getElem?_eq_getElem hi;rcases (show i=i / 2 * 2∨i=i / 2 * 2+1 by omega) with e | e
 · rw [←e,hi'] at e0;rw [VF e0];rfl
 · rw [←e,hi'] at e1;rw [VF e1];rfl
theorem LM{w:ο}{base e g n cap:Nat}{xs:List VN}(h:w.ownsRow base e 2 (σ (ς ⟨g,0,ν⟩) n cap) n xs)(hx:Cls n xs):Co w (ς ⟨g,0,ν⟩) n:=λk hk=>by
 obtain⟨m,s,e0,e1,hs⟩:=hx.2 k hk;have hc:=h.cells (g:=g) rfl;refine⟨g,0,m,s,rfl,?_,?_,hs⟩
 · rw [VM];have:=hc _ _ e0;rwa [GE] at this
 · rw [VM];have:=hc _ _ e1;rwa [GE] at this
theorem Ul(b off j:Nat):(⟨b,off,ν⟩:Addr).add j=⟨b,off+j,ν⟩:=by unfold Addr.add;split <;> simp_all
theorem MA{w:ο}{b off:Nat}:∀ (n:Nat),Co w (ς ⟨b,off,ν⟩) n->∃ xs,Cls n xs/\∀ j u,xs[j]?=ς u->w.cell? ⟨b,off+j,ν⟩=ς u
 | 0,_=>⟨[],Cls.nil,λj u h=>by simp at h⟩
 | n+1,h=>by
  obtain⟨xs,hx,hc⟩:=MA n (λk hk=>h k (by omega));obtain⟨b',off',m,s,e,h0,h1,hs⟩:=h n (by omega);cases e
  refine⟨xs ++ [τ s,ι κ m],hx.app (Cls.one m s hs),λj u hu=>?_⟩;have hl:=hx.1;by_cases hj:j<xs.length
  · rw [List.getElem?_append_left hj] at hu;exact hc j u hu
  ·
   rw [List.getElem?_append_right (by omega)] at hu;have hjj:j - xs.length=0∨j - xs.length=1:=by
    rcases (show j - xs.length=0∨j - xs.length=1∨2<=j - xs.length by omega) with e | e | e
    · exact VV e
    · exact Vb e
    · rw [List.getElem?_eq_none (by simp;omega)] at hu;cases hu
   rcases hjj with e | e
   ·
    rw [e] at hu;cases hu
    rw [show off+j=off+n * 2 by omega];exact h0
   ·
    rw [e] at hu;cases hu
    rw [show off+j=off+n * 2+1 by omega];exact h1
theorem Po{w:ο}{gv n:Nat}(h:It w (ς ⟨gv,0,ν⟩) n)(o q:Int)(T:ByteArray)(hT:G6 o q T=true):It (((w.setCell ⟨gv,0,ν⟩ (ι κ o)).setCell ⟨gv,1,ν⟩ (ι κ q)).setCell ⟨gv,2,ν⟩ (τ T)) (ς ⟨gv,0,ν⟩) n:=λk hk=>by
 obtain⟨b,off,o',q',s,e,h0,h1,h2,hs⟩:=h k hk;cases e
 rw [VM] at h0 h1 h2;by_cases hk0:k=0
 ·
  subst hk0;refine⟨gv,0,o,q,T,rfl,?_,?_,?_,hT⟩
  · exact AO _ _ 2 0 _ _ (by omega) (AO _ _ 1 0 _ _ (by omega) (Ef _ _ 0 _ _ h0))
  · exact AO _ _ 2 1 _ _ (by omega) (Ef _ _ 1 _ _ (AO _ _ 0 1 _ _ (by omega) h1))
  · exact Ef _ _ 2 _ _ (AO _ _ 1 2 _ _ (by omega) (AO _ _ 0 2 _ _ (by omega) h2))
 ·
  refine⟨gv,0,o',q',s,rfl,?_,?_,?_,hs⟩
  · rw [VM];exact AO _ _ 2 _ _ _ (by omega) (AO _ _ 1 _ _ _ (by omega) (AO _ _ 0 _ _ _ (by omega) h0))
  · rw [VM];exact AO _ _ 2 _ _ _ (by omega) (AO _ _ 1 _ _ _ (by omega) (AO _ _ 0 _ _ _ (by omega) h1))
  · rw [VM];exact AO _ _ 2 _ _ _ (by omega) (AO _ _ 1 _ _ _ (by omega) (AO _ _ 0 _ _ _ (by omega) h2))
theorem Nw{w:ο}{a:Nat}{x y:VN}(h0:w.cell? ⟨a,0,ν⟩=ς x)(h1:w.cell? ⟨a,1,ν⟩=ς y):∀ j u,[x,y][j]?=ς u->w.cell? ((⟨a,0,ν⟩:Addr).add j)=ς u:=λj u hu=>by
 rw [GE];rcases j with _ | _ | j
 ·
  cases hu
  exact h0
 ·
  cases hu
  exact h1
 · simp at hu
theorem No{w:ο}{base e size g n cap:Nat}{xs:List VN}(h:w.ownsRow base e size (σ (ς ⟨g,0,ν⟩) n cap) n xs):n<=cap:=by
 rcases h.2 with ⟨e,_⟩ | ⟨g',cap',cur,e,_,_,hc,_⟩
 · cases e
 ·
  cases e
  exact hc
theorem Mb{w:ο}{base e g n cap:Nat}{xs:List VN}(h:w.ownsRow base e 3 (σ (ς ⟨g,0,ν⟩) n cap) n xs)(hn:1<=n):∃ x y z,w.cell? ⟨g,0,ν⟩=ς x/\w.cell? ⟨g,1,ν⟩=ς y/\w.cell? ⟨g,2,ν⟩=ς z:=by
 have hl:=h.1;have hc:=h.cells (g:=g) rfl;have h0:=hc 0 _ (List.getElem?_eq_getElem (by omega));have h1:=hc 1 _ (List.getElem?_eq_getElem (by omega));have h2:=hc 2 _ (List.getElem?_eq_getElem (by omega));rw [GE] at h0 h1 h2;exact⟨_,_,_,h0,h1,h2⟩
theorem Mk8.rowset{g B:Nat}{ca:Option Addr}{cn cc:Nat}{w:ο}{b2 b3:Nat}{p:SP}{z s:Nat}{wx w':ο}{q:Nat}(h:Mk8 g B ca cn cc w b2 b3 p z s wx)(hg:wx.grownBy w' (ς q))(hB:B<=w.heap.size)(h2:w.heap.size<=b2)(h3:b2<b3)(hq:b3<q)(hs:Sf b3 w' p):Mk8 g B ca cn cc w b2 b3 p z s w':=
 ⟨h.cu.gw hg (by omega) (VX hB h.gr.size),h.r2.imp λ_ x=>x.gr hg (λe=>by have e:b2=q:=VF e;omega),h.r3.gr hg (λe=>by have e:b3=q:=VF e;omega),hs,Ch h.gr hg (λj e=>by have e:q=j:=VF e;omega)⟩
theorem Mj.rowq{g B:Nat}{ca:Option Addr}{cn cc:Nat}{w w0:ο}{b3:Nat}{p:SP}{z s:Nat}{wx w':ο}{r:Option Nat}(h:Mj g B ca cn cc w w0 b3 p z s wx)(hS0:Sf b3 w0 p)(hg:wx.grownBy w' r)(hr:∀ k,r=ς k->w0.heap.size<=k)(h0:b3<w0.heap.size):Mj g B ca cn cc w w0 b3 p z s w':=by
 have hB:=h.hB;have h3:=h.h3;have hG:=h.m.gr.size;have hka:KA b3 w0 w':=λq u hq hc=>Aw hg (h.ka q u hq hc) (λe=>by
  have h1:=hr q.block e.symm;have h2:=World.block_lt_of_cell? _ _ hc;omega)
 exact⟨⟨h.m.cu.gr hg (λk e=>by have:=hr k e;omega) (by omega),h.m.r2.imp λ_ q=>q.gr hg (λe=>by have:=hr _ e.symm;omega),h.m.r3.gr hg (λe=>by have:=hr b3 e.symm;omega),hS0.ka hka,Ch h.m.gr hg (λj e=>by have:=hr j e;omega)⟩,hka,h.hB,h.hg,h.h3,VX h.sz hg.size⟩
theorem W8.s1{w:ο}{b:Nat}{p:SP}(h:W8 w b p)(t:ByteArray):W8 (w.setCell ⟨b,1,ν⟩ (τ t)) b { p with tb:=t }:=
 ⟨⟨AO _ _ 1 0 _ _ (by omega) h.q.c0,Ef _ _ _ _ _ h.q.c1,AO _ _ 1 2 _ _ (by omega) h.q.c2,AO _ _ 1 3 _ _ (by omega) h.q.c3,AO _ _ 1 4 _ _ (by omega) h.q.c4,AO _ _ 1 5 _ _ (by omega) h.q.c5,AO _ _ 1 6 _ _ (by omega) h.q.c6,AO _ _ 1 7 _ _ (by omega) h.q.c7⟩,λi hi=>by simpa using h.f i hi⟩
abbrev QN(w:ο)(b:Nat)(p:SP):ο:=(((((((w.setCell ⟨b,0,ν⟩ (ι κ p.k)).setCell ⟨b,1,ν⟩ (τ p.tb)).setCell ⟨b,2,ν⟩ (σ p.a2 p.n2 p.c2)).setCell ⟨b,3,ν⟩ (σ p.a3 p.n3 p.c3)).setCell ⟨b,4,ν⟩ (τ p.col)).setCell ⟨b,5,ν⟩ (σ p.a5 p.n5 p.c5)).setCell ⟨b,6,ν⟩ (σ p.a6 p.n6 p.c6)).setCell ⟨b,7,ν⟩ (σ p.a7 p.n7 p.c7)
theorem W8.all{w:ο}{b:Nat}{p2:SP}(h:W8 w b p2)(p:SP):W8 (QN w b p) b p:=
 (((((((h.s0 p.k).s1 p.tb).s2 p.a2 p.n2 p.c2).s3 p.a3 p.n3 p.c3).s4 p.col).s5 p.a5 p.n5 p.c5).s6 p.a6 p.n6 p.c6).s7 p.a7 p.n7 p.c7
theorem LD(w:ο)(b:Nat)(p:SP):w.grownBy (QN w b p) (ς b):=
 AQ (AQ (AQ (AQ (AQ (AQ (AQ (Ai _ _ _ _) (Ai _ _ _ _)) (Ai _ _ _ _)) (Ai _ _ _ _)) (Ai _ _ _ _)) (Ai _ _ _ _)) (Ai _ _ _ _)) (Ai _ _ _ _)
