import Derived.Test.YtfnfdllflgmhnaaGreatDoorRc
import Derived.Test.YtfnfdllflgmhnaaGreatDoorZa
open Array renaming getElem?_eq_some_iff → XS
open ByteArray renaming empty → XN
open Go renaming Calls → XR, Value → XU, World → ο, bodyPost_ret → XL, cell_of_row → ε, frozen_of_row → ζ, heap_alloc_new → η, heap_setCell_same → π, results_cell_row → Xd
open Go.Ending renaming returned → ρ
open Go.IntKind renaming i64 → κ
open Go.Obj renaming cells → γ
open Go.Proofs.Tryz renaming prog → μ
open Go.RowKit renaming Below → υ, intOf → XX
open Go.RowKit.Below renaming refl → Xa
open Go.Value renaming agg → χ, bool → β, int → ι, slice → σ, string → τ
open Go.World renaming size_alloc → ω
open Nat renaming le_refl → XK, zero_add → XT, le_trans → Xe
open Option renaming none → ν, some → ς
namespace Go.Proofs.YtfnfdllflgmhnaaGreatDoor
open Go.RowKit
set_option maxRecDepth 20000
set_option maxHeartbeats 4000000
structure Fle where
 s:ByteArray
 d:ByteArray
 y:Int
def FX(w:ο)(a:Option Addr)(n:Nat)(F:Nat->Fle):Prop:=
 n<=9223372036854775807/\∀ k,k<n->∃ b off,a=ς ⟨b,off,ν⟩/\w.cell? ⟨b,off+k * 3,ν⟩=ς (τ (F k).s)/\w.cell? ⟨b,off+k * 3+1,ν⟩=ς (τ (F k).d)/\w.cell? ⟨b,off+k * 3+2,ν⟩=ς (ι κ (F k).y)/\(F k).s.size<=9223372036854775807/\(F k).d.size<=9223372036854775807
theorem FX.later{w w':ο}{a:Option Addr}{n:Nat}{F:Nat->Fle}(h:FX w a n F)(hb:υ w.heap.size w w'):FX w' a n F:=⟨h.1,λk hk=>by
 obtain⟨b,off,e,h0,h1,h2,hs⟩:=h.2 k hk;exact⟨b,off,e,AB hb h0,AB hb h1,AB hb h2,hs⟩⟩
def EC(F:Nat->Fle):Nat->Nat
 | 0=>0
 | k+1=>EC F k+(F k).s.size
def EU(F:Nat->Fle):Nat->Nat
 | 0=>0
 | k+1=>EU F k+(F k).d.size
theorem OM(F:Nat->Fle)(k n:Nat)(h:k<n):(F k).s.size<=EC F n:=by
 induction n with
 | zero=>omega
 | succ n ih=>
  rw [EC];by_cases e:k=n
  · subst e;omega
  · have:=ih (by omega);omega
theorem GW(F:Nat->Fle)(k n:Nat)(h:k<=n):EU F k<=EU F n:=by
 induction n with
 | zero=>
  obtain rfl:k=0:=by omega
  exact XK _
 | succ n ih=>
  by_cases e:k=n+1
  · subst e;exact XK _
  · rw [EU];have:=ih (by omega);omega
theorem ON(F:Nat->Fle)(k n:Nat)(h:k<n):(F k).d.size<=EU F n:=by
 have:=GW F (k+1) n h;rw [EU] at this;omega
def Small(n:Nat)(F:Nat->Fle):Prop:=n+EC F n+EU F n<=1048576
theorem Small.n{n:Nat}{F:Nat->Fle}(h:Small n F):n<=1048576:=by unfold Small at h;omega
theorem Small.s{n:Nat}{F:Nat->Fle}(h:Small n F)(k:Nat)(hk:k<n):(F k).s.size<=1048576:=by have:=OM F k n hk;unfold Small at h;omega
theorem Small.d{n:Nat}{F:Nat->Fle}(h:Small n F)(k:Nat)(hk:k<n):(F k).d.size<=1048576:=by have:=ON F k n hk;unfold Small at h;omega
theorem Small.sum{n:Nat}{F:Nat->Fle}(h:Small n F)(k:Nat)(hk:k<=n):EU F k<=1048576:=by have:=GW F k n hk;unfold Small at h;omega
def FL(w:ο)(a:Option Addr)(n:Nat)(F:Nat->Fle):Prop:=
 ∀ k,k<n->∃ b off,a=ς ⟨b,off,ν⟩/\w.cell? ⟨b,off+k * 3,ν⟩=ς (τ (F k).s)/\w.cell? ⟨b,off+k * 3+1,ν⟩=ς (τ (F k).d)/\w.cell? ⟨b,off+k * 3+2,ν⟩=ς (ι κ (F k).y)
theorem FL.later{w w':ο}{a:Option Addr}{n:Nat}{F:Nat->Fle}(h:FL w a n F)(hb:υ w.heap.size w w'):FL w' a n F:=λk hk=>by
 obtain⟨b,off,e,h0,h1,h2⟩:=h k hk;exact⟨b,off,e,AB hb h0,AB hb h1,AB hb h2⟩
theorem FX.fl{w:ο}{a:Option Addr}{n:Nat}{F:Nat->Fle}(h:FX w a n F):FL w a n F:=λk hk=>by
 obtain⟨b,off,e,h0,h1,h2,_⟩:=h.2 k hk;exact⟨b,off,e,h0,h1,h2⟩
def Du(n:Nat)(F:Nat->Fle):Array XU:=Array.ofFn (n:=n * 3) λi=>if i.val % 3=0 then τ (F (i.val / 3)).s else if i.val % 3=1 then τ (F (i.val / 3)).d else ι κ (F (i.val / 3)).y
theorem Gg(n:Nat)(F:Nat->Fle):(Du n F).size=n * 3:=by simp [Du]
theorem Rc{n k:Nat}(F:Nat->Fle)(h:k<n):(Du n F)[k * 3]?=ς (τ (F k).s):=by
 simp [Du,show k * 3<n * 3 by omega]
theorem Rb{n k:Nat}(F:Nat->Fle)(h:k<n):(Du n F)[k * 3+1]?=ς (τ (F k).d):=by
 have e1:(k * 3+1) % 3=1:=by omega
 have e2:(k * 3+1) / 3=k:=by omega
 simp [Du,show k * 3+1<n * 3 by omega,e1,e2]
theorem Ra{n k:Nat}(F:Nat->Fle)(h:k<n):(Du n F)[k * 3+2]?=ς (ι κ (F k).y):=by
 have e1:(k * 3+2) % 3=2:=by omega
 have e2:(k * 3+2) / 3=k:=by omega
 simp [Du,show k * 3+2<n * 3 by omega,e1,e2]
theorem P3{n:Nat}{F:Nat->Fle}{A:Array XU}(hs:A.size=n * 3)(h:∀ k,k<n->A[k * 3]?=ς (τ (F k).s)/\A[k * 3+1]?=ς (τ (F k).d)/\A[k * 3+2]?=ς (ι κ (F k).y)):A=Du n F:=by
 apply Array.ext_getElem?
 intro i;by_cases hi:i<n * 3
 ·
  obtain⟨h0,h1,h2⟩:=h (i / 3) (by omega);rcases (show i=i / 3 * 3∨i=i / 3 * 3+1∨i=i / 3 * 3+2 by omega) with e | e | e
  · rw [e,Rc F (by omega)];exact h0
  · rw [e,Rb F (by omega)];exact h1
  · rw [e,Ra F (by omega)];exact h2
 · rw [Array.getElem?_eq_none (by omega),Array.getElem?_eq_none (by rw [Gg];omega)]
def FR(w:ο)(g n:Nat)(F:Nat->Fle):Prop:=w.heap[g]?=ς (γ (Du n F) 144 (0,0))
theorem FR.later{w w':ο}{g n:Nat}{F:Nat->Fle}(h:FR w g n F)(hb:υ w.heap.size w w'):FR w' g n F:=
 (hb.block _ (XS.1 h).1).trans h
theorem FR.fl{w:ο}{g n:Nat}{F:Nat->Fle}(h:FR w g n F):FL w (ς ⟨g,0,ν⟩) n F:=λk hk=>
 ⟨g,0,rfl,by rw [XT,ε w _ _ _ _ _ h];exact Rc F hk,by rw [XT,ε w _ _ _ _ _ h];exact Rb F hk,by rw [XT,ε w _ _ _ _ _ h];exact Ra F hk⟩
theorem T0(s d:ByteArray)(y:Int)(w:ο)(L:Int)(h0:0<=L)(h1:L<=1048576)(hs:s.size<=9223372036854775807)(hd:d.size<=9223372036854775807) :
 XR μ 64 #[χ #[τ s,τ d,ι κ y],ι κ L] w λe w'=>υ w.heap.size w w'/\∃ r:Int,e=ρ (ι κ r)/\(0<=r->r=L - s.size - d.size):=by
 go_enter Tryz.func64,Tryz.ntmps64
 by_cases hneg:(0:Int)<=L - s.size
 ·
  by_cases hneg2:(0:Int)<=L - s.size - d.size
  ·
   go_wp2;go_ret
   exact⟨AE _ _,_,rfl,λ_=>rfl⟩
  ·
   go_wp2;go_ret
   exact⟨AE _ _,-1,rfl,λhh=>by omega⟩
 ·
  go_wp2;go_ret
  exact⟨AE _ _,-1,rfl,λhh=>by omega⟩
theorem Rn(a:Option Addr)(n c:Nat)(F:Nat->Fle)(w:ο)(h:FX w a n F)(L:Int)(h0:0<=L)(h1:L<=1048576) :
 XR μ 38 #[σ a n c,ι κ L] w λe w'=>υ w.heap.size w w'/\∃ r:Int,e=ρ (ι κ r)/\(0<=r->r+n+EC F n+EU F n=L):=by
 have hn:=h.1;have hb0:=Xa w.heap.size w;by_cases hs:(n:Int)<=L
 ·
  go_enter Tryz.func38,Tryz.ntmps38
  go_wp2;go_loopw [1,5] (λl i wr=>∃ k:Nat,∃ x:Int,k<=n/\i=ι κ k/\l=ι κ x/\0<=x/\x+n+EC F k+EU F k=L/\υ w.heap.size w wr) (λ_ i _=>n - (XX i).toNat)
  case atStart=>exact⟨0,_,by omega,rfl,rfl,by omega,by simp [EC,EU] <;> omega,hb0⟩
  case round=>
   obtain⟨k,x,hk,rfl,rfl,hx0,hall,hb⟩:=hrel;by_cases hlt:k<n
   ·
    obtain⟨b,off,rfl,c0,c1,c2,hsz,hdz⟩:=(h.later hb).2 k hlt;have HS:Hid (EC F (k+1)=EC F k+(F k).s.size):=rfl;have HD:Hid (EU F (k+1)=EU F k+(F k).d.size):=rfl;go_wp2_with (go_at_call 64;refine(T0 _ _ _ _ _ hx0 (by omega) hsz hdz).mono ?_;rintro e w1 ⟨hb1,r,rfl,hr2⟩;replace hb1:=AA hb hb1;by_cases hr:(0:Int)<=r)
    ·
     have:=hr2 hr;go_roundw
     case rel=>exact⟨k+1,r,by omega,by go_num,rfl,hr,by rw [HS.out,HD.out];omega,hb1⟩
     case measure=>simp [XX];omega
    ·
     go_ret
     exact⟨hb1,-1,rfl,λhh=>by omega⟩
   ·
    obtain rfl:k=n:=by omega
    go_wp2;go_ret
    exact⟨hb,_,rfl,λ_=>hall⟩
 ·
  go_enter Tryz.func38,Tryz.ntmps38
  go_wp2;go_ret
  exact⟨hb0,-1,rfl,λhh=>by omega⟩
theorem Tu(s d:ByteArray)(y:Int)(w:ο):XR μ 83 #[χ #[τ s,τ d,ι κ y]] w λe w'=>e=ρ (χ #[τ s,τ d,ι κ y])/\υ w.heap.size w w':=by
 go_enter Tryz.func83,Tryz.ntmps83
 go_wp2;exact XL (v:=χ #[τ s,τ d,ι κ y]) (by simp [results,Tryz.results83,go_sem]) rfl ⟨rfl,A7 _ _ _ _⟩
theorem Tryz.infoFil:(Tryz.prog.info? 144).map (λi=>(i.zero,i.size,i.bytes))=ς (ς (χ #[τ XN,τ XN,ι κ 0]),3,40):=by kernel_rfl
theorem Ri(a:Option Addr)(n c:Nat)(F:Nat->Fle)(w:ο)(h:FL w a n F)(hn:n<=1048576) :
 XR μ 48 #[σ a n c] w λe w'=>∃ g,w.heap.size<=g/\e=ρ (σ (ς ⟨g,0,ν⟩) n n)/\FR w' g n F/\υ w.heap.size w w':=by
 have hmk:=C1 (t:=39) Tryz.underlying39 Tryz.infoFil n hn (by omega);go_enter Tryz.func48,Tryz.ntmps48
 go_wp2;clear hmk;go_loopw [4] (λi wr=>∃ (k:Nat) (cur:Array XU),k<=n/\i=ι κ k/\wr.heap[w.heap.size]?=ς (γ cur 144 (0,0))/\cur.size=n * 3/\(∀ j,j<k->cur[j * 3]?=ς (τ (F j).s)/\cur[j * 3+1]?=ς (τ (F j).d)/\cur[j * 3+2]?=ς (ι κ (F j).y))/\υ w.heap.size w wr) (λi _=>n - (XX i).toNat)
 case atStart=>exact⟨0,_,by omega,rfl,η _ _,Bv _ _,λj hj=>by omega,AE _ _⟩
 case round=>
  obtain⟨k,cur,hk,rfl,hG,hsz,hall,hb⟩:=hrel;have HG:Hid (wr.heap[w.heap.size]?=ς (γ cur 144 (0,0))):=hG;clear hG;by_cases hlt:k<n
  ·
   obtain⟨b,off,rfl,c0,c1,c2⟩:=h.later hb k hlt;obtain⟨v0,hv0⟩:=there (A:=cur) (k:=k * 3) (by omega);obtain⟨v1,hv1⟩:=there (A:=cur) (k:=k * 3+1) (by omega);obtain⟨v2,hv2⟩:=there (A:=cur) (k:=k * 3+2) (by omega);go_wp2_with (go_at_call 83;refine(Tu _ _ _ _).mono ?_;rintro e w1 ⟨rfl,hb1⟩;have HG1:Hid (w1.heap[w.heap.size]?=ς (γ cur 144 (0,0))):=(hb1.block _ (XS.1 HG.out).1).trans HG.out;have g0:w1.cell? ⟨w.heap.size,k * 3,ν⟩=ς v0:=(ε w1 _ _ _ _ _ HG1.out).trans hv0;have f0:w1.frozen? ⟨w.heap.size,k * 3,ν⟩=false:=ζ w1 _ _ _ _ HG1.out;have g1:w1.cell? ⟨w.heap.size,k * 3+1,ν⟩=ς v1:=(ε w1 _ _ _ _ _ HG1.out).trans hv1;have f1:w1.frozen? ⟨w.heap.size,k * 3+1,ν⟩=false:=ζ w1 _ _ _ _ HG1.out;have g2:w1.cell? ⟨w.heap.size,k * 3+2,ν⟩=ς v2:=(ε w1 _ _ _ _ _ HG1.out).trans hv2;have f2:w1.frozen? ⟨w.heap.size,k * 3+2,ν⟩=false:=ζ w1 _ _ _ _ HG1.out;replace hb1:=AA hb hb1)
   go_roundw
   case rel=>
    refine⟨k+1,(((cur.setIfInBounds (k * 3) (τ (F k).s)).setIfInBounds (k * 3+1) (τ (F k).d)).setIfInBounds (k * 3+2) (ι κ (F k).y)),by omega,by go_num,(π _ _ _ _ _ _ (π _ _ _ _ _ _ (π _ _ _ _ _ _ HG1.out))),by simpa using hsz,λj hj=>?_,(((hb1.setCell (by simp) _).setCell (by simp) _).setCell (by simp) _)⟩;by_cases e:j=k
    · subst e;exact⟨(setA (setA (Df (by omega)) (by omega)) (by omega)),(setA (Df (by simp only [Array.size_setIfInBounds];omega)) (by omega)),(Df (by simp only [Array.size_setIfInBounds];omega))⟩
    · exact⟨(setA (setA (setA (hall j (by omega)).1 (by omega)) (by omega)) (by omega)),(setA (setA (setA (hall j (by omega)).2.1 (by omega)) (by omega)) (by omega)),(setA (setA (setA (hall j (by omega)).2.2 (by omega)) (by omega)) (by omega))⟩
   case measure=>simp [XX];omega
  ·
   obtain rfl:k=n:=by omega
   go_wp2;go_ret
   refine⟨_,XK _,rfl,?_,hb⟩;unfold FR;rw [←P3 hsz hall];exact HG.out
theorem WO(s d:ByteArray)(y:Int)(w:ο):XR μ 121 #[χ #[τ s,τ d,ι κ y],χ #[τ s,τ d,ι κ y]] w λe w'=>e=ρ (β true)/\υ w.heap.size w w':=by
 have hq:=BH s;have hq2:=BH d;go_enter Tryz.func121,Tryz.ntmps121
 go_wp2;go_ret
 exact⟨rfl,AA (AE _ _) (AE _ _)⟩
theorem Tc(a a':Option Addr)(n c c':Nat)(F:Nat->Fle)(w:ο)(h:FL w a n F)(h':FL w a' n F)(hn:n<=1048576) :
 XR μ 59 #[σ a n c,σ a' n c'] w λe w'=>e=ρ (β true)/\υ w.heap.size w w':=by
 have hb0:=Xa w.heap.size w;go_enter Tryz.func59,Tryz.ntmps59
 go_wp2;go_loopw [5] (λi wr=>∃ k:Nat,k<=n/\i=ι κ k/\υ w.heap.size w wr) (λi _=>n - (XX i).toNat)
 case atStart=>exact⟨0,by omega,rfl,hb0⟩
 case round=>
  obtain⟨k,hk,rfl,hb⟩:=hrel;by_cases hlt:k<n
  ·
   have hkk:(k:Int)<n:=by omega
   obtain⟨b,off,rfl,c0,c1,c2⟩:=h.later hb k hlt;obtain⟨b',off',rfl,e0,e1,e2⟩:=h'.later hb k hlt;go_wp2;go_region_with (go_at_call 121;refine(WO _ _ _ _).mono ?_;rintro e w1 ⟨rfl,hb1⟩)
   all_goals
    go_wp2;go_roundw
    case rel=>exact⟨k+1,by omega,by go_num,AA hb (Aa hb1)⟩
    case measure=>simp [XX];omega
  ·
   obtain rfl:k=n:=by omega
   go_wp2;go_ret
   exact⟨rfl,hb⟩
theorem LX(a:Option Addr)(n c:Nat)(F:Nat->Fle)(x1 x2 x3 x4:Int)(x5:Bool)(w:ο)(h:FX w a n F)(L:Int)(h0:0<=L)(h1:L<=1048576) :
 XR μ 13 #[χ #[σ a n c,ι κ x1,ι κ x2,ι κ x3,ι κ x4,β x5],ι κ L] w λe w'=>υ w.heap.size w w'/\∃ r:Int,e=ρ (ι κ r)/\(0<=r->r+n+EC F n+EU F n=L):=by
 have hb0:=AE w (γ #[σ a n c,ι κ x1,ι κ x2,ι κ x3,ι κ x4,β x5] 24);go_enter Tryz.func13,Tryz.ntmps13
 go_wp2_with (go_at_call 38;refine(Rn a n c F _ (h.later hb0) L h0 h1).mono ?_;rintro e w1 ⟨hb1,r,rfl,hr⟩;by_cases hr0:(0:Int)<=r)
 ·
  go_ret
  exact⟨AA hb0 hb1,r,rfl,hr⟩
 ·
  go_ret
  exact⟨AA hb0 hb1,-1,rfl,λhh=>by omega⟩
structure E3(V:ο)(B:Nat)(A Z X:Array XU):Prop where
 a:V.heap[B]?=ς (γ A 24 (0,0))
 z:V.heap[B+1]?=ς (γ Z 41 (0,0))
 x:V.heap[B+1+1]?=ς (γ X 41 (0,0))
theorem E3.later{V V':ο}{B:Nat}{A Z X:Array XU}(h:E3 V B A Z X)(hb:υ V.heap.size V V'):E3 V' B A Z X:=⟨AC h.a hb,AC h.z hb,AC h.x hb⟩
theorem E3.new(w:ο)(A Z X:Array XU):E3 (((w.alloc (γ A 24)).alloc (γ Z 41)).alloc (γ X 41)) w.heap.size A Z X:=by
 have e1:(w.alloc (γ A 24)).heap.size=w.heap.size+1:=by simp
 have e2:((w.alloc (γ A 24)).alloc (γ Z 41)).heap.size=w.heap.size+1+1:=by simp
 have h1:=η w (γ A 24);have h2:=η (w.alloc (γ A 24)) (γ Z 41);have h3:=η ((w.alloc (γ A 24)).alloc (γ Z 41)) (γ X 41);rw [e1] at h2;rw [e2] at h3;exact⟨AC (AC h1 (AE _ _)) (AE _ _),AC h2 (AE _ _),h3⟩
theorem LU(a:Option Addr)(n c:Nat)(F:Nat->Fle)(x1 x2 x3 x4:Int)(x5:Bool)(w:ο)(h:FL w a n F)(hn:n<=1048576) :
 XR μ 19 #[χ #[σ a n c,ι κ x1,ι κ x2,ι κ x3,ι κ x4,β x5]] w λe w'=>∃ g,w.heap.size<=g/\e=ρ (χ #[σ (ς ⟨g,0,ν⟩) n n,ι κ x1,ι κ x2,ι κ x3,ι κ x4,β x5])/\FR w' g n F/\υ w.heap.size w w':=by
 have hR0:=E3.new w #[σ a n c,ι κ x1,ι κ x2,ι κ x3,ι κ x4,β x5] #[σ ν 0 0,ι κ 0,ι κ 0,ι κ 0,ι κ 0,β false] #[σ ν 0 0,ι κ 0,ι κ 0,ι κ 0,ι κ 0,β false];have hbW:υ w.heap.size w (((w.alloc (γ #[σ a n c,ι κ x1,ι κ x2,ι κ x3,ι κ x4,β x5] 24)).alloc (γ #[σ ν 0 0,ι κ 0,ι κ 0,ι κ 0,ι κ 0,β false] 41)).alloc (γ #[σ ν 0 0,ι κ 0,ι κ 0,ι κ 0,ι κ 0,β false] 41)):=A7 _ _ _ _;go_enter Tryz.func19,Tryz.ntmps19
 go_wp2_with (go_at_call 48;refine(Ri _ _ _ F _ (h.later hbW) hn).mono ?_;rintro e w1 ⟨g1,hg1,rfl,hR1,hb1⟩;have r1:=hR0.later hb1;have B1:υ w.heap.size w w1:=AA hbW hb1;have m0:w1.cell? ⟨w.heap.size+1+1,0,ν⟩=ς (σ ν 0 0):=(ε _ _ 0 _ _ _ r1.x).trans rfl;have f0:w1.frozen? ⟨w.heap.size+1+1,0,ν⟩=false:=ζ _ _ 0 _ _ r1.x;have z0:w1.cell? ⟨w.heap.size+1,0,ν⟩=ς (σ ν 0 0):=(ε _ _ 0 _ _ _ r1.z).trans rfl;have y0:w1.frozen? ⟨w.heap.size+1,0,ν⟩=false:=ζ _ _ 0 _ _ r1.z;have a1:w1.cell? ⟨w.heap.size,1,ν⟩=ς (ι κ x1):=(ε _ _ 1 _ _ _ r1.a).trans rfl;have m1:w1.cell? ⟨w.heap.size+1+1,1,ν⟩=ς (ι κ 0):=(ε _ _ 1 _ _ _ r1.x).trans rfl;have f1:w1.frozen? ⟨w.heap.size+1+1,1,ν⟩=false:=ζ _ _ 1 _ _ r1.x;have z1:w1.cell? ⟨w.heap.size+1,1,ν⟩=ς (ι κ 0):=(ε _ _ 1 _ _ _ r1.z).trans rfl;have y1:w1.frozen? ⟨w.heap.size+1,1,ν⟩=false:=ζ _ _ 1 _ _ r1.z;have a2:w1.cell? ⟨w.heap.size,2,ν⟩=ς (ι κ x2):=(ε _ _ 2 _ _ _ r1.a).trans rfl;have m2:w1.cell? ⟨w.heap.size+1+1,2,ν⟩=ς (ι κ 0):=(ε _ _ 2 _ _ _ r1.x).trans rfl;have f2:w1.frozen? ⟨w.heap.size+1+1,2,ν⟩=false:=ζ _ _ 2 _ _ r1.x;have z2:w1.cell? ⟨w.heap.size+1,2,ν⟩=ς (ι κ 0):=(ε _ _ 2 _ _ _ r1.z).trans rfl;have y2:w1.frozen? ⟨w.heap.size+1,2,ν⟩=false:=ζ _ _ 2 _ _ r1.z;have a3:w1.cell? ⟨w.heap.size,3,ν⟩=ς (ι κ x3):=(ε _ _ 3 _ _ _ r1.a).trans rfl;have m3:w1.cell? ⟨w.heap.size+1+1,3,ν⟩=ς (ι κ 0):=(ε _ _ 3 _ _ _ r1.x).trans rfl;have f3:w1.frozen? ⟨w.heap.size+1+1,3,ν⟩=false:=ζ _ _ 3 _ _ r1.x;have z3:w1.cell? ⟨w.heap.size+1,3,ν⟩=ς (ι κ 0):=(ε _ _ 3 _ _ _ r1.z).trans rfl;have y3:w1.frozen? ⟨w.heap.size+1,3,ν⟩=false:=ζ _ _ 3 _ _ r1.z;have a4:w1.cell? ⟨w.heap.size,4,ν⟩=ς (ι κ x4):=(ε _ _ 4 _ _ _ r1.a).trans rfl;have m4:w1.cell? ⟨w.heap.size+1+1,4,ν⟩=ς (ι κ 0):=(ε _ _ 4 _ _ _ r1.x).trans rfl;have f4:w1.frozen? ⟨w.heap.size+1+1,4,ν⟩=false:=ζ _ _ 4 _ _ r1.x;have z4:w1.cell? ⟨w.heap.size+1,4,ν⟩=ς (ι κ 0):=(ε _ _ 4 _ _ _ r1.z).trans rfl;have y4:w1.frozen? ⟨w.heap.size+1,4,ν⟩=false:=ζ _ _ 4 _ _ r1.z;have a5:w1.cell? ⟨w.heap.size,5,ν⟩=ς (β x5):=(ε _ _ 5 _ _ _ r1.a).trans rfl;have m5:w1.cell? ⟨w.heap.size+1+1,5,ν⟩=ς (β false):=(ε _ _ 5 _ _ _ r1.x).trans rfl;have f5:w1.frozen? ⟨w.heap.size+1+1,5,ν⟩=false:=ζ _ _ 5 _ _ r1.x;have z5:w1.cell? ⟨w.heap.size+1,5,ν⟩=ς (β false):=(ε _ _ 5 _ _ _ r1.z).trans rfl;have y5:w1.frozen? ⟨w.heap.size+1,5,ν⟩=false:=ζ _ _ 5 _ _ r1.z)
 have hsz:(((w.alloc (γ #[σ a n c,ι κ x1,ι κ x2,ι κ x3,ι κ x4,β x5] 24)).alloc (γ #[σ ν 0 0,ι κ 0,ι κ 0,ι κ 0,ι κ 0,β false] 41)).alloc (γ #[σ ν 0 0,ι κ 0,ι κ 0,ι κ 0,ι κ 0,β false] 41)).heap.size=w.heap.size+1+1+1:=by simp
 refine XL (v:=χ #[σ (ς ⟨g1,0,ν⟩) n n,ι κ x1,ι κ x2,ι κ x3,ι κ x4,β x5]) (Xd Tryz.results19 _ _ (w.heap.size+1) 41 _ (0,0) _ rfl (π _ _ 5 _ _ _ (π _ _ 4 _ _ _ (π _ _ 3 _ _ _ (π _ _ 2 _ _ _ (π _ _ 1 _ _ _ (π _ _ 0 _ _ _ (AS (B:=w.heap.size+1+1) (i:=5) (AS (B:=w.heap.size+1+1) (i:=4) (AS (B:=w.heap.size+1+1) (i:=3) (AS (B:=w.heap.size+1+1) (i:=2) (AS (B:=w.heap.size+1+1) (i:=1) (AS (B:=w.heap.size+1+1) (i:=0) r1.z (by omega)) (by omega)) (by omega)) (by omega)) (by omega)) (by omega)))))))) Tryz.underlying41 rfl (by kernel_rfl)) rfl ⟨g1,by omega,rfl,?_,?_⟩
 · exact(AS (B:=w.heap.size+1) (i:=5) (AS (B:=w.heap.size+1) (i:=4) (AS (B:=w.heap.size+1) (i:=3) (AS (B:=w.heap.size+1) (i:=2) (AS (B:=w.heap.size+1) (i:=1) (AS (B:=w.heap.size+1) (i:=0) (AS (B:=w.heap.size+1+1) (i:=5) (AS (B:=w.heap.size+1+1) (i:=4) (AS (B:=w.heap.size+1+1) (i:=3) (AS (B:=w.heap.size+1+1) (i:=2) (AS (B:=w.heap.size+1+1) (i:=1) (AS (B:=w.heap.size+1+1) (i:=0) hR1 (by omega)) (by omega)) (by omega)) (by omega)) (by omega)) (by omega)) (by omega)) (by omega)) (by omega)) (by omega)) (by omega)) (by omega))
 · exact(Al (B:=w.heap.size+1) (i:=5) (Al (B:=w.heap.size+1) (i:=4) (Al (B:=w.heap.size+1) (i:=3) (Al (B:=w.heap.size+1) (i:=2) (Al (B:=w.heap.size+1) (i:=1) (Al (B:=w.heap.size+1) (i:=0) (Al (B:=w.heap.size+1+1) (i:=5) (Al (B:=w.heap.size+1+1) (i:=4) (Al (B:=w.heap.size+1+1) (i:=3) (Al (B:=w.heap.size+1+1) (i:=2) (Al (B:=w.heap.size+1+1) (i:=1) (Al (B:=w.heap.size+1+1) (i:=0) B1 (by omega)) (by omega)) (by omega)) (by omega)) (by omega)) (by omega)) (by omega)) (by omega)) (by omega)) (by omega)) (by omega)) (by omega))
theorem Ng(a a':Option Addr)(n c c':Nat)(F:Nat->Fle)(x1 x2 x3 x4:Int)(x5:Bool)(w:ο)(h:FL w a n F)(h':FL w a' n F)(hn:n<=1048576) :
 XR μ 27 #[χ #[σ a n c,ι κ x1,ι κ x2,ι κ x3,ι κ x4,β x5],χ #[σ a' n c',ι κ x1,ι κ x2,ι κ x3,ι κ x4,β x5]] w λe w'=>e=ρ (β true)/\υ w.heap.size w w':=by
 have hb0:=AE w (γ #[σ a n c,ι κ x1,ι κ x2,ι κ x3,ι κ x4,β x5] 41);have hb1:=AE (w.alloc (γ #[σ a n c,ι κ x1,ι κ x2,ι κ x3,ι κ x4,β x5] 41)) (γ #[σ a' n c',ι κ x1,ι κ x2,ι κ x3,ι κ x4,β x5] 41);have hb2:=AA hb0 hb1;go_enter Tryz.func27,Tryz.ntmps27
 go_wp2_with (go_at_call 59;refine(Tc a a' n c c' F _ (h.later hb2) (h'.later hb2) hn).mono ?_;rintro e w1 ⟨rfl,hb3⟩;have p1:w1.cell? ⟨w.heap.size,1,ν⟩=ς (ι κ x1):=AB hb3 (AB hb1 (ε _ _ 1 _ _ _ (η w _)));have q1:w1.cell? ⟨w.heap.size+1,1,ν⟩=ς (ι κ x1):=AB hb3 (by have hh:=ε _ _ 1 _ _ _ (η (w.alloc (γ #[σ a n c,ι κ x1,ι κ x2,ι κ x3,ι κ x4,β x5] 41)) (γ #[σ a' n c',ι κ x1,ι κ x2,ι κ x3,ι κ x4,β x5] 41));rw [show (w.alloc (γ #[σ a n c,ι κ x1,ι κ x2,ι κ x3,ι κ x4,β x5] 41)).heap.size=w.heap.size+1 by simp] at hh;exact hh);have p2:w1.cell? ⟨w.heap.size,2,ν⟩=ς (ι κ x2):=AB hb3 (AB hb1 (ε _ _ 2 _ _ _ (η w _)));have q2:w1.cell? ⟨w.heap.size+1,2,ν⟩=ς (ι κ x2):=AB hb3 (by have hh:=ε _ _ 2 _ _ _ (η (w.alloc (γ #[σ a n c,ι κ x1,ι κ x2,ι κ x3,ι κ x4,β x5] 41)) (γ #[σ a' n c',ι κ x1,ι κ x2,ι κ x3,ι κ x4,β x5] 41));rw [show (w.alloc (γ #[σ a n c,ι κ x1,ι κ x2,ι κ x3,ι κ x4,β x5] 41)).heap.size=w.heap.size+1 by simp] at hh;exact hh);have p3:w1.cell? ⟨w.heap.size,3,ν⟩=ς (ι κ x3):=AB hb3 (AB hb1 (ε _ _ 3 _ _ _ (η w _)));have q3:w1.cell? ⟨w.heap.size+1,3,ν⟩=ς (ι κ x3):=AB hb3 (by have hh:=ε _ _ 3 _ _ _ (η (w.alloc (γ #[σ a n c,ι κ x1,ι κ x2,ι κ x3,ι κ x4,β x5] 41)) (γ #[σ a' n c',ι κ x1,ι κ x2,ι κ x3,ι κ x4,β x5] 41));rw [show (w.alloc (γ #[σ a n c,ι κ x1,ι κ x2,ι κ x3,ι κ x4,β x5] 41)).heap.size=w.heap.size+1 by simp] at hh;exact hh);have p4:w1.cell? ⟨w.heap.size,4,ν⟩=ς (ι κ x4):=AB hb3 (AB hb1 (ε _ _ 4 _ _ _ (η w _)));have q4:w1.cell? ⟨w.heap.size+1,4,ν⟩=ς (ι κ x4):=AB hb3 (by have hh:=ε _ _ 4 _ _ _ (η (w.alloc (γ #[σ a n c,ι κ x1,ι κ x2,ι κ x3,ι κ x4,β x5] 41)) (γ #[σ a' n c',ι κ x1,ι κ x2,ι κ x3,ι κ x4,β x5] 41));rw [show (w.alloc (γ #[σ a n c,ι κ x1,ι κ x2,ι κ x3,ι κ x4,β x5] 41)).heap.size=w.heap.size+1 by simp] at hh;exact hh);have p5:w1.cell? ⟨w.heap.size,5,ν⟩=ς (β x5):=AB hb3 (AB hb1 (ε _ _ 5 _ _ _ (η w _)));have q5:w1.cell? ⟨w.heap.size+1,5,ν⟩=ς (β x5):=AB hb3 (by have hh:=ε _ _ 5 _ _ _ (η (w.alloc (γ #[σ a n c,ι κ x1,ι κ x2,ι κ x3,ι κ x4,β x5] 41)) (γ #[σ a' n c',ι κ x1,ι κ x2,ι κ x3,ι κ x4,β x5] 41));rw [show (w.alloc (γ #[σ a n c,ι κ x1,ι κ x2,ι κ x3,ι κ x4,β x5] 41)).heap.size=w.heap.size+1 by simp] at hh;exact hh))
 go_ret
 exact⟨rfl,AA hb2 hb3⟩
set_option maxHeartbeats 1000000
def Sl(w:ο)(a:Option Addr)(n:Nat)(S:Nat->ByteArray):Prop:=
 n<=9223372036854775807/\∀ k,k<n->(S k).size<=9223372036854775807/\∃ b off,a=ς ⟨b,off,ν⟩/\w.cell? ⟨b,off+k,ν⟩=ς (τ (S k))
theorem Sl.at{w:ο}{a:Option Addr}{n:Nat}{S:Nat->ByteArray}(h:Sl w a n S)(k:Nat)(hk:k<n) :
 ∃ b off,a=ς ⟨b,off,ν⟩/\w.cell? ⟨b,off+k,ν⟩=ς (τ (S k)):=(h.2 k hk).2
theorem Sl.later{w w':ο}{a:Option Addr}{n:Nat}{S:Nat->ByteArray}(h:Sl w a n S)(hb:υ w.heap.size w w'):Sl w' a n S:=by
 refine⟨h.1,λk hk=>⟨(h.2 k hk).1,?_⟩⟩;obtain⟨b,off,e,hc⟩:=h.at k hk;exact⟨b,off,e,(hb.cell (World.block_lt_of_cell? w _ hc)).trans hc⟩
theorem Sl.drew{w:ο}{a:Option Addr}{n:Nat}{S:Nat->ByteArray}(h:Sl w a n S)(q:Nat):Sl (w.drewN q) a n S:=h
theorem Fk(a:Option Addr)(n c:Nat)(S:Nat->ByteArray)(w:ο)(h:Sl w a n S)(L:Int)(h0:0<=L)(h1:L<=1048576) :
 XR μ 14 #[σ a n c,ι κ L] w λe w'=>w'=w/\∃ r:Int,e=ρ (ι κ r)/\r<=1048576/\(0<=r->n<=1048576/\∀ k,k<n->(S k).size<=1048576):=by
 have hn:=h.1;by_cases hs:(n:Int)<=L
 ·
  go_enter Tryz.func14,Tryz.ntmps14
  go_wp2;go_loop [1,5] (λl i=>∃ k:Nat,∃ x:Int,k<=n/\i=ι κ k/\l=ι κ x/\0<=x/\x<=1048576/\∀ j,j<k->(S j).size<=1048576) (λ_ i=>n - (XX i).toNat)
  case atStart=>exact⟨0,_,by omega,rfl,rfl,by omega,by omega,λj hj=>by omega⟩
  case round=>
   obtain⟨k,x,hk,rfl,rfl,hx0,hx1,hall⟩:=hrel;by_cases hlt:k<n
   ·
    have hsz:=(h.2 k hlt).1;obtain⟨b,off,rfl,hc⟩:=h.at k hlt;by_cases hneg:(0:Int)<=x - (S k).size
    ·
     go_wp2;go_round
     case rel=>exact⟨k+1,_,by omega,by go_num,rfl,by omega,by omega,λj hj=>by
      by_cases e:j=k
      · subst e;omega
      · exact hall j (by omega)⟩
     case measure=>simp [XX];omega
    ·
     go_wp2;go_ret
     exact⟨rfl,-1,rfl,by omega,λhh=>by omega⟩
   ·
    obtain rfl:k=n:=by omega
    go_wp2;go_ret
    exact⟨rfl,_,rfl,hx1,λ_=>⟨by omega,hall⟩⟩
 ·
  go_enter Tryz.func14,Tryz.ntmps14
  go_wp2;go_ret
  exact⟨rfl,-1,rfl,by omega,λhh=>by omega⟩
theorem F3(a a':Option Addr)(n c c':Nat)(S S':Nat->ByteArray)(w:ο)(h:Sl w a n S)(h':Sl w a' n S')(he:∀ k,k<n->S k=S' k) :
 XR μ 29 #[σ a n c,σ a' n c'] w λe w'=>e=ρ (β true)/\∃ q,w'=w.drewN q:=by
 have hn:=h.1;go_enter Tryz.func29,Tryz.ntmps29
 go_wp2;go_loopw [5] (λi wr=>∃ k q:Nat,k<=n/\i=ι κ k/\wr=w.drewN q) (λi _=>n - (XX i).toNat)
 case atStart=>exact⟨0,0,by omega,rfl,rfl⟩
 case round=>
  obtain⟨k,q,hk,rfl,hwr⟩:=hrel;have HR:Hid (wr=w.drewN q):=hwr;by_cases hlt:k<n
  ·
   have hkk:(k:Int)<n:=by omega
   obtain⟨b,off,rfl,hc⟩:=(h.drew q).at k hlt;obtain⟨b',off',rfl,hc'⟩:=(h'.drew q).at k hlt;rw [←he k hlt,←hwr] at hc';rw [←hwr] at hc;clear hwr;go_wp2;go_quiet (fail)
   go_wp2;go_roundw
   case rel=>exact⟨k+1,q+nq,by omega,by go_num,by rw [HR.out];simp⟩
   case measure=>simp [XX];omega
  ·
   clear hwr;obtain rfl:k=n:=by omega
   go_wp2;go_ret
   exact⟨rfl,q,HR.out⟩
def Gp(S:Nat->ByteArray)(n:Nat):List XU:=(List.range n).map λi=>τ (S i)
theorem IA(S:Nat->ByteArray)(n:Nat):(Gp S n).length=n:=by simp [Gp]
theorem IB(S:Nat->ByteArray)(n j:Nat)(h:j<n):(Gp S n)[j]?=ς (τ (S j)):=by simp [Gp,h]
set_option maxHeartbeats 4000000
theorem Tryz.infoS:(Tryz.prog.info? 9).map (λi=>(i.zero,i.size,i.bytes))=ς (ς (τ XN),1,16):=by kernel_rfl
theorem JM(a:Option Addr)(n c:Nat)(S:Nat->ByteArray)(w:ο)(h:Sl w a n S)(hn:n<=1048576) :
 XR μ 21 #[σ a n c] w λe w'=>∃ g,w.heap.size<=g/\e=ρ (σ (ς ⟨g,0,ν⟩) n n)/\w'.ownsRow w.heap.size 9 1 (σ (ς ⟨g,0,ν⟩) n n) n (Gp S n)/\υ w.heap.size w w':=by
 have hmk:=C1 (t:=27) Tryz.underlying27 Tryz.infoS n hn (by omega);go_enter Tryz.func21,Tryz.ntmps21
 go_wp2;clear hmk;go_loopw [4] (λi wr=>∃ (k:Nat) (cur:Array XU),k<=n/\i=ι κ k/\wr.heap[w.heap.size]?=ς (γ cur 9 (0,0))/\cur.size=n/\(∀ j,j<k->cur[j]?=ς (τ (S j)))/\υ w.heap.size w wr) (λi _=>n - (XX i).toNat)
 case atStart=>exact⟨0,_,by omega,rfl,η _ _,by simp [Bv],λj hj=>by omega,AE _ _⟩
 case round=>
  obtain⟨k,cur,hk,rfl,hG,hsz,hall,hb⟩:=hrel;have HG:Hid (wr.heap[w.heap.size]?=ς (γ cur 9 (0,0))):=hG;clear hG;by_cases hlt:k<n
  ·
   obtain⟨b,off,rfl,c0⟩:=(h.later hb).at k hlt;obtain⟨v0,hv0⟩:=there (A:=cur) (k:=k) (by omega);have g0:wr.cell? ⟨w.heap.size,k,ν⟩=ς v0:=(ε wr _ _ _ _ _ HG.out).trans hv0;have f0:wr.frozen? ⟨w.heap.size,k,ν⟩=false:=ζ wr _ _ _ _ HG.out;go_wp2;go_roundw
   case rel=>
    refine⟨k+1,cur.setIfInBounds k (τ (S k)),by omega,by go_num,π _ _ _ _ _ _ HG.out,by simpa using hsz,λj hj=>?_,Al hb (XK _)⟩;by_cases e:j=k
    · subst e;exact Df (by omega)
    · exact setA (hall j (by omega)) (by omega)
   case measure=>simp [XX];omega
  ·
   obtain rfl:k=n:=by omega
   go_wp2;go_ret
   refine⟨_,XK _,rfl,⟨by rw [IA];omega,.inr ⟨_,_,cur,rfl,XK _,HG.out,XK _,by unfold maxLen;omega,by omega,?_⟩⟩,hb⟩;apply List.ext_getElem?
   intro q;by_cases hq:q<k
   · rw [List.getElem?_take,if_pos (by omega),IB _ _ _ hq];simpa using hall q hq
   · rw [List.getElem?_take,if_neg (by omega),List.getElem?_eq_none (by rw [IA];omega)]
end Go.Proofs.YtfnfdllflgmhnaaGreatDoor
namespace Go.Proofs.YtfnfdllflgmhnaaGreatDoor
open Go.RowKit Go.Maps Go.WideMaps
set_option maxRecDepth 20000
set_option maxHeartbeats 8000000
theorem Ts(l s:Int)(w:ο):XR μ 20 #[χ #[ι κ l,ι κ s]] w λe w'=>e=ρ (χ #[ι κ l,ι κ s])/\υ w.heap.size w w':=by
 go_enter Tryz.func20,Tryz.ntmps20
 go_wp2;exact XL (v:=χ #[ι κ l,ι κ s]) (by simp [results,Tryz.results20,go_sem]) rfl ⟨rfl,A7 _ _ _ _⟩
theorem WM(l s:Int)(w:ο):XR μ 28 #[χ #[ι κ l,ι κ s],χ #[ι κ l,ι κ s]] w λe w'=>e=ρ (β true)/\υ w.heap.size w w':=by
 go_enter Tryz.func28,Tryz.ntmps28
 go_wp2;go_ret
 exact⟨rfl,AA (AE _ _) (AE _ _)⟩
theorem Rk(t:Int)(a:Option Addr)(n c:Nat)(S:Nat->ByteArray)(w:ο)(h:Sl w a n S)(L:Int)(h0:0<=L)(h1:L<=1048576):XR μ 16 #[χ #[ι κ t,σ a n c],ι κ L] w λe w'=>υ w.heap.size w w'/\∃ r:Int,e=ρ (ι κ r)/\(0<=r->n<=1048576/\∀ k,k<n->(S k).size<=1048576):=by
 have hb0:=AE w (γ #[ι κ t,σ a n c] 32);go_enter Tryz.func16,Tryz.ntmps16
 go_wp2_with (go_at_call 14;refine(Fk a n c S _ (h.later hb0) L h0 h1).mono ?_;rintro e w1 ⟨rfl,r,rfl,-,hr⟩;by_cases hr0:(0:Int)<=r)
 ·
  go_ret
  exact⟨hb0,r,rfl,hr⟩
 ·
  go_ret
  exact⟨hb0,-1,rfl,λhh=>by omega⟩
theorem T1(a:Option Addr)(n c:Nat)(T:Nat->Td)(w:ο)(h:TX w a n T)(L:Int)(h0:0<=L)(h1:L<=1048576) :
 XR μ 15 #[χ #[σ a n c],ι κ L] w λe w'=>υ w.heap.size w w'/\∃ r:Int,e=ρ (ι κ r)/\r<=1048576/\(0<=r->n<=1048576/\∀ k,k<n->Sm3 (T k)):=by
 have hb0:=AE w (γ #[σ a n c] 30);have H0:=h.later hb0;go_enter Tryz.func15,Tryz.ntmps15
 go_wp2_with (go_at_call 39;refine(Rl _ _ _ _ _ H0 L h0 h1).mono ?_;rintro e w1 ⟨hb1,r1,rfl,hr1,hs1⟩;replace hb1:=AA hb0 hb1;by_cases hp1:(0:Int)<=r1)
 all_goals go_ret
 · exact⟨hb1,r1,rfl,hr1,hs1⟩
 · exact⟨hb1,-1,rfl,by omega,λhh=>by omega⟩
structure LSm(nf ne:Nat)(S:Nat->ByteArray)(nd:Nat)(T:Nat->Td)(np:Nat)(U:Nat->ByteArray):Prop where
 f:nf<=1048576
 e:ne<=1048576/\∀ k,k<ne->(S k).size<=1048576
 d:nd<=1048576/\∀ k,k<nd->Sm3 (T k)
 p:np<=1048576/\∀ k,k<np->(U k).size<=1048576
theorem Tz(k0 k1 x1 x2 x3 x4:Int)(x5:Bool)(l0 l1 ts:Int)(up:Bool)(af:Option Addr)(nf cf:Nat)(F:Nat->Fle)(ae:Option Addr)(ne ce:Nat)(S:Nat->ByteArray)(ad:Option Addr)(nd cd:Nat)(T:Nat->Td)(ap:Option Addr)(np cp:Nat)(U:Nat->ByteArray)(w:ο)(hF:FX w af nf F)(hE:Sl w ae ne S)(hD:TX w ad nd T)(hP:Sl w ap np U) :
 XR μ 4 #[χ #[ι κ k0,ι κ k1,σ af nf cf,ι κ x1,ι κ x2,ι κ x3,ι κ x4,β x5,ι κ l0,ι κ l1,σ ae ne ce,σ ad nd cd,ι κ ts,σ ap np cp,β up],ι κ 1048576] w λe w'=>υ w.heap.size w w'/\∃ r:Int,e=ρ (ι κ r)/\(0<=r->LSm nf ne S nd T np U):=by
 have hX:=η w (γ #[ι κ k0,ι κ k1,σ af nf cf,ι κ x1,ι κ x2,ι κ x3,ι κ x4,β x5,ι κ l0,ι κ l1,σ ae ne ce,σ ad nd cd,ι κ ts,σ ap np cp,β up] 34);have hB:=AE w (γ #[ι κ k0,ι κ k1,σ af nf cf,ι κ x1,ι κ x2,ι κ x3,ι κ x4,β x5,ι κ l0,ι κ l1,σ ae ne ce,σ ad nd cd,ι κ ts,σ ap np cp,β up] 34);have c2:(w.alloc (γ #[ι κ k0,ι κ k1,σ af nf cf,ι κ x1,ι κ x2,ι κ x3,ι κ x4,β x5,ι κ l0,ι κ l1,σ ae ne ce,σ ad nd cd,ι κ ts,σ ap np cp,β up] 34)).cell? ⟨w.heap.size,2,ν⟩=ς (σ af nf cf):=(ε _ _ 2 _ _ _ hX).trans rfl;have c3:(w.alloc (γ #[ι κ k0,ι κ k1,σ af nf cf,ι κ x1,ι κ x2,ι κ x3,ι κ x4,β x5,ι κ l0,ι κ l1,σ ae ne ce,σ ad nd cd,ι κ ts,σ ap np cp,β up] 34)).cell? ⟨w.heap.size,3,ν⟩=ς (ι κ x1):=(ε _ _ 3 _ _ _ hX).trans rfl;have c4:(w.alloc (γ #[ι κ k0,ι κ k1,σ af nf cf,ι κ x1,ι κ x2,ι κ x3,ι κ x4,β x5,ι κ l0,ι κ l1,σ ae ne ce,σ ad nd cd,ι κ ts,σ ap np cp,β up] 34)).cell? ⟨w.heap.size,4,ν⟩=ς (ι κ x2):=(ε _ _ 4 _ _ _ hX).trans rfl;have c5:(w.alloc (γ #[ι κ k0,ι κ k1,σ af nf cf,ι κ x1,ι κ x2,ι κ x3,ι κ x4,β x5,ι κ l0,ι κ l1,σ ae ne ce,σ ad nd cd,ι κ ts,σ ap np cp,β up] 34)).cell? ⟨w.heap.size,5,ν⟩=ς (ι κ x3):=(ε _ _ 5 _ _ _ hX).trans rfl;have c6:(w.alloc (γ #[ι κ k0,ι κ k1,σ af nf cf,ι κ x1,ι κ x2,ι κ x3,ι κ x4,β x5,ι κ l0,ι κ l1,σ ae ne ce,σ ad nd cd,ι κ ts,σ ap np cp,β up] 34)).cell? ⟨w.heap.size,6,ν⟩=ς (ι κ x4):=(ε _ _ 6 _ _ _ hX).trans rfl;have c7:(w.alloc (γ #[ι κ k0,ι κ k1,σ af nf cf,ι κ x1,ι κ x2,ι κ x3,ι κ x4,β x5,ι κ l0,ι κ l1,σ ae ne ce,σ ad nd cd,ι κ ts,σ ap np cp,β up] 34)).cell? ⟨w.heap.size,7,ν⟩=ς (β x5):=(ε _ _ 7 _ _ _ hX).trans rfl;go_enter Tryz.func4,Tryz.ntmps4
 go_upto_region 4 with (go_at_call 13;refine(LX af nf cf F x1 x2 x3 x4 x5 _ (hF.later hB) 1048576 (by omega) (by omega)).mono ?_;rintro e w1 ⟨hb1,r1,rfl,hr1⟩;by_cases hp1:(0:Int)<=r1)
 rotate_left
 ·
  go_wp2;go_ret
  exact⟨AA hB hb1,-1,rfl,λhh=>by omega⟩
 have hf1:=hr1 hp1;have hnf:nf<=1048576:=by omega
 have hr1':r1<=1048576:=by omega
 clear hr1 hf1 c2 c3 c4 c5 c6 c7;replace hX:=AC hX hb1;replace hB:=AA hB hb1;have c10:w1.cell? ⟨w.heap.size,10,ν⟩=ς (σ ae ne ce):=(ε _ _ 10 _ _ _ hX).trans rfl;have c11:w1.cell? ⟨w.heap.size,11,ν⟩=ς (σ ad nd cd):=(ε _ _ 11 _ _ _ hX).trans rfl;have c12:w1.cell? ⟨w.heap.size,12,ν⟩=ς (ι κ ts):=(ε _ _ 12 _ _ _ hX).trans rfl;have c13:w1.cell? ⟨w.heap.size,13,ν⟩=ς (σ ap np cp):=(ε _ _ 13 _ _ _ hX).trans rfl;go_upto_region 7 with (go_at_call 14;refine(Fk ae ne ce S _ (hE.later hB) r1 hp1 hr1').mono ?_;rintro e w2 ⟨rfl,r2,rfl,hq2,hr2⟩;by_cases hp2:(0:Int)<=r2)
 rotate_left
 ·
  go_wp2;go_ret
  exact⟨hB,-1,rfl,λhh=>by omega⟩
 have hse:=hr2 hp2;clear hr2;go_upto_region 10 with (go_at_call 15;refine(T1 ad nd cd T _ (hD.later hB) r2 hp2 hq2).mono ?_;rintro e w3 ⟨hb3,r3,rfl,hq3,hr3⟩;by_cases hp3:(0:Int)<=r3)
 rotate_left
 ·
  go_wp2;go_ret
  exact⟨AA hB hb3,-1,rfl,λhh=>by omega⟩
 have hsd:=hr3 hp3;clear hr3 c10 c11 c12 c13;replace hX:=AC hX hb3;replace hB:=AA hB hb3;have c12:w3.cell? ⟨w.heap.size,12,ν⟩=ς (ι κ ts):=(ε _ _ 12 _ _ _ hX).trans rfl;have c13:w3.cell? ⟨w.heap.size,13,ν⟩=ς (σ ap np cp):=(ε _ _ 13 _ _ _ hX).trans rfl;go_wp2_with (go_at_call 16;refine(Rk ts ap np cp U _ (hP.later hB) r3 hp3 hq3).mono ?_;rintro e w4 ⟨hb4,r4,rfl,hr4⟩;by_cases hp4:(0:Int)<=r4)
 ·
  go_ret
  exact⟨AA hB hb4,r4,rfl,λhh=>⟨hnf,hse,hsd,hr4 hh⟩⟩
 ·
  go_ret
  exact⟨AA hB hb4,-1,rfl,λhh=>by omega⟩
theorem QO(w:ο)(a b c:Obj):(((w.alloc a).alloc b).alloc c).heap[w.heap.size]?=ς a/\(((w.alloc a).alloc b).alloc c).heap[w.heap.size+1]?=ς b/\(((w.alloc a).alloc b).alloc c).heap[w.heap.size+1+1]?=ς c/\υ w.heap.size w (((w.alloc a).alloc b).alloc c):=by
 have h1:=η w a;have h2:=η (w.alloc a) b;have h3:=η ((w.alloc a).alloc b) c;simp only [ω] at h2 h3
 exact⟨AC h1 (AA (AE _ _) (AE _ _)),AC h2 (AE _ _),h3,AA (AE _ _) (AA (AE _ _) (AE _ _))⟩
theorem Ec{w:ο}{B e size g n n' cap Q:Nat}{xs:List XU}(h:w.ownsRow B e size (σ (ς ⟨g,0,ν⟩) n cap) n' xs)(hQ:g≠Q)(o:Nat)(v:XU):(w.setCell ⟨Q,o,ν⟩ v).ownsRow B e size (σ (ς ⟨g,0,ν⟩) n cap) n' xs:=by
 refine⟨h.1,?_⟩;rcases h.2 with ⟨e1,_⟩ | ⟨g',cap',cur,e1,hB,hg,h4⟩
 · simp at e1
 ·
  simp at e1
  obtain⟨rfl,rfl,rfl⟩:=e1;exact .inr ⟨g,cap,cur,rfl,hB,AS hg hQ,h4⟩
theorem Gz{w:ο}{B B' e size n:Nat}{v:XU}{xs:List XU}(h:w.ownsRow B e size v n xs)(hB:B'<=B):w.ownsRow B' e size v n xs:=
 ⟨h.1,h.2.imp id (λ⟨g,cap,cur,e1,e2,e3⟩=>⟨g,cap,cur,e1,Xe hB e2,e3⟩)⟩
theorem Rg(t:Int)(a:Option Addr)(n c:Nat)(S:Nat->ByteArray)(w:ο)(h:Sl w a n S)(hn:n<=1048576):XR μ 23 #[χ #[ι κ t,σ a n c]] w λe w'=>∃ g,w.heap.size<=g/\e=ρ (χ #[ι κ t,σ (ς ⟨g,0,ν⟩) n n])/\w'.ownsRow w.heap.size 9 1 (σ (ς ⟨g,0,ν⟩) n n) n (Gp S n)/\υ w.heap.size w w':=by
 obtain⟨r1,r2,r3,hB⟩:=QO w (γ #[ι κ t,σ a n c] 32) (γ #[ι κ 0,σ ν 0 0] 46) (γ #[ι κ t,σ ν 0 0] 46);have c1:=(ε _ _ 1 _ _ _ r1).trans rfl;go_enter Tryz.func23,Tryz.ntmps23
 go_upto_region 3 with (fail)
 generalize (((w.alloc (γ #[ι κ t,σ a n c] 32)).alloc (γ #[ι κ 0,σ ν 0 0] 46)).alloc (γ #[ι κ t,σ ν 0 0] 46))=w0 at r1 r2 r3 hB c1 ⊢;go_upto_region 4 with (go_at_call 21;refine(JM a n c S _ (h.later hB) hn).mono ?_;rintro e w1 ⟨g,hg,rfl,hO,hb1⟩;have r3':=AC r3 hb1;have d1:=(ε _ _ 1 _ _ _ r3').trans rfl;have f1:=ζ _ _ 1 _ _ r3')
 have hl0:=hB.size;have hl1:=(XS.1 r3).1;have s3:(w1.setCell ⟨w.heap.size+1+1,1,ν⟩ (σ (ς ⟨g,0,ν⟩) n n)).heap[w.heap.size+1+1]?=ς (γ #[ι κ t,σ (ς ⟨g,0,ν⟩) n n] 46 (0,0)):=π _ _ 1 _ _ _ r3';have s2:=AS (B:=w.heap.size+1+1) (i:=1) (v:=σ (ς ⟨g,0,ν⟩) n n) (AC r2 hb1) (by omega);have sO:=Ec hO (Q:=w.heap.size+1+1) (by omega) 1 (σ (ς ⟨g,0,ν⟩) n n);have sB:=Al (B:=w.heap.size+1+1) (i:=1) (v:=σ (ς ⟨g,0,ν⟩) n n) (AA hB hb1) (by omega);clear r1 r2 r3 r3' c1 d1 f1 hO hb1;generalize w1.setCell ⟨w.heap.size+1+1,1,ν⟩ (σ (ς ⟨g,0,ν⟩) n n)=w2 at s3 s2 sO sB ⊢;have c0:=(ε _ _ 0 _ _ _ s3).trans rfl;have c1:=(ε _ _ 1 _ _ _ s3).trans rfl;have e0:=(ε _ _ 0 _ _ _ s2).trans rfl;have e1:=(ε _ _ 1 _ _ _ s2).trans rfl;have f0:=ζ _ _ 0 _ _ s2;have f1:=ζ _ _ 1 _ _ s2;go_wp2;refine XL (v:=χ #[ι κ t,σ (ς ⟨g,0,ν⟩) n n]) (Xd Tryz.results23 _ _ (w.heap.size+1) 46 _ (0,0) _ rfl (π _ _ 1 _ _ _ (π _ _ 0 _ _ _ s2)) Tryz.underlying46 rfl (by kernel_rfl)) rfl ⟨g,by omega,rfl,Ec (Ec (Gz sO hl0) (by omega) _ _) (by omega) _ _,Al (Al sB (by omega)) (by omega)⟩
def setL(w:ο)(Q:Nat):List (Nat×XU)->ο
 | []=>w
 | x :: r=>setL (w.setCell ⟨Q,x.1,ν⟩ x.2) Q r
theorem Ay{Q q:Nat}{o:Obj}(hne:q≠Q):∀ (l:List (Nat×XU)) {w:ο},w.heap[q]?=ς o->(setL w Q l).heap[q]?=ς o
 | [],_,h=>h
 | _ :: r,_,h=>Ay hne r (AS h hne)
theorem Ch{Q:Nat}{t:TypeId}:∀ (l:List (Nat×XU)) {w:ο} {cs:Array XU},w.heap[Q]?=ς (γ cs t (0,0))->(setL w Q l).heap[Q]?=ς (γ (l.foldl (λc x=>c.setIfInBounds x.1 x.2) cs) t (0,0))
 | [],_,_,h=>h
 | _ :: r,_,_,h=>Ch r (π _ _ _ _ _ _ h)
theorem Bp{w0:ο}{Q:Nat}(hQ:w0.heap.size<=Q):∀ (l:List (Nat×XU)) {w:ο},υ w0.heap.size w0 w->υ w0.heap.size w0 (setL w Q l)
 | [],_,h=>h
 | _ :: r,_,h=>Bp hQ r (Al h hQ)
theorem CP{Q:Nat}{B e size g n n' cap:Nat}{xs:List XU}(hne:g≠Q):∀ (l:List (Nat×XU)) {w:ο},w.ownsRow B e size (σ (ς ⟨g,0,ν⟩) n cap) n' xs->(setL w Q l).ownsRow B e size (σ (ς ⟨g,0,ν⟩) n cap) n' xs
 | [],_,h=>h
 | _ :: r,_,h=>CP hne r (Ec h hne _ _)
theorem EY{Q G:Nat}(h:Q<G):∀ (l:List (Nat×XU)) (w:ο),Kp G w (setL w Q l)
 | [],_=>λ_ _ _ h=>h
 | _ :: r,_=>(Kp.set h).trans (EY h r _)
theorem Dk{Q lo hi:Nat}(h:Q<lo):∀ (l:List (Nat×XU)) (w:ο),KpR lo hi w (setL w Q l)
 | [],_=>λ_ _ _ _ h=>h
 | _ :: r,_=>(KpR.set h).trans (Dk h r _)
theorem CJ(Q:Nat):∀ (l:List (Nat×XU)) (w:ο),(setL w Q l).heap.size=w.heap.size
 | [],_=>rfl
 | _ :: r,_=>(CJ Q r _).trans (by simp)
structure LC(V:ο)(lo hi:Nat)(gF nf:Nat)(F:Nat->Fle)(gE ne:Nat)(S:Nat->ByteArray)(gD nd:Nat)(T:Nat->Td)(gP np:Nat)(U:Nat->ByteArray):Prop where
 f:FR V gF nf F
 hf:lo<=gF/\gF<hi
 e:V.ownsRow lo 9 1 (σ (ς ⟨gE,0,ν⟩) ne ne) ne (Gp S ne)
 he:gE<hi
 d:∃ G,lo<=G/\lo<=gD/\TF G V gD nd T
 s:STb V lo hi gD nd T
 p:V.ownsRow lo 9 1 (σ (ς ⟨gP,0,ν⟩) np np) np (Gp U np)
 hp:gP<hi
