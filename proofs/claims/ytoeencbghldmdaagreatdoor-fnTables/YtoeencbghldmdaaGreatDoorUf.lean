import Derived.Test.YtoeencbghldmdaaGreatDoorUc
import Derived.Deep.RegionHeld3
import Derived.Test.YtoeencbghldmdaaGreatDoorTf
import Derived.Maps.OwnSet
import Derived.Test.YtoeencbghldmdaaGreatDoorUfa
open Array renaming getElem?_eq_some_iff → VL
open ByteArray renaming empty → VG
open Go renaming Calls → VK, World → ο, bodyPost_ret → VE, cell_of_row → ε, frozen_of_row → ζ, heap_alloc_new → η, results_cell_row → VW, Value → VN, wpAnyH_done → VP, wp_region_held_drew → VH, heap_setCell_same → π
open Go.Ending renaming returned → ρ
open Go.Ground renaming data → φ
open Go.IntKind renaming i64 → κ
open Go.Obj renaming cells → γ
open Go.Op renaming bytesLess → Va
open Go.Operand renaming tmp → δ
open Go.Proofs.Tryz renaming prog → μ
open Go.RowKit renaming Below → υ, intOf → VQ
open Go.RowKit.Below renaming refl → VT
open Go.Value renaming agg → χ, int → ι, slice → σ, string → τ, bool → β, pointer → ψ
open Go.World renaming news_of_block → VI, ownsRow_made → VU, size_alloc → ω
open List renaming length_take → VY, nil_append → Vd
open Nat renaming add_zero → Vf, le_refl → VD, le_trans → VX, zero_add → VM
open Option renaming none → ν, some → ς
open Or renaming inl → VV, inr → Vb
namespace Go.Proofs.YtoeencbghldmdaaGreatDoor
open Go.RowKit Go.Maps Go.WideMaps
set_option maxRecDepth 20000
set_option maxHeartbeats 8000000
theorem RA(a:Option Addr)(m c:Nat)(I:Nat->Itm)(ox mx:Int)(sx:ByteArray)(oy my:Int)(sy:ByteArray)(w:ο)(h:IL w a m I)(hm:2<=m)(hm2:m<=1048576)(hx:I 0=⟨ox,mx,sx⟩)(hy:I 1=⟨oy,my,sy⟩) :
 VK μ 83 #[ι κ 9,σ a m c] w λe w'=>e=ρ (χ #[ι κ 1,ι κ (Db (!decide (mx=0) && !decide (my=0))),τ ⟨#[]⟩])/\υ w.heap.size w w':=by
 have i0:(0:Int)<m:=by omega
 have i1:(1:Int)<m:=by omega
 obtain⟨b,off,rfl,c0,c1,c2,hs⟩:=h.later (AD w (γ #[ι κ 0,ι κ 0,τ ⟨#[]⟩] 60)) 0 (by omega);rw [hx] at c0 c1 c2 hs;simp only [Nat.zero_mul,Vf] at c0 c1 c2 hs
 obtain⟨b',off',e',d0,d1,d2,hs'⟩:=h.later (w':=((w.alloc (γ #[ι κ 0,ι κ 0,τ ⟨#[]⟩] 60)).alloc (γ #[ι κ ox,ι κ mx,τ sx] 60))) (AA (AD _ _) (AD _ _)) 1 (by omega);rw [hy] at d0 d1 d2 hs';simp only [Nat.one_mul] at d0 d1 d2 hs'
 clear hx hy;obtain⟨rfl,rfl⟩:b=b'/\off=off':=by simpa using e'
 clear e';have hb0:υ w.heap.size w (((w.alloc (γ #[ι κ 0,ι κ 0,τ ⟨#[]⟩] 60)).alloc (γ #[ι κ ox,ι κ mx,τ sx] 60)).alloc (γ #[ι κ oy,ι κ my,τ sy] 60)):=Ay _ _ _ _;have HR0:Hid ((((w.alloc (γ #[ι κ 0,ι κ 0,τ ⟨#[]⟩] 60)).alloc (γ #[ι κ ox,ι κ mx,τ sx] 60)).alloc (γ #[ι κ oy,ι κ my,τ sy] 60)).heap[w.heap.size]?=ς (γ #[ι κ 0,ι κ 0,τ ⟨#[]⟩] 60 (0,0))):=AC (AC (η w _) (AD _ _)) (AD _ _);by_cases h0:mx=0
 ·
  skip
  have HB:Db (!decide (mx=0) && !decide (my=0))=Db false:=by simp [h0]
  rw [HB];clear HB;subst h0;go_enter Tryz.func83,Tryz.ntmps83
  go_wp2_with (first | (go_at_call 121;refine(EH false _).mono ?_;rintro e w2 ⟨rfl,hb2⟩;have HR2:=AC HR0.out hb2;have r0:w2.cell? ⟨w.heap.size,0,ν⟩=ς (ι κ 0):=(ε _ _ 0 _ _ _ HR2).trans rfl;have rf0:w2.frozen? ⟨w.heap.size,0,ν⟩=false:=ζ _ _ 0 _ _ HR2;have r1:w2.cell? ⟨w.heap.size,1,ν⟩=ς (ι κ 0):=(ε _ _ 1 _ _ _ HR2).trans rfl;have rf1:w2.frozen? ⟨w.heap.size,1,ν⟩=false:=ζ _ _ 1 _ _ HR2;have r2:w2.cell? ⟨w.heap.size,2,ν⟩=ς (τ ⟨#[]⟩):=(ε _ _ 2 _ _ _ HR2).trans rfl;have rf2:w2.frozen? ⟨w.heap.size,2,ν⟩=false:=ζ _ _ 2 _ _ HR2;have B2:=AA hb0 hb2))
  exact VE (v:=χ #[ι κ 1,ι κ (Db false),τ ⟨#[]⟩]) (VW Tryz.results83 _ _ w.heap.size 60 _ (0,0) _ rfl (DM HR2 _ _ _) Tryz.underlying60 rfl (by kernel_rfl)) rfl ⟨rfl,BM B2 (VD _) _ _ _⟩
 ·
  have n0:(mx == 0)=false:=by simpa using h0
  have b0:(mx != 0)=true:=by simpa using h0
  by_cases h1:my=0
  ·
   skip
   have HB:Db (!decide (mx=0) && !decide (my=0))=Db false:=by simp [h0,h1]
   rw [HB];clear HB;subst h1;go_enter Tryz.func83,Tryz.ntmps83
   go_wp2_with (first | (go_at_call 121;refine(EH false _).mono ?_;rintro e w2 ⟨rfl,hb2⟩;have HR2:=AC HR0.out hb2;have r0:w2.cell? ⟨w.heap.size,0,ν⟩=ς (ι κ 0):=(ε _ _ 0 _ _ _ HR2).trans rfl;have rf0:w2.frozen? ⟨w.heap.size,0,ν⟩=false:=ζ _ _ 0 _ _ HR2;have r1:w2.cell? ⟨w.heap.size,1,ν⟩=ς (ι κ 0):=(ε _ _ 1 _ _ _ HR2).trans rfl;have rf1:w2.frozen? ⟨w.heap.size,1,ν⟩=false:=ζ _ _ 1 _ _ HR2;have r2:w2.cell? ⟨w.heap.size,2,ν⟩=ς (τ ⟨#[]⟩):=(ε _ _ 2 _ _ _ HR2).trans rfl;have rf2:w2.frozen? ⟨w.heap.size,2,ν⟩=false:=ζ _ _ 2 _ _ HR2;have B2:=AA hb0 hb2))
   exact VE (v:=χ #[ι κ 1,ι κ (Db false),τ ⟨#[]⟩]) (VW Tryz.results83 _ _ w.heap.size 60 _ (0,0) _ rfl (DM HR2 _ _ _) Tryz.underlying60 rfl (by kernel_rfl)) rfl ⟨rfl,BM B2 (VD _) _ _ _⟩
  ·
   have n1:(my == 0)=false:=by simpa using h1
   have b1:(my != 0)=true:=by simpa using h1
   have HB:Db (!decide (mx=0) && !decide (my=0))=Db true:=by simp [h0,h1]
   rw [HB];clear HB;go_enter Tryz.func83,Tryz.ntmps83
   go_wp2_with (first | (go_at_call 121;refine(EH true _).mono ?_;rintro e w2 ⟨rfl,hb2⟩;have HR2:=AC HR0.out hb2;have r0:w2.cell? ⟨w.heap.size,0,ν⟩=ς (ι κ 0):=(ε _ _ 0 _ _ _ HR2).trans rfl;have rf0:w2.frozen? ⟨w.heap.size,0,ν⟩=false:=ζ _ _ 0 _ _ HR2;have r1:w2.cell? ⟨w.heap.size,1,ν⟩=ς (ι κ 0):=(ε _ _ 1 _ _ _ HR2).trans rfl;have rf1:w2.frozen? ⟨w.heap.size,1,ν⟩=false:=ζ _ _ 1 _ _ HR2;have r2:w2.cell? ⟨w.heap.size,2,ν⟩=ς (τ ⟨#[]⟩):=(ε _ _ 2 _ _ _ HR2).trans rfl;have rf2:w2.frozen? ⟨w.heap.size,2,ν⟩=false:=ζ _ _ 2 _ _ HR2;have B2:=AA hb0 hb2))
   exact VE (v:=χ #[ι κ 1,ι κ (Db true),τ ⟨#[]⟩]) (VW Tryz.results83 _ _ w.heap.size 60 _ (0,0) _ rfl (DM HR2 _ _ _) Tryz.underlying60 rfl (by kernel_rfl)) rfl ⟨rfl,BM B2 (VD _) _ _ _⟩
theorem PT(a:Option Addr)(m c:Nat)(I:Nat->Itm)(ox mx:Int)(sx:ByteArray)(oy my:Int)(sy:ByteArray)(w:ο)(h:IL w a m I)(hm:2<=m)(hm2:m<=1048576)(hx:I 0=⟨ox,mx,sx⟩)(hy:I 1=⟨oy,my,sy⟩) :
 VK μ 83 #[ι κ 10,σ a m c] w λe w'=>e=ρ (χ #[ι κ 1,ι κ (Db (!decide (mx=0) || !decide (my=0))),τ ⟨#[]⟩])/\υ w.heap.size w w':=by
 have i0:(0:Int)<m:=by omega
 have i1:(1:Int)<m:=by omega
 obtain⟨b,off,rfl,c0,c1,c2,hs⟩:=h.later (AD w (γ #[ι κ 0,ι κ 0,τ ⟨#[]⟩] 60)) 0 (by omega);rw [hx] at c0 c1 c2 hs;simp only [Nat.zero_mul,Vf] at c0 c1 c2 hs
 obtain⟨b',off',e',d0,d1,d2,hs'⟩:=h.later (w':=((w.alloc (γ #[ι κ 0,ι κ 0,τ ⟨#[]⟩] 60)).alloc (γ #[ι κ ox,ι κ mx,τ sx] 60))) (AA (AD _ _) (AD _ _)) 1 (by omega);rw [hy] at d0 d1 d2 hs';simp only [Nat.one_mul] at d0 d1 d2 hs'
 clear hx hy;obtain⟨rfl,rfl⟩:b=b'/\off=off':=by simpa using e'
 clear e';have hb0:υ w.heap.size w (((w.alloc (γ #[ι κ 0,ι κ 0,τ ⟨#[]⟩] 60)).alloc (γ #[ι κ ox,ι κ mx,τ sx] 60)).alloc (γ #[ι κ oy,ι κ my,τ sy] 60)):=Ay _ _ _ _;have HR0:Hid ((((w.alloc (γ #[ι κ 0,ι κ 0,τ ⟨#[]⟩] 60)).alloc (γ #[ι κ ox,ι κ mx,τ sx] 60)).alloc (γ #[ι κ oy,ι κ my,τ sy] 60)).heap[w.heap.size]?=ς (γ #[ι κ 0,ι κ 0,τ ⟨#[]⟩] 60 (0,0))):=AC (AC (η w _) (AD _ _)) (AD _ _);by_cases h0:mx=0
 ·
  skip
  by_cases h1:my=0
  ·
   skip
   have HB:Db (!decide (mx=0) || !decide (my=0))=Db false:=by simp [h0,h1]
   rw [HB];clear HB;subst h0;subst h1;go_enter Tryz.func83,Tryz.ntmps83
   go_wp2_with (first | (go_at_call 121;refine(EH false _).mono ?_;rintro e w2 ⟨rfl,hb2⟩;have HR2:=AC HR0.out hb2;have r0:w2.cell? ⟨w.heap.size,0,ν⟩=ς (ι κ 0):=(ε _ _ 0 _ _ _ HR2).trans rfl;have rf0:w2.frozen? ⟨w.heap.size,0,ν⟩=false:=ζ _ _ 0 _ _ HR2;have r1:w2.cell? ⟨w.heap.size,1,ν⟩=ς (ι κ 0):=(ε _ _ 1 _ _ _ HR2).trans rfl;have rf1:w2.frozen? ⟨w.heap.size,1,ν⟩=false:=ζ _ _ 1 _ _ HR2;have r2:w2.cell? ⟨w.heap.size,2,ν⟩=ς (τ ⟨#[]⟩):=(ε _ _ 2 _ _ _ HR2).trans rfl;have rf2:w2.frozen? ⟨w.heap.size,2,ν⟩=false:=ζ _ _ 2 _ _ HR2;have B2:=AA hb0 hb2))
   exact VE (v:=χ #[ι κ 1,ι κ (Db false),τ ⟨#[]⟩]) (VW Tryz.results83 _ _ w.heap.size 60 _ (0,0) _ rfl (DM HR2 _ _ _) Tryz.underlying60 rfl (by kernel_rfl)) rfl ⟨rfl,BM B2 (VD _) _ _ _⟩
  ·
   have n1:(my == 0)=false:=by simpa using h1
   have b1:(my != 0)=true:=by simpa using h1
   have HB:Db (!decide (mx=0) || !decide (my=0))=Db true:=by simp [h0,h1]
   rw [HB];clear HB;subst h0;go_enter Tryz.func83,Tryz.ntmps83
   go_wp2_with (first | (go_at_call 121;refine(EH true _).mono ?_;rintro e w2 ⟨rfl,hb2⟩;have HR2:=AC HR0.out hb2;have r0:w2.cell? ⟨w.heap.size,0,ν⟩=ς (ι κ 0):=(ε _ _ 0 _ _ _ HR2).trans rfl;have rf0:w2.frozen? ⟨w.heap.size,0,ν⟩=false:=ζ _ _ 0 _ _ HR2;have r1:w2.cell? ⟨w.heap.size,1,ν⟩=ς (ι κ 0):=(ε _ _ 1 _ _ _ HR2).trans rfl;have rf1:w2.frozen? ⟨w.heap.size,1,ν⟩=false:=ζ _ _ 1 _ _ HR2;have r2:w2.cell? ⟨w.heap.size,2,ν⟩=ς (τ ⟨#[]⟩):=(ε _ _ 2 _ _ _ HR2).trans rfl;have rf2:w2.frozen? ⟨w.heap.size,2,ν⟩=false:=ζ _ _ 2 _ _ HR2;have B2:=AA hb0 hb2))
   exact VE (v:=χ #[ι κ 1,ι κ (Db true),τ ⟨#[]⟩]) (VW Tryz.results83 _ _ w.heap.size 60 _ (0,0) _ rfl (DM HR2 _ _ _) Tryz.underlying60 rfl (by kernel_rfl)) rfl ⟨rfl,BM B2 (VD _) _ _ _⟩
 ·
  have n0:(mx == 0)=false:=by simpa using h0
  have b0:(mx != 0)=true:=by simpa using h0
  have HB:Db (!decide (mx=0) || !decide (my=0))=Db true:=by simp [h0]
  rw [HB];clear HB;go_enter Tryz.func83,Tryz.ntmps83
  go_wp2_with (first | (go_at_call 121;refine(EH true _).mono ?_;rintro e w2 ⟨rfl,hb2⟩;have HR2:=AC HR0.out hb2;have r0:w2.cell? ⟨w.heap.size,0,ν⟩=ς (ι κ 0):=(ε _ _ 0 _ _ _ HR2).trans rfl;have rf0:w2.frozen? ⟨w.heap.size,0,ν⟩=false:=ζ _ _ 0 _ _ HR2;have r1:w2.cell? ⟨w.heap.size,1,ν⟩=ς (ι κ 0):=(ε _ _ 1 _ _ _ HR2).trans rfl;have rf1:w2.frozen? ⟨w.heap.size,1,ν⟩=false:=ζ _ _ 1 _ _ HR2;have r2:w2.cell? ⟨w.heap.size,2,ν⟩=ς (τ ⟨#[]⟩):=(ε _ _ 2 _ _ _ HR2).trans rfl;have rf2:w2.frozen? ⟨w.heap.size,2,ν⟩=false:=ζ _ _ 2 _ _ HR2;have B2:=AA hb0 hb2))
  exact VE (v:=χ #[ι κ 1,ι κ (Db true),τ ⟨#[]⟩]) (VW Tryz.results83 _ _ w.heap.size 60 _ (0,0) _ rfl (DM HR2 _ _ _) Tryz.underlying60 rfl (by kernel_rfl)) rfl ⟨rfl,BM B2 (VD _) _ _ _⟩
theorem SS(a:Option Addr)(m c:Nat)(I:Nat->Itm)(w:ο)(h:IL w a m I)(hm:2<=m)(hm2:m<=1048576) :
 VK μ 83 #[ι κ 9,σ a m c] w λe w'=>e=ρ (χ #[ι κ 1,ι κ (Db (!decide ((I 0).m=0) && !decide ((I 1).m=0))),τ ⟨#[]⟩])/\υ w.heap.size w w':=RA a m c I _ _ _ _ _ _ w h hm hm2 rfl rfl
theorem RF(a:Option Addr)(m c:Nat)(I:Nat->Itm)(w:ο)(h:IL w a m I)(hm:2<=m)(hm2:m<=1048576) :
 VK μ 83 #[ι κ 10,σ a m c] w λe w'=>e=ρ (χ #[ι κ 1,ι κ (Db (!decide ((I 0).m=0) || !decide ((I 1).m=0))),τ ⟨#[]⟩])/\υ w.heap.size w w':=PT a m c I _ _ _ _ _ _ w h hm hm2 rfl rfl
theorem Q8(o:Int)(a:Option Addr)(m c:Nat)(I:Nat->Itm)(w:ο)(h:IL w a m I)(hm:AW o<=m)(hm2:m<=1048576)(h4:4<=o)(h13:o<=13) :
 VK μ 83 #[ι κ o,σ a m c] w λe w'=>e=ρ (χ #[ι κ (C8 o (I 0) (I 1)).o,ι κ (C8 o (I 0) (I 1)).m,τ (C8 o (I 0) (I 1)).s])/\υ w.heap.size w w':=by
 by_cases e4:o=4
 · subst e4;exact SX a m c I w h (by simp [AW] at hm;omega) hm2
 by_cases e5:o=5
 · subst e5;exact SW a m c I w h (by simp [AW] at hm;omega) hm2
 by_cases e6:o=6
 · subst e6;exact SV a m c I w h (by simp [AW] at hm;omega) hm2
 by_cases e7:o=7
 · subst e7;exact SU a m c I w h (by simp [AW] at hm;omega) hm2
 by_cases e8:o=8
 · subst e8;exact ST a m c I w h (by simp [AW] at hm;omega) hm2
 by_cases e9:o=9
 · subst e9;exact SS a m c I w h (by simp [AW] at hm;omega) hm2
 by_cases e10:o=10
 · subst e10;exact RF a m c I w h (by simp [AW] at hm;omega) hm2
 by_cases e11:o=11
 · subst e11;exact RE a m c I w h (by simp [AW] at hm;omega) hm2
 by_cases e12:o=12
 · subst e12;exact RD a m c I w h (by simp [AW] at hm;omega) hm2
 by_cases e13:o=13
 · subst e13;exact RB a m c I w h (by simp [AW] at hm;omega) hm2
 omega
def BJ(C:Nat->Clm)(k:Nat):Bool:=AM (C k).s && C9 (C k).t && !AR C (C k).s k
def A5(n:Nat)(C:Nat->Clm)(m:Nat->Nat)(R:Nat->Nat->Itm)(i:Nat):Bool:=
 decide (m i=n) && allN (m i) (λj=>BB (R i j).o (R i j).m (R i j).s (C j).t) && (decide (i=0) || DJ (R (i - 1) 0).m (R (i - 1) 0).s (R i 0).m (R i 0).s)
def Bk(s:ByteArray)(n:Nat)(C:Nat->Clm)(r:Nat)(m:Nat->Nat)(R:Nat->Nat->Itm):Bool:=
 AM s && Bn n 1 20 && decide (r<=1000) && allN n (BJ C) && allN r (A5 n C m R)
theorem CL.take{w:ο}{a:Option Addr}{n k:Nat}{C:Nat->Clm}(h:CL w a n C)(hk:k<=n):CL w a k C:=λj hj=>h j (by omega)
set_option maxHeartbeats 4000000
theorem E7{n:Nat}{p:Nat->Bool}(h:n=0∨20<n):(Bn n 1 20 && allN n p)=false:=by
 have:Bn n 1 20=false:=by simp [Bn];omega
 rw [this];rfl
theorem LQ{n:Nat}{p:Nat->Bool}(h:∀ j,j<n->p j=true)(h0:0<n)(hm:n<=20):(Bn n 1 20 && allN n p)=true:=by
 rw [Gp h (λ_=>hm)];simp [h0]
theorem Fq(b:Nat)(a:Option Addr)(n c:Nat)(C:Nat->Clm)(w:ο)(hK:KwAt w b)(h:CL w a n C)(hn:n<=1048576) :
 VK μ 64 #[σ a n c,ι κ 20,.func (.func 65) #[.map (ς b)] #[]] w λe w'=>e=ρ (β (Bn n 1 20 && allN n (λj=>BI (C j).s (C j).t)))/\υ w.heap.size w w':=by
 have hb0:=VT w.heap.size w;go_enter Tryz.func64,Tryz.ntmps64
 by_cases h0:n=0
 ·
  subst h0;go_wp2;go_ret
  exact⟨AN (E7 (by omega)).symm,hb0⟩
 have h0':((n:Int) == 0)=false:=by simp;omega
 by_cases h20:20<n
 ·
  have h20':(20:Int)<n:=by omega
  go_wp2;go_ret
  exact⟨AN (E7 (by omega)).symm,hb0⟩
 have h20':(n:Int)<=20:=by omega
 go_wp2;go_loopw [20] (λi wr=>∃ k:Nat,k<=n/\i=ι κ k/\(∀ j,j<k->BI (C j).s (C j).t=true)/\υ w.heap.size w wr) (λi _=>n - (VQ i).toNat)
 case atStart=>exact⟨0,by omega,rfl,λj hj=>by omega,hb0⟩
 case round=>
  obtain⟨j,hj,rfl,hall,hb2⟩:=hrel;by_cases hlt:j<n
  ·
   obtain⟨b',off,rfl,d0,d1,hs⟩:=h.later hb2 j hlt;have hK2:=hK.later (AA hb2 (AD wr (γ #[τ (C j).s,ι κ (C j).t] 58)));go_wp2_with (go_at_call 65;refine(Pv b _ _ _ hK2 hs).mono ?_;rintro e w3 ⟨rfl,hb3⟩;replace hb3:=bj hb2 hb3;rcases ho:BI (C j).s (C j).t)
   ·
    go_ret
    exact⟨AN (EW hlt (VV ho)).symm,hb3⟩
   ·
    go_roundw
    case rel=>exact⟨j+1,by omega,by go_num,λi hi=>by
     by_cases e:i=j
     · subst e;exact ho
     · exact hall i (by omega),hb3⟩
    case measure=>simp [VQ];omega
  ·
   obtain rfl:j=n:=by omega
   go_wp2;go_ret
   exact⟨AN (LQ hall (by omega) (by omega)).symm,hb2⟩
theorem Px(a:Option Addr)(n c:Nat)(V:Nat->Itm)(w:ο)(h:IL w a n V)(hn:n<=1048576) :
 VK μ 66 #[σ a n c,ι κ 20,.func (.func 67) #[] #[]] w λe w'=>e=ρ (β (Bn n 1 20 && allN n (λj=>Aa (V j).o (V j).m (V j).s)))/\υ w.heap.size w w':=by
 have hb0:=VT w.heap.size w;go_enter Tryz.func66,Tryz.ntmps66
 by_cases h0:n=0
 ·
  subst h0;go_wp2;go_ret
  exact⟨AN (E7 (by omega)).symm,hb0⟩
 have h0':((n:Int) == 0)=false:=by simp;omega
 by_cases h20:20<n
 ·
  have h20':(20:Int)<n:=by omega
  go_wp2;go_ret
  exact⟨AN (E7 (by omega)).symm,hb0⟩
 have h20':(n:Int)<=20:=by omega
 go_wp2;go_loopw [20] (λi wr=>∃ k:Nat,k<=n/\i=ι κ k/\(∀ j,j<k->Aa (V j).o (V j).m (V j).s=true)/\υ w.heap.size w wr) (λi _=>n - (VQ i).toNat)
 case atStart=>exact⟨0,by omega,rfl,λj hj=>by omega,hb0⟩
 case round=>
  obtain⟨j,hj,rfl,hall,hb2⟩:=hrel;by_cases hlt:j<n
  ·
   obtain⟨b',off,rfl,d0,d1,d2,hs⟩:=h.later hb2 j hlt;go_wp2_with (go_at_call 67;refine(JD _ _ _ _ hs).mono ?_;rintro e w3 ⟨rfl,hb3⟩;replace hb3:=bj hb2 hb3;rcases ho:Aa (V j).o (V j).m (V j).s)
   ·
    go_ret
    exact⟨AN (EW hlt (VV ho)).symm,hb3⟩
   ·
    go_roundw
    case rel=>exact⟨j+1,by omega,by go_num,λi hi=>by
     by_cases e:i=j
     · subst e;exact ho
     · exact hall i (by omega),hb3⟩
    case measure=>simp [VQ];omega
  ·
   obtain rfl:j=n:=by omega
   go_wp2;go_ret
   exact⟨AN (LQ hall (by omega) (by omega)).symm,hb2⟩
theorem Py(b:Nat)(a:Option Addr)(n c:Nat)(m:Nat->Nat)(O:Nat->Nat->Itm)(w:ο)(hK:KwAt w b)(h:OL w a n m O)(hn:n<=1048576) :
 VK μ 70 #[σ a n c,ι κ 20,.func (.func 68) #[.map (ς b)] #[]] w λe w'=>e=ρ (β (Bn n 1 20 && allN n (λj=>AZ (O j) (m j))))/\υ w.heap.size w w':=by
 have hb0:=VT w.heap.size w;go_enter Tryz.func70,Tryz.ntmps70
 by_cases h0:n=0
 ·
  subst h0;go_wp2;go_ret
  exact⟨AN (E7 (by omega)).symm,hb0⟩
 have h0':((n:Int) == 0)=false:=by simp;omega
 by_cases h20:20<n
 ·
  have h20':(20:Int)<n:=by omega
  go_wp2;go_ret
  exact⟨AN (E7 (by omega)).symm,hb0⟩
 have h20':(n:Int)<=20:=by omega
 go_wp2;go_loopw [20] (λi wr=>∃ k:Nat,k<=n/\i=ι κ k/\(∀ j,j<k->AZ (O j) (m j)=true)/\υ w.heap.size w wr) (λi _=>n - (VQ i).toNat)
 case atStart=>exact⟨0,by omega,rfl,λj hj=>by omega,hb0⟩
 case round=>
  obtain⟨j,hj,rfl,hall,hb2⟩:=hrel;by_cases hlt:j<n
  ·
   obtain⟨b',off,i,c',rfl,d0,di,dm⟩:=h.later hb2 j hlt;have hK2:=hK.later hb2;go_wp2_with (go_at_call 68;refine(OI b i _ c' _ _ hK2 di dm).mono ?_;rintro e w3 ⟨rfl,hb3⟩;replace hb3:=AA hb2 hb3;rcases ho:AZ (O j) (m j))
   ·
    go_ret
    exact⟨AN (EW hlt (VV ho)).symm,hb3⟩
   ·
    go_roundw
    case rel=>exact⟨j+1,by omega,by go_num,λi hi=>by
     by_cases e:i=j
     · subst e;exact ho
     · exact hall i (by omega),hb3⟩
    case measure=>simp [VQ];omega
  ·
   obtain rfl:j=n:=by omega
   go_wp2;go_ret
   exact⟨AN (LQ hall (by omega) (by omega)).symm,hb2⟩
def Bh(n2 n3:Nat)(col:ByteArray)(n5 n6 n7:Nat):Bool:=(n2:Int) == 0 && (n3:Int) == 0 && decide (col.size=0) && (n5:Int) == 0 && (n6:Int) == 0 && (n7:Int) == 0
theorem KE(k:Int)(tb:ByteArray)(a2:Option Addr)(n2 c2:Nat)(a3:Option Addr)(n3 c3:Nat)(col:ByteArray)(a5:Option Addr)(n5 c5:Nat)(a6:Option Addr)(n6 c6:Nat)(a7:Option Addr)(n7 c7:Nat)(w:ο) :
 VK μ 63 #[χ #[ι κ k,τ tb,σ a2 n2 c2,σ a3 n3 c3,τ col,σ a5 n5 c5,σ a6 n6 c6,σ a7 n7 c7]] w λe w'=>e=ρ (β (Bh n2 n3 col n5 n6 n7))/\υ w.heap.size w w':=by
 have hE:=NA col;go_enter Tryz.func63,Tryz.ntmps63
 go_wp2;all_goals
  go_ret
  exact⟨AN (by simp [Bh, *]),AD _ _⟩
theorem Lw(s:ByteArray)(w:ο):VK μ 128 #[τ s] w λe w'=>e=ρ (β false)/\w'=w:=by
 have hq:=CG s;go_enter Tryz.func128,Tryz.ntmps128
 go_wp2;go_ret
 exact⟨rfl,rfl⟩
theorem N8(x:Int)(w:ο):VK μ 157 #[ι κ x] w λe w'=>e=ρ (β false)/\w'=w:=by
 have hq:(x == x)=true:=by simp
 go_enter Tryz.func157,Tryz.ntmps157
 go_wp2;go_ret
 exact⟨rfl,rfl⟩
theorem Fw(s s':ByteArray)(w:ο):VK μ 103 #[τ s,τ s'] w λe w'=>e=ρ (β (Va s.toList s'.toList))/\w'=w:=by
 rcases hl:Va s.toList s'.toList
 all_goals
  go_enter Tryz.func103,Tryz.ntmps103
  go_wp2_with (go_at_call 128;refine(Lw _ _).mono ?_;rintro e w1 ⟨rfl,rfl⟩)
  go_ret
  exact⟨rfl,rfl⟩
theorem Hl(x y:Int)(w:ο):VK μ 127 #[ι κ x,ι κ y] w λe w'=>e=ρ (β (decide (x<y)))/\w'=w:=by
 by_cases hl:x<y
 ·
  have hd:decide (x<y)=true:=by simp [hl]
  go_enter Tryz.func127,Tryz.ntmps127
  go_wp2_with (go_at_call 157;refine(N8 _ _).mono ?_;rintro e w1 ⟨rfl,rfl⟩)
  go_ret
  exact⟨AN hd.symm,rfl⟩
 ·
  have hd:decide (x<y)=false:=by simp [hl]
  go_enter Tryz.func127,Tryz.ntmps127
  go_wp2_with (go_at_call 157;refine(N8 _ _).mono ?_;rintro e w1 ⟨rfl,rfl⟩)
  go_ret
  exact⟨AN hd.symm,rfl⟩
theorem Fn(s:ByteArray)(x y:VN)(w:ο):VK μ 61 #[χ #[τ s,x,y]] w λe w'=>e=ρ (τ s)/\υ w.heap.size w w':=by
 go_enter Tryz.func61,Tryz.ntmps61
 go_wp2;go_ret
 exact⟨rfl,AD _ _⟩
theorem EN(a:Option Addr)(n c:Nat)(I:Nat->Itm)(w:ο)(h:IL w a n I)(hn:0<n):VK μ 100 #[σ a n c] w λe w'=>e=ρ (ι κ (I 0).m)/\w'=w:=by
 obtain⟨b,off,rfl,d0,d1,d2,-⟩:=h 0 hn;have i0:(0:Int)<(n:Int):=by omega
 go_enter Tryz.func100,Tryz.ntmps100
 go_wp2;go_ret
 exact⟨rfl,rfl⟩
theorem DU(a:Option Addr)(n c:Nat)(I:Nat->Itm)(w:ο)(h:IL w a n I)(hn:0<n):VK μ 102 #[σ a n c] w λe w'=>e=ρ (τ (I 0).s)/\w'=w:=by
 obtain⟨b,off,rfl,d0,d1,d2,-⟩:=h 0 hn;have i0:(0:Int)<(n:Int):=by omega
 go_enter Tryz.func102,Tryz.ntmps102
 go_wp2;go_ret
 exact⟨rfl,rfl⟩
theorem Pq(o m:Int)(s s':ByteArray)(t:Int)(w:ο):VK μ 148 #[χ #[ι κ o,ι κ m,τ s],χ #[τ s',ι κ t]] w λe w'=>e=ρ (β (o == t))/\υ w.heap.size w w':=by
 have hb0:=AA (AD w (γ #[ι κ o,ι κ m,τ s] 60)) (AD _ (γ #[τ s',ι κ t] 58));go_enter Tryz.func148,Tryz.ntmps148
 go_wp2;go_ret
 exact⟨rfl,hb0⟩
theorem Ca(m:Int)(w:ο):VK μ 126 #[ι κ m] w λe w'=>e=ρ (χ #[ι κ 1,ι κ m,τ ⟨#[]⟩])/\υ w.heap.size w w':=by
 go_enter Tryz.func126,Tryz.ntmps126
 go_wp2;exact VE (v:=χ #[ι κ 1,ι κ m,τ ⟨#[]⟩]) (by simp [results,Tryz.results126,go_sem]) rfl ⟨rfl,AD _ _⟩
def BA(n n':Nat)(I:Nat->Itm)(C:Nat->Clm):Bool:=decide (n=n') && allN n (λj=>(I j).o == (C j).t)
theorem Pu(a:Option Addr)(n c:Nat)(I:Nat->Itm)(a':Option Addr)(n' c':Nat)(C:Nat->Clm)(w:ο)(h:IL w a n I)(h':CL w a' n' C)(hn:n<=1048576)(hn':n'<=1048576) :
 VK μ 147 #[σ a n c,σ a' n' c',.func (.func 148) #[] #[]] w λe w'=>e=ρ (β (BA n n' I C))/\υ w.heap.size w w':=by
 have hb0:=VT w.heap.size w;by_cases hq:n=n'
 rotate_left
 ·
  have hq':((n:Int) == (n':Int))=false:=by simp;omega
  have HF:Hid (BA n n' I C=false):=by simp [Hid,BA,hq]
  go_enter Tryz.func147,Tryz.ntmps147
  go_wp2;go_ret
  exact⟨AN HF.out.symm,hb0⟩
 subst hq;have hq':((n:Int) == (n:Int))=true:=by simp
 go_enter Tryz.func147,Tryz.ntmps147
 go_wp2;go_loopw [7,8,9,17] (λ_ _ _ i wr=>∃ k:Nat,k<=n/\i=ι κ k/\(∀ j,j<k->((I j).o == (C j).t)=true)/\υ w.heap.size w wr) (λ_ _ _ i _=>n - (VQ i).toNat)
 case atStart=>exact⟨0,by omega,rfl,λj hj=>by omega,hb0⟩
 case round=>
  obtain⟨k,hk,rfl,hall,hb⟩:=hrel;by_cases hlt:k<n
  ·
   obtain⟨b,off,rfl,d0,d1,d2,-⟩:=h.later hb k hlt;obtain⟨b',off',rfl,e0,e1,-⟩:=h'.later hb k hlt;have hb1:=AA (AD wr (γ #[ι κ (I k).o,ι κ (I k).m,τ (I k).s] 60)) (AD _ (γ #[τ (C k).s,ι κ (C k).t] 58));have f0:=AB (AD wr (γ #[ι κ (I k).o,ι κ (I k).m,τ (I k).s] 60)) e0;have f1:=AB (AD wr (γ #[ι κ (I k).o,ι κ (I k).m,τ (I k).s] 60)) e1;go_wp2_with (go_at_call 148;refine(Pq _ _ _ _ _ _).mono ?_;rintro e w3 ⟨rfl,hb3⟩;replace hb3:=AA hb (AA hb1 hb3);rcases ho:((I k).o == (C k).t))
   ·
    go_ret
    exact⟨AN (by unfold BA;rw [Am hlt ho];simp),hb3⟩
   ·
    go_roundw
    case rel=>exact⟨k+1,by omega,by go_num,λi hi=>by
     by_cases e:i=k
     · subst e;exact ho
     · exact hall i (by omega),hb3⟩
    case measure=>simp [VQ];omega
  ·
   obtain rfl:k=n:=by omega
   go_wp2;go_ret
   exact⟨AN (by unfold BA;rw [Ak hall];simp),hb⟩
theorem Hb(a:Option Addr)(n c:Nat)(I:Nat->Itm)(a':Option Addr)(n' c':Nat)(C:Nat->Clm)(w:ο)(h:IL w a n I)(h':CL w a' n' C)(hn:n<=1048576)(hn':n'<=1048576) :
 VK μ 114 #[σ a n c,σ a' n' c'] w λe w'=>e=ρ (β (BA n n' I C))/\υ w.heap.size w w':=by
 go_enter Tryz.func114,Tryz.ntmps114
 go_wp2_with (go_at_call 147;refine(Pu _ _ _ _ _ _ _ _ _ h h' hn hn').mono ?_;rintro e w1 ⟨rfl,hb1⟩)
 go_ret
 exact⟨rfl,hb1⟩
theorem Ar(w:ο):υ w.heap.size w w.drew:=BO (VT _ _)
def Ki(T:Nat->Td)(k:Nat):Bool:=decide (k=0) || Va (T (k - 1)).s.toList (T k).s.toList
def PC(R:Nat->Nat->Itm)(k:Nat):Bool:=decide (k=0) || decide ((R (k - 1) 0).m<(R k 0).m)
def PB(R:Nat->Nat->Itm)(k:Nat):Bool:=decide (k=0) || Va (R (k - 1) 0).s.toList (R k 0).s.toList
theorem Rg(a:Option Addr)(n c:Nat)(T:Nat->Td)(w:ο)(h:TL w a n T)(hn:n<=1048576):VK μ 60 #[σ a n c,.func (.func 61) #[] #[]] w λe w'=>e=ρ (β (allN n (Ki T)))/\υ w.heap.size w w':=by
 have hb0:=VT w.heap.size w;go_enter Tryz.func60,Tryz.ntmps60
 go_wp2;go_loopw [5] (λi wr=>∃ p:Nat,(p=0∨p<n)/\i=ι κ (p+1:Nat)/\(∀ j,j<p+1->Ki T j=true)/\υ w.heap.size w wr) (λi _=>n - (VQ i).toNat)
 case atStart=>exact⟨0,VV rfl,rfl,λj hj=>by
  obtain rfl:j=0:=by omega
  rfl,hb0⟩
 case round=>
  obtain⟨p,hk,rfl,hall,hb⟩:=hrel;by_cases hlt:p+1<n
  ·
   obtain⟨b,off,ac,cc,ar,cr,rfl,c0,c1,c2,-,-,-⟩:=h.later hb (p+1) hlt;obtain⟨b',off',ac',cc',ar',cr',e',f0,f1,f2,-,-,-⟩:=h.later hb p (by omega);obtain⟨rfl,rfl⟩:b=b'/\off=off':=by simpa using e'
   have i0:(0:Int)<=(p:Int):=by omega
   have i1:(p:Int)<(n:Int):=by omega
   have i3:(0:Int)<=(p:Int)+1:=by omega
   have i4:(p:Int)+1<(n:Int):=by omega
   have i2:IntKind.i64.wrap (p:Int)=(p:Int):=by rw [IntKind.wrap_i64];omega
   rcases h7:Va (T p).s.toList (T (p+1)).s.toList
   ·
    go_wp2;refine VH (S:=λx=>υ wr.heap.size wr x) (by kernel_rfl) (Ar _) (λjH=>?_);refine tk 0 jH ?_;refine tk 1 jH ?_;refine tk 2 jH ?_;refine tk 3 (v:=ι κ (p:Int)) jH ?_
    refine tk 4 (v:=ψ (ς ⟨b,off+p * 3,ν⟩)) jH ?_
    refine tk 5 jH ?_ (hy:=λx jS=>by have k0:=AB jS c0;have k1:=AB jS c1;have k2:=AB jS c2;have k3:=AB jS f0;have k4:=AB jS f1;have k5:=AB jS f2;go_simp<;>rfl)
    try simp only [zS]
    refine tk 7 jH ?_;refine tk 8 jH ?_;refine tk 9 jH ?_;refine tk 10 jH ?_;refine tk 11 jH ?_ (hy:=λx jS=>by have k0:=AB jS c0;have k1:=AB jS c1;have k2:=AB jS c2;have k3:=AB jS f0;have k4:=AB jS f1;have k5:=AB jS f2;go_simp<;>rfl)
    try simp only [zS]
    refine rd 6 (λK hK=>?_);go_simp;refine(Fn (T p).s _ _ _).mono ?_;rintro e w1 ⟨rfl,hb1⟩;refine hK.out _ _ (AA jH hb1) (λjH=>?_);clear hK K;try simp only [zS]
    refine rd 12 (λK hK=>?_);go_simp;refine(Fn (T (p+1)).s _ _ _).mono ?_;rintro e w2 ⟨rfl,hb2⟩;refine hK.out _ _ (AA jH hb2) (λjH=>?_);clear hK K;try simp only [zS]
    refine rd 13 (λK hK=>?_);go_simp;refine(Fw (T p).s (T (p+1)).s _).mono ?_;rw [h7];rintro e w3 ⟨rfl,rfl⟩;refine hK.out _ _ (jH) (λjH=>?_);clear hK K;try simp only [zS]
    refine tk 14 jH ?_
    try simp only [zS]
    refine VP (by kernel_rfl) ?_ _;go_wp2;go_ret
    exact⟨AN (Am (p:=Ki T) hlt (by unfold Ki;rw [Nat.add_sub_cancel,h7];simp)).symm,AA hb jH⟩
   ·
    go_wp2;refine VH (S:=λx=>υ wr.heap.size wr x) (by kernel_rfl) (Ar _) (λjH=>?_);refine tk 0 jH ?_;refine tk 1 jH ?_;refine tk 2 jH ?_;refine tk 3 (v:=ι κ (p:Int)) jH ?_
    refine tk 4 (v:=ψ (ς ⟨b,off+p * 3,ν⟩)) jH ?_
    refine tk 5 jH ?_ (hy:=λx jS=>by have k0:=AB jS c0;have k1:=AB jS c1;have k2:=AB jS c2;have k3:=AB jS f0;have k4:=AB jS f1;have k5:=AB jS f2;go_simp<;>rfl)
    try simp only [zS]
    refine tk 7 jH ?_;refine tk 8 jH ?_;refine tk 9 jH ?_;refine tk 10 jH ?_;refine tk 11 jH ?_ (hy:=λx jS=>by have k0:=AB jS c0;have k1:=AB jS c1;have k2:=AB jS c2;have k3:=AB jS f0;have k4:=AB jS f1;have k5:=AB jS f2;go_simp<;>rfl)
    try simp only [zS]
    refine rd 6 (λK hK=>?_);go_simp;refine(Fn (T p).s _ _ _).mono ?_;rintro e w1 ⟨rfl,hb1⟩;refine hK.out _ _ (AA jH hb1) (λjH=>?_);clear hK K;try simp only [zS]
    refine rd 12 (λK hK=>?_);go_simp;refine(Fn (T (p+1)).s _ _ _).mono ?_;rintro e w2 ⟨rfl,hb2⟩;refine hK.out _ _ (AA jH hb2) (λjH=>?_);clear hK K;try simp only [zS]
    refine rd 13 (λK hK=>?_);go_simp;refine(Fw (T p).s (T (p+1)).s _).mono ?_;rw [h7];rintro e w3 ⟨rfl,rfl⟩;refine hK.out _ _ (jH) (λjH=>?_);clear hK K;try simp only [zS]
    refine tk 14 jH ?_
    try simp only [zS]
    refine VP (by kernel_rfl) ?_ _;go_wp2;go_roundw
    case rel=>exact⟨p+1,Vb hlt,by go_num,λj hj=>by
     by_cases e:j=p+1
     · subst e;unfold Ki;rw [Nat.add_sub_cancel,h7];simp
     · exact hall j (by omega),AA hb jH⟩
    case measure=>simp [VQ];omega
  ·
   go_wp2;go_ret
   exact⟨AN (Ak λj hj=>hall j (by omega)).symm,hb⟩
theorem Rf(a:Option Addr)(n c:Nat)(m:Nat->Nat)(R:Nat->Nat->Itm)(w:ο)(h:OL w a n m R)(h0:∀ k,k<n->0<m k)(hn:n<=1048576):VK μ 99 #[σ a n c,.func (.func 100) #[] #[]] w λe w'=>e=ρ (β (allN n (PC R)))/\υ w.heap.size w w':=by
 have hb0:=VT w.heap.size w;go_enter Tryz.func99,Tryz.ntmps99
 go_wp2;go_loopw [5] (λi wr=>∃ p:Nat,(p=0∨p<n)/\i=ι κ (p+1:Nat)/\(∀ j,j<p+1->PC R j=true)/\υ w.heap.size w wr) (λi _=>n - (VQ i).toNat)
 case atStart=>exact⟨0,VV rfl,rfl,λj hj=>by
  obtain rfl:j=0:=by omega
  rfl,hb0⟩
 case round=>
  obtain⟨p,hk,rfl,hall,hb⟩:=hrel;by_cases hlt:p+1<n
  ·
   obtain⟨b,off,i1,c1,rfl,c0,g1,l1⟩:=h.later hb (p+1) hlt;obtain⟨b',off',i2,c2,e',f0,g2,l2⟩:=h.later hb p (by omega);have q1:=h0 (p+1) hlt;have q2:=h0 p (by omega);obtain⟨rfl,rfl⟩:b=b'/\off=off':=by simpa using e'
   have i0:(0:Int)<=(p:Int):=by omega
   have i1:(p:Int)<(n:Int):=by omega
   have i3:(0:Int)<=(p:Int)+1:=by omega
   have i4:(p:Int)+1<(n:Int):=by omega
   have i2:IntKind.i64.wrap (p:Int)=(p:Int):=by rw [IntKind.wrap_i64];omega
   rcases h7:decide ((R p 0).m<(R (p+1) 0).m)
   ·
    go_wp2;refine VH (S:=λx=>υ wr.heap.size wr x) (by kernel_rfl) (Ar _) (λjH=>?_);refine tk 0 jH ?_;refine tk 1 jH ?_;refine tk 2 jH ?_;refine tk 3 (v:=ι κ (p:Int)) jH ?_
    refine tk 4 (v:=ψ (ς ⟨b,off+p,ν⟩)) jH ?_
    refine tk 5 jH ?_ (hy:=λx jS=>by have k0:=AB jS c0;have k1:=AB jS f0;go_simp<;>rfl)
    try simp only [zS]
    refine tk 7 jH ?_;refine tk 8 jH ?_;refine tk 9 jH ?_;refine tk 10 jH ?_;refine tk 11 jH ?_ (hy:=λx jS=>by have k0:=AB jS c0;have k1:=AB jS f0;go_simp<;>rfl)
    try simp only [zS]
    refine rd 6 (λK hK=>?_);go_simp;refine(EN _ _ _ (R p) _ (g2.later jH) q2).mono ?_;rintro e w1 ⟨rfl,rfl⟩;refine hK.out _ _ (jH) (λjH=>?_);clear hK K;try simp only [zS]
    refine rd 12 (λK hK=>?_);go_simp;refine(EN _ _ _ (R (p+1)) _ (g1.later jH) q1).mono ?_;rintro e w2 ⟨rfl,rfl⟩;refine hK.out _ _ (jH) (λjH=>?_);clear hK K;try simp only [zS]
    refine rd 13 (λK hK=>?_);go_simp;refine(Hl (R p 0).m (R (p+1) 0).m _).mono ?_;rw [h7];rintro e w3 ⟨rfl,rfl⟩;refine hK.out _ _ (jH) (λjH=>?_);clear hK K;try simp only [zS]
    refine tk 14 jH ?_
    try simp only [zS]
    refine VP (by kernel_rfl) ?_ _;go_wp2;go_ret
    exact⟨AN (Am (p:=PC R) hlt (by unfold PC;rw [Nat.add_sub_cancel,h7];simp)).symm,AA hb jH⟩
   ·
    go_wp2;refine VH (S:=λx=>υ wr.heap.size wr x) (by kernel_rfl) (Ar _) (λjH=>?_);refine tk 0 jH ?_;refine tk 1 jH ?_;refine tk 2 jH ?_;refine tk 3 (v:=ι κ (p:Int)) jH ?_
    refine tk 4 (v:=ψ (ς ⟨b,off+p,ν⟩)) jH ?_
    refine tk 5 jH ?_ (hy:=λx jS=>by have k0:=AB jS c0;have k1:=AB jS f0;go_simp<;>rfl)
    try simp only [zS]
    refine tk 7 jH ?_;refine tk 8 jH ?_;refine tk 9 jH ?_;refine tk 10 jH ?_;refine tk 11 jH ?_ (hy:=λx jS=>by have k0:=AB jS c0;have k1:=AB jS f0;go_simp<;>rfl)
    try simp only [zS]
    refine rd 6 (λK hK=>?_);go_simp;refine(EN _ _ _ (R p) _ (g2.later jH) q2).mono ?_;rintro e w1 ⟨rfl,rfl⟩;refine hK.out _ _ (jH) (λjH=>?_);clear hK K;try simp only [zS]
    refine rd 12 (λK hK=>?_);go_simp;refine(EN _ _ _ (R (p+1)) _ (g1.later jH) q1).mono ?_;rintro e w2 ⟨rfl,rfl⟩;refine hK.out _ _ (jH) (λjH=>?_);clear hK K;try simp only [zS]
    refine rd 13 (λK hK=>?_);go_simp;refine(Hl (R p 0).m (R (p+1) 0).m _).mono ?_;rw [h7];rintro e w3 ⟨rfl,rfl⟩;refine hK.out _ _ (jH) (λjH=>?_);clear hK K;try simp only [zS]
    refine tk 14 jH ?_
    try simp only [zS]
    refine VP (by kernel_rfl) ?_ _;go_wp2;go_roundw
    case rel=>exact⟨p+1,Vb hlt,by go_num,λj hj=>by
     by_cases e:j=p+1
     · subst e;unfold PC;rw [Nat.add_sub_cancel,h7];simp
     · exact hall j (by omega),AA hb jH⟩
    case measure=>simp [VQ];omega
  ·
   go_wp2;go_ret
   exact⟨AN (Ak λj hj=>hall j (by omega)).symm,hb⟩
theorem Re(a:Option Addr)(n c:Nat)(m:Nat->Nat)(R:Nat->Nat->Itm)(w:ο)(h:OL w a n m R)(h0:∀ k,k<n->0<m k)(hn:n<=1048576):VK μ 101 #[σ a n c,.func (.func 102) #[] #[]] w λe w'=>e=ρ (β (allN n (PB R)))/\υ w.heap.size w w':=by
 have hb0:=VT w.heap.size w;go_enter Tryz.func101,Tryz.ntmps101
 go_wp2;go_loopw [5] (λi wr=>∃ p:Nat,(p=0∨p<n)/\i=ι κ (p+1:Nat)/\(∀ j,j<p+1->PB R j=true)/\υ w.heap.size w wr) (λi _=>n - (VQ i).toNat)
 case atStart=>exact⟨0,VV rfl,rfl,λj hj=>by
  obtain rfl:j=0:=by omega
  rfl,hb0⟩
 case round=>
  obtain⟨p,hk,rfl,hall,hb⟩:=hrel;by_cases hlt:p+1<n
  ·
   obtain⟨b,off,i1,c1,rfl,c0,g1,l1⟩:=h.later hb (p+1) hlt;obtain⟨b',off',i2,c2,e',f0,g2,l2⟩:=h.later hb p (by omega);have q1:=h0 (p+1) hlt;have q2:=h0 p (by omega);obtain⟨rfl,rfl⟩:b=b'/\off=off':=by simpa using e'
   have i0:(0:Int)<=(p:Int):=by omega
   have i1:(p:Int)<(n:Int):=by omega
   have i3:(0:Int)<=(p:Int)+1:=by omega
   have i4:(p:Int)+1<(n:Int):=by omega
   have i2:IntKind.i64.wrap (p:Int)=(p:Int):=by rw [IntKind.wrap_i64];omega
   rcases h7:Va (R p 0).s.toList (R (p+1) 0).s.toList
   ·
    go_wp2;refine VH (S:=λx=>υ wr.heap.size wr x) (by kernel_rfl) (Ar _) (λjH=>?_);refine tk 0 jH ?_;refine tk 1 jH ?_;refine tk 2 jH ?_;refine tk 3 (v:=ι κ (p:Int)) jH ?_
    refine tk 4 (v:=ψ (ς ⟨b,off+p,ν⟩)) jH ?_
    refine tk 5 jH ?_ (hy:=λx jS=>by have k0:=AB jS c0;have k1:=AB jS f0;go_simp<;>rfl)
    try simp only [zS]
    refine tk 7 jH ?_;refine tk 8 jH ?_;refine tk 9 jH ?_;refine tk 10 jH ?_;refine tk 11 jH ?_ (hy:=λx jS=>by have k0:=AB jS c0;have k1:=AB jS f0;go_simp<;>rfl)
    try simp only [zS]
    refine rd 6 (λK hK=>?_);go_simp;refine(DU _ _ _ (R p) _ (g2.later jH) q2).mono ?_;rintro e w1 ⟨rfl,rfl⟩;refine hK.out _ _ (jH) (λjH=>?_);clear hK K;try simp only [zS]
    refine rd 12 (λK hK=>?_);go_simp;refine(DU _ _ _ (R (p+1)) _ (g1.later jH) q1).mono ?_;rintro e w2 ⟨rfl,rfl⟩;refine hK.out _ _ (jH) (λjH=>?_);clear hK K;try simp only [zS]
    refine rd 13 (λK hK=>?_);go_simp;refine(Fw (R p 0).s (R (p+1) 0).s _).mono ?_;rw [h7];rintro e w3 ⟨rfl,rfl⟩;refine hK.out _ _ (jH) (λjH=>?_);clear hK K;try simp only [zS]
    refine tk 14 jH ?_
    try simp only [zS]
    refine VP (by kernel_rfl) ?_ _;go_wp2;go_ret
    exact⟨AN (Am (p:=PB R) hlt (by unfold PB;rw [Nat.add_sub_cancel,h7];simp)).symm,AA hb jH⟩
   ·
    go_wp2;refine VH (S:=λx=>υ wr.heap.size wr x) (by kernel_rfl) (Ar _) (λjH=>?_);refine tk 0 jH ?_;refine tk 1 jH ?_;refine tk 2 jH ?_;refine tk 3 (v:=ι κ (p:Int)) jH ?_
    refine tk 4 (v:=ψ (ς ⟨b,off+p,ν⟩)) jH ?_
    refine tk 5 jH ?_ (hy:=λx jS=>by have k0:=AB jS c0;have k1:=AB jS f0;go_simp<;>rfl)
    try simp only [zS]
    refine tk 7 jH ?_;refine tk 8 jH ?_;refine tk 9 jH ?_;refine tk 10 jH ?_;refine tk 11 jH ?_ (hy:=λx jS=>by have k0:=AB jS c0;have k1:=AB jS f0;go_simp<;>rfl)
    try simp only [zS]
    refine rd 6 (λK hK=>?_);go_simp;refine(DU _ _ _ (R p) _ (g2.later jH) q2).mono ?_;rintro e w1 ⟨rfl,rfl⟩;refine hK.out _ _ (jH) (λjH=>?_);clear hK K;try simp only [zS]
    refine rd 12 (λK hK=>?_);go_simp;refine(DU _ _ _ (R (p+1)) _ (g1.later jH) q1).mono ?_;rintro e w2 ⟨rfl,rfl⟩;refine hK.out _ _ (jH) (λjH=>?_);clear hK K;try simp only [zS]
    refine rd 13 (λK hK=>?_);go_simp;refine(Fw (R p 0).s (R (p+1) 0).s _).mono ?_;rw [h7];rintro e w3 ⟨rfl,rfl⟩;refine hK.out _ _ (jH) (λjH=>?_);clear hK K;try simp only [zS]
    refine tk 14 jH ?_
    try simp only [zS]
    refine VP (by kernel_rfl) ?_ _;go_wp2;go_roundw
    case rel=>exact⟨p+1,Vb hlt,by go_num,λj hj=>by
     by_cases e:j=p+1
     · subst e;unfold PB;rw [Nat.add_sub_cancel,h7];simp
     · exact hall j (by omega),AA hb jH⟩
    case measure=>simp [VQ];omega
  ·
   go_wp2;go_ret
   exact⟨AN (Ak λj hj=>hall j (by omega)).symm,hb⟩
theorem BV{P:Program}{t k e:TypeId}(ht:P.underlying t=ς (.map k e))(q:IntKind)(n:Int)(w:ο):(Instr.makeMap t (ς (ι q n))).run P w=.ok (.map (ς w.heap.size)) (w.alloc (.map #[] 0)):=by
 simp [Instr.makeMap,run_underlying ht,asInt,asIntOf,Result.andThen]
def pl(C:Nat->Clm):Nat->DataW Unit
 | 0=>.map []
 | k+1=>(pl C k).put (CQ (C k).s) (.lit (.int .i64 k))
theorem Jv{a b:ByteArray}(h:CQ a=CQ b):a=b:=by
 unfold CQ at h;injection h with h;exact BD (by rw [ByteArray.toList_eq,ByteArray.toList_eq];exact h)
theorem Gg(C:Nat->Clm):∀ k,Tidy (pl C k)
 | 0=>tidy_empty
 | k+1=>(Gg C k).put (show WideAt.IsKeyLit (CQ (C k).s) from trivial) _
theorem Hd(C:Nat->Clm)(s:ByteArray):∀ k,Maps.has (pl C k) (CQ s)=AR C s k
 | 0=>rfl
 | k+1=>by
  show Maps.has ((pl C k).put (CQ (C k).s) (.lit (.int .i64 k))) (CQ s)=(AR C s k || (C k).s.toList == s.toList)
  by_cases e:(C k).s=s
  ·
   rw [e,has_put_same (Gg C k).isMap (show WideAt.IsKeyLit (CQ s) from trivial),CG]
   simp
  · rw [has_put_other (λh=>e (Jv h).symm),Hd C s k,Rm,decide_eq_false e];simp
def DW(C:Nat->Clm)(n:Nat):Bool:=allN n (λk=>!AR C (C k).s k)
theorem LY(C:Nat->Clm):∀ k,Maps.size (pl C k)<=k/\(Maps.size (pl C k)=k↔∀ j,j<k->AR C (C j).s j=false)
 | 0=>⟨VD _,⟨λ_ j hj=>by omega,λ_=>rfl⟩⟩
 | k+1=>by
  obtain⟨h1,h2⟩:=LY C k;have h3:Maps.size (pl C (k+1))=if Maps.has (pl C k) (CQ (C k).s) then Maps.size (pl C k) else Maps.size (pl C k)+1:=size_put (Gg C k) _
  rw [Hd] at h3;rcases hq:AR C (C k).s k
  ·
   rw [hq] at h3;simp only [Bool.false_eq_true,if_false] at h3
   refine⟨by omega,⟨λe j hj=>?_,λh=>?_⟩⟩
   ·
    by_cases ej:j=k
    · subst ej;exact hq
    · exact h2.1 (by omega) j (by omega)
   · have:=h2.2 λj hj=>h j (by omega);omega
  ·
   rw [hq] at h3;simp only [if_true] at h3
   refine⟨by omega,⟨λe=>by omega,λh=>?_⟩⟩;have:=h k (by omega);rw [hq] at this;cases this
theorem Mt(C:Nat->Clm)(n:Nat):(((Maps.size (pl C n):Nat):Int) == (n:Int))=DW C n:=by
 obtain⟨-,h⟩:=LY C n;rcases hd:DW C n
 ·
  have:¬Maps.size (pl C n)=n:=λe=>by
   have ht:DW C n=true:=Ak λj hj=>by rw [h.1 e j hj];rfl
   rw [hd] at ht;cases ht
  simp;omega
 ·
  have:Maps.size (pl C n)=n:=h.2 λj hj=>by
   rcases hq:AR C (C j).s j
   · rfl
   · have:DW C n=false:=Am hj (by rw [hq];rfl);rw [hd] at this;cases this
  rw [this];simp
theorem A9{w w':ο}{q b:Nat}{o:Obj}(h:w.heap[q]?=ς o)(hg:w.grownBy w' (ς b))(hne:q≠b):w'.heap[q]?=ς o:=
 (hg.block q (VL.1 h).1 (λe=>hne (by cases e;rfl))).trans h
theorem Ep(a:Option Addr)(n c:Nat)(C:Nat->Clm)(w:ο)(h:CL w a n C)(hn:n<=1048576) :
 VK μ 34 #[.slice a n c] w λe w'=>e=.returned (.agg #[.slice a n c,.map (ς (w.heap.size+1))])/\w'.ownsMap μ 9 (plainElem (H:=Unit) μ 3) (w.heap.size+1) n (pl C n)/\υ w.heap.size w w':=by
 have hmm:=BV (P:=μ) (t:=75) Tryz.underlying75 .i64 n;have hW:(w.alloc (.cells #[.slice ν 0 0,.map ν] 77)).heap.size=w.heap.size+1:=by simp
 have hbW:υ w.heap.size w ((w.alloc (.cells #[.slice ν 0 0,.map ν] 77)).alloc (.map #[] 0)):=AA (AD _ _) (AD _ _);go_enter Tryz.func34,Tryz.ntmps34
 go_wp2;clear hmm;go_loopw [4,5,11] (λ_ _ i wr=>∃ k:Nat,k<=n/\i=.int .i64 k/\wr.ownsMap μ 9 (plainElem (H:=Unit) μ 3) (w.heap.size+1) k (pl C k)/\wr.heap[w.heap.size]?=ς (.cells #[.slice ν 0 0,.map ν] 77 (0,0))/\υ w.heap.size w wr) (λ_ _ i _=>n - (VQ i).toNat)
 case atStart=>
  refine⟨0,by omega,rfl,?_,AC (η _ _) (AD _ _),hbW⟩;have:=World.ownsMap_made (w.alloc (.cells #[.slice ν 0 0,.map ν] 77)) μ 9 (plainElem (H:=Unit) μ 3);rw [hW] at this;exact this
 case round=>
  obtain⟨k,hk,rfl,hown,hrow,hb⟩:=hrel;have HR:Hid (wr.heap[w.heap.size]?=ς (.cells #[.slice ν 0 0,.map ν] 77 (0,0))):=hrow;clear hrow;by_cases hlt:k<n
  ·
   obtain⟨b,off,rfl,d0,d1,hs⟩:=h.later hb k hlt;have hkey:keyOf μ 9 (.string (C k).s)=ς (CQ (C k).s):=keyOf_string_mk Tryz.underlying9 (by unfold maxLen;omega);have hval:plainElem (H:=Unit) μ 3 (.int .i64 k)=ς (.lit (.int .i64 k),[]):=plainElem_int Tryz.underlying3 (by have q1:IntKind.i64.min=-9223372036854775808:=rfl;have q2:IntKind.i64.max=9223372036854775807:=rfl;simp [Lit.wf];omega);have HV:Hid (plainElem (H:=Unit) μ 3 (.int .i64 k)=ς (.lit (.int .i64 k),[])):=hval;clear hval;go_wp2_with (first | (at_mapUpdate;refine wpList_mapUpdate_own _ rfl _ _ _ 75 rfl 9 3 Fk Tryz.underlying75 (plainElem (H:=Unit) μ 3) (w.heap.size+1) k (pl C k) rfl (hown.alloc _) (by unfold maxLen;omega) _ _ _ rfl rfl hkey (.lit (.int .i64 k)) [] HV.out ?_;intro w1 hown1 hgrow1) | go_in)
   go_roundw
   case rel=>exact⟨k+1,by omega,by go_num,hown1,A9 (AC HR.out (AD _ _)) hgrow1 (by omega),(AA hb (AD _ _)).grown hgrow1 (AA hb (AD _ _)).size (λj hj=>by injection hj with hj;omega)⟩
   case measure=>simp [VQ];omega
  ·
   obtain rfl:k=n:=by omega
   have m0:wr.cell? ⟨w.heap.size,0,ν⟩=ς (.slice ν 0 0):=(ε _ _ 0 _ _ _ HR.out).trans rfl;have m1:wr.cell? ⟨w.heap.size,1,ν⟩=ς (.map ν):=(ε _ _ 1 _ _ _ HR.out).trans rfl;have f0:wr.frozen? ⟨w.heap.size,0,ν⟩=false:=ζ _ _ 0 _ _ HR.out;have f1:wr.frozen? ⟨w.heap.size,1,ν⟩=false:=ζ _ _ 1 _ _ HR.out;go_wp2;have RV:=λv0 v1=>π _ _ 1 _ _ v1 (π _ _ 0 _ _ v0 HR.out);refine VE (v:=.agg #[.slice a k c,.map (ς (w.heap.size+1))]) (VW Tryz.results34 _ _ w.heap.size 77 _ (0,0) _ rfl (RV _ _) Tryz.underlying77 rfl (by kernel_rfl)) rfl ⟨rfl,(hown.setCell (by simp) _).setCell (by simp) _,Bg (Bg hb (VD _)) (VD _)⟩
theorem Cp(a:Option Addr)(n c:Nat)(C:Nat->Clm)(w:ο)(h:CL w a n C)(hn:n<=1048576) :
 VK μ 97 #[σ a n c] w λe w'=>e=ρ (β (DW C n))/\υ w.heap.size w w':=by
 have hD:=Mt C n;have hfd:∀ v:ο,(Instr.field 77 (χ #[σ a n c,.map (ς (w.heap.size+1))]) 1).run μ v=.ok (.map (ς (w.heap.size+1))) v:=λ_=>by kernel_rfl
 go_enter Tryz.func97,Tryz.ntmps97
 go_wp2_with (first | (go_at_call 34;refine(Ep _ _ _ _ _ h hn).mono ?_;rintro e w1 ⟨rfl,hown,hb1⟩) | (at_len;refine wpList_len_own _ rfl _ 75 rfl 9 3 Tryz.underlying75 _ (w.heap.size+1) n (pl C n) rfl hown ?_) | go_in)
 go_ret
 exact⟨rfl,hb1⟩
set_option maxHeartbeats 16000000
abbrev PX:Oper:=⟨ς 52,.buildSlice 30 0 #[],30,"l5_replay.go:182",#[],ν⟩
abbrev Jk:Oper:=⟨ς 58,.buildSlice 30 1 #[(0,δ 57)],30,"l5_replay.go:182",#[⟨5,φ⟩],ν⟩
abbrev PW:Oper:=⟨ς 56,.call ⟨.builtin .append,#[δ 52,δ 55],#[30,30]⟩,30,"l5_replay.go:182",#[⟨0,φ⟩,⟨3,φ⟩],ν⟩
theorem FX{w:ο}{b0 b1 e size n:Nat}{v:VN}{xs:List VN}(h:w.ownsRow b1 e size v n xs)(hb:b0<=b1):w.ownsRow b0 e size v n xs:=by
 obtain⟨hl,hh⟩:=h;refine⟨hl,?_⟩;rcases hh with hh | ⟨g,cap,cur,e1,e2,e3⟩
 · exact VV hh
 · exact Vb ⟨g,cap,cur,e1,VX hb e2,e3⟩
theorem AL{W:ο}{R:Nat}{x0 x1 x2:VN}{t:TypeId}(h:W.heap[R]?=ς (γ #[x0,x1,x2] t (0,0))):W.cell? ⟨R,0,ν⟩=ς x0/\W.cell? ⟨R,1,ν⟩=ς x1/\W.cell? ⟨R,2,ν⟩=ς x2/\W.frozen? ⟨R,0,ν⟩=false/\W.frozen? ⟨R,1,ν⟩=false/\W.frozen? ⟨R,2,ν⟩=false:=
 ⟨ε _ _ 0 _ _ _ h,ε _ _ 1 _ _ _ h,ε _ _ 2 _ _ _ h,ζ _ _ 0 _ _ h,ζ _ _ 1 _ _ h,ζ _ _ 2 _ _ h⟩
theorem Ka{W:ο}{q p i:Nat}{v0 v1 v2 u:VN}(hne:p≠q)(h:W.cell? ⟨p,i,ν⟩=ς u):(((W.setCell ⟨q,0,ν⟩ v0).setCell ⟨q,1,ν⟩ v1).setCell ⟨q,2,ν⟩ v2).cell? ⟨p,i,ν⟩=ς u:=
 (World.cell?_of_block (a:=⟨p,i,ν⟩) (((heap_setCell_other _ _ _ _ hne).trans (heap_setCell_other _ _ _ _ hne)).trans (heap_setCell_other _ _ _ _ hne))).trans h
theorem NV(ac:Option Addr)(n cc:Nat)(C:Nat->Clm)(ar:Option Addr)(cr:Nat)(R:Nat->Itm)(a:Option Addr)(m c:Nat)(I:Nat->Itm)(w:ο)(hC:CL w ac n C)(hR:IL w ar n R)(hI:IL w a m I)(hn:n<=1048576)(hm:m<=100)(hx:ex I m=ς 1)(hk0:(ck C n I m).2=0)(hz:∀ j,j<n->(R j).s.size<=200) :
 VK μ 37 #[σ ac n cc,σ ar n cr,σ a m c] w λe w'=>e=ρ (χ #[ι κ (Bv C n R I m).o,ι κ (Bv C n R I m).m,τ (Bv C n R I m).s])/\υ w.heap.size w w':=by
 have HX:Hid (ex I m=ς 1):=hx;have HK0:Hid ((ck C n I m).2=0):=hk0;have HSZ:Hid (∀ k,k<=m->C5 (vl C n R I k)<=200 * k):=Ii hz hx;clear hx hk0 hz;obtain⟨j0,hi,hz0,hz1,hz2⟩:=info_parts Tryz.infoVal;have HI:Hid (Tryz.prog.info? 60=ς j0):=hi;clear hi;have HR0:Hid ((w.alloc (γ #[ι κ 0,ι κ 0,τ ⟨#[]⟩] 60)).heap[w.heap.size]?=ς (γ #[ι κ 0,ι κ 0,τ ⟨#[]⟩] 60 (0,0))):=η w _;have hsU:(w.alloc (γ #[ι κ 0,ι κ 0,τ ⟨#[]⟩] 60)).heap.size=w.heap.size+1:=ω _ _;have hb0:=AD (w.alloc (γ #[ι κ 0,ι κ 0,τ ⟨#[]⟩] 60)) (γ #[] 60);have hbU:=AD w (γ #[ι κ 0,ι κ 0,τ ⟨#[]⟩] 60);have hO0:Sv ((w.alloc (γ #[ι κ 0,ι κ 0,τ ⟨#[]⟩] 60)).alloc (γ #[] 60)) (w.alloc (γ #[ι κ 0,ι κ 0,τ ⟨#[]⟩] 60)).heap.size (w.alloc (γ #[ι κ 0,ι κ 0,τ ⟨#[]⟩] 60)).heap.size 0 []:=VU (w.alloc (γ #[ι κ 0,ι κ 0,τ ⟨#[]⟩] 60)) #[] 0 (VD _) (by unfold maxLen;omega) rfl;have hCU:=hC.later hbU;have hRU:=hR.later hbU;have hIU:=hI.later hbU;go_enter Tryz.func37,Tryz.ntmps37
 go_wp2;go_loopw [7,9,10,11,15] (λv _ _ _ i wr=>∃ (k g cap:Nat) (L:List Itm),k<=m/\i=ι κ k/\v=σ (ς ⟨g,0,ν⟩) L.length cap/\vl C n R I k=L/\Sv wr (w.alloc (γ #[ι κ 0,ι κ 0,τ ⟨#[]⟩] 60)).heap.size g cap L/\υ (w.alloc (γ #[ι κ 0,ι κ 0,τ ⟨#[]⟩] 60)).heap.size (w.alloc (γ #[ι κ 0,ι κ 0,τ ⟨#[]⟩] 60)) wr) (λ_ _ _ _ i _=>m - (VQ i).toNat)
 case atStart=>exact⟨0,w.heap.size+1,0,[],by omega,rfl,by first | rfl | (rw [hsU];rfl),rfl,by rw [←hsU];exact hO0,hb0⟩
 case round=>
  obtain⟨k,g,cap,L,hk,rfl,rfl,hvl,hO,hb⟩:=hrel;have HVL:Hid (vl C n R I k=L):=hvl;clear hvl;have hsw:=hb.size;by_cases hlt:k<m
  rotate_left
  ·
   obtain rfl:k=m:=by omega
   have HL:L.length=1:=by
    have:=EE (C:=C) (n:=n) (R:=R) HX.out;rw [HVL.out] at this;omega
   obtain⟨c0,c1,c2⟩:=hO.at (j:=0) (by omega);have hRr:=AC HR0.out hb;obtain⟨r0,r1,r2,f0,f1,f2⟩:=AL hRr;have h1:(0:Int)<L.length:=by omega
   obtain⟨x0,hx0⟩:∃ x,L.getD 0 d0=x:=⟨_,rfl⟩;have e:Hid (Bv C n R I k=x0):=by show _=_;unfold Bv;rw [HVL.out,←hx0]
   rw [hx0] at c0 c1 c2;simp only [Nat.zero_mul,VM] at c0 c1 c2
   clear hx0;go_wp2;refine VE (v:=χ #[ι κ x0.o,ι κ x0.m,τ x0.s]) ?_ rfl ?_
   · exact VW Tryz.results37 _ _ w.heap.size 60 _ (0,0) _ rfl (DM hRr _ _ _) Tryz.underlying60 rfl (by kernel_rfl)
   · exact⟨by rw [e.out],BM (AA hbU hb) (VD _) _ _ _⟩
  obtain⟨d,hd,hok,had⟩:=GT HX.out hlt;have hlen:((L.length:Nat):Int)=d:=by
   have:=EE (C:=C) (n:=n) (R:=R) hd;rwa [HVL.out] at this
  have hll:=Hg hd;have hsum:C5 L<=200 * k:=by
   have:=HSZ.out k (by omega);rwa [HVL.out] at this
  have hst:vl C n R I (k+1)=L.take (L.length - DZ (I k).o) ++ [FC C n R (I k) (L.drop (L.length - DZ (I k).o))]:=by
   rw [vl,HVL.out]
  have HCOL:Hid ((I k).o=3->∃ j,BF C (I k).s n=ς j):=λho=>Oq hlt HK0.out ho;obtain⟨b,off,rfl,c0,c1,c2,hs⟩:=hIU.later hb k hlt;obtain⟨o,mm,s,hIk⟩:∃ o mm s,I k=⟨o,mm,s⟩:=⟨_,_,_,rfl⟩;rw [hIk] at hok had hst c0 c1 c2 hs HCOL;simp only at hok had hst c0 c1 c2 hs HCOL
  have hop:=Du hok;have ha:=FP o;have hal:=CV o;obtain⟨j,hj⟩:∃ j:Nat,L.length - DZ o=j:=⟨_,rfl⟩;rw [hj] at hst;have hj1:((L.length:Nat):Int) - AW o=(j:Nat):=by omega
  have hjl:j<=L.length:=by omega
  have hcp:=Jp hO;have hjj:(j:Int)<=L.length:=by omega
  have hjc:(j:Int)<=cap:=by omega
  have hjc2:j<=cap:=by omega
  have HST:Hid (vl C n R I (k+1)=L.take j ++ [FC C n R ⟨o,mm,s⟩ (L.drop j)]):=hst;have hj100:j<=100:=by omega
  have HLE:Hid (((L.length:Nat):Int)=d/\L.length - DZ o=j/\L.length<=100/\AW o<=((L.length - j:Nat):Int)):=⟨hlen,hj,by omega,by omega⟩;have hjn:0<=(j:Int):=by omega
  clear hst hIk hj ha had hd hok hlen;by_cases o1:o=1
  ·
   subst o1;have HT:Hid (FC C n R ⟨1,mm,s⟩ (L.drop j)=⟨1,mm,⟨#[]⟩⟩):=by show _=_;simp [FC]
   go_upto_region 14 with (go_at_call 56;refine(Ba (1) _).mono ?_;rintro e w3 ⟨rfl,rfl⟩)
   have hrow:((wr.alloc (γ #[ι κ 1,ι κ mm,τ s] 42)).alloc (γ #[ι κ 1,ι κ mm,τ ⟨#[]⟩] 60)).heap[wr.heap.size+1]?=ς (γ #[ι κ (1),ι κ (mm),τ (⟨#[]⟩)] 60 (0,0)):=(by have q:=η (wr.alloc (γ #[ι κ 1,ι κ mm,τ s] 42)) (γ #[ι κ 1,ι κ mm,τ ⟨#[]⟩] 60);rw [ω] at q;exact q);have hB4:υ wr.heap.size wr ((wr.alloc (γ #[ι κ 1,ι κ mm,τ s] 42)).alloc (γ #[ι κ 1,ι κ mm,τ ⟨#[]⟩] 60)):=AA (AD _ _) (AD _ _);generalize ((wr.alloc (γ #[ι κ 1,ι κ mm,τ s] 42)).alloc (γ #[ι κ 1,ι κ mm,τ ⟨#[]⟩] 60))=w4 at hrow hB4 ⊢;have hO4:Sv w4 _ g cap L:=AF hO hB4;have hb4:=AA hb hB4;obtain⟨q0,q1,q2,-⟩:=AL hrow;clear hB4;refine VH (S:=λx=>υ w4.heap.size w4 x) (by kernel_rfl) (CU _) (λjH=>?_);generalize w4.drew=v at jH ⊢;refine tk 1 jH ?_;refine tk 2 jH ?_;refine tk 3 jH ?_;refine tk 5 jH ?_ (hy:=λx jS=>by have k0:=AB jS q0;have k1:=AB jS q1;have k2:=AB jS q2;go_simp<;>rfl)
   try simp only [zS]
   refine wpAnyH_ready (rs:=[0,6]) (by kernel_rfl) (by simp) ?_;refine(AllReadyH.cons (o:=PX) rfl (λK hK=>?w5_c2) (AllReadyH.cons (o:=Jk) rfl (λK hK=>?w5_c1) AllReadyH.nil));case' w5_c2=>
    have hqE:=η v (γ #[] 60);have hbE:=AD v (γ #[] 60);have hsE:=jH.size;have hE:(v.alloc (γ #[] 60)).ownsRow w4.heap.size 60 3 (σ (ς ⟨v.heap.size,0,ν⟩) 0 0) 0 []:=VU v #[] 0 jH.size (by unfold maxLen;omega) rfl;go_simp;refine hK.out _ _ (AA jH (AD _ _)) (λjH=>?_);clear hK K;try simp only [zS]
    generalize v.heap.size=BE at hqE hsE hE ⊢;generalize v.alloc (γ #[] 60)=v at hqE hbE hE jH ⊢;clear hbE;refine wpAnyH_ready (rs:=[4,6]) (by kernel_rfl) (by simp) ?_;refine(AllReadyH.cons (o:=PW) rfl (λK hK=>?w5_c4) (AllReadyH.cons (o:=Jk) rfl (λK hK=>?w5_c3) AllReadyH.nil));case' w5_c4=>
     rw [if_pos (by kernel_rfl)];refine wp_append_own _ _ _ _ rfl w4.heap.size 60 j0 (χ #[ι κ 0,ι κ 0,τ VG]) 3 32 Tryz.underlying30 HI.out hz0 hz1 hz2 rfl (by omega) (σ (ς ⟨BE,0,ν⟩) 0 0) 0 [] rfl hE ⟨g,0,ν⟩ j cap (BK (L.take j)) rfl (by rw [BQ,VY];omega) (Sv.news (AF hO4 jH)) (Al _) (by unfold maxLen;omega) (by omega) jH.size ?_;intro v5 v hO5 hgr5 hnil5;obtain⟨g5,cap5,rfl⟩:=Ab hO5 (λe=>by have:=hnil5.1 e;simp at this);rw [VM,Vd] at hO5;have hlt5:=(hO5.lt g5 rfl).1;refine hK.out _ _ (gB jH hgr5 hsE) (λjH=>?_);clear hK K hnil5;try simp only [zS]
     try simp only [VM]
     clear hgr5 hE;refine rd 6 (λK hK=>?_);have hqN:=η v (γ #[ι κ (1),ι κ (mm),τ (⟨#[]⟩)] 60);have hbN:=AD v (γ #[ι κ (1),ι κ (mm),τ (⟨#[]⟩)] 60);have hsN:=jH.size;go_simp;refine hK.out _ _ (AA jH (AD _ _)) (λjH=>?_);clear hK K;try simp only [zS]
     generalize v.heap.size=BN at hqN hsN ⊢;generalize v.alloc (γ #[ι κ (1),ι κ (mm),τ (⟨#[]⟩)] 60)=v at hqN hbN  jH ⊢;replace hO5:=AF hO5 hbN;clear hbN;refine rd 7 (λK hK=>?_);rw [if_pos (by kernel_rfl)];refine wp_append_lies _ _ _ _ rfl w4.heap.size 60 j0 (χ #[ι κ 0,ι κ 0,τ VG]) 3 32 Tryz.underlying30 HI.out hz0 hz1 hz2 rfl (by omega) (σ (ς ⟨g5,0,ν⟩) j cap5) j (BK (L.take j)) rfl hO5 ⟨BN,0,ν⟩ 1 1 (v3 ⟨1,mm,⟨#[]⟩⟩) rfl rfl (VI hqN) (Al [⟨1,mm,⟨#[]⟩⟩]) (by omega) (by unfold maxLen;omega) (by omega) jH.size _ rfl ?_;intro g6 cap6 v hO6 hgr6 hat6 hlt6;refine hK.out _ _ (gB jH hgr6 hlt5) (λjH=>?_);clear hK K hgr6 hat6;try simp only [zS]
     refine tk 8 jH ?_
     try simp only [zS]
     refine VP (by kernel_rfl) ?_ _
    case' w5_c3=>
     have hqN:=η v (γ #[ι κ (1),ι κ (mm),τ (⟨#[]⟩)] 60);have hbN:=AD v (γ #[ι κ (1),ι κ (mm),τ (⟨#[]⟩)] 60);have hsN:=jH.size;go_simp;refine hK.out _ _ (AA jH (AD _ _)) (λjH=>?_);clear hK K;try simp only [zS]
     have hnEN:BE≠v.heap.size:=Nat.ne_of_lt (VL.1 hqE).1;generalize v.heap.size=BN at hqN hsN hnEN ⊢;generalize v.alloc (γ #[ι κ (1),ι κ (mm),τ (⟨#[]⟩)] 60)=v at hqN hbN  jH ⊢;replace hE:=AF hE hbN;clear hbN;refine rd 4 (λK hK=>?_);rw [if_pos (by kernel_rfl)];refine wp_append_own _ _ _ _ rfl w4.heap.size 60 j0 (χ #[ι κ 0,ι κ 0,τ VG]) 3 32 Tryz.underlying30 HI.out hz0 hz1 hz2 rfl (by omega) (σ (ς ⟨BE,0,ν⟩) 0 0) 0 [] rfl hE ⟨g,0,ν⟩ j cap (BK (L.take j)) rfl (by rw [BQ,VY];omega) (Sv.news (AF hO4 jH)) (Al _) (by unfold maxLen;omega) (by omega) jH.size ?_;intro v5 v hO5 hgr5 hnil5;obtain⟨g5,cap5,rfl⟩:=Ab hO5 (λe=>by have:=hnil5.1 e;simp at this);rw [VM,Vd] at hO5;have hlt5:=(hO5.lt g5 rfl).1;refine hK.out _ _ (gB jH hgr5 hsE) (λjH=>?_);clear hK K hnil5;try simp only [zS]
     try simp only [VM]
     replace hqN:=A9 hqN hgr5 hnEN.symm;clear hgr5 hE;refine rd 7 (λK hK=>?_);rw [if_pos (by kernel_rfl)];refine wp_append_lies _ _ _ _ rfl w4.heap.size 60 j0 (χ #[ι κ 0,ι κ 0,τ VG]) 3 32 Tryz.underlying30 HI.out hz0 hz1 hz2 rfl (by omega) (σ (ς ⟨g5,0,ν⟩) j cap5) j (BK (L.take j)) rfl hO5 ⟨BN,0,ν⟩ 1 1 (v3 ⟨1,mm,⟨#[]⟩⟩) rfl rfl (VI hqN) (Al [⟨1,mm,⟨#[]⟩⟩]) (by omega) (by unfold maxLen;omega) (by omega) jH.size _ rfl ?_;intro g6 cap6 v hO6 hgr6 hat6 hlt6;refine hK.out _ _ (gB jH hgr6 hlt5) (λjH=>?_);clear hK K hgr6 hat6;try simp only [zS]
     refine tk 8 jH ?_
     try simp only [zS]
     refine VP (by kernel_rfl) ?_ _
   case' w5_c1=>
    have hqN:=η v (γ #[ι κ (1),ι κ (mm),τ (⟨#[]⟩)] 60);have hbN:=AD v (γ #[ι κ (1),ι κ (mm),τ (⟨#[]⟩)] 60);have hsN:=jH.size;go_simp;refine hK.out _ _ (AA jH (AD _ _)) (λjH=>?_);clear hK K;try simp only [zS]
    generalize v.heap.size=BN at hqN hsN ⊢;generalize v.alloc (γ #[ι κ (1),ι κ (mm),τ (⟨#[]⟩)] 60)=v at hqN hbN  jH ⊢;clear hbN;refine rd 0 (λK hK=>?_);have hqE:=η v (γ #[] 60);have hbE:=AD v (γ #[] 60);have hsE:=jH.size;have hE:(v.alloc (γ #[] 60)).ownsRow w4.heap.size 60 3 (σ (ς ⟨v.heap.size,0,ν⟩) 0 0) 0 []:=VU v #[] 0 jH.size (by unfold maxLen;omega) rfl;go_simp;refine hK.out _ _ (AA jH (AD _ _)) (λjH=>?_);clear hK K;try simp only [zS]
    have hnNE:BN≠v.heap.size:=Nat.ne_of_lt (VL.1 hqN).1;generalize v.heap.size=BE at hqE hsE hE hnNE ⊢;generalize v.alloc (γ #[] 60)=v at hqE hbE hE jH ⊢;replace hqN:=AC hqN hbE;clear hbE;refine rd 4 (λK hK=>?_);rw [if_pos (by kernel_rfl)];refine wp_append_own _ _ _ _ rfl w4.heap.size 60 j0 (χ #[ι κ 0,ι κ 0,τ VG]) 3 32 Tryz.underlying30 HI.out hz0 hz1 hz2 rfl (by omega) (σ (ς ⟨BE,0,ν⟩) 0 0) 0 [] rfl hE ⟨g,0,ν⟩ j cap (BK (L.take j)) rfl (by rw [BQ,VY];omega) (Sv.news (AF hO4 jH)) (Al _) (by unfold maxLen;omega) (by omega) jH.size ?_;intro v5 v hO5 hgr5 hnil5;obtain⟨g5,cap5,rfl⟩:=Ab hO5 (λe=>by have:=hnil5.1 e;simp at this);rw [VM,Vd] at hO5;have hlt5:=(hO5.lt g5 rfl).1;refine hK.out _ _ (gB jH hgr5 hsE) (λjH=>?_);clear hK K hnil5;try simp only [zS]
    try simp only [VM]
    replace hqN:=A9 hqN hgr5 hnNE;clear hgr5 hE;refine rd 7 (λK hK=>?_);rw [if_pos (by kernel_rfl)];refine wp_append_lies _ _ _ _ rfl w4.heap.size 60 j0 (χ #[ι κ 0,ι κ 0,τ VG]) 3 32 Tryz.underlying30 HI.out hz0 hz1 hz2 rfl (by omega) (σ (ς ⟨g5,0,ν⟩) j cap5) j (BK (L.take j)) rfl hO5 ⟨BN,0,ν⟩ 1 1 (v3 ⟨1,mm,⟨#[]⟩⟩) rfl rfl (VI hqN) (Al [⟨1,mm,⟨#[]⟩⟩]) (by omega) (by unfold maxLen;omega) (by omega) jH.size _ rfl ?_;intro g6 cap6 v hO6 hgr6 hat6 hlt6;refine hK.out _ _ (gB jH hgr6 hlt5) (λjH=>?_);clear hK K hgr6 hat6;try simp only [zS]
    refine tk 8 jH ?_
    try simp only [zS]
    refine VP (by kernel_rfl) ?_ _
   all_goals
    obtain⟨q1,q2⟩:=Ee (r:=⟨1,mm,⟨#[]⟩⟩) hjl (FX hO6 hb4.size);have hb6:=AA hb4 jH;go_wp2;go_roundw
    case rel=>exact⟨k+1,g6,cap6,L.take j ++ [⟨1,mm,⟨#[]⟩⟩],by omega,by go_num,by rw [q1],by rw [HST.out,HT.out],q2,hb6⟩
    case measure=>simp [VQ];omega
  by_cases o2:o=2
  ·
   subst o2;have HT:Hid (FC C n R ⟨2,mm,s⟩ (L.drop j)=⟨2,0,s⟩):=by show _=_;simp [FC]
   go_upto_region 14 with (go_at_call 56;refine(Ba (2) _).mono ?_;rintro e w3 ⟨rfl,rfl⟩)
   have hrow:((wr.alloc (γ #[ι κ 2,ι κ mm,τ s] 42)).alloc (γ #[ι κ 2,ι κ 0,τ s] 60)).heap[wr.heap.size+1]?=ς (γ #[ι κ (2),ι κ (0),τ (s)] 60 (0,0)):=(by have q:=η (wr.alloc (γ #[ι κ 2,ι κ mm,τ s] 42)) (γ #[ι κ 2,ι κ 0,τ s] 60);rw [ω] at q;exact q);have hB4:υ wr.heap.size wr ((wr.alloc (γ #[ι κ 2,ι κ mm,τ s] 42)).alloc (γ #[ι κ 2,ι κ 0,τ s] 60)):=AA (AD _ _) (AD _ _);generalize ((wr.alloc (γ #[ι κ 2,ι κ mm,τ s] 42)).alloc (γ #[ι κ 2,ι κ 0,τ s] 60))=w4 at hrow hB4 ⊢;have hO4:Sv w4 _ g cap L:=AF hO hB4;have hb4:=AA hb hB4;obtain⟨q0,q1,q2,-⟩:=AL hrow;clear hB4;refine VH (S:=λx=>υ w4.heap.size w4 x) (by kernel_rfl) (CU _) (λjH=>?_);generalize w4.drew=v at jH ⊢;refine tk 1 jH ?_;refine tk 2 jH ?_;refine tk 3 jH ?_;refine tk 5 jH ?_ (hy:=λx jS=>by have k0:=AB jS q0;have k1:=AB jS q1;have k2:=AB jS q2;go_simp<;>rfl)
   try simp only [zS]
   refine wpAnyH_ready (rs:=[0,6]) (by kernel_rfl) (by simp) ?_;refine(AllReadyH.cons (o:=PX) rfl (λK hK=>?w6_c2) (AllReadyH.cons (o:=Jk) rfl (λK hK=>?w6_c1) AllReadyH.nil));case' w6_c2=>
    have hqE:=η v (γ #[] 60);have hbE:=AD v (γ #[] 60);have hsE:=jH.size;have hE:(v.alloc (γ #[] 60)).ownsRow w4.heap.size 60 3 (σ (ς ⟨v.heap.size,0,ν⟩) 0 0) 0 []:=VU v #[] 0 jH.size (by unfold maxLen;omega) rfl;go_simp;refine hK.out _ _ (AA jH (AD _ _)) (λjH=>?_);clear hK K;try simp only [zS]
    generalize v.heap.size=BE at hqE hsE hE ⊢;generalize v.alloc (γ #[] 60)=v at hqE hbE hE jH ⊢;clear hbE;refine wpAnyH_ready (rs:=[4,6]) (by kernel_rfl) (by simp) ?_;refine(AllReadyH.cons (o:=PW) rfl (λK hK=>?w6_c4) (AllReadyH.cons (o:=Jk) rfl (λK hK=>?w6_c3) AllReadyH.nil));case' w6_c4=>
     rw [if_pos (by kernel_rfl)];refine wp_append_own _ _ _ _ rfl w4.heap.size 60 j0 (χ #[ι κ 0,ι κ 0,τ VG]) 3 32 Tryz.underlying30 HI.out hz0 hz1 hz2 rfl (by omega) (σ (ς ⟨BE,0,ν⟩) 0 0) 0 [] rfl hE ⟨g,0,ν⟩ j cap (BK (L.take j)) rfl (by rw [BQ,VY];omega) (Sv.news (AF hO4 jH)) (Al _) (by unfold maxLen;omega) (by omega) jH.size ?_;intro v5 v hO5 hgr5 hnil5;obtain⟨g5,cap5,rfl⟩:=Ab hO5 (λe=>by have:=hnil5.1 e;simp at this);rw [VM,Vd] at hO5;have hlt5:=(hO5.lt g5 rfl).1;refine hK.out _ _ (gB jH hgr5 hsE) (λjH=>?_);clear hK K hnil5;try simp only [zS]
     try simp only [VM]
     clear hgr5 hE;refine rd 6 (λK hK=>?_);have hqN:=η v (γ #[ι κ (2),ι κ (0),τ (s)] 60);have hbN:=AD v (γ #[ι κ (2),ι κ (0),τ (s)] 60);have hsN:=jH.size;go_simp;refine hK.out _ _ (AA jH (AD _ _)) (λjH=>?_);clear hK K;try simp only [zS]
     generalize v.heap.size=BN at hqN hsN ⊢;generalize v.alloc (γ #[ι κ (2),ι κ (0),τ (s)] 60)=v at hqN hbN  jH ⊢;replace hO5:=AF hO5 hbN;clear hbN;refine rd 7 (λK hK=>?_);rw [if_pos (by kernel_rfl)];refine wp_append_lies _ _ _ _ rfl w4.heap.size 60 j0 (χ #[ι κ 0,ι κ 0,τ VG]) 3 32 Tryz.underlying30 HI.out hz0 hz1 hz2 rfl (by omega) (σ (ς ⟨g5,0,ν⟩) j cap5) j (BK (L.take j)) rfl hO5 ⟨BN,0,ν⟩ 1 1 (v3 ⟨2,0,s⟩) rfl rfl (VI hqN) (Al [⟨2,0,s⟩]) (by omega) (by unfold maxLen;omega) (by omega) jH.size _ rfl ?_;intro g6 cap6 v hO6 hgr6 hat6 hlt6;refine hK.out _ _ (gB jH hgr6 hlt5) (λjH=>?_);clear hK K hgr6 hat6;try simp only [zS]
     refine tk 8 jH ?_
     try simp only [zS]
     refine VP (by kernel_rfl) ?_ _
    case' w6_c3=>
     have hqN:=η v (γ #[ι κ (2),ι κ (0),τ (s)] 60);have hbN:=AD v (γ #[ι κ (2),ι κ (0),τ (s)] 60);have hsN:=jH.size;go_simp;refine hK.out _ _ (AA jH (AD _ _)) (λjH=>?_);clear hK K;try simp only [zS]
     have hnEN:BE≠v.heap.size:=Nat.ne_of_lt (VL.1 hqE).1;generalize v.heap.size=BN at hqN hsN hnEN ⊢;generalize v.alloc (γ #[ι κ (2),ι κ (0),τ (s)] 60)=v at hqN hbN  jH ⊢;replace hE:=AF hE hbN;clear hbN;refine rd 4 (λK hK=>?_);rw [if_pos (by kernel_rfl)];refine wp_append_own _ _ _ _ rfl w4.heap.size 60 j0 (χ #[ι κ 0,ι κ 0,τ VG]) 3 32 Tryz.underlying30 HI.out hz0 hz1 hz2 rfl (by omega) (σ (ς ⟨BE,0,ν⟩) 0 0) 0 [] rfl hE ⟨g,0,ν⟩ j cap (BK (L.take j)) rfl (by rw [BQ,VY];omega) (Sv.news (AF hO4 jH)) (Al _) (by unfold maxLen;omega) (by omega) jH.size ?_;intro v5 v hO5 hgr5 hnil5;obtain⟨g5,cap5,rfl⟩:=Ab hO5 (λe=>by have:=hnil5.1 e;simp at this);rw [VM,Vd] at hO5;have hlt5:=(hO5.lt g5 rfl).1;refine hK.out _ _ (gB jH hgr5 hsE) (λjH=>?_);clear hK K hnil5;try simp only [zS]
     try simp only [VM]
     replace hqN:=A9 hqN hgr5 hnEN.symm;clear hgr5 hE;refine rd 7 (λK hK=>?_);rw [if_pos (by kernel_rfl)];refine wp_append_lies _ _ _ _ rfl w4.heap.size 60 j0 (χ #[ι κ 0,ι κ 0,τ VG]) 3 32 Tryz.underlying30 HI.out hz0 hz1 hz2 rfl (by omega) (σ (ς ⟨g5,0,ν⟩) j cap5) j (BK (L.take j)) rfl hO5 ⟨BN,0,ν⟩ 1 1 (v3 ⟨2,0,s⟩) rfl rfl (VI hqN) (Al [⟨2,0,s⟩]) (by omega) (by unfold maxLen;omega) (by omega) jH.size _ rfl ?_;intro g6 cap6 v hO6 hgr6 hat6 hlt6;refine hK.out _ _ (gB jH hgr6 hlt5) (λjH=>?_);clear hK K hgr6 hat6;try simp only [zS]
     refine tk 8 jH ?_
     try simp only [zS]
     refine VP (by kernel_rfl) ?_ _
   case' w6_c1=>
    have hqN:=η v (γ #[ι κ (2),ι κ (0),τ (s)] 60);have hbN:=AD v (γ #[ι κ (2),ι κ (0),τ (s)] 60);have hsN:=jH.size;go_simp;refine hK.out _ _ (AA jH (AD _ _)) (λjH=>?_);clear hK K;try simp only [zS]
    generalize v.heap.size=BN at hqN hsN ⊢;generalize v.alloc (γ #[ι κ (2),ι κ (0),τ (s)] 60)=v at hqN hbN  jH ⊢;clear hbN;refine rd 0 (λK hK=>?_);have hqE:=η v (γ #[] 60);have hbE:=AD v (γ #[] 60);have hsE:=jH.size;have hE:(v.alloc (γ #[] 60)).ownsRow w4.heap.size 60 3 (σ (ς ⟨v.heap.size,0,ν⟩) 0 0) 0 []:=VU v #[] 0 jH.size (by unfold maxLen;omega) rfl;go_simp;refine hK.out _ _ (AA jH (AD _ _)) (λjH=>?_);clear hK K;try simp only [zS]
    have hnNE:BN≠v.heap.size:=Nat.ne_of_lt (VL.1 hqN).1;generalize v.heap.size=BE at hqE hsE hE hnNE ⊢;generalize v.alloc (γ #[] 60)=v at hqE hbE hE jH ⊢;replace hqN:=AC hqN hbE;clear hbE;refine rd 4 (λK hK=>?_);rw [if_pos (by kernel_rfl)];refine wp_append_own _ _ _ _ rfl w4.heap.size 60 j0 (χ #[ι κ 0,ι κ 0,τ VG]) 3 32 Tryz.underlying30 HI.out hz0 hz1 hz2 rfl (by omega) (σ (ς ⟨BE,0,ν⟩) 0 0) 0 [] rfl hE ⟨g,0,ν⟩ j cap (BK (L.take j)) rfl (by rw [BQ,VY];omega) (Sv.news (AF hO4 jH)) (Al _) (by unfold maxLen;omega) (by omega) jH.size ?_;intro v5 v hO5 hgr5 hnil5;obtain⟨g5,cap5,rfl⟩:=Ab hO5 (λe=>by have:=hnil5.1 e;simp at this);rw [VM,Vd] at hO5;have hlt5:=(hO5.lt g5 rfl).1;refine hK.out _ _ (gB jH hgr5 hsE) (λjH=>?_);clear hK K hnil5;try simp only [zS]
    try simp only [VM]
    replace hqN:=A9 hqN hgr5 hnNE;clear hgr5 hE;refine rd 7 (λK hK=>?_);rw [if_pos (by kernel_rfl)];refine wp_append_lies _ _ _ _ rfl w4.heap.size 60 j0 (χ #[ι κ 0,ι κ 0,τ VG]) 3 32 Tryz.underlying30 HI.out hz0 hz1 hz2 rfl (by omega) (σ (ς ⟨g5,0,ν⟩) j cap5) j (BK (L.take j)) rfl hO5 ⟨BN,0,ν⟩ 1 1 (v3 ⟨2,0,s⟩) rfl rfl (VI hqN) (Al [⟨2,0,s⟩]) (by omega) (by unfold maxLen;omega) (by omega) jH.size _ rfl ?_;intro g6 cap6 v hO6 hgr6 hat6 hlt6;refine hK.out _ _ (gB jH hgr6 hlt5) (λjH=>?_);clear hK K hgr6 hat6;try simp only [zS]
    refine tk 8 jH ?_
    try simp only [zS]
    refine VP (by kernel_rfl) ?_ _
   all_goals
    obtain⟨q1,q2⟩:=Ee (r:=⟨2,0,s⟩) hjl (FX hO6 hb4.size);have hb6:=AA hb4 jH;go_wp2;go_roundw
    case rel=>exact⟨k+1,g6,cap6,L.take j ++ [⟨2,0,s⟩],by omega,by go_num,by rw [q1],by rw [HST.out,HT.out],q2,hb6⟩
    case measure=>simp [VQ];omega
  by_cases o3:o=3
  ·
   subst o3;obtain⟨q,hcol⟩:=HCOL.out rfl;have HT:Hid (FC C n R ⟨3,mm,s⟩ (L.drop j)=⟨(R q).o,(R q).m,(R q).s⟩):=by show _=_;simp [FC,hcol]
   have HZ:JR (BF C s n)=(q:Int):=by rw [hcol];rfl
   have hq:=(Bz hcol).1;have hq0:(0:Int)<=(q:Int):=by omega
   have hq1:(q:Int)<n:=by omega
   clear hcol;obtain⟨b2,off2,rfl,-⟩:=hRU q hq;have hbW:υ wr.heap.size wr ((wr.alloc (γ #[ι κ 3,ι κ mm,τ s] 42)).alloc (γ #[ι κ 1,ι κ mm,τ ⟨#[]⟩] 60)):=AA (AD _ _) (AD _ _);have hrW:((wr.alloc (γ #[ι κ 3,ι κ mm,τ s] 42)).alloc (γ #[ι κ 1,ι κ mm,τ ⟨#[]⟩] 60)).heap[wr.heap.size+1]?=ς _:=(by have q:=η (wr.alloc (γ #[ι κ 3,ι κ mm,τ s] 42)) (γ #[ι κ 1,ι κ mm,τ ⟨#[]⟩] 60);rw [ω] at q;exact q);go_upto_region 14 with first | (go_at_call 51;refine(FG ac n cc C s _ (hCU.later (AA hb hbW)) hn).mono ?_;rintro e w5 ⟨rfl,hb5⟩;rw [HZ];have hB5:=AA hbW hb5;have hr5:=AC hrW hb5;obtain⟨r0,r1,r2,f0,f1,f2⟩:=AL hr5;obtain⟨b3,off3,e3,t0,t1,t2,hs3⟩:=hRU.later (AA hb hB5) q hq;obtain⟨rfl,rfl⟩:b2=b3/\off2=off3:=(by simpa using e3);clear e3) | (go_at_call 56;refine(Ba (3) _).mono ?_;rintro e w3 ⟨rfl,rfl⟩)
   have hrow:(((w5.setCell ⟨wr.heap.size+1,0,ν⟩ (ι κ (R q).o)).setCell ⟨wr.heap.size+1,1,ν⟩ (ι κ (R q).m)).setCell ⟨wr.heap.size+1,2,ν⟩ (τ (R q).s)).heap[wr.heap.size+1]?=ς (γ #[ι κ ((R q).o),ι κ ((R q).m),τ ((R q).s)] 60 (0,0)):=DM hr5 _ _ _;have hB4:υ wr.heap.size wr (((w5.setCell ⟨wr.heap.size+1,0,ν⟩ (ι κ (R q).o)).setCell ⟨wr.heap.size+1,1,ν⟩ (ι κ (R q).m)).setCell ⟨wr.heap.size+1,2,ν⟩ (τ (R q).s)):=BM hB5 (by omega) _ _ _;generalize (((w5.setCell ⟨wr.heap.size+1,0,ν⟩ (ι κ (R q).o)).setCell ⟨wr.heap.size+1,1,ν⟩ (ι κ (R q).m)).setCell ⟨wr.heap.size+1,2,ν⟩ (τ (R q).s))=w4 at hrow hB4 ⊢;have hO4:Sv w4 _ g cap L:=AF hO hB4;have hb4:=AA hb hB4;obtain⟨q0,q1,q2,-⟩:=AL hrow;clear hB4;refine VH (S:=λx=>υ w4.heap.size w4 x) (by kernel_rfl) (CU _) (λjH=>?_);generalize w4.drew=v at jH ⊢;refine tk 1 jH ?_;refine tk 2 jH ?_;refine tk 3 jH ?_;refine tk 5 jH ?_ (hy:=λx jS=>by have k0:=AB jS q0;have k1:=AB jS q1;have k2:=AB jS q2;go_simp<;>rfl)
   try simp only [zS]
   refine wpAnyH_ready (rs:=[0,6]) (by kernel_rfl) (by simp) ?_;refine(AllReadyH.cons (o:=PX) rfl (λK hK=>?w7_c2) (AllReadyH.cons (o:=Jk) rfl (λK hK=>?w7_c1) AllReadyH.nil));case' w7_c2=>
    have hqE:=η v (γ #[] 60);have hbE:=AD v (γ #[] 60);have hsE:=jH.size;have hE:(v.alloc (γ #[] 60)).ownsRow w4.heap.size 60 3 (σ (ς ⟨v.heap.size,0,ν⟩) 0 0) 0 []:=VU v #[] 0 jH.size (by unfold maxLen;omega) rfl;go_simp;refine hK.out _ _ (AA jH (AD _ _)) (λjH=>?_);clear hK K;try simp only [zS]
    generalize v.heap.size=BE at hqE hsE hE ⊢;generalize v.alloc (γ #[] 60)=v at hqE hbE hE jH ⊢;clear hbE;refine wpAnyH_ready (rs:=[4,6]) (by kernel_rfl) (by simp) ?_;refine(AllReadyH.cons (o:=PW) rfl (λK hK=>?w7_c4) (AllReadyH.cons (o:=Jk) rfl (λK hK=>?w7_c3) AllReadyH.nil));case' w7_c4=>
     rw [if_pos (by kernel_rfl)];refine wp_append_own _ _ _ _ rfl w4.heap.size 60 j0 (χ #[ι κ 0,ι κ 0,τ VG]) 3 32 Tryz.underlying30 HI.out hz0 hz1 hz2 rfl (by omega) (σ (ς ⟨BE,0,ν⟩) 0 0) 0 [] rfl hE ⟨g,0,ν⟩ j cap (BK (L.take j)) rfl (by rw [BQ,VY];omega) (Sv.news (AF hO4 jH)) (Al _) (by unfold maxLen;omega) (by omega) jH.size ?_;intro v5 v hO5 hgr5 hnil5;obtain⟨g5,cap5,rfl⟩:=Ab hO5 (λe=>by have:=hnil5.1 e;simp at this);rw [VM,Vd] at hO5;have hlt5:=(hO5.lt g5 rfl).1;refine hK.out _ _ (gB jH hgr5 hsE) (λjH=>?_);clear hK K hnil5;try simp only [zS]
     try simp only [VM]
     clear hgr5 hE;refine rd 6 (λK hK=>?_);have hqN:=η v (γ #[ι κ ((R q).o),ι κ ((R q).m),τ ((R q).s)] 60);have hbN:=AD v (γ #[ι κ ((R q).o),ι κ ((R q).m),τ ((R q).s)] 60);have hsN:=jH.size;go_simp;refine hK.out _ _ (AA jH (AD _ _)) (λjH=>?_);clear hK K;try simp only [zS]
     generalize v.heap.size=BN at hqN hsN ⊢;generalize v.alloc (γ #[ι κ ((R q).o),ι κ ((R q).m),τ ((R q).s)] 60)=v at hqN hbN  jH ⊢;replace hO5:=AF hO5 hbN;clear hbN;refine rd 7 (λK hK=>?_);rw [if_pos (by kernel_rfl)];refine wp_append_lies _ _ _ _ rfl w4.heap.size 60 j0 (χ #[ι κ 0,ι κ 0,τ VG]) 3 32 Tryz.underlying30 HI.out hz0 hz1 hz2 rfl (by omega) (σ (ς ⟨g5,0,ν⟩) j cap5) j (BK (L.take j)) rfl hO5 ⟨BN,0,ν⟩ 1 1 (v3 ⟨(R q).o,(R q).m,(R q).s⟩) rfl rfl (VI hqN) (Al [⟨(R q).o,(R q).m,(R q).s⟩]) (by omega) (by unfold maxLen;omega) (by omega) jH.size _ rfl ?_;intro g6 cap6 v hO6 hgr6 hat6 hlt6;refine hK.out _ _ (gB jH hgr6 hlt5) (λjH=>?_);clear hK K hgr6 hat6;try simp only [zS]
     refine tk 8 jH ?_
     try simp only [zS]
     refine VP (by kernel_rfl) ?_ _
    case' w7_c3=>
     have hqN:=η v (γ #[ι κ ((R q).o),ι κ ((R q).m),τ ((R q).s)] 60);have hbN:=AD v (γ #[ι κ ((R q).o),ι κ ((R q).m),τ ((R q).s)] 60);have hsN:=jH.size;go_simp;refine hK.out _ _ (AA jH (AD _ _)) (λjH=>?_);clear hK K;try simp only [zS]
     have hnEN:BE≠v.heap.size:=Nat.ne_of_lt (VL.1 hqE).1;generalize v.heap.size=BN at hqN hsN hnEN ⊢;generalize v.alloc (γ #[ι κ ((R q).o),ι κ ((R q).m),τ ((R q).s)] 60)=v at hqN hbN  jH ⊢;replace hE:=AF hE hbN;clear hbN;refine rd 4 (λK hK=>?_);rw [if_pos (by kernel_rfl)];refine wp_append_own _ _ _ _ rfl w4.heap.size 60 j0 (χ #[ι κ 0,ι κ 0,τ VG]) 3 32 Tryz.underlying30 HI.out hz0 hz1 hz2 rfl (by omega) (σ (ς ⟨BE,0,ν⟩) 0 0) 0 [] rfl hE ⟨g,0,ν⟩ j cap (BK (L.take j)) rfl (by rw [BQ,VY];omega) (Sv.news (AF hO4 jH)) (Al _) (by unfold maxLen;omega) (by omega) jH.size ?_;intro v5 v hO5 hgr5 hnil5;obtain⟨g5,cap5,rfl⟩:=Ab hO5 (λe=>by have:=hnil5.1 e;simp at this);rw [VM,Vd] at hO5;have hlt5:=(hO5.lt g5 rfl).1;refine hK.out _ _ (gB jH hgr5 hsE) (λjH=>?_);clear hK K hnil5;try simp only [zS]
     try simp only [VM]
     replace hqN:=A9 hqN hgr5 hnEN.symm;clear hgr5 hE;refine rd 7 (λK hK=>?_);rw [if_pos (by kernel_rfl)];refine wp_append_lies _ _ _ _ rfl w4.heap.size 60 j0 (χ #[ι κ 0,ι κ 0,τ VG]) 3 32 Tryz.underlying30 HI.out hz0 hz1 hz2 rfl (by omega) (σ (ς ⟨g5,0,ν⟩) j cap5) j (BK (L.take j)) rfl hO5 ⟨BN,0,ν⟩ 1 1 (v3 ⟨(R q).o,(R q).m,(R q).s⟩) rfl rfl (VI hqN) (Al [⟨(R q).o,(R q).m,(R q).s⟩]) (by omega) (by unfold maxLen;omega) (by omega) jH.size _ rfl ?_;intro g6 cap6 v hO6 hgr6 hat6 hlt6;refine hK.out _ _ (gB jH hgr6 hlt5) (λjH=>?_);clear hK K hgr6 hat6;try simp only [zS]
     refine tk 8 jH ?_
     try simp only [zS]
     refine VP (by kernel_rfl) ?_ _
   case' w7_c1=>
    have hqN:=η v (γ #[ι κ ((R q).o),ι κ ((R q).m),τ ((R q).s)] 60);have hbN:=AD v (γ #[ι κ ((R q).o),ι κ ((R q).m),τ ((R q).s)] 60);have hsN:=jH.size;go_simp;refine hK.out _ _ (AA jH (AD _ _)) (λjH=>?_);clear hK K;try simp only [zS]
    generalize v.heap.size=BN at hqN hsN ⊢;generalize v.alloc (γ #[ι κ ((R q).o),ι κ ((R q).m),τ ((R q).s)] 60)=v at hqN hbN  jH ⊢;clear hbN;refine rd 0 (λK hK=>?_);have hqE:=η v (γ #[] 60);have hbE:=AD v (γ #[] 60);have hsE:=jH.size;have hE:(v.alloc (γ #[] 60)).ownsRow w4.heap.size 60 3 (σ (ς ⟨v.heap.size,0,ν⟩) 0 0) 0 []:=VU v #[] 0 jH.size (by unfold maxLen;omega) rfl;go_simp;refine hK.out _ _ (AA jH (AD _ _)) (λjH=>?_);clear hK K;try simp only [zS]
    have hnNE:BN≠v.heap.size:=Nat.ne_of_lt (VL.1 hqN).1;generalize v.heap.size=BE at hqE hsE hE hnNE ⊢;generalize v.alloc (γ #[] 60)=v at hqE hbE hE jH ⊢;replace hqN:=AC hqN hbE;clear hbE;refine rd 4 (λK hK=>?_);rw [if_pos (by kernel_rfl)];refine wp_append_own _ _ _ _ rfl w4.heap.size 60 j0 (χ #[ι κ 0,ι κ 0,τ VG]) 3 32 Tryz.underlying30 HI.out hz0 hz1 hz2 rfl (by omega) (σ (ς ⟨BE,0,ν⟩) 0 0) 0 [] rfl hE ⟨g,0,ν⟩ j cap (BK (L.take j)) rfl (by rw [BQ,VY];omega) (Sv.news (AF hO4 jH)) (Al _) (by unfold maxLen;omega) (by omega) jH.size ?_;intro v5 v hO5 hgr5 hnil5;obtain⟨g5,cap5,rfl⟩:=Ab hO5 (λe=>by have:=hnil5.1 e;simp at this);rw [VM,Vd] at hO5;have hlt5:=(hO5.lt g5 rfl).1;refine hK.out _ _ (gB jH hgr5 hsE) (λjH=>?_);clear hK K hnil5;try simp only [zS]
    try simp only [VM]
    replace hqN:=A9 hqN hgr5 hnNE;clear hgr5 hE;refine rd 7 (λK hK=>?_);rw [if_pos (by kernel_rfl)];refine wp_append_lies _ _ _ _ rfl w4.heap.size 60 j0 (χ #[ι κ 0,ι κ 0,τ VG]) 3 32 Tryz.underlying30 HI.out hz0 hz1 hz2 rfl (by omega) (σ (ς ⟨g5,0,ν⟩) j cap5) j (BK (L.take j)) rfl hO5 ⟨BN,0,ν⟩ 1 1 (v3 ⟨(R q).o,(R q).m,(R q).s⟩) rfl rfl (VI hqN) (Al [⟨(R q).o,(R q).m,(R q).s⟩]) (by omega) (by unfold maxLen;omega) (by omega) jH.size _ rfl ?_;intro g6 cap6 v hO6 hgr6 hat6 hlt6;refine hK.out _ _ (gB jH hgr6 hlt5) (λjH=>?_);clear hK K hgr6 hat6;try simp only [zS]
    refine tk 8 jH ?_
    try simp only [zS]
    refine VP (by kernel_rfl) ?_ _
   all_goals
    obtain⟨q1,q2⟩:=Ee (r:=⟨(R q).o,(R q).m,(R q).s⟩) hjl (FX hO6 hb4.size);have hb6:=AA hb4 jH;go_wp2;go_roundw
    case rel=>exact⟨k+1,g6,cap6,L.take j ++ [⟨(R q).o,(R q).m,(R q).s⟩],by omega,by go_num,by rw [q1],by rw [HST.out,HT.out],q2,hb6⟩
    case measure=>simp [VQ];omega
  obtain⟨x,hx⟩:∃ x,C8 o (L.getD j d0) (L.getD (j+1) d0)=x:=⟨_,rfl⟩;have HT:Hid (FC C n R ⟨o,mm,s⟩ (L.drop j)=⟨x.o,x.m,x.s⟩):=by show _=_;rw [←hx];simp only [FC];rw [if_neg o1,if_neg o2,if_neg o3];simp
  have n1:(o == 1)=false:=by simpa using o1
  have n2:(o == 2)=false:=by simpa using o2
  have n3:(o == 3)=false:=by simpa using o3
  have h4:4<=o:=by omega
  have h13:=hop.2;have har:1<=AW o:=by unfold AW;split <;> (try split) <;> omega
  have hjL:j<L.length:=by have:=HLE.out;omega
  have hjc3:j<cap:=by omega
  have hjc4:(j:Int)<cap:=by omega
  have hbW:υ wr.heap.size wr ((wr.alloc (γ #[ι κ o,ι κ mm,τ s] 42)).alloc (γ #[ι κ 1,ι κ mm,τ ⟨#[]⟩] 60)):=AA (AD _ _) (AD _ _);have hrW:((wr.alloc (γ #[ι κ o,ι κ mm,τ s] 42)).alloc (γ #[ι κ 1,ι κ mm,τ ⟨#[]⟩] 60)).heap[wr.heap.size+1]?=ς _:=(by have q:=η (wr.alloc (γ #[ι κ o,ι κ mm,τ s] 42)) (γ #[ι κ 1,ι κ mm,τ ⟨#[]⟩] 60);rw [ω] at q;exact q);have i9:((wr.alloc (γ #[ι κ o,ι κ mm,τ s] 42)).alloc (γ #[ι κ 1,ι κ mm,τ ⟨#[]⟩] 60)).cell? ⟨wr.heap.size,0,ν⟩=ς (ι κ o):=AB (AD _ _) ((AL (η wr _)).1);clear o1 o2 o3 har;go_upto_region 8 with (go_at_call 56;refine(Ba (o) _).mono ?_;rintro e w3 ⟨rfl,rfl⟩)
  refine VH (S:=λx=>υ wr.heap.size wr x/\x.cell? ⟨wr.heap.size,0,ν⟩=ς (ι κ o)) (by kernel_rfl) (⟨AA hbW (CU _),i9⟩) (λjH=>?_);refine tk 0 jH ?_;refine tk 1 jH ?_ (hy:=λx jS=>by have k0:=jS.2;go_simp<;>rfl)
  try simp only [zS]
  refine tk 2 jH ?_;refine tk 3 jH ?_;refine tk 4 jH ?_
  try simp only [zS]
  refine rd 5 (λK hK=>?_);go_simp;rw [if_neg (show ¬cap=j by omega)];have hApp:=Q8 o (ς ⟨g,j * 3,ν⟩) (L.length - j) (cap - j) (λi=>L.getD (j+i) d0) _ (Sv.il (AF hO jH.1) (by omega) j) HLE.out.2.2.2 (by omega) h4 h13;rw [show C8 o (L.getD (j+0) d0) (L.getD (j+1) d0)=x from hx] at hApp
  refine(hApp).mono ?_;rintro e w5 ⟨rfl,hb5⟩;have hr5:=AC hrW (AA (CU _) hb5);have hB5:=AA jH.1 hb5;obtain⟨r0,r1,r2,f0,f1,f2⟩:=AL hr5;refine hK.out _ _ (⟨hB5,AB hb5 jH.2⟩) (λjH=>?_);clear hK K;try simp only [zS]
  refine rd 6 (λK hK=>?_);skip
  go_simp;refine hK.out _ _ (⟨BM jH.1 (by omega) _ _ _,Ka (by omega) jH.2⟩) (λjH=>?_);clear hK K;try simp only [zS]
  refine VP (by kernel_rfl) ?_ _;clear jH;go_wp2;have hrow:(((w5.setCell ⟨wr.heap.size+1,0,ν⟩ (ι κ x.o)).setCell ⟨wr.heap.size+1,1,ν⟩ (ι κ x.m)).setCell ⟨wr.heap.size+1,2,ν⟩ (τ x.s)).heap[wr.heap.size+1]?=ς (γ #[ι κ (x.o),ι κ (x.m),τ (x.s)] 60 (0,0)):=DM hr5 _ _ _;have hB4:υ wr.heap.size wr (((w5.setCell ⟨wr.heap.size+1,0,ν⟩ (ι κ x.o)).setCell ⟨wr.heap.size+1,1,ν⟩ (ι κ x.m)).setCell ⟨wr.heap.size+1,2,ν⟩ (τ x.s)):=BM hB5 (by omega) _ _ _;generalize (((w5.setCell ⟨wr.heap.size+1,0,ν⟩ (ι κ x.o)).setCell ⟨wr.heap.size+1,1,ν⟩ (ι κ x.m)).setCell ⟨wr.heap.size+1,2,ν⟩ (τ x.s))=w4 at hrow hB4 ⊢;have hO4:Sv w4 _ g cap L:=AF hO hB4;have hb4:=AA hb hB4;obtain⟨q0,q1,q2,-⟩:=AL hrow;clear hB4;refine VH (S:=λx=>υ w4.heap.size w4 x) (by kernel_rfl) (CU _) (λjH=>?_);generalize w4.drew=v at jH ⊢;refine tk 1 jH ?_;refine tk 2 jH ?_;refine tk 3 jH ?_;refine tk 5 jH ?_ (hy:=λx jS=>by have k0:=AB jS q0;have k1:=AB jS q1;have k2:=AB jS q2;go_simp<;>rfl)
  try simp only [zS]
  refine wpAnyH_ready (rs:=[0,6]) (by kernel_rfl) (by simp) ?_;refine(AllReadyH.cons (o:=PX) rfl (λK hK=>?w8_c2) (AllReadyH.cons (o:=Jk) rfl (λK hK=>?w8_c1) AllReadyH.nil));case' w8_c2=>
   have hqE:=η v (γ #[] 60);have hbE:=AD v (γ #[] 60);have hsE:=jH.size;have hE:(v.alloc (γ #[] 60)).ownsRow w4.heap.size 60 3 (σ (ς ⟨v.heap.size,0,ν⟩) 0 0) 0 []:=VU v #[] 0 jH.size (by unfold maxLen;omega) rfl;go_simp;refine hK.out _ _ (AA jH (AD _ _)) (λjH=>?_);clear hK K;try simp only [zS]
   generalize v.heap.size=BE at hqE hsE hE ⊢;generalize v.alloc (γ #[] 60)=v at hqE hbE hE jH ⊢;clear hbE;refine wpAnyH_ready (rs:=[4,6]) (by kernel_rfl) (by simp) ?_;refine(AllReadyH.cons (o:=PW) rfl (λK hK=>?w8_c4) (AllReadyH.cons (o:=Jk) rfl (λK hK=>?w8_c3) AllReadyH.nil));case' w8_c4=>
    rw [if_pos (by kernel_rfl)];refine wp_append_own _ _ _ _ rfl w4.heap.size 60 j0 (χ #[ι κ 0,ι κ 0,τ VG]) 3 32 Tryz.underlying30 HI.out hz0 hz1 hz2 rfl (by omega) (σ (ς ⟨BE,0,ν⟩) 0 0) 0 [] rfl hE ⟨g,0,ν⟩ j cap (BK (L.take j)) rfl (by rw [BQ,VY];omega) (Sv.news (AF hO4 jH)) (Al _) (by unfold maxLen;omega) (by omega) jH.size ?_;intro v5 v hO5 hgr5 hnil5;obtain⟨g5,cap5,rfl⟩:=Ab hO5 (λe=>by have:=hnil5.1 e;simp at this);rw [VM,Vd] at hO5;have hlt5:=(hO5.lt g5 rfl).1;refine hK.out _ _ (gB jH hgr5 hsE) (λjH=>?_);clear hK K hnil5;try simp only [zS]
    try simp only [VM]
    clear hgr5 hE;refine rd 6 (λK hK=>?_);have hqN:=η v (γ #[ι κ (x.o),ι κ (x.m),τ (x.s)] 60);have hbN:=AD v (γ #[ι κ (x.o),ι κ (x.m),τ (x.s)] 60);have hsN:=jH.size;go_simp;refine hK.out _ _ (AA jH (AD _ _)) (λjH=>?_);clear hK K;try simp only [zS]
    generalize v.heap.size=BN at hqN hsN ⊢;generalize v.alloc (γ #[ι κ (x.o),ι κ (x.m),τ (x.s)] 60)=v at hqN hbN  jH ⊢;replace hO5:=AF hO5 hbN;clear hbN;refine rd 7 (λK hK=>?_);rw [if_pos (by kernel_rfl)];refine wp_append_lies _ _ _ _ rfl w4.heap.size 60 j0 (χ #[ι κ 0,ι κ 0,τ VG]) 3 32 Tryz.underlying30 HI.out hz0 hz1 hz2 rfl (by omega) (σ (ς ⟨g5,0,ν⟩) j cap5) j (BK (L.take j)) rfl hO5 ⟨BN,0,ν⟩ 1 1 (v3 ⟨x.o,x.m,x.s⟩) rfl rfl (VI hqN) (Al [⟨x.o,x.m,x.s⟩]) (by omega) (by unfold maxLen;omega) (by omega) jH.size _ rfl ?_;intro g6 cap6 v hO6 hgr6 hat6 hlt6;refine hK.out _ _ (gB jH hgr6 hlt5) (λjH=>?_);clear hK K hgr6 hat6;try simp only [zS]
    refine tk 8 jH ?_
    try simp only [zS]
    refine VP (by kernel_rfl) ?_ _
   case' w8_c3=>
    have hqN:=η v (γ #[ι κ (x.o),ι κ (x.m),τ (x.s)] 60);have hbN:=AD v (γ #[ι κ (x.o),ι κ (x.m),τ (x.s)] 60);have hsN:=jH.size;go_simp;refine hK.out _ _ (AA jH (AD _ _)) (λjH=>?_);clear hK K;try simp only [zS]
    have hnEN:BE≠v.heap.size:=Nat.ne_of_lt (VL.1 hqE).1;generalize v.heap.size=BN at hqN hsN hnEN ⊢;generalize v.alloc (γ #[ι κ (x.o),ι κ (x.m),τ (x.s)] 60)=v at hqN hbN  jH ⊢;replace hE:=AF hE hbN;clear hbN;refine rd 4 (λK hK=>?_);rw [if_pos (by kernel_rfl)];refine wp_append_own _ _ _ _ rfl w4.heap.size 60 j0 (χ #[ι κ 0,ι κ 0,τ VG]) 3 32 Tryz.underlying30 HI.out hz0 hz1 hz2 rfl (by omega) (σ (ς ⟨BE,0,ν⟩) 0 0) 0 [] rfl hE ⟨g,0,ν⟩ j cap (BK (L.take j)) rfl (by rw [BQ,VY];omega) (Sv.news (AF hO4 jH)) (Al _) (by unfold maxLen;omega) (by omega) jH.size ?_;intro v5 v hO5 hgr5 hnil5;obtain⟨g5,cap5,rfl⟩:=Ab hO5 (λe=>by have:=hnil5.1 e;simp at this);rw [VM,Vd] at hO5;have hlt5:=(hO5.lt g5 rfl).1;refine hK.out _ _ (gB jH hgr5 hsE) (λjH=>?_);clear hK K hnil5;try simp only [zS]
    try simp only [VM]
    replace hqN:=A9 hqN hgr5 hnEN.symm;clear hgr5 hE;refine rd 7 (λK hK=>?_);rw [if_pos (by kernel_rfl)];refine wp_append_lies _ _ _ _ rfl w4.heap.size 60 j0 (χ #[ι κ 0,ι κ 0,τ VG]) 3 32 Tryz.underlying30 HI.out hz0 hz1 hz2 rfl (by omega) (σ (ς ⟨g5,0,ν⟩) j cap5) j (BK (L.take j)) rfl hO5 ⟨BN,0,ν⟩ 1 1 (v3 ⟨x.o,x.m,x.s⟩) rfl rfl (VI hqN) (Al [⟨x.o,x.m,x.s⟩]) (by omega) (by unfold maxLen;omega) (by omega) jH.size _ rfl ?_;intro g6 cap6 v hO6 hgr6 hat6 hlt6;refine hK.out _ _ (gB jH hgr6 hlt5) (λjH=>?_);clear hK K hgr6 hat6;try simp only [zS]
    refine tk 8 jH ?_
    try simp only [zS]
    refine VP (by kernel_rfl) ?_ _
  case' w8_c1=>
   have hqN:=η v (γ #[ι κ (x.o),ι κ (x.m),τ (x.s)] 60);have hbN:=AD v (γ #[ι κ (x.o),ι κ (x.m),τ (x.s)] 60);have hsN:=jH.size;go_simp;refine hK.out _ _ (AA jH (AD _ _)) (λjH=>?_);clear hK K;try simp only [zS]
   generalize v.heap.size=BN at hqN hsN ⊢;generalize v.alloc (γ #[ι κ (x.o),ι κ (x.m),τ (x.s)] 60)=v at hqN hbN  jH ⊢;clear hbN;refine rd 0 (λK hK=>?_);have hqE:=η v (γ #[] 60);have hbE:=AD v (γ #[] 60);have hsE:=jH.size;have hE:(v.alloc (γ #[] 60)).ownsRow w4.heap.size 60 3 (σ (ς ⟨v.heap.size,0,ν⟩) 0 0) 0 []:=VU v #[] 0 jH.size (by unfold maxLen;omega) rfl;go_simp;refine hK.out _ _ (AA jH (AD _ _)) (λjH=>?_);clear hK K;try simp only [zS]
   have hnNE:BN≠v.heap.size:=Nat.ne_of_lt (VL.1 hqN).1;generalize v.heap.size=BE at hqE hsE hE hnNE ⊢;generalize v.alloc (γ #[] 60)=v at hqE hbE hE jH ⊢;replace hqN:=AC hqN hbE;clear hbE;refine rd 4 (λK hK=>?_);rw [if_pos (by kernel_rfl)];refine wp_append_own _ _ _ _ rfl w4.heap.size 60 j0 (χ #[ι κ 0,ι κ 0,τ VG]) 3 32 Tryz.underlying30 HI.out hz0 hz1 hz2 rfl (by omega) (σ (ς ⟨BE,0,ν⟩) 0 0) 0 [] rfl hE ⟨g,0,ν⟩ j cap (BK (L.take j)) rfl (by rw [BQ,VY];omega) (Sv.news (AF hO4 jH)) (Al _) (by unfold maxLen;omega) (by omega) jH.size ?_;intro v5 v hO5 hgr5 hnil5;obtain⟨g5,cap5,rfl⟩:=Ab hO5 (λe=>by have:=hnil5.1 e;simp at this);rw [VM,Vd] at hO5;have hlt5:=(hO5.lt g5 rfl).1;refine hK.out _ _ (gB jH hgr5 hsE) (λjH=>?_);clear hK K hnil5;try simp only [zS]
   try simp only [VM]
   replace hqN:=A9 hqN hgr5 hnNE;clear hgr5 hE;refine rd 7 (λK hK=>?_);rw [if_pos (by kernel_rfl)];refine wp_append_lies _ _ _ _ rfl w4.heap.size 60 j0 (χ #[ι κ 0,ι κ 0,τ VG]) 3 32 Tryz.underlying30 HI.out hz0 hz1 hz2 rfl (by omega) (σ (ς ⟨g5,0,ν⟩) j cap5) j (BK (L.take j)) rfl hO5 ⟨BN,0,ν⟩ 1 1 (v3 ⟨x.o,x.m,x.s⟩) rfl rfl (VI hqN) (Al [⟨x.o,x.m,x.s⟩]) (by omega) (by unfold maxLen;omega) (by omega) jH.size _ rfl ?_;intro g6 cap6 v hO6 hgr6 hat6 hlt6;refine hK.out _ _ (gB jH hgr6 hlt5) (λjH=>?_);clear hK K hgr6 hat6;try simp only [zS]
   refine tk 8 jH ?_
   try simp only [zS]
   refine VP (by kernel_rfl) ?_ _
  all_goals
   obtain⟨q1,q2⟩:=Ee (r:=⟨x.o,x.m,x.s⟩) hjl (FX hO6 hb4.size);have hb6:=AA hb4 jH;go_wp2;go_roundw
   case rel=>exact⟨k+1,g6,cap6,L.take j ++ [⟨x.o,x.m,x.s⟩],by omega,by go_num,by rw [q1],by rw [HST.out,HT.out],q2,hb6⟩
   case measure=>simp [VQ];omega
