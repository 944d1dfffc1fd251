import Derived.Test.YtfnfdllflgmhnaaGreatDoorRe
import Derived.Deep.AppendLies
open Array renaming getElem?_eq_some_iff → XS
open ByteArray renaming empty → XN
open Go renaming Calls → XR, Value → XU, World → ο, bodyPost_ret → XL, cell_of_row → ε, frozen_of_row → ζ, heap_alloc_new → η, heap_setCell_same → π, results_cell_row → Xd, wpList_append_lies → XY
open Go.Ending renaming returned → ρ
open Go.IntKind renaming i64 → κ
open Go.Obj renaming cells → γ
open Go.Proofs.Tryz renaming prog → μ
open Go.RowKit renaming Below → υ, intOf → XX
open Go.RowKit.Below renaming refl → Xa
open Go.Value renaming agg → χ, int → ι, pointer → ψ, string → τ, bool → β, slice → σ
open Go.World renaming news_of_block → XP, ownsRow_made → Xb
open Nat renaming le_refl → XK, le_trans → Xe
open Option renaming none → ν, some → ς
open Option.some renaming inj → XM
open Or renaming inl → Xc, inr → Xi
namespace Go.Proofs.YtfnfdllflgmhnaaGreatDoor
open Go.RowKit Go.Maps Go.WideMaps
set_option maxRecDepth 20000
set_option maxHeartbeats 8000000
def An(s:ByteArray)(p:Option Nat):Itm:=
 if AK s 1 p=1 then ⟨1,AK s 8 (AD s 1 p),⟨#[]⟩⟩ else if AK s 1 p=2 then ⟨2,0,Ai s 2 (AD s 1 p)⟩ else if AK s 1 p=3 then ⟨3,0,Ai s 1 (AD s 1 p)⟩ else ⟨AK s 1 p,0,⟨#[]⟩⟩
def AZ(s:ByteArray)(p:Option Nat):Option Nat:=
 if AK s 1 p=1 then AD s 8 (AD s 1 p) else if AK s 1 p=2 then Ab s 2 (AD s 1 p) else if AK s 1 p=3 then Ab s 1 (AD s 1 p) else AD s 1 p
def CO(s:ByteArray)(p:Option Nat):Itm:=if AK s 1 p=1 then ⟨1,AK s 8 (AD s 1 p),⟨#[]⟩⟩ else ⟨AK s 1 p,0,Ai s 2 (AD s 1 p)⟩
def Be(s:ByteArray)(p:Option Nat):Option Nat:=if AK s 1 p=1 then AD s 8 (AD s 1 p) else Ab s 2 (AD s 1 p)
def Dh(s:ByteArray)(p:Option Nat):Clm:=⟨Ai s 1 p,AK s 1 (Ab s 1 p)⟩
def Ca(s:ByteArray)(p:Option Nat):Option Nat:=AD s 1 (Ab s 1 p)
theorem Aq{a b:ο}{r:Option Nat}(h:a.grownBy b r){C i:Nat}{v:XU}(hC:a.heap.size<=C):a.grownBy (b.setCell ⟨C,i,ν⟩ v) r:=
 have hb:υ C b (b.setCell ⟨C,i,ν⟩ v):=(Xa C b).setCell (XK C) v;⟨hb.os.trans h.os,hb.tape.trans h.tape,hb.output.trans h.output,Xe h.size hb.size,λk hk hn=>(heap_setCell_other _ _ _ _ (λe=>by have e':k=C:=e;omega)).trans (h.block k hk hn)⟩
theorem Fd{a b:ο}{r:Option Nat}(h:a.grownBy b r)(o:Obj):a.grownBy (b.alloc o) r:=AQ h (BK (AE _ _) r)
theorem AW{w w':ο}{q B:Nat}{o:Obj}(h:w.heap[q]?=ς o)(hg:w.grownBy w' (ς B))(hne:q≠B):w'.heap[q]?=ς o:=
 (hg.block q (XS.1 h).1 (λe=>hne (by injection e))).trans h
theorem PI.lt{w:ο}{B:Nat}{s:ByteArray}:∀ {p:Option Nat},PI w B s p->B<w.heap.size
 | none,h=>RD.lt h
 | some _,h=>RD.lt h.2
theorem PI.later{w w':ο}{B:Nat}{s:ByteArray}:∀ {p:Option Nat},PI w B s p->υ w.heap.size w w'->PI w' B s p
 | none,h,hb=>RD.later h hb
 | some _,h,hb=>⟨h.1,RD.later h.2 hb⟩
theorem PI.set{w:ο}{B C i:Nat}{s:ByteArray}{v:XU}(hne:B≠C):∀ {p:Option Nat},PI w B s p->PI (w.setCell ⟨C,i,ν⟩ v) B s p
 | none,h=>(heap_setCell_other _ _ _ _ hne).trans h
 | some _,h=>⟨h.1,(heap_setCell_other _ _ _ _ hne).trans h.2⟩
theorem WB(B:Nat)(s:ByteArray)(p:Option Nat)(w:ο)(h:PI w B s p) :
 XR μ 88 #[ψ (ς ⟨B,0,ν⟩)] w λe w'=>e=ρ (χ #[τ (Dh s p).s,ι κ (Dh s p).t])/\PI w' B s (Ca s p)/\w.grownBy w' (ς B):=by
 have hlt:=h.lt;have hb0:=AE w (γ #[τ ⟨#[]⟩,ι κ 0] 92);have hR0:=η w (γ #[τ ⟨#[]⟩,ι κ 0] 92);have HR0:Hid ((w.alloc (γ #[τ ⟨#[]⟩,ι κ 0] 92)).heap[w.heap.size]?=ς (γ #[τ ⟨#[]⟩,ι κ 0] 92 (0,0))):=hR0;clear hR0;have hne:w.heap.size≠B:=by omega
 go_enter Tryz.func88,Tryz.ntmps88
 go_wp2_with (first | (go_at_call 86;refine(Dq B s p 1 _ (h.later hb0) (by omega)).mono ?_;rintro e w1 ⟨rfl,hP1,hg1⟩;have HR1:=AW HR0.out hg1 hne) | (go_at_call 85;refine(Ct B s _ 1 _ hP1 (by omega)).mono ?_;rintro e w2 ⟨rfl,hP2,hg2⟩;have hR2:=AW HR1 hg2 hne;have HR2:Hid (w2.heap[w.heap.size]?=ς (γ #[τ ⟨#[]⟩,ι κ 0] 92 (0,0))):=hR2;clear hR2;have m0:w2.cell? ⟨w.heap.size,0,ν⟩=ς (τ ⟨#[]⟩):=(ε _ _ 0 _ _ _ HR2.out).trans rfl;have m1:w2.cell? ⟨w.heap.size,1,ν⟩=ς (ι κ 0):=(ε _ _ 1 _ _ _ HR2.out).trans rfl;have f0:w2.frozen? ⟨w.heap.size,0,ν⟩=false:=ζ _ _ 0 _ _ HR2.out;have f1:w2.frozen? ⟨w.heap.size,1,ν⟩=false:=ζ _ _ 1 _ _ HR2.out))
 have RV:=λv0 v1=>π _ _ 1 _ _ v1 (π _ _ 0 _ _ v0 HR2.out);have hG:w.grownBy w2 (ς B):=AQ (AQ (BK hb0 _) hg1) hg2;exact XL (v:=χ #[τ (Ai s 1 p),ι κ (AK s 1 (Ab s 1 p))]) (Xd Tryz.results88 _ _ w.heap.size 92 _ (0,0) _ rfl (RV _ _) Tryz.underlying92 rfl (by kernel_rfl)) rfl ⟨rfl,PI.set (by omega) (PI.set (by omega) hP2),Aq (Aq hG (XK _)) (XK _)⟩
theorem TR(B:Nat)(s:ByteArray)(p:Option Nat)(w:ο)(h:PI w B s p) :
 XR μ 141 #[ψ (ς ⟨B,0,ν⟩)] w λe w'=>e=ρ (χ #[ι κ (An s p).o,ι κ (An s p).m,τ (An s p).s])/\PI w' B s (AZ s p)/\w.grownBy w' (ς B):=by
 have hlt:=h.lt;have hb0:=AE w (γ #[ι κ 0,ι κ 0,τ ⟨#[]⟩] 135);have HR0:Hid ((w.alloc (γ #[ι κ 0,ι κ 0,τ ⟨#[]⟩] 135)).heap[w.heap.size]?=ς (γ #[ι κ 0,ι κ 0,τ ⟨#[]⟩] 135 (0,0))):=η w _;have hne:w.heap.size≠B:=by omega
 have hs0:(w.alloc (γ #[ι κ 0,ι κ 0,τ ⟨#[]⟩] 135)).heap.size=w.heap.size+1:=by simp
 have hN:=Ct B s p 1 _ (h.later hb0) (by omega);by_cases e1:AK s 1 p=1
 ·
  have HV:Hid (An s p=⟨1,AK s 8 (AD s 1 p),⟨#[]⟩⟩):=by show _=_;unfold An;rw [if_pos e1]
  have HP:Hid (AZ s p=AD s 8 (AD s 1 p)):=by show _=_;unfold AZ;rw [if_pos e1]
  rw [e1] at hN;go_enter Tryz.func141,Tryz.ntmps141
  go_wp2_with (first | (go_at_call 85;have _h:=hP1;refine(Ct B s (AD s 1 p) 8 _ (hP1.later (AE _ _)) (by omega)).mono ?_;rintro e w3 ⟨rfl,hP3,hg3⟩;have lR:Hid (w3.heap[w1.heap.size]?=ς (γ #[ι κ 1,ι κ 0,τ ⟨#[]⟩] 135 (0,0))):=AW HL2.out hg3 hne3;have rR:Hid (w3.heap[w.heap.size]?=ς (γ #[ι κ 0,ι κ 0,τ ⟨#[]⟩] 135 (0,0))):=AW HR2.out hg3 hne;have l0:w3.cell? ⟨w1.heap.size,0,ν⟩=ς (ι κ 1):=(ε _ _ 0 _ _ _ lR.out).trans rfl;have lf0:w3.frozen? ⟨w1.heap.size,0,ν⟩=false:=ζ _ _ 0 _ _ lR.out;have l1:w3.cell? ⟨w1.heap.size,1,ν⟩=ς (ι κ 0):=(ε _ _ 1 _ _ _ lR.out).trans rfl;have lf1:w3.frozen? ⟨w1.heap.size,1,ν⟩=false:=ζ _ _ 1 _ _ lR.out;have l2:w3.cell? ⟨w1.heap.size,2,ν⟩=ς (τ ⟨#[]⟩):=(ε _ _ 2 _ _ _ lR.out).trans rfl;have lf2:w3.frozen? ⟨w1.heap.size,2,ν⟩=false:=ζ _ _ 2 _ _ lR.out;have r0:w3.cell? ⟨w.heap.size,0,ν⟩=ς (ι κ 0):=(ε _ _ 0 _ _ _ rR.out).trans rfl;have rf0:w3.frozen? ⟨w.heap.size,0,ν⟩=false:=ζ _ _ 0 _ _ rR.out;have r1:w3.cell? ⟨w.heap.size,1,ν⟩=ς (ι κ 0):=(ε _ _ 1 _ _ _ rR.out).trans rfl;have rf1:w3.frozen? ⟨w.heap.size,1,ν⟩=false:=ζ _ _ 1 _ _ rR.out;have r2:w3.cell? ⟨w.heap.size,2,ν⟩=ς (τ ⟨#[]⟩):=(ε _ _ 2 _ _ _ rR.out).trans rfl;have rf2:w3.frozen? ⟨w.heap.size,2,ν⟩=false:=ζ _ _ 2 _ _ rR.out) | (go_at_call 85;refine hN.mono ?_;rintro e w1 ⟨rfl,hP1,hg1⟩;have hR1:=AW HR0.out hg1 hne;have hs1:=hg1.size;have hne2:w.heap.size≠w1.heap.size:=(by omega);have hne3:w1.heap.size≠B:=(by omega);have HL2:Hid ((w1.alloc (γ #[ι κ 1,ι κ 0,τ ⟨#[]⟩] 135)).heap[w1.heap.size]?=ς (γ #[ι κ 1,ι κ 0,τ ⟨#[]⟩] 135 (0,0))):=η w1 _;have HR2:Hid ((w1.alloc (γ #[ι κ 1,ι κ 0,τ ⟨#[]⟩] 135)).heap[w.heap.size]?=ς (γ #[ι κ 0,ι κ 0,τ ⟨#[]⟩] 135 (0,0))):=AC hR1 (AE _ _);clear hR1))
  have RV:=λv v0 v1 v2=>π _ _ 2 _ _ v2 (π _ _ 1 _ _ v1 (π _ _ 0 _ _ v0 (AS (B:=w1.heap.size) (B':=w.heap.size) (i:=1) (v:=v) rR.out hne2)));have hG:w.grownBy w3 (ς B):=AQ (Fd (AQ (BK hb0 _) hg1) _) hg3;exact XL (v:=χ #[ι κ 1,ι κ (AK s 8 (AD s 1 p)),τ ⟨#[]⟩]) (Xd Tryz.results141 _ _ w.heap.size 135 _ (0,0) _ rfl (RV _ _ _ _) Tryz.underlying135 rfl (by kernel_rfl)) rfl ⟨by rw [HV.out],by rw [HP.out];exact PI.set hne.symm (PI.set hne.symm (PI.set hne.symm (PI.set hne3.symm hP3))),Aq (Aq (Aq (Aq hG (by omega)) (XK _)) (XK _)) (XK _)⟩
 by_cases e2:AK s 1 p=2
 ·
  have HV:Hid (An s p=⟨2,0,Ai s 2 (AD s 1 p)⟩):=by show _=_;unfold An;rw [if_neg e1,if_pos e2]
  have HP:Hid (AZ s p=Ab s 2 (AD s 1 p)):=by show _=_;unfold AZ;rw [if_neg e1,if_pos e2]
  rw [e2] at hN;go_enter Tryz.func141,Tryz.ntmps141
  go_wp2_with (first | (go_at_call 86;have _h:=hP1;refine(Dq B s (AD s 1 p) 2 _ (hP1.later (AE _ _)) (by omega)).mono ?_;rintro e w3 ⟨rfl,hP3,hg3⟩;have lR:Hid (w3.heap[w1.heap.size]?=ς (γ #[ι κ 2,ι κ 0,τ ⟨#[]⟩] 135 (0,0))):=AW HL2.out hg3 hne3;have rR:Hid (w3.heap[w.heap.size]?=ς (γ #[ι κ 0,ι κ 0,τ ⟨#[]⟩] 135 (0,0))):=AW HR2.out hg3 hne;have l0:w3.cell? ⟨w1.heap.size,0,ν⟩=ς (ι κ 2):=(ε _ _ 0 _ _ _ lR.out).trans rfl;have lf0:w3.frozen? ⟨w1.heap.size,0,ν⟩=false:=ζ _ _ 0 _ _ lR.out;have l1:w3.cell? ⟨w1.heap.size,1,ν⟩=ς (ι κ 0):=(ε _ _ 1 _ _ _ lR.out).trans rfl;have lf1:w3.frozen? ⟨w1.heap.size,1,ν⟩=false:=ζ _ _ 1 _ _ lR.out;have l2:w3.cell? ⟨w1.heap.size,2,ν⟩=ς (τ ⟨#[]⟩):=(ε _ _ 2 _ _ _ lR.out).trans rfl;have lf2:w3.frozen? ⟨w1.heap.size,2,ν⟩=false:=ζ _ _ 2 _ _ lR.out;have r0:w3.cell? ⟨w.heap.size,0,ν⟩=ς (ι κ 0):=(ε _ _ 0 _ _ _ rR.out).trans rfl;have rf0:w3.frozen? ⟨w.heap.size,0,ν⟩=false:=ζ _ _ 0 _ _ rR.out;have r1:w3.cell? ⟨w.heap.size,1,ν⟩=ς (ι κ 0):=(ε _ _ 1 _ _ _ rR.out).trans rfl;have rf1:w3.frozen? ⟨w.heap.size,1,ν⟩=false:=ζ _ _ 1 _ _ rR.out;have r2:w3.cell? ⟨w.heap.size,2,ν⟩=ς (τ ⟨#[]⟩):=(ε _ _ 2 _ _ _ rR.out).trans rfl;have rf2:w3.frozen? ⟨w.heap.size,2,ν⟩=false:=ζ _ _ 2 _ _ rR.out) | (go_at_call 85;refine hN.mono ?_;rintro e w1 ⟨rfl,hP1,hg1⟩;have hR1:=AW HR0.out hg1 hne;have hs1:=hg1.size;have hne2:w.heap.size≠w1.heap.size:=(by omega);have hne3:w1.heap.size≠B:=(by omega);have HL2:Hid ((w1.alloc (γ #[ι κ 2,ι κ 0,τ ⟨#[]⟩] 135)).heap[w1.heap.size]?=ς (γ #[ι κ 2,ι κ 0,τ ⟨#[]⟩] 135 (0,0))):=η w1 _;have HR2:Hid ((w1.alloc (γ #[ι κ 2,ι κ 0,τ ⟨#[]⟩] 135)).heap[w.heap.size]?=ς (γ #[ι κ 0,ι κ 0,τ ⟨#[]⟩] 135 (0,0))):=AC hR1 (AE _ _);clear hR1))
  have RV:=λv v0 v1 v2=>π _ _ 2 _ _ v2 (π _ _ 1 _ _ v1 (π _ _ 0 _ _ v0 (AS (B:=w1.heap.size) (B':=w.heap.size) (i:=2) (v:=v) rR.out hne2)));have hG:w.grownBy w3 (ς B):=AQ (Fd (AQ (BK hb0 _) hg1) _) hg3;exact XL (v:=χ #[ι κ 2,ι κ 0,τ (Ai s 2 (AD s 1 p))]) (Xd Tryz.results141 _ _ w.heap.size 135 _ (0,0) _ rfl (RV _ _ _ _) Tryz.underlying135 rfl (by kernel_rfl)) rfl ⟨by rw [HV.out],by rw [HP.out];exact PI.set hne.symm (PI.set hne.symm (PI.set hne.symm (PI.set hne3.symm hP3))),Aq (Aq (Aq (Aq hG (by omega)) (XK _)) (XK _)) (XK _)⟩
 by_cases e3:AK s 1 p=3
 ·
  have HV:Hid (An s p=⟨3,0,Ai s 1 (AD s 1 p)⟩):=by show _=_;unfold An;rw [if_neg e1,if_neg e2,if_pos e3]
  have HP:Hid (AZ s p=Ab s 1 (AD s 1 p)):=by show _=_;unfold AZ;rw [if_neg e1,if_neg e2,if_pos e3]
  rw [e3] at hN;go_enter Tryz.func141,Tryz.ntmps141
  go_wp2_with (first | (go_at_call 86;have _h:=hP1;refine(Dq B s (AD s 1 p) 1 _ (hP1.later (AE _ _)) (by omega)).mono ?_;rintro e w3 ⟨rfl,hP3,hg3⟩;have lR:Hid (w3.heap[w1.heap.size]?=ς (γ #[ι κ 3,ι κ 0,τ ⟨#[]⟩] 135 (0,0))):=AW HL2.out hg3 hne3;have rR:Hid (w3.heap[w.heap.size]?=ς (γ #[ι κ 0,ι κ 0,τ ⟨#[]⟩] 135 (0,0))):=AW HR2.out hg3 hne;have l0:w3.cell? ⟨w1.heap.size,0,ν⟩=ς (ι κ 3):=(ε _ _ 0 _ _ _ lR.out).trans rfl;have lf0:w3.frozen? ⟨w1.heap.size,0,ν⟩=false:=ζ _ _ 0 _ _ lR.out;have l1:w3.cell? ⟨w1.heap.size,1,ν⟩=ς (ι κ 0):=(ε _ _ 1 _ _ _ lR.out).trans rfl;have lf1:w3.frozen? ⟨w1.heap.size,1,ν⟩=false:=ζ _ _ 1 _ _ lR.out;have l2:w3.cell? ⟨w1.heap.size,2,ν⟩=ς (τ ⟨#[]⟩):=(ε _ _ 2 _ _ _ lR.out).trans rfl;have lf2:w3.frozen? ⟨w1.heap.size,2,ν⟩=false:=ζ _ _ 2 _ _ lR.out;have r0:w3.cell? ⟨w.heap.size,0,ν⟩=ς (ι κ 0):=(ε _ _ 0 _ _ _ rR.out).trans rfl;have rf0:w3.frozen? ⟨w.heap.size,0,ν⟩=false:=ζ _ _ 0 _ _ rR.out;have r1:w3.cell? ⟨w.heap.size,1,ν⟩=ς (ι κ 0):=(ε _ _ 1 _ _ _ rR.out).trans rfl;have rf1:w3.frozen? ⟨w.heap.size,1,ν⟩=false:=ζ _ _ 1 _ _ rR.out;have r2:w3.cell? ⟨w.heap.size,2,ν⟩=ς (τ ⟨#[]⟩):=(ε _ _ 2 _ _ _ rR.out).trans rfl;have rf2:w3.frozen? ⟨w.heap.size,2,ν⟩=false:=ζ _ _ 2 _ _ rR.out) | (go_at_call 85;refine hN.mono ?_;rintro e w1 ⟨rfl,hP1,hg1⟩;have hR1:=AW HR0.out hg1 hne;have hs1:=hg1.size;have hne2:w.heap.size≠w1.heap.size:=(by omega);have hne3:w1.heap.size≠B:=(by omega);have HL2:Hid ((w1.alloc (γ #[ι κ 3,ι κ 0,τ ⟨#[]⟩] 135)).heap[w1.heap.size]?=ς (γ #[ι κ 3,ι κ 0,τ ⟨#[]⟩] 135 (0,0))):=η w1 _;have HR2:Hid ((w1.alloc (γ #[ι κ 3,ι κ 0,τ ⟨#[]⟩] 135)).heap[w.heap.size]?=ς (γ #[ι κ 0,ι κ 0,τ ⟨#[]⟩] 135 (0,0))):=AC hR1 (AE _ _);clear hR1))
  have RV:=λv v0 v1 v2=>π _ _ 2 _ _ v2 (π _ _ 1 _ _ v1 (π _ _ 0 _ _ v0 (AS (B:=w1.heap.size) (B':=w.heap.size) (i:=2) (v:=v) rR.out hne2)));have hG:w.grownBy w3 (ς B):=AQ (Fd (AQ (BK hb0 _) hg1) _) hg3;exact XL (v:=χ #[ι κ 3,ι κ 0,τ (Ai s 1 (AD s 1 p))]) (Xd Tryz.results141 _ _ w.heap.size 135 _ (0,0) _ rfl (RV _ _ _ _) Tryz.underlying135 rfl (by kernel_rfl)) rfl ⟨by rw [HV.out],by rw [HP.out];exact PI.set hne.symm (PI.set hne.symm (PI.set hne.symm (PI.set hne3.symm hP3))),Aq (Aq (Aq (Aq hG (by omega)) (XK _)) (XK _)) (XK _)⟩
 ·
  have HV:Hid (An s p=⟨AK s 1 p,0,⟨#[]⟩⟩):=by show _=_;unfold An;rw [if_neg e1,if_neg e2,if_neg e3]
  have HP:Hid (AZ s p=AD s 1 p):=by show _=_;unfold AZ;rw [if_neg e1,if_neg e2,if_neg e3]
  obtain⟨o,ho⟩:∃ o,AK s 1 p=o:=⟨_,rfl⟩;rw [ho] at hN e1 e2 e3;rw [ho] at HV;have n1:(o == 1)=false:=by simpa using e1
  have n2:(o == 2)=false:=by simpa using e2
  have n3:(o == 3)=false:=by simpa using e3
  clear ho;go_enter Tryz.func141,Tryz.ntmps141
  go_wp2_with (go_at_call 85;refine hN.mono ?_;rintro e w1 ⟨rfl,hP1,hg1⟩;have hR1:=AW HR0.out hg1 hne;have hs1:=hg1.size;have hne2:w.heap.size≠w1.heap.size:=(by omega);have hne3:w1.heap.size≠B:=(by omega);have HL2:Hid ((w1.alloc (γ #[ι κ o,ι κ 0,τ ⟨#[]⟩] 135)).heap[w1.heap.size]?=ς (γ #[ι κ o,ι κ 0,τ ⟨#[]⟩] 135 (0,0))):=η w1 _;have HR2:Hid ((w1.alloc (γ #[ι κ o,ι κ 0,τ ⟨#[]⟩] 135)).heap[w.heap.size]?=ς (γ #[ι κ 0,ι κ 0,τ ⟨#[]⟩] 135 (0,0))):=AC hR1 (AE _ _);clear hR1;have lR:=HL2;have rR:=HR2;have r0:(w1.alloc (γ #[ι κ o,ι κ 0,τ ⟨#[]⟩] 135)).cell? ⟨w.heap.size,0,ν⟩=ς (ι κ 0):=(ε _ _ 0 _ _ _ rR.out).trans rfl;have rf0:(w1.alloc (γ #[ι κ o,ι κ 0,τ ⟨#[]⟩] 135)).frozen? ⟨w.heap.size,0,ν⟩=false:=ζ _ _ 0 _ _ rR.out;have r1:(w1.alloc (γ #[ι κ o,ι κ 0,τ ⟨#[]⟩] 135)).cell? ⟨w.heap.size,1,ν⟩=ς (ι κ 0):=(ε _ _ 1 _ _ _ rR.out).trans rfl;have rf1:(w1.alloc (γ #[ι κ o,ι κ 0,τ ⟨#[]⟩] 135)).frozen? ⟨w.heap.size,1,ν⟩=false:=ζ _ _ 1 _ _ rR.out;have r2:(w1.alloc (γ #[ι κ o,ι κ 0,τ ⟨#[]⟩] 135)).cell? ⟨w.heap.size,2,ν⟩=ς (τ ⟨#[]⟩):=(ε _ _ 2 _ _ _ rR.out).trans rfl;have rf2:(w1.alloc (γ #[ι κ o,ι κ 0,τ ⟨#[]⟩] 135)).frozen? ⟨w.heap.size,2,ν⟩=false:=ζ _ _ 2 _ _ rR.out)
  have RV:=λv0 v1 v2=>π _ _ 2 _ _ v2 (π _ _ 1 _ _ v1 (π _ _ 0 _ _ v0 rR.out));have hG:w.grownBy (w1.alloc (γ #[ι κ o,ι κ 0,τ ⟨#[]⟩] 135)) (ς B):=Fd (AQ (BK hb0 _) hg1) _;exact XL (v:=χ #[ι κ o,ι κ 0,τ ⟨#[]⟩]) (Xd Tryz.results141 _ _ w.heap.size 135 _ (0,0) _ rfl (RV _ _ _) Tryz.underlying135 rfl (by kernel_rfl)) rfl ⟨by rw [HV.out],by rw [HP.out];exact PI.set hne.symm (PI.set hne.symm (PI.set hne.symm (hP1.later (AE _ _)))),Aq (Aq (Aq hG (XK _)) (XK _)) (XK _)⟩
theorem Vc(B:Nat)(s:ByteArray)(p:Option Nat)(w:ο)(h:PI w B s p) :
 XR μ 90 #[ψ (ς ⟨B,0,ν⟩)] w λe w'=>e=ρ (χ #[ι κ (CO s p).o,ι κ (CO s p).m,τ (CO s p).s])/\PI w' B s (Be s p)/\w.grownBy w' (ς B):=by
 have hlt:=h.lt;have hb0:=AE w (γ #[ι κ 0,ι κ 0,τ ⟨#[]⟩] 94);have HR0:Hid ((w.alloc (γ #[ι κ 0,ι κ 0,τ ⟨#[]⟩] 94)).heap[w.heap.size]?=ς (γ #[ι κ 0,ι κ 0,τ ⟨#[]⟩] 94 (0,0))):=η w _;have hne:w.heap.size≠B:=by omega
 have hs0:(w.alloc (γ #[ι κ 0,ι κ 0,τ ⟨#[]⟩] 94)).heap.size=w.heap.size+1:=by simp
 have hN:=Ct B s p 1 _ (h.later hb0) (by omega);by_cases e1:AK s 1 p=1
 ·
  have HV:Hid (CO s p=⟨1,AK s 8 (AD s 1 p),⟨#[]⟩⟩):=by show _=_;unfold CO;rw [if_pos e1]
  have HP:Hid (Be s p=AD s 8 (AD s 1 p)):=by show _=_;unfold Be;rw [if_pos e1]
  rw [e1] at hN;go_enter Tryz.func90,Tryz.ntmps90
  go_wp2_with (first | (go_at_call 85;have _h:=hP1;refine(Ct B s (AD s 1 p) 8 _ (hP1.later (AE _ _)) (by omega)).mono ?_;rintro e w3 ⟨rfl,hP3,hg3⟩;have lR:Hid (w3.heap[w1.heap.size]?=ς (γ #[ι κ 1,ι κ 0,τ ⟨#[]⟩] 94 (0,0))):=AW HL2.out hg3 hne3;have rR:Hid (w3.heap[w.heap.size]?=ς (γ #[ι κ 0,ι κ 0,τ ⟨#[]⟩] 94 (0,0))):=AW HR2.out hg3 hne;have l0:w3.cell? ⟨w1.heap.size,0,ν⟩=ς (ι κ 1):=(ε _ _ 0 _ _ _ lR.out).trans rfl;have lf0:w3.frozen? ⟨w1.heap.size,0,ν⟩=false:=ζ _ _ 0 _ _ lR.out;have l1:w3.cell? ⟨w1.heap.size,1,ν⟩=ς (ι κ 0):=(ε _ _ 1 _ _ _ lR.out).trans rfl;have lf1:w3.frozen? ⟨w1.heap.size,1,ν⟩=false:=ζ _ _ 1 _ _ lR.out;have l2:w3.cell? ⟨w1.heap.size,2,ν⟩=ς (τ ⟨#[]⟩):=(ε _ _ 2 _ _ _ lR.out).trans rfl;have lf2:w3.frozen? ⟨w1.heap.size,2,ν⟩=false:=ζ _ _ 2 _ _ lR.out;have r0:w3.cell? ⟨w.heap.size,0,ν⟩=ς (ι κ 0):=(ε _ _ 0 _ _ _ rR.out).trans rfl;have rf0:w3.frozen? ⟨w.heap.size,0,ν⟩=false:=ζ _ _ 0 _ _ rR.out;have r1:w3.cell? ⟨w.heap.size,1,ν⟩=ς (ι κ 0):=(ε _ _ 1 _ _ _ rR.out).trans rfl;have rf1:w3.frozen? ⟨w.heap.size,1,ν⟩=false:=ζ _ _ 1 _ _ rR.out;have r2:w3.cell? ⟨w.heap.size,2,ν⟩=ς (τ ⟨#[]⟩):=(ε _ _ 2 _ _ _ rR.out).trans rfl;have rf2:w3.frozen? ⟨w.heap.size,2,ν⟩=false:=ζ _ _ 2 _ _ rR.out) | (go_at_call 85;refine hN.mono ?_;rintro e w1 ⟨rfl,hP1,hg1⟩;have hR1:=AW HR0.out hg1 hne;have hs1:=hg1.size;have hne2:w.heap.size≠w1.heap.size:=(by omega);have hne3:w1.heap.size≠B:=(by omega);have HL2:Hid ((w1.alloc (γ #[ι κ 1,ι κ 0,τ ⟨#[]⟩] 94)).heap[w1.heap.size]?=ς (γ #[ι κ 1,ι κ 0,τ ⟨#[]⟩] 94 (0,0))):=η w1 _;have HR2:Hid ((w1.alloc (γ #[ι κ 1,ι κ 0,τ ⟨#[]⟩] 94)).heap[w.heap.size]?=ς (γ #[ι κ 0,ι κ 0,τ ⟨#[]⟩] 94 (0,0))):=AC hR1 (AE _ _);clear hR1))
  have RV:=λv v0 v1 v2=>π _ _ 2 _ _ v2 (π _ _ 1 _ _ v1 (π _ _ 0 _ _ v0 (AS (B:=w1.heap.size) (B':=w.heap.size) (i:=1) (v:=v) rR.out hne2)));have hG:w.grownBy w3 (ς B):=AQ (Fd (AQ (BK hb0 _) hg1) _) hg3;exact XL (v:=χ #[ι κ 1,ι κ (AK s 8 (AD s 1 p)),τ ⟨#[]⟩]) (Xd Tryz.results90 _ _ w.heap.size 94 _ (0,0) _ rfl (RV _ _ _ _) Tryz.underlying94 rfl (by kernel_rfl)) rfl ⟨by rw [HV.out],by rw [HP.out];exact PI.set hne.symm (PI.set hne.symm (PI.set hne.symm (PI.set hne3.symm hP3))),Aq (Aq (Aq (Aq hG (by omega)) (XK _)) (XK _)) (XK _)⟩
 ·
  have HV:Hid (CO s p=⟨AK s 1 p,0,Ai s 2 (AD s 1 p)⟩):=by show _=_;unfold CO;rw [if_neg e1]
  have HP:Hid (Be s p=Ab s 2 (AD s 1 p)):=by show _=_;unfold Be;rw [if_neg e1]
  obtain⟨o,ho⟩:∃ o,AK s 1 p=o:=⟨_,rfl⟩;rw [ho] at hN e1;rw [ho] at HV;have n1:(o == 1)=false:=by simpa using e1
  clear ho;go_enter Tryz.func90,Tryz.ntmps90
  go_wp2_with (first | (go_at_call 86;have _h:=hP1;refine(Dq B s (AD s 1 p) 2 _ (hP1.later (AE _ _)) (by omega)).mono ?_;rintro e w3 ⟨rfl,hP3,hg3⟩;have lR:Hid (w3.heap[w1.heap.size]?=ς (γ #[ι κ o,ι κ 0,τ ⟨#[]⟩] 94 (0,0))):=AW HL2.out hg3 hne3;have rR:Hid (w3.heap[w.heap.size]?=ς (γ #[ι κ 0,ι κ 0,τ ⟨#[]⟩] 94 (0,0))):=AW HR2.out hg3 hne;have l0:w3.cell? ⟨w1.heap.size,0,ν⟩=ς (ι κ o):=(ε _ _ 0 _ _ _ lR.out).trans rfl;have lf0:w3.frozen? ⟨w1.heap.size,0,ν⟩=false:=ζ _ _ 0 _ _ lR.out;have l1:w3.cell? ⟨w1.heap.size,1,ν⟩=ς (ι κ 0):=(ε _ _ 1 _ _ _ lR.out).trans rfl;have lf1:w3.frozen? ⟨w1.heap.size,1,ν⟩=false:=ζ _ _ 1 _ _ lR.out;have l2:w3.cell? ⟨w1.heap.size,2,ν⟩=ς (τ ⟨#[]⟩):=(ε _ _ 2 _ _ _ lR.out).trans rfl;have lf2:w3.frozen? ⟨w1.heap.size,2,ν⟩=false:=ζ _ _ 2 _ _ lR.out;have r0:w3.cell? ⟨w.heap.size,0,ν⟩=ς (ι κ 0):=(ε _ _ 0 _ _ _ rR.out).trans rfl;have rf0:w3.frozen? ⟨w.heap.size,0,ν⟩=false:=ζ _ _ 0 _ _ rR.out;have r1:w3.cell? ⟨w.heap.size,1,ν⟩=ς (ι κ 0):=(ε _ _ 1 _ _ _ rR.out).trans rfl;have rf1:w3.frozen? ⟨w.heap.size,1,ν⟩=false:=ζ _ _ 1 _ _ rR.out;have r2:w3.cell? ⟨w.heap.size,2,ν⟩=ς (τ ⟨#[]⟩):=(ε _ _ 2 _ _ _ rR.out).trans rfl;have rf2:w3.frozen? ⟨w.heap.size,2,ν⟩=false:=ζ _ _ 2 _ _ rR.out) | (go_at_call 85;refine hN.mono ?_;rintro e w1 ⟨rfl,hP1,hg1⟩;have hR1:=AW HR0.out hg1 hne;have hs1:=hg1.size;have hne2:w.heap.size≠w1.heap.size:=(by omega);have hne3:w1.heap.size≠B:=(by omega);have HL2:Hid ((w1.alloc (γ #[ι κ o,ι κ 0,τ ⟨#[]⟩] 94)).heap[w1.heap.size]?=ς (γ #[ι κ o,ι κ 0,τ ⟨#[]⟩] 94 (0,0))):=η w1 _;have HR2:Hid ((w1.alloc (γ #[ι κ o,ι κ 0,τ ⟨#[]⟩] 94)).heap[w.heap.size]?=ς (γ #[ι κ 0,ι κ 0,τ ⟨#[]⟩] 94 (0,0))):=AC hR1 (AE _ _);clear hR1))
  have RV:=λv v0 v1 v2=>π _ _ 2 _ _ v2 (π _ _ 1 _ _ v1 (π _ _ 0 _ _ v0 (AS (B:=w1.heap.size) (B':=w.heap.size) (i:=2) (v:=v) rR.out hne2)));have hG:w.grownBy w3 (ς B):=AQ (Fd (AQ (BK hb0 _) hg1) _) hg3;exact XL (v:=χ #[ι κ o,ι κ 0,τ (Ai s 2 (AD s 1 p))]) (Xd Tryz.results90 _ _ w.heap.size 94 _ (0,0) _ rfl (RV _ _ _ _) Tryz.underlying94 rfl (by kernel_rfl)) rfl ⟨by rw [HV.out],by rw [HP.out];exact PI.set hne.symm (PI.set hne.symm (PI.set hne.symm (PI.set hne3.symm hP3))),Aq (Aq (Aq (Aq hG (by omega)) (XK _)) (XK _)) (XK _)⟩
theorem A0{w w':ο}{base e size n g:Nat}{v:XU}{xs:List XU}(h:w.ownsRow base e size v n xs)(hg:w.grownBy w' (ς g))(hgb:g<base):w'.ownsRow base e size v n xs:=by
 obtain⟨hl,hh⟩:=h;refine⟨hl,?_⟩;rcases hh with hh | ⟨gg,cap,cur,e1,e2,e3,e4⟩
 · exact Xc hh
 · exact Xi ⟨gg,cap,cur,e1,e2,(hg.block gg (XS.1 e3).1 (λe=>by injection e;omega)).trans e3,e4⟩
theorem FN{a b c:ο}{g:Nat}{r:Option Nat}(h:a.grownBy b (ς g))(k:b.grownBy c r)(hr:∀ j,r=ς j->a.heap.size<=j):a.grownBy c (ς g):=
 ⟨k.os.trans h.os,k.tape.trans h.tape,k.output.trans h.output,Xe h.size k.size,λi hi hn=>(k.block i (Nat.lt_of_lt_of_le hi h.size) (λe=>by have:=hr i e.symm;omega)).trans (h.block i hi hn)⟩
theorem PI.grown{w w':ο}{B g:Nat}{s:ByteArray}(hg:w.grownBy w' (ς g))(hne:B≠g):∀ {p:Option Nat},PI w B s p->PI w' B s p
 | none,h=>AW h hg hne
 | some _,h=>⟨h.1,AW h.2 hg hne⟩
theorem PI.c1{w:ο}{B:Nat}{s:ByteArray}:∀ {p:Option Nat},PI w B s p->w.cell? ⟨B,1,ν⟩=ς (β p.isNone)
 | none,h=>(ε _ _ 1 _ _ _ h).trans rfl
 | some _,h=>(ε _ _ 1 _ _ _ h.2).trans rfl
def AO(f:Option Nat->Option Nat)(p:Option Nat):Nat->Option Nat
 | 0=>p
 | j+1=>f (AO f p j)
def Bs(F:Nat->List XU):Nat->List XU
 | 0=>[]
 | j+1=>Bs F j ++ F j
theorem Dl{w:ο}{base e size g n cap:Nat}{xs:List XU}(h:w.ownsRow base e size (σ (ς ⟨g,0,ν⟩) n cap) n xs):n<=cap/\cap<=maxLen:=by
 obtain⟨hl,hh⟩:=h;rcases hh with ⟨hh,_⟩ | ⟨gg,cap',cur,e1,e2,e3,e4,e5,e6,e7⟩
 · simp at hh
 ·
  simp only [Value.slice.injEq,Option.some.injEq,Addr.mk.injEq,and_true,true_and] at e1
  obtain⟨rfl,rfl⟩:=e1;exact⟨e4,e5⟩
theorem Pn(B:Nat)(s:ByteArray)(p:Option Nat)(k:Nat)(w:ο)(h:PI w B s p)(hk:k<=2) :
 XR μ 140 #[ψ (ς ⟨B,0,ν⟩),ι κ k,.func (.func 141) #[] #[]] w λe w'=>∃ m g cap,e=ρ (σ (ς ⟨g,0,ν⟩) m cap)/\w'.ownsRow w.heap.size 135 3 (σ (ς ⟨g,0,ν⟩) m cap) m (Bs (λj=>[ι κ (An s (AO (AZ s) (AD s k p) j)).o,ι κ (An s (AO (AZ s) (AD s k p) j)).m,τ (An s (AO (AZ s) (AD s k p) j)).s]) m)/\m<=AY s k p/\(m=AY s k p∨AO (AZ s) (AD s k p) m=ν)/\PI w' B s (AO (AZ s) (AD s k p) m)/\w.grownBy w' (ς B):=by
 have hlt:=h.lt;obtain⟨i0,hi,hz0,hz1,hz2⟩:=info_parts Tryz.infoItm;have HI:Hid (Tryz.prog.info? 135=ς i0):=hi;clear hi;have hb0:=AE w (γ #[] 135);have hN:=Ct B s p k _ (h.later hb0) (by omega);obtain⟨h1,h2⟩:=BF s hk p;rw [h1] at hN;obtain⟨n,hn⟩:∃ n,AY s k p=n:=⟨_,rfl⟩;rw [hn] at hN h2 ⊢;clear hn h1;obtain⟨q,hq⟩:∃ q,AD s k p=q:=⟨_,rfl⟩;rw [hq] at hN ⊢;clear hq;go_enter Tryz.func140,Tryz.ntmps140
 go_wp2_with (go_at_call 85;refine hN.mono ?_;rintro e w1 ⟨rfl,hP1,hg1⟩)
 go_loopw [7,12] (λv i wr=>∃ (j g cap:Nat),j<=n/\i=ι κ j/\v=σ (ς ⟨g,0,ν⟩) j cap/\wr.ownsRow w.heap.size 135 3 (σ (ς ⟨g,0,ν⟩) j cap) j (Bs (λj=>[ι κ (An s (AO (AZ s) q j)).o,ι κ (An s (AO (AZ s) q j)).m,τ (An s (AO (AZ s) q j)).s]) j)/\PI wr B s (AO (AZ s) q j)/\w.grownBy wr (ς B)) (λ_ i _=>n - (XX i).toNat)
 case atStart=>
  refine⟨0,w.heap.size,0,by omega,rfl,rfl,?_,hP1,AQ (BK hb0 _) hg1⟩;exact A0 (Xb w #[] 0 (XK _) (by unfold maxLen;omega) rfl) hg1 hlt
 case round=>
  obtain⟨j,g,cap,hj,rfl,rfl,hO,hP,hG⟩:=hrel;by_cases hlj:j<n
  ·
   have hgg:=(hO.lt g rfl).1;have hgl:=(hO.lt g rfl).2;have hcp:=Dl hO;have hsz:=hG.size;have HNX:Hid (Bs (λj=>[ι κ (An s (AO (AZ s) q j)).o,ι κ (An s (AO (AZ s) q j)).m,τ (An s (AO (AZ s) q j)).s]) (j+1)=Bs (λj=>[ι κ (An s (AO (AZ s) q j)).o,ι κ (An s (AO (AZ s) q j)).m,τ (An s (AO (AZ s) q j)).s]) j ++ [ι κ (An s (AO (AZ s) q j)).o,ι κ (An s (AO (AZ s) q j)).m,τ (An s (AO (AZ s) q j)).s]):=rfl;have c1:=hP.c1;cases hp:AO (AZ s) q j with
   | none=>
    rw [hp] at c1 hP;go_wp2;go_ret
    exact⟨j,g,cap,rfl,hO,hj,Xi hp,by rw [hp];exact hP,hG⟩
   | some a=>
    rw [hp] at c1;have c1':wr.cell? ⟨B,1,ν⟩=ς (β false):=c1;clear c1;have HP:Hid (AO (AZ s) q j=ς a):=hp;clear hp;have hE:=TR B s _ wr hP;obtain⟨Y,hY⟩:∃ Y,An s (AO (AZ s) q j)=Y:=⟨_,rfl⟩;rw [hY] at hE HNX;clear hY;go_wp2_with (first | (go_at_call 141;refine hE.mono ?_;rintro e w2 ⟨rfl,hP2,hg2⟩;have hO2:=A0 hO hg2 hlt;have hs2:=hg2.size) | (at_builtin;refine XY _ rfl _ _ _ rfl w.heap.size 135 i0 (χ #[ι κ 0,ι κ 0,τ XN]) 3 32 Tryz.underlying61 HI.out hz0 hz1 hz2 rfl (by omega) _ j _ rfl (hO2.alloc _) ⟨w2.heap.size,0,ν⟩ 1 1 [ι κ Y.o,ι κ Y.m,τ Y.s] rfl rfl (XP (η w2 _)) (by intro u hu;simp at hu;rcases hu with rfl | rfl | rfl <;> rfl) (by omega) (by unfold maxLen;omega) (by omega) (by simp;omega) _ rfl ?_;intro g4 cap4 w4 hO4 hgr4 hat4 hlt4))
    have Q6:w.grownBy w4 (ς B):=FN (Fd (AQ hG hg2) _) hgr4 (λi hi=>by have e:g=i:=XM hi;omega);have Q7:PI w4 B s (AO (AZ s) q (j+1)):=PI.grown (g:=g) hgr4 (by omega) (hP2.later (AE _ _));go_roundw
    case rel=>first | exact⟨j+1,g4,cap4,by omega,by go_num,rfl,by rw [HNX.out];exact hO4,Q7,Q6⟩ | ((repeat apply Exists.intro);exact⟨⟨j+1,g4,cap4,by omega,by go_num,rfl,by rw [HNX.out];exact hO4,Q7,Q6⟩,rfl⟩)
    case measure=>simp [XX];omega
  ·
   obtain rfl:j=n:=by omega
   go_wp2;go_ret
   exact⟨j,g,cap,rfl,hO,XK _,Xc rfl,hP,hG⟩
theorem Pk(B:Nat)(s:ByteArray)(p:Option Nat)(k:Nat)(w:ο)(h:PI w B s p)(hk:k<=2) :
 XR μ 89 #[ψ (ς ⟨B,0,ν⟩),ι κ k,.func (.func 90) #[] #[]] w λe w'=>∃ m g cap,e=ρ (σ (ς ⟨g,0,ν⟩) m cap)/\w'.ownsRow w.heap.size 94 3 (σ (ς ⟨g,0,ν⟩) m cap) m (Bs (λj=>[ι κ (CO s (AO (Be s) (AD s k p) j)).o,ι κ (CO s (AO (Be s) (AD s k p) j)).m,τ (CO s (AO (Be s) (AD s k p) j)).s]) m)/\m<=AY s k p/\(m=AY s k p∨AO (Be s) (AD s k p) m=ν)/\PI w' B s (AO (Be s) (AD s k p) m)/\w.grownBy w' (ς B):=by
 have hlt:=h.lt;obtain⟨i0,hi,hz0,hz1,hz2⟩:=info_parts Tryz.infoVal;have HI:Hid (Tryz.prog.info? 94=ς i0):=hi;clear hi;have hb0:=AE w (γ #[] 94);have hN:=Ct B s p k _ (h.later hb0) (by omega);obtain⟨h1,h2⟩:=BF s hk p;rw [h1] at hN;obtain⟨n,hn⟩:∃ n,AY s k p=n:=⟨_,rfl⟩;rw [hn] at hN h2 ⊢;clear hn h1;obtain⟨q,hq⟩:∃ q,AD s k p=q:=⟨_,rfl⟩;rw [hq] at hN ⊢;clear hq;go_enter Tryz.func89,Tryz.ntmps89
 go_wp2_with (go_at_call 85;refine hN.mono ?_;rintro e w1 ⟨rfl,hP1,hg1⟩)
 go_loopw [7,12] (λv i wr=>∃ (j g cap:Nat),j<=n/\i=ι κ j/\v=σ (ς ⟨g,0,ν⟩) j cap/\wr.ownsRow w.heap.size 94 3 (σ (ς ⟨g,0,ν⟩) j cap) j (Bs (λj=>[ι κ (CO s (AO (Be s) q j)).o,ι κ (CO s (AO (Be s) q j)).m,τ (CO s (AO (Be s) q j)).s]) j)/\PI wr B s (AO (Be s) q j)/\w.grownBy wr (ς B)) (λ_ i _=>n - (XX i).toNat)
 case atStart=>
  refine⟨0,w.heap.size,0,by omega,rfl,rfl,?_,hP1,AQ (BK hb0 _) hg1⟩;exact A0 (Xb w #[] 0 (XK _) (by unfold maxLen;omega) rfl) hg1 hlt
 case round=>
  obtain⟨j,g,cap,hj,rfl,rfl,hO,hP,hG⟩:=hrel;by_cases hlj:j<n
  ·
   have hgg:=(hO.lt g rfl).1;have hgl:=(hO.lt g rfl).2;have hcp:=Dl hO;have hsz:=hG.size;have HNX:Hid (Bs (λj=>[ι κ (CO s (AO (Be s) q j)).o,ι κ (CO s (AO (Be s) q j)).m,τ (CO s (AO (Be s) q j)).s]) (j+1)=Bs (λj=>[ι κ (CO s (AO (Be s) q j)).o,ι κ (CO s (AO (Be s) q j)).m,τ (CO s (AO (Be s) q j)).s]) j ++ [ι κ (CO s (AO (Be s) q j)).o,ι κ (CO s (AO (Be s) q j)).m,τ (CO s (AO (Be s) q j)).s]):=rfl;have c1:=hP.c1;cases hp:AO (Be s) q j with
   | none=>
    rw [hp] at c1 hP;go_wp2;go_ret
    exact⟨j,g,cap,rfl,hO,hj,Xi hp,by rw [hp];exact hP,hG⟩
   | some a=>
    rw [hp] at c1;have c1':wr.cell? ⟨B,1,ν⟩=ς (β false):=c1;clear c1;have HP:Hid (AO (Be s) q j=ς a):=hp;clear hp;have hE:=Vc B s _ wr hP;obtain⟨Y,hY⟩:∃ Y,CO s (AO (Be s) q j)=Y:=⟨_,rfl⟩;rw [hY] at hE HNX;clear hY;go_wp2_with (first | (go_at_call 90;refine hE.mono ?_;rintro e w2 ⟨rfl,hP2,hg2⟩;have hO2:=A0 hO hg2 hlt;have hs2:=hg2.size) | (at_builtin;refine XY _ rfl _ _ _ rfl w.heap.size 94 i0 (χ #[ι κ 0,ι κ 0,τ XN]) 3 32 Tryz.underlying60 HI.out hz0 hz1 hz2 rfl (by omega) _ j _ rfl (hO2.alloc _) ⟨w2.heap.size,0,ν⟩ 1 1 [ι κ Y.o,ι κ Y.m,τ Y.s] rfl rfl (XP (η w2 _)) (by intro u hu;simp at hu;rcases hu with rfl | rfl | rfl <;> rfl) (by omega) (by unfold maxLen;omega) (by omega) (by simp;omega) _ rfl ?_;intro g4 cap4 w4 hO4 hgr4 hat4 hlt4))
    have Q6:w.grownBy w4 (ς B):=FN (Fd (AQ hG hg2) _) hgr4 (λi hi=>by have e:g=i:=XM hi;omega);have Q7:PI w4 B s (AO (Be s) q (j+1)):=PI.grown (g:=g) hgr4 (by omega) (hP2.later (AE _ _));go_roundw
    case rel=>first | exact⟨j+1,g4,cap4,by omega,by go_num,rfl,by rw [HNX.out];exact hO4,Q7,Q6⟩ | ((repeat apply Exists.intro);exact⟨⟨j+1,g4,cap4,by omega,by go_num,rfl,by rw [HNX.out];exact hO4,Q7,Q6⟩,rfl⟩)
    case measure=>simp [XX];omega
  ·
   obtain rfl:j=n:=by omega
   go_wp2;go_ret
   exact⟨j,g,cap,rfl,hO,XK _,Xc rfl,hP,hG⟩
theorem Po(B:Nat)(s:ByteArray)(p:Option Nat)(k:Nat)(w:ο)(h:PI w B s p)(hk:k<=2) :
 XR μ 87 #[ψ (ς ⟨B,0,ν⟩),ι κ k,.func (.func 88) #[] #[]] w λe w'=>∃ m g cap,e=ρ (σ (ς ⟨g,0,ν⟩) m cap)/\w'.ownsRow w.heap.size 92 2 (σ (ς ⟨g,0,ν⟩) m cap) m (Bs (λj=>[τ (Dh s (AO (Ca s) (AD s k p) j)).s,ι κ (Dh s (AO (Ca s) (AD s k p) j)).t]) m)/\m<=AY s k p/\(m=AY s k p∨AO (Ca s) (AD s k p) m=ν)/\PI w' B s (AO (Ca s) (AD s k p) m)/\w.grownBy w' (ς B):=by
 have hlt:=h.lt;obtain⟨i0,hi,hz0,hz1,hz2⟩:=info_parts Tryz.infoCol;have HI:Hid (Tryz.prog.info? 92=ς i0):=hi;clear hi;have hb0:=AE w (γ #[] 92);have hN:=Ct B s p k _ (h.later hb0) (by omega);obtain⟨h1,h2⟩:=BF s hk p;rw [h1] at hN;obtain⟨n,hn⟩:∃ n,AY s k p=n:=⟨_,rfl⟩;rw [hn] at hN h2 ⊢;clear hn h1;obtain⟨q,hq⟩:∃ q,AD s k p=q:=⟨_,rfl⟩;rw [hq] at hN ⊢;clear hq;go_enter Tryz.func87,Tryz.ntmps87
 go_wp2_with (go_at_call 85;refine hN.mono ?_;rintro e w1 ⟨rfl,hP1,hg1⟩)
 go_loopw [7,12] (λv i wr=>∃ (j g cap:Nat),j<=n/\i=ι κ j/\v=σ (ς ⟨g,0,ν⟩) j cap/\wr.ownsRow w.heap.size 92 2 (σ (ς ⟨g,0,ν⟩) j cap) j (Bs (λj=>[τ (Dh s (AO (Ca s) q j)).s,ι κ (Dh s (AO (Ca s) q j)).t]) j)/\PI wr B s (AO (Ca s) q j)/\w.grownBy wr (ς B)) (λ_ i _=>n - (XX i).toNat)
 case atStart=>
  refine⟨0,w.heap.size,0,by omega,rfl,rfl,?_,hP1,AQ (BK hb0 _) hg1⟩;exact A0 (Xb w #[] 0 (XK _) (by unfold maxLen;omega) rfl) hg1 hlt
 case round=>
  obtain⟨j,g,cap,hj,rfl,rfl,hO,hP,hG⟩:=hrel;by_cases hlj:j<n
  ·
   have hgg:=(hO.lt g rfl).1;have hgl:=(hO.lt g rfl).2;have hcp:=Dl hO;have hsz:=hG.size;have HNX:Hid (Bs (λj=>[τ (Dh s (AO (Ca s) q j)).s,ι κ (Dh s (AO (Ca s) q j)).t]) (j+1)=Bs (λj=>[τ (Dh s (AO (Ca s) q j)).s,ι κ (Dh s (AO (Ca s) q j)).t]) j ++ [τ (Dh s (AO (Ca s) q j)).s,ι κ (Dh s (AO (Ca s) q j)).t]):=rfl;have c1:=hP.c1;cases hp:AO (Ca s) q j with
   | none=>
    rw [hp] at c1 hP;go_wp2;go_ret
    exact⟨j,g,cap,rfl,hO,hj,Xi hp,by rw [hp];exact hP,hG⟩
   | some a=>
    rw [hp] at c1;have c1':wr.cell? ⟨B,1,ν⟩=ς (β false):=c1;clear c1;have HP:Hid (AO (Ca s) q j=ς a):=hp;clear hp;have hE:=WB B s _ wr hP;obtain⟨Y,hY⟩:∃ Y,Dh s (AO (Ca s) q j)=Y:=⟨_,rfl⟩;rw [hY] at hE HNX;clear hY;go_wp2_with (first | (go_at_call 88;refine hE.mono ?_;rintro e w2 ⟨rfl,hP2,hg2⟩;have hO2:=A0 hO hg2 hlt;have hs2:=hg2.size) | (at_builtin;refine XY _ rfl _ _ _ rfl w.heap.size 92 i0 (χ #[τ XN,ι κ 0]) 2 24 Tryz.underlying59 HI.out hz0 hz1 hz2 rfl (by omega) _ j _ rfl (hO2.alloc _) ⟨w2.heap.size,0,ν⟩ 1 1 [τ Y.s,ι κ Y.t] rfl rfl (XP (η w2 _)) (by intro u hu;simp at hu;rcases hu with rfl | rfl <;> rfl) (by omega) (by unfold maxLen;omega) (by omega) (by simp;omega) _ rfl ?_;intro g4 cap4 w4 hO4 hgr4 hat4 hlt4))
    have Q6:w.grownBy w4 (ς B):=FN (Fd (AQ hG hg2) _) hgr4 (λi hi=>by have e:g=i:=XM hi;omega);have Q7:PI w4 B s (AO (Ca s) q (j+1)):=PI.grown (g:=g) hgr4 (by omega) (hP2.later (AE _ _));go_roundw
    case rel=>first | exact⟨j+1,g4,cap4,by omega,by go_num,rfl,by rw [HNX.out];exact hO4,Q7,Q6⟩ | ((repeat apply Exists.intro);exact⟨⟨j+1,g4,cap4,by omega,by go_num,rfl,by rw [HNX.out];exact hO4,Q7,Q6⟩,rfl⟩)
    case measure=>simp [XX];omega
  ·
   obtain rfl:j=n:=by omega
   go_wp2;go_ret
   exact⟨j,g,cap,rfl,hO,XK _,Xc rfl,hP,hG⟩
