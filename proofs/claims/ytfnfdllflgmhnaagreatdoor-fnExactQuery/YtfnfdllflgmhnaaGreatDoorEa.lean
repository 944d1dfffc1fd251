import Derived.Test.YtfnfdllflgmhnaaGreatDoorRg
import Derived.Test.YtfnfdllflgmhnaaGreatDoorRc
import Derived.Deep.AppendLies
open ByteArray renaming empty → XN
open Go renaming Calls → XR, Value → XU, World → ο, cell_of_row → ε, frozen_of_row → ζ, heap_alloc_new → η, wpList_append_lies → XY
open Go.Ending renaming returned → ρ
open Go.IntKind renaming i64 → κ
open Go.Obj renaming cells → γ
open Go.Operand renaming tmp → δ
open Go.Proofs.Tryz renaming prog → μ
open Go.RowKit renaming Below → υ, intOf → XX
open Go.RowKit.Below renaming refl → Xa
open Go.Value renaming agg → χ, int → ι, pointer → ψ, slice → σ, string → τ, bool → β
open Go.World renaming news_of_block → XP, ownsRow_made → Xb
open Nat renaming le_refl → XK, le_trans → Xe
open Option renaming none → ν, some → ς
open Option.some renaming inj → XM
open Or renaming inl → Xc, inr → Xi
namespace Go.Proofs.YtfnfdllflgmhnaaGreatDoor
open Go.RowKit Go.Maps Go.WideMaps
set_option maxRecDepth 20000
set_option maxHeartbeats 16000000
theorem Fa{w w':ο}{base e size g n cap m C:Nat}{xs:List XU}(h:w.ownsRow base e size (σ (ς ⟨g,0,ν⟩) n cap) m xs)(hg:w.grownBy w' (ς C))(hne:g≠C):w'.ownsRow base e size (σ (ς ⟨g,0,ν⟩) n cap) m xs:=by
 obtain⟨hl,hh⟩:=h;refine⟨hl,?_⟩;rcases hh with hh | ⟨gg,cap',cur,e1,e2,e3,e4⟩
 · exact Xc hh
 ·
  have e5:g=gg:=by
   simp only [Value.slice.injEq,Option.some.injEq,Addr.mk.injEq,and_true] at e1
   exact e1.1
  subst e5;exact Xi ⟨g,cap',cur,e1,e2,AW e3 hg hne,e4⟩
theorem PS.lt{w:ο}{B:Nat}{s:ByteArray}:∀ {p:Option Nat},PS w B s p->B<w.heap.size
 | none,h=>BL.lt h
 | some _,h=>BL.lt h.2
theorem PS.later{w w':ο}{B:Nat}{s:ByteArray}:∀ {p:Option Nat},PS w B s p->υ w.heap.size w w'->PS w' B s p
 | none,h,hb=>BL.later h hb
 | some _,h,hb=>⟨h.1,BL.later h.2 hb⟩
theorem PS.grown{w w':ο}{B g:Nat}{s:ByteArray}(hg:w.grownBy w' (ς g))(hne:B≠g):∀ {p:Option Nat},PS w B s p->PS w' B s p
 | none,h=>AW h hg hne
 | some _,h=>⟨h.1,AW h.2 hg hne⟩
structure LsI(w:ο)(base B:Nat)(s:ByteArray)(q:Option Nat)(n m g cap:Nat):Prop where
 own:w.ownsRow base 135 3 (σ (ς ⟨g,0,ν⟩) m cap) m (Bs (λj=>[ι κ (An s (AO (AZ s) q j)).o,ι κ (An s (AO (AZ s) q j)).m,τ (An s (AO (AZ s) q j)).s]) m)
 le:m<=n
 at':m=n∨AO (AZ s) q m=ν
theorem En(B:Nat)(s:ByteArray)(p:Option Nat)(w:ο)(h:PI w B s p) :
 XR μ 91 #[ψ (ς ⟨B,0,ν⟩)] w λe w'=>∃ m g cap,e=ρ (σ (ς ⟨g,0,ν⟩) m cap)/\LsI w' w.heap.size B s (AD s 2 p) (AY s 2 p) m g cap/\PI w' B s (AO (AZ s) (AD s 2 p) m)/\w.grownBy w' (ς B):=by
 go_enter Tryz.func91,Tryz.ntmps91
 go_wp2_with (go_at_call 140;refine(Pn B s p 2 _ h (by omega)).mono ?_;rintro e w1 ⟨m,g,cap,rfl,hO,hm,hat,hP,hg⟩)
 go_ret
 exact⟨m,g,cap,rfl,⟨hO,hm,hat⟩,hP,hg⟩
theorem IE(B:Nat)(s:ByteArray)(p:Option Nat)(w:ο)(h:PS w B s p)(hs:s.size<=1048576) :
 XR μ 42 #[ψ (ς ⟨B,0,ν⟩)] w λe w'=>∃ m g cap,e=ρ (σ (ς ⟨g,0,ν⟩) m cap)/\LsI w' w.heap.size B s (AD s 2 p) (AY s 2 p) m g cap/\PS w' B s (AO (AZ s) (AD s 2 p) m)/\w.grownBy w' (ς B):=by
 have hlt:=h.lt;obtain⟨i0,hi,hz0,hz1,hz2⟩:=info_parts Tryz.infoItm;have HI:Hid (Tryz.prog.info? 135=ς i0):=hi;clear hi;have hb0:=AE w (γ #[] 135);have hN:=Ci B s p 2 _ (h.later hb0) hs (by omega);obtain⟨h1,h2⟩:=BF s (k:=2) (by omega) p;rw [h1] at hN;obtain⟨n,hn⟩:∃ n,AY s 2 p=n:=⟨_,rfl⟩;rw [hn] at hN h2 ⊢;clear hn h1;obtain⟨q,hq⟩:∃ q,AD s 2 p=q:=⟨_,rfl⟩;rw [hq] at hN ⊢;clear hq;go_enter Tryz.func42,Tryz.ntmps42
 go_wp2_with (go_at_call 40;refine hN.mono ?_;rintro e w1 ⟨rfl,hP1,hg1⟩)
 go_loopw [3,5] (λv i wr=>∃ (j g cap:Nat),j<=n/\i=ι κ j/\v=σ (ς ⟨g,0,ν⟩) j cap/\wr.ownsRow w.heap.size 135 3 (σ (ς ⟨g,0,ν⟩) j cap) j (Bs (λj=>[ι κ (An s (AO (AZ s) q j)).o,ι κ (An s (AO (AZ s) q j)).m,τ (An s (AO (AZ s) q j)).s]) j)/\PS wr B s (AO (AZ s) q j)/\w.grownBy wr (ς B)) (λ_ i _=>n - (XX i).toNat)
 case atStart=>
  refine⟨0,w.heap.size,0,by omega,rfl,rfl,?_,hP1,AQ (BK hb0 _) hg1⟩;exact A0 (Xb w #[] 0 (XK _) (by unfold maxLen;omega) rfl) hg1 hlt
 case round=>
  obtain⟨j,g,cap,hj,rfl,rfl,hO,hP,hG⟩:=hrel;by_cases hlj:j<n
  rotate_left
  ·
   obtain rfl:j=n:=by omega
   go_wp2;go_ret
   exact⟨j,g,cap,rfl,⟨hO,XK _,Xc rfl⟩,hP,hG⟩
  have hgg:=(hO.lt g rfl).1;have hgl:=(hO.lt g rfl).2;have hcp:=Dl hO;have hsz:=hG.size;have HNX:Hid (Bs (λj=>[ι κ (An s (AO (AZ s) q j)).o,ι κ (An s (AO (AZ s) q j)).m,τ (An s (AO (AZ s) q j)).s]) (j+1)=Bs (λj=>[ι κ (An s (AO (AZ s) q j)).o,ι κ (An s (AO (AZ s) q j)).m,τ (An s (AO (AZ s) q j)).s]) j ++ [ι κ (An s (AO (AZ s) q j)).o,ι κ (An s (AO (AZ s) q j)).m,τ (An s (AO (AZ s) q j)).s]):=rfl;cases hp:AO (AZ s) q j with
  | none=>
   rw [hp] at hP;have c1:wr.cell? ⟨B,1,ν⟩=ς (ι κ (-1)):=BL.c1 hP;have HP0:Hid (PS wr B s (AO (AZ s) q j)):=by rw [hp];exact hP
   have HP1:Hid (AO (AZ s) q j=ν):=hp;clear hp hP;go_wp2;go_ret
   exact⟨j,g,cap,rfl,⟨hO,hj,Xi HP1.out⟩,HP0.out,hG⟩
  | some a=>
   have c1:wr.cell? ⟨B,1,ν⟩=ς (ι κ (a:Nat)):=by
    rw [hp] at hP;exact BL.c1 hP.2
   clear hp;have ia:(0:Int)<=(a:Int):=by omega
   obtain⟨u,hu⟩:∃ u,AO (AZ s) q j=u:=⟨_,rfl⟩;have HU:Hid (AO (AZ s) q (j+1)=AZ s u):=by show AZ s (AO (AZ s) q j)=_;rw [hu]
   rw [hu] at hP HNX;clear hu;have hNo:=Ci B s u 1 wr hP hs (by omega);by_cases e1:AK s 1 u=1
   ·
    have HV:An s u=⟨1,AK s 8 (AD s 1 u),⟨#[]⟩⟩:=by unfold An;rw [if_pos e1]
    have HP:Hid (AZ s u=AD s 8 (AD s 1 u)):=by show _=_;unfold AZ;rw [if_pos e1]
    rw [e1] at hNo;rw [HV] at HNX;clear HV;go_wp2_with (first | (go_at_call 40;have _h:=hP2;refine(Ci B s (AD s 1 u) 8 _ (hP2.later (AE _ _)) hs (by omega)).mono ?_;rintro e w3 ⟨rfl,hP3,hg3⟩;have lR:Hid (w3.heap[w2.heap.size]?=ς (γ #[ι κ 1,ι κ 0,τ ⟨#[]⟩] 135 (0,0))):=AW HL2.out hg3 hne3;have hO3:=Fa (A0 (hO2.alloc (γ #[ι κ 1,ι κ 0,τ ⟨#[]⟩] 135)) hg3 hlt) (A8 w3 w2.heap.size 1 (ι κ (AK s 8 (AD s 1 u)))) hne4;have hs3:=hg3.size;have l0:w3.cell? ⟨w2.heap.size,0,ν⟩=ς (ι κ 1):=(ε _ _ 0 _ _ _ lR.out).trans rfl;have lf0:w3.frozen? ⟨w2.heap.size,0,ν⟩=false:=ζ _ _ 0 _ _ lR.out;have l1:w3.cell? ⟨w2.heap.size,1,ν⟩=ς (ι κ 0):=(ε _ _ 1 _ _ _ lR.out).trans rfl;have lf1:w3.frozen? ⟨w2.heap.size,1,ν⟩=false:=ζ _ _ 1 _ _ lR.out;have l2:w3.cell? ⟨w2.heap.size,2,ν⟩=ς (τ ⟨#[]⟩):=(ε _ _ 2 _ _ _ lR.out).trans rfl;have lf2:w3.frozen? ⟨w2.heap.size,2,ν⟩=false:=ζ _ _ 2 _ _ lR.out;have hsW:(w3.setCell ⟨w2.heap.size,1,ν⟩ (ι κ (AK s 8 (AD s 1 u)))).heap.size=w3.heap.size:=(by simp);have HNW:=XP (η (w3.setCell ⟨w2.heap.size,1,ν⟩ (ι κ (AK s 8 (AD s 1 u)))) (γ ([ι κ 1,ι κ (AK s 8 (AD s 1 u)),τ ⟨#[]⟩]).toArray 135));rw [hsW] at HNW;have HNX2:=HNW;clear HNW) | (go_at_call 40;refine hNo.mono ?_;rintro e w2 ⟨rfl,hP2,hg2⟩;have hO2:=A0 hO hg2 hlt;have hs2:=hg2.size;have hne3:w2.heap.size≠B:=(by omega);have hne4:g≠w2.heap.size:=(by omega);have HL2:Hid ((w2.alloc (γ #[ι κ 1,ι κ 0,τ ⟨#[]⟩] 135)).heap[w2.heap.size]?=ς (γ #[ι κ 1,ι κ 0,τ ⟨#[]⟩] 135 (0,0))):=η w2 _;have hsA:(w2.alloc (γ #[ι κ 1,ι κ 0,τ ⟨#[]⟩] 135)).heap.size=w2.heap.size+1:=(by simp)) | (at_builtin;refine XY _ rfl _ _ _ rfl w.heap.size 135 i0 (χ #[ι κ 0,ι κ 0,τ XN]) 3 32 Tryz.underlying61 HI.out hz0 hz1 hz2 rfl (by omega) _ j _ rfl (hO3.alloc _) ⟨w3.heap.size,0,ν⟩ 1 1 [ι κ 1,ι κ (AK s 8 (AD s 1 u)),τ ⟨#[]⟩] rfl rfl (HNX2) (by intro u hu;simp at hu;rcases hu with rfl | rfl | rfl <;> rfl) (by omega) (by unfold maxLen;omega) (by omega) (by simp;omega) _ rfl ?_;intro g4 cap4 w4 hO4 hgr4 hat4 hlt4))
    have G3:w.grownBy (w3.setCell ⟨w2.heap.size,1,ν⟩ (ι κ (AK s 8 (AD s 1 u)))) (ς B):=Aq (AQ (Fd (AQ hG hg2) _) hg3) (by omega);have Q6:w.grownBy w4 (ς B):=FN (Fd G3 _) hgr4 (λi hi=>by have e:g=i:=XM hi;omega);have Q7:PS w4 B s (AO (AZ s) q (j+1)):=by rw [HU.out,HP.out];exact PS.grown (g:=g) hgr4 (by omega) ((PS.grown (A8 w3 w2.heap.size 1 _) hne3.symm hP3).later (AE _ _))
    go_roundw
    case rel=>first | exact⟨j+1,g4,cap4,by omega,by go_num,rfl,by rw [HNX.out];exact hO4,Q7,Q6⟩ | ((repeat apply Exists.intro);exact⟨⟨j+1,g4,cap4,by omega,by go_num,rfl,by rw [HNX.out];exact hO4,Q7,Q6⟩,rfl⟩)
    case measure=>simp [XX];omega
   by_cases e2:AK s 1 u=2
   ·
    have HV:An s u=⟨2,0,Ai s 2 (AD s 1 u)⟩:=by unfold An;rw [if_neg e1,if_pos e2]
    have HP:Hid (AZ s u=Ab s 2 (AD s 1 u)):=by show _=_;unfold AZ;rw [if_neg e1,if_pos e2]
    rw [e2] at hNo;rw [HV] at HNX;clear HV;go_wp2_with (first | (go_at_call 41;have _h:=hP2;refine(Dc B s (AD s 1 u) 2 _ (hP2.later (AE _ _)) hs (by omega)).mono ?_;rintro e w3 ⟨rfl,hP3,hg3⟩;have lR:Hid (w3.heap[w2.heap.size]?=ς (γ #[ι κ 2,ι κ 0,τ ⟨#[]⟩] 135 (0,0))):=AW HL2.out hg3 hne3;have hO3:=Fa (A0 (hO2.alloc (γ #[ι κ 2,ι κ 0,τ ⟨#[]⟩] 135)) hg3 hlt) (A8 w3 w2.heap.size 2 (τ (Ai s 2 (AD s 1 u)))) hne4;have hs3:=hg3.size;have l0:w3.cell? ⟨w2.heap.size,0,ν⟩=ς (ι κ 2):=(ε _ _ 0 _ _ _ lR.out).trans rfl;have lf0:w3.frozen? ⟨w2.heap.size,0,ν⟩=false:=ζ _ _ 0 _ _ lR.out;have l1:w3.cell? ⟨w2.heap.size,1,ν⟩=ς (ι κ 0):=(ε _ _ 1 _ _ _ lR.out).trans rfl;have lf1:w3.frozen? ⟨w2.heap.size,1,ν⟩=false:=ζ _ _ 1 _ _ lR.out;have l2:w3.cell? ⟨w2.heap.size,2,ν⟩=ς (τ ⟨#[]⟩):=(ε _ _ 2 _ _ _ lR.out).trans rfl;have lf2:w3.frozen? ⟨w2.heap.size,2,ν⟩=false:=ζ _ _ 2 _ _ lR.out;have hsW:(w3.setCell ⟨w2.heap.size,2,ν⟩ (τ (Ai s 2 (AD s 1 u)))).heap.size=w3.heap.size:=(by simp);have HNW:=XP (η (w3.setCell ⟨w2.heap.size,2,ν⟩ (τ (Ai s 2 (AD s 1 u)))) (γ ([ι κ 2,ι κ 0,τ (Ai s 2 (AD s 1 u))]).toArray 135));rw [hsW] at HNW;have HNX2:=HNW;clear HNW) | (go_at_call 40;refine hNo.mono ?_;rintro e w2 ⟨rfl,hP2,hg2⟩;have hO2:=A0 hO hg2 hlt;have hs2:=hg2.size;have hne3:w2.heap.size≠B:=(by omega);have hne4:g≠w2.heap.size:=(by omega);have HL2:Hid ((w2.alloc (γ #[ι κ 2,ι κ 0,τ ⟨#[]⟩] 135)).heap[w2.heap.size]?=ς (γ #[ι κ 2,ι κ 0,τ ⟨#[]⟩] 135 (0,0))):=η w2 _;have hsA:(w2.alloc (γ #[ι κ 2,ι κ 0,τ ⟨#[]⟩] 135)).heap.size=w2.heap.size+1:=(by simp)) | (at_builtin;refine XY _ rfl _ _ _ rfl w.heap.size 135 i0 (χ #[ι κ 0,ι κ 0,τ XN]) 3 32 Tryz.underlying61 HI.out hz0 hz1 hz2 rfl (by omega) _ j _ rfl (hO3.alloc _) ⟨w3.heap.size,0,ν⟩ 1 1 [ι κ 2,ι κ 0,τ (Ai s 2 (AD s 1 u))] rfl rfl (HNX2) (by intro u hu;simp at hu;rcases hu with rfl | rfl | rfl <;> rfl) (by omega) (by unfold maxLen;omega) (by omega) (by simp;omega) _ rfl ?_;intro g4 cap4 w4 hO4 hgr4 hat4 hlt4))
    have G3:w.grownBy (w3.setCell ⟨w2.heap.size,2,ν⟩ (τ (Ai s 2 (AD s 1 u)))) (ς B):=Aq (AQ (Fd (AQ hG hg2) _) hg3) (by omega);have Q6:w.grownBy w4 (ς B):=FN (Fd G3 _) hgr4 (λi hi=>by have e:g=i:=XM hi;omega);have Q7:PS w4 B s (AO (AZ s) q (j+1)):=by rw [HU.out,HP.out];exact PS.grown (g:=g) hgr4 (by omega) ((PS.grown (A8 w3 w2.heap.size 2 _) hne3.symm hP3).later (AE _ _))
    go_roundw
    case rel=>first | exact⟨j+1,g4,cap4,by omega,by go_num,rfl,by rw [HNX.out];exact hO4,Q7,Q6⟩ | ((repeat apply Exists.intro);exact⟨⟨j+1,g4,cap4,by omega,by go_num,rfl,by rw [HNX.out];exact hO4,Q7,Q6⟩,rfl⟩)
    case measure=>simp [XX];omega
   by_cases e3:AK s 1 u=3
   ·
    have HV:An s u=⟨3,0,Ai s 1 (AD s 1 u)⟩:=by unfold An;rw [if_neg e1,if_neg e2,if_pos e3]
    have HP:Hid (AZ s u=Ab s 1 (AD s 1 u)):=by show _=_;unfold AZ;rw [if_neg e1,if_neg e2,if_pos e3]
    rw [e3] at hNo;rw [HV] at HNX;clear HV;go_wp2_with (first | (go_at_call 41;have _h:=hP2;refine(Dc B s (AD s 1 u) 1 _ (hP2.later (AE _ _)) hs (by omega)).mono ?_;rintro e w3 ⟨rfl,hP3,hg3⟩;have lR:Hid (w3.heap[w2.heap.size]?=ς (γ #[ι κ 3,ι κ 0,τ ⟨#[]⟩] 135 (0,0))):=AW HL2.out hg3 hne3;have hO3:=Fa (A0 (hO2.alloc (γ #[ι κ 3,ι κ 0,τ ⟨#[]⟩] 135)) hg3 hlt) (A8 w3 w2.heap.size 2 (τ (Ai s 1 (AD s 1 u)))) hne4;have hs3:=hg3.size;have l0:w3.cell? ⟨w2.heap.size,0,ν⟩=ς (ι κ 3):=(ε _ _ 0 _ _ _ lR.out).trans rfl;have lf0:w3.frozen? ⟨w2.heap.size,0,ν⟩=false:=ζ _ _ 0 _ _ lR.out;have l1:w3.cell? ⟨w2.heap.size,1,ν⟩=ς (ι κ 0):=(ε _ _ 1 _ _ _ lR.out).trans rfl;have lf1:w3.frozen? ⟨w2.heap.size,1,ν⟩=false:=ζ _ _ 1 _ _ lR.out;have l2:w3.cell? ⟨w2.heap.size,2,ν⟩=ς (τ ⟨#[]⟩):=(ε _ _ 2 _ _ _ lR.out).trans rfl;have lf2:w3.frozen? ⟨w2.heap.size,2,ν⟩=false:=ζ _ _ 2 _ _ lR.out;have hsW:(w3.setCell ⟨w2.heap.size,2,ν⟩ (τ (Ai s 1 (AD s 1 u)))).heap.size=w3.heap.size:=(by simp);have HNW:=XP (η (w3.setCell ⟨w2.heap.size,2,ν⟩ (τ (Ai s 1 (AD s 1 u)))) (γ ([ι κ 3,ι κ 0,τ (Ai s 1 (AD s 1 u))]).toArray 135));rw [hsW] at HNW;have HNX2:=HNW;clear HNW) | (go_at_call 40;refine hNo.mono ?_;rintro e w2 ⟨rfl,hP2,hg2⟩;have hO2:=A0 hO hg2 hlt;have hs2:=hg2.size;have hne3:w2.heap.size≠B:=(by omega);have hne4:g≠w2.heap.size:=(by omega);have HL2:Hid ((w2.alloc (γ #[ι κ 3,ι κ 0,τ ⟨#[]⟩] 135)).heap[w2.heap.size]?=ς (γ #[ι κ 3,ι κ 0,τ ⟨#[]⟩] 135 (0,0))):=η w2 _;have hsA:(w2.alloc (γ #[ι κ 3,ι κ 0,τ ⟨#[]⟩] 135)).heap.size=w2.heap.size+1:=(by simp)) | (at_builtin;refine XY _ rfl _ _ _ rfl w.heap.size 135 i0 (χ #[ι κ 0,ι κ 0,τ XN]) 3 32 Tryz.underlying61 HI.out hz0 hz1 hz2 rfl (by omega) _ j _ rfl (hO3.alloc _) ⟨w3.heap.size,0,ν⟩ 1 1 [ι κ 3,ι κ 0,τ (Ai s 1 (AD s 1 u))] rfl rfl (HNX2) (by intro u hu;simp at hu;rcases hu with rfl | rfl | rfl <;> rfl) (by omega) (by unfold maxLen;omega) (by omega) (by simp;omega) _ rfl ?_;intro g4 cap4 w4 hO4 hgr4 hat4 hlt4))
    have G3:w.grownBy (w3.setCell ⟨w2.heap.size,2,ν⟩ (τ (Ai s 1 (AD s 1 u)))) (ς B):=Aq (AQ (Fd (AQ hG hg2) _) hg3) (by omega);have Q6:w.grownBy w4 (ς B):=FN (Fd G3 _) hgr4 (λi hi=>by have e:g=i:=XM hi;omega);have Q7:PS w4 B s (AO (AZ s) q (j+1)):=by rw [HU.out,HP.out];exact PS.grown (g:=g) hgr4 (by omega) ((PS.grown (A8 w3 w2.heap.size 2 _) hne3.symm hP3).later (AE _ _))
    go_roundw
    case rel=>first | exact⟨j+1,g4,cap4,by omega,by go_num,rfl,by rw [HNX.out];exact hO4,Q7,Q6⟩ | ((repeat apply Exists.intro);exact⟨⟨j+1,g4,cap4,by omega,by go_num,rfl,by rw [HNX.out];exact hO4,Q7,Q6⟩,rfl⟩)
    case measure=>simp [XX];omega
   ·
    have HV:An s u=⟨AK s 1 u,0,⟨#[]⟩⟩:=by unfold An;rw [if_neg e1,if_neg e2,if_neg e3]
    have HP:Hid (AZ s u=AD s 1 u):=by show _=_;unfold AZ;rw [if_neg e1,if_neg e2,if_neg e3]
    obtain⟨o,ho⟩:∃ o,AK s 1 u=o:=⟨_,rfl⟩;rw [ho] at hNo e1 e2 e3 HV;clear ho;have n1:(o == 1)=false:=by simpa using e1
    have n2:(o == 2)=false:=by simpa using e2
    have n3:(o == 3)=false:=by simpa using e3
    rw [HV] at HNX;clear HV;go_wp2_with (first | (go_at_call 40;refine hNo.mono ?_;rintro e w2 ⟨rfl,hP2,hg2⟩;have hO2:=A0 hO hg2 hlt;have hs2:=hg2.size;have hne3:w2.heap.size≠B:=(by omega);have hne4:g≠w2.heap.size:=(by omega);have HL2:Hid ((w2.alloc (γ #[ι κ o,ι κ 0,τ ⟨#[]⟩] 135)).heap[w2.heap.size]?=ς (γ #[ι κ o,ι κ 0,τ ⟨#[]⟩] 135 (0,0))):=η w2 _;have hsA:(w2.alloc (γ #[ι κ o,ι κ 0,τ ⟨#[]⟩] 135)).heap.size=w2.heap.size+1:=(by simp);have hsW:(w2.alloc (γ #[ι κ o,ι κ 0,τ ⟨#[]⟩] 135)).heap.size=w2.heap.size+1:=(by simp);have HNW:=XP (η (w2.alloc (γ #[ι κ o,ι κ 0,τ ⟨#[]⟩] 135)) (γ ([ι κ o,ι κ 0,τ ⟨#[]⟩]).toArray 135));rw [hsW] at HNW;have HNX2:=HNW;clear HNW) | (at_builtin;refine XY _ rfl _ _ _ rfl w.heap.size 135 i0 (χ #[ι κ 0,ι κ 0,τ XN]) 3 32 Tryz.underlying61 HI.out hz0 hz1 hz2 rfl (by omega) _ j _ rfl ((hO2.alloc (γ #[ι κ o,ι κ 0,τ ⟨#[]⟩] 135)).alloc _) ⟨w2.heap.size+1,0,ν⟩ 1 1 [ι κ o,ι κ 0,τ ⟨#[]⟩] rfl rfl (HNX2) (by intro u hu;simp at hu;rcases hu with rfl | rfl | rfl <;> rfl) (by omega) (by unfold maxLen;omega) (by omega) (by simp;omega) _ rfl ?_;intro g4 cap4 w4 hO4 hgr4 hat4 hlt4))
    have Q6:w.grownBy w4 (ς B):=FN (Fd (Fd (AQ hG hg2) _) _) hgr4 (λi hi=>by have e:g=i:=XM hi;omega);have Q7:PS w4 B s (AO (AZ s) q (j+1)):=by rw [HU.out,HP.out];exact PS.grown (g:=g) hgr4 (by omega) ((hP2.later (AE _ _)).later (AE _ _))
    go_roundw
    case rel=>first | exact⟨j+1,g4,cap4,by omega,by go_num,rfl,by rw [HNX.out];exact hO4,Q7,Q6⟩ | ((repeat apply Exists.intro);exact⟨⟨j+1,g4,cap4,by omega,by go_num,rfl,by rw [HNX.out];exact hO4,Q7,Q6⟩,rfl⟩)
    case measure=>simp [XX];omega
set_option maxHeartbeats 8000000
theorem BR(s:ByteArray):AZ s ν=ν:=by
 unfold AZ;have e:AK s 1 ν=0:=rfl;rw [e,if_neg (by omega),if_neg (by omega),if_neg (by omega)];rfl
theorem Ea{f:Option Nat->Option Nat}(hf:f ν=ν){p:Option Nat}{m:Nat}(h:AO f p m=ν):∀ n,m<=n->AO f p n=ν:=by
 intro n hn;induction n with
 | zero=>
  obtain rfl:m=0:=by omega
  exact h
 | succ n ih=>
  by_cases e:m=n+1
  · subst e;exact h
  · rw [AO,ih (by omega),hf]
theorem Ck{w:ο}{base base' e size n:Nat}{v:XU}{xs:List XU}(h:w.ownsRow base e size v n xs)(hb:base'<=base):w.ownsRow base' e size v n xs:=by
 obtain⟨hl,hh⟩:=h;refine⟨hl,?_⟩;rcases hh with hh | ⟨gg,cap,cur,e1,e2,e3,e4⟩
 · exact Xc hh
 · exact Xi ⟨gg,cap,cur,e1,Xe hb e2,e3,e4⟩
def AT(s:ByteArray)(p:Option Nat):Option Nat:=AO (AZ s) (AD s 2 p) (AY s 2 p)
theorem LsI.place{w:ο}{base B:Nat}{s:ByteArray}{p:Option Nat}{m g cap:Nat}(h:LsI w base B s (AD s 2 p) (AY s 2 p) m g cap):AO (AZ s) (AD s 2 p) m=AT s p:=by
 unfold AT;rcases h.at' with e | e
 · rw [e]
 · rw [e,Ea (BR s) e _ h.le]
theorem LsI.gr{w w':ο}{base B C:Nat}{s:ByteArray}{q:Option Nat}{n m g cap:Nat}(h:LsI w base B s q n m g cap)(hg:w.grownBy w' (ς C))(hne:g≠C):LsI w' base B s q n m g cap:=⟨Fa h.own hg hne,h.le,h.at'⟩
theorem LsI.later{w w':ο}{base B:Nat}{s:ByteArray}{q:Option Nat}{n m g cap:Nat}(h:LsI w base B s q n m g cap)(hb:υ w.heap.size w w'):LsI w' base B s q n m g cap:=⟨AH h.own hb,h.le,h.at'⟩
theorem Tryz.infoRowI:(Tryz.prog.info? 61).map (λi=>(i.zero,i.size,i.bytes))=ς (ς (σ ν 0 0),1,24):=by kernel_rfl
structure Ex3 where
 g:Nat
 m:Nat
 c:Nat
def F2(X:Nat->Ex3)(j:Nat):List XU:=(List.range j).map λi=>σ (ς ⟨(X i).g,0,ν⟩) (X i).m (X i).c
theorem Eu(X:Nat->Ex3)(j:Nat):F2 X (j+1)=F2 X j ++ [σ (ς ⟨(X j).g,0,ν⟩) (X j).m (X j).c]:=by
 unfold F2;rw [List.range_succ,List.map_append];rfl
def BW(X:Nat->Ex3)(j:Nat)(x:Ex3):Nat->Ex3:=λi=>if i=j then x else X i
theorem Fe(X:Nat->Ex3)(j:Nat)(x:Ex3):F2 (BW X j x) j=F2 X j:=by
 unfold F2;apply List.map_congr_left
 intro i hi;have:i<j:=by simpa using hi
 unfold BW;rw [if_neg (by omega)]
theorem Pm(B:Nat)(s:ByteArray)(p:Option Nat)(w:ο)(h:PI w B s p) :
 XR μ 92 #[ψ (ς ⟨B,0,ν⟩),ι κ 1,.func (.func 91) #[] #[]] w λe w'=>∃ m g cap X,e=ρ (σ (ς ⟨g,0,ν⟩) m cap)/\w'.ownsRow w.heap.size 61 1 (σ (ς ⟨g,0,ν⟩) m cap) m (F2 X m)/\(∀ i,i<m->(X i).g≠g/\(∀ k,k<i->(X k).g≠(X i).g)/\LsI w' w.heap.size B s (AD s 2 (AO (AT s) (AD s 1 p) i)) (AY s 2 (AO (AT s) (AD s 1 p) i)) (X i).m (X i).g (X i).c)/\m<=AY s 1 p/\(m=AY s 1 p∨AO (AT s) (AD s 1 p) m=ν)/\PI w' B s (AO (AT s) (AD s 1 p) m)/\w.grownBy w' (ς B):=by
 have hlt:=h.lt;obtain⟨i0,hi,hz0,hz1,hz2⟩:=info_parts Tryz.infoRowI;have HI:Hid (Tryz.prog.info? 61=ς i0):=hi;clear hi;have hb0:=AE w (γ #[] 61);have hN:=Ct B s p 1 _ (h.later hb0) (by omega);obtain⟨h1,h2⟩:=BF s (k:=1) (by omega) p;rw [h1] at hN;obtain⟨n,hn⟩:∃ n,AY s 1 p=n:=⟨_,rfl⟩;rw [hn] at hN h2 ⊢;clear hn h1;obtain⟨q,hq⟩:∃ q,AD s 1 p=q:=⟨_,rfl⟩;rw [hq] at hN ⊢;clear hq;go_enter Tryz.func92,Tryz.ntmps92
 go_wp2_with (go_at_call 85;refine hN.mono ?_;rintro e w1 ⟨rfl,hP1,hg1⟩)
 go_loopw [7,12] (λv i wr=>∃ (j g cap:Nat) (X:Nat->Ex3),j<=n/\i=ι κ j/\v=σ (ς ⟨g,0,ν⟩) j cap/\wr.ownsRow w.heap.size 61 1 (σ (ς ⟨g,0,ν⟩) j cap) j (F2 X j)/\(∀ i,i<j->(X i).g≠g/\(∀ k,k<i->(X k).g≠(X i).g)/\LsI wr w.heap.size B s (AD s 2 (AO (AT s) q i)) (AY s 2 (AO (AT s) q i)) (X i).m (X i).g (X i).c)/\PI wr B s (AO (AT s) q j)/\w.grownBy wr (ς B)) (λ_ i _=>n - (XX i).toNat)
 case atStart=>
  refine⟨0,w.heap.size,0,λ_=>⟨0,0,0⟩,by omega,rfl,rfl,?_,λi hi=>by omega,hP1,AQ (BK hb0 _) hg1⟩;exact A0 (Xb w #[] 0 (XK _) (by unfold maxLen;omega) rfl) hg1 hlt
 case round=>
  obtain⟨j,g,cap,X,hj,rfl,rfl,hO,hX,hP,hG⟩:=hrel;have HX:Hid (∀ i,i<j->(X i).g≠g/\(∀ k,k<i->(X k).g≠(X i).g)/\LsI wr w.heap.size B s (AD s 2 (AO (AT s) q i)) (AY s 2 (AO (AT s) q i)) (X i).m (X i).g (X i).c):=hX;clear hX;by_cases hlj:j<n
  ·
   have hgg:=(hO.lt g rfl).1;have hgl:=(hO.lt g rfl).2;have hcp:=Dl hO;have hsz:=hG.size;have c1:=hP.c1;cases hp:AO (AT s) q j with
   | none=>
    rw [hp] at c1 hP;go_wp2;go_ret
    exact⟨j,g,cap,X,rfl,hO,HX.out,hj,Xi hp,by rw [hp];exact hP,hG⟩
   | some a=>
    rw [hp] at c1;have c1':wr.cell? ⟨B,1,ν⟩=ς (β false):=c1;clear c1 hp;have hE:=En B s _ wr hP;go_wp2_with (first | (go_at_call 91;refine hE.mono ?_;rintro e w2 ⟨m2,g2,cap2,rfl,hL2,hP2,hg2⟩;have hO2:=A0 hO hg2 hlt;have hs2:=hg2.size;have hg2b:=(hL2.own.lt g2 rfl).1;have hg2l:=(hL2.own.lt g2 rfl).2) | (at_builtin;refine XY _ rfl _ _ _ rfl w.heap.size 61 i0 (σ ν 0 0) 1 24 Tryz.underlying62 HI.out hz0 hz1 hz2 rfl (by omega) _ j _ rfl (hO2.alloc _) ⟨w2.heap.size,0,ν⟩ 1 1 [σ (ς ⟨g2,0,ν⟩) m2 cap2] rfl rfl (XP (η w2 _)) (Bu _ rfl) (by omega) (by unfold maxLen;omega) (by omega) (by simp;omega) _ rfl ?_;intro g4 cap4 w4 hO4 hgr4 hat4 hlt4))
    have Q6:w.grownBy w4 (ς B):=FN (Fd (AQ hG hg2) _) hgr4 (λi hi=>by have e:g=i:=XM hi;omega);have Q7:PI w4 B s (AO (AT s) q (j+1)):=by
     show PI w4 B s (AT s (AO (AT s) q j))
     rw [←hL2.place];exact PI.grown (g:=g) hgr4 (by omega) (hP2.later (AE _ _))
    have hsA:(w2.alloc (γ #[σ (ς ⟨g2,0,ν⟩) m2 cap2] 61)).heap.size=w2.heap.size+1:=by simp
    have hg4:g4=g∨g4=w2.heap.size+1:=by
     rcases hat4 with e | e
     · exact Xc (XM e).symm
     · exact Xi (e.trans hsA)
    have Q8:∀ i,i<j+1->(BW X j ⟨g2,m2,cap2⟩ i).g≠g4/\(∀ k,k<i->(BW X j ⟨g2,m2,cap2⟩ k).g≠(BW X j ⟨g2,m2,cap2⟩ i).g)/\LsI w4 w.heap.size B s (AD s 2 (AO (AT s) q i)) (AY s 2 (AO (AT s) q i)) (BW X j ⟨g2,m2,cap2⟩ i).m (BW X j ⟨g2,m2,cap2⟩ i).g (BW X j ⟨g2,m2,cap2⟩ i).c:=λi hi=>by
     by_cases e:i=j
     ·
      subst e;unfold BW;simp only [if_true]
      refine⟨by omega,λk hk=>?_,?_⟩
      ·
       rw [if_neg (by omega)];have hkl:=((HX.out k (by omega)).2.2.own.lt (X k).g rfl).2;show (X k).g≠g2
       omega
      have hL3:LsI w2 w.heap.size B s (AD s 2 (AO (AT s) q i)) (AY s 2 (AO (AT s) q i)) m2 g2 cap2:=⟨Ck hL2.own hsz,hL2.le,hL2.at'⟩;exact(hL3.later (AE _ _)).gr hgr4 (by show g2≠g;omega)
     · unfold BW;rw [if_neg e];obtain⟨hne,hdf,hL⟩:=HX.out i (by omega);have hil:=(hL.own.lt (X i).g rfl).2;have hib:=(hL.own.lt (X i).g rfl).1;refine⟨by omega,λk hk=>by rw [if_neg (by omega)];exact hdf k hk,?_⟩;exact((hL.gr hg2 (by omega)).later (AE _ _)).gr hgr4 hne
    have Q9:F2 (BW X j ⟨g2,m2,cap2⟩) (j+1)=F2 X j ++ [σ (ς ⟨g2,0,ν⟩) m2 cap2]:=by
     rw [Eu,Fe];unfold BW;simp only [if_true]
    go_roundw
    case rel=>first | exact⟨j+1,g4,cap4,BW X j ⟨g2,m2,cap2⟩,by omega,by go_num,rfl,by rw [Q9];exact hO4,Q8,Q7,Q6⟩ | ((repeat apply Exists.intro);exact⟨⟨j+1,g4,cap4,BW X j ⟨g2,m2,cap2⟩,by omega,by go_num,rfl,by rw [Q9];exact hO4,Q8,Q7,Q6⟩,rfl⟩)
    case measure=>simp [XX];omega
  ·
   obtain rfl:j=n:=by omega
   go_wp2;go_ret
   exact⟨j,g,cap,X,rfl,hO,HX.out,XK _,Xc rfl,hP,hG⟩
set_option maxHeartbeats 2000000
def bs(L:List UInt8):ByteArray:=⟨L.toArray⟩
def Rd(v:Int)(i:Nat):UInt8:=UInt8.ofNat ((v / 256 ^ i) % 256).toNat
def AJ(n:Nat)(v:Int):List UInt8:=(List.range n).map λj=>Rd v (n - 1 - j)
def A2(l:List UInt8):List XU:=l.map λb=>ι .u8 (b.toNat:Int)
theorem AG(n:Nat)(v:Int):(AJ n v).length=n:=by simp [AJ]
theorem IS(n:Nat)(v:Int)(k:Nat)(h:k<n):(AJ n v)[k]?=ς (Rd v (n - 1 - k)):=by simp [AJ,h]
theorem Ho(v:Int)(i:Nat):((Rd v i).toNat:Int)=(v / 256 ^ i) % 256:=by
 unfold Rd;have h0:=Int.emod_nonneg (v / 256 ^ i) (show (256:Int)≠0 by omega);have h1:=Int.emod_lt_of_pos (v / 256 ^ i) (show (0:Int)<256 by omega);rw [UInt8.toNat_ofNat'];omega
theorem Hn(n:Nat)(v:Int)(k:Nat)(h:k<n):A2 ((AJ n v).take k) ++ [ι .u8 ((v / 256 ^ (n - 1 - k)) % 256)]=A2 ((AJ n v).take (k+1)):=by
 rw [List.take_add_one,IS n v k h];simp [A2,Ho]
theorem Tryz.infoB:(Tryz.prog.info? 5).map (λi=>(i.zero,i.size,i.bytes))=ς (ς (ι .u8 0),1,1):=by kernel_rfl
theorem Ev(w:ο)(B g cap:Nat)(l:List UInt8)(h:w.ownsRow B 5 1 (σ (ς ⟨g,0,ν⟩) l.length cap) l.length (A2 l)) :
 (convert 183 9 (σ (ς ⟨g,0,ν⟩) l.length cap)).run μ w=.ok (τ ⟨l.toArray⟩) w:=by
 refine run_convert_bytes_back w 183 9 5 ⟨g,0,ν⟩ cap l Tryz.underlying183 Tryz.underlying5 Tryz.underlying9 ?_;intro j hj;have hadd:(⟨g,0,ν⟩:Addr).add j=⟨g,j,ν⟩:=by unfold Addr.add;split <;> simp_all
 rw [hadd,h.cellAt j (by omega)];simp [A2,hj]
theorem Nj(v:Int)(j:Nat):v / 256 ^ (j+1)=v / 256 ^ j / 256:=by
 rw [Int.pow_succ,Int.ediv_ediv_of_nonneg (Int.pow_nonneg (by omega))]
theorem Rv(n:Nat)(v:Int)(w:ο)(hn:n<=8) :
 XR μ 68 #[ι κ n,ι κ v] w λe w'=>e=ρ (τ (bs (AJ n v)))/\υ w.heap.size w w':=by
 obtain⟨i0,hi,hz0,hz1,hz2⟩:=info_parts Tryz.infoB;have HI:Hid (Tryz.prog.info? 5=ς i0):=hi;clear hi;go_enter Tryz.func68,Tryz.ntmps68
 go_wp2;go_loopw [5,6] (λo i wr=>∃ k g cap:Nat,k<=n/\i=ι κ ((n:Int) - 1 - k)/\o=σ (ς ⟨g,0,ν⟩) k cap/\w.heap.size<=g/\wr.ownsRow w.heap.size 5 1 (σ (ς ⟨g,0,ν⟩) k cap) k (A2 ((AJ n v).take k))/\υ w.heap.size w wr) (λ_ i _=>(XX i+1).toNat)
 case atStart=>exact⟨0,w.heap.size,0,by omega,by simp,rfl,XK _,World.ownsRow_lit w #[] 0 (XK _) (by simp [maxLen]) rfl,(Xa _ _).alloc (XK _) _⟩
 case round=>
  obtain⟨k,g,cap,hk,rfl,rfl,hg,hown,hb⟩:=hrel;by_cases hlt:k<n
  ·
   go_wp2;go_loop [7,8] (λx q=>∃ j:Nat,j+k+1<=n/\q=ι κ j/\x=ι κ (v / 256 ^ j)) (λ_ q=>n - (XX q).toNat)
   case atStart=>exact⟨0,by omega,rfl,by simp⟩
   case round=>
    obtain⟨j,hj,rfl,rfl⟩:=hrel;have HP:Hid (v / 256 ^ (j+1)=v / 256 ^ j / 256):=Nj v j;by_cases hjl:j+k+1<n
    ·
     obtain⟨x,hx⟩:∃ x,v / 256 ^ j=x:=⟨_,rfl⟩;rw [hx] at HP ⊢;clear hx;go_wp2;go_round
     case rel=>exact⟨j+1,by omega,by go_num,by rw [HP.out]⟩
     case measure=>simp [XX];omega
    ·
     have ej:j=n - 1 - k:=by omega
     have HS:=Hn n v k hlt;rw [←ej] at HS;have HSS:Hid (A2 ((AJ n v).take k) ++ [ι .u8 ((v / 256 ^ j) % 256)]=A2 ((AJ n v).take (k+1))):=HS;clear HS ej HP;obtain⟨x,hx⟩:∃ x,v / 256 ^ j=x:=⟨_,rfl⟩;rw [hx] at HSS ⊢;clear hx;have hsz:=hb.size;go_wp2_with (at_builtin;refine XY _ rfl _ _ _ rfl w.heap.size 5 i0 (ι .u8 0) 1 1 Tryz.underlying183 HI.out hz0 hz1 hz2 rfl (by omega) _ k _ rfl (hown.alloc _) ⟨wr.heap.size,0,ν⟩ 1 1 [ι .u8 (x % 256)] rfl rfl (XP (η wr _)) (Bu _ rfl) (by omega) (by unfold maxLen;omega) (by omega) (by simp;omega) _ rfl ?_;intro g1 cap1 w1 hown1 hgrow hat hlt1)
     go_roundw
     case rel=>exact⟨k+1,g1,cap1,by omega,by go_num,rfl,KQ hown1,by rw [←HSS.out];simpa using hown1,(hb.alloc (by omega) _).grown hgrow (by simp;omega) (λq hq=>by have e:g=q:=XM hq;omega)⟩
     case measure=>simp [XX];omega
  ·
   obtain rfl:k=n:=by omega
   have hc:=Ev wr w.heap.size g cap (AJ k v) (by rw [AG];simpa [List.take_of_length_le,AG] using hown);rw [AG] at hc;go_wp2;go_ret
   exact⟨rfl,hb⟩
theorem DK(v:Int)(w:ο):XR μ 68 #[ι κ 1,ι κ v] w λe w'=>e=ρ (τ (bs (AJ 1 v)))/\υ w.heap.size w w':=Rv 1 v w (by omega)
theorem QS(v:Int)(w:ο):XR μ 68 #[ι κ 2,ι κ v] w λe w'=>e=ρ (τ (bs (AJ 2 v)))/\υ w.heap.size w w':=Rv 2 v w (by omega)
theorem QR(v:Int)(w:ο):XR μ 68 #[ι κ 8,ι κ v] w λe w'=>e=ρ (τ (bs (AJ 8 v)))/\υ w.heap.size w w':=Rv 8 v w (by omega)
def E9(l:List UInt8)(k:Nat):List XU:=A2 (l.take k) ++ List.replicate (l.length - k) (ι .u8 0)
theorem Fy(l:List UInt8)(k:Nat)(h:k<=l.length):(E9 l k).length=l.length:=by
 simp [E9,A2];omega
theorem Dt(l:List UInt8)(k i:Nat)(h:k<=l.length)(hi:i<l.length):(E9 l k)[i]?=ς (if i<k then ι .u8 ((l.getD i 0).toNat:Int) else ι .u8 0):=by
 unfold E9;by_cases hik:i<k
 · rw [List.getElem?_append_left (by simp [A2];omega),if_pos hik];simp [A2,hik,hi]
 · rw [List.getElem?_append_right (by simp [A2];omega),if_neg hik,List.getElem?_replicate,if_pos];simp [A2];omega
theorem Fx(l:List UInt8)(k:Nat)(x:Int)(h:k<l.length)(hx:x=((l.getD k 0).toNat:Int)):(E9 l k).set k (ι .u8 x)=E9 l (k+1):=by
 subst hx;apply List.ext_getElem?
 intro i;by_cases hi:i<l.length
 ·
  rw [List.getElem?_set,Fy _ _ (by omega),Dt _ _ _ (by omega) hi,Dt _ _ _ (by omega) hi];by_cases e:k=i
  · subst e;simp [h]
  ·
   rw [if_neg e];by_cases h1:i<k
   · rw [if_pos h1,if_pos (by omega)]
   · rw [if_neg h1,if_neg (by omega)]
 · rw [List.getElem?_eq_none (by rw [List.length_set,Fy _ _ (by omega)];omega),List.getElem?_eq_none (by rw [Fy _ _ (by omega)];omega)]
theorem E8(l:List UInt8):E9 l 0=List.replicate l.length (ι .u8 0):=by simp [E9,A2]
theorem Fz(l:List UInt8):E9 l l.length=A2 l:=by simp [E9]
theorem G9(n:Nat)(v:Int)(k:Nat)(h:k<n):(((AJ n v).getD k 0).toNat:Int)=v / 256 ^ (n - 1 - k) % 256:=by
 rw [List.getD_eq_getElem?_getD,IS n v k h];exact Ho v _
theorem WE(v:Nat)(w:ο) :
 XR μ 94 #[ι .u64 v,ι κ 8] w λe w'=>e=ρ (τ (bs (AJ 8 v)))/\υ w.heap.size w w':=by
 obtain⟨i0,hi,hz0,hz1,hz2⟩:=info_parts Tryz.infoB;have HI:Hid (Tryz.prog.info? 5=ς i0):=hi;clear hi;go_enter Tryz.func94,Tryz.ntmps94
 go_wp2_with (refine wpList_make_full _ rfl (δ 7) (δ 7) 183 rfl w.heap.size 5 i0 (ι .u8 0) 1 Tryz.underlying183 HI.out hz0 hz1 κ κ 8 8 8 rfl rfl rfl rfl (by rw [hz2];omega) (by simp [maxLen]) (XK _) ?_;intro w1 hown1 hgrow1)
 go_loopw [11] (λi wr=>∃ k:Nat,k<=8/\i=ι κ k/\wr.ownsRow w.heap.size 5 1 (σ (ς ⟨w.heap.size,0,ν⟩) 8 8) 8 (E9 (AJ 8 v) k)/\υ w.heap.size w wr) (λi _=>8 - (XX i).toNat)
 case atStart=>
  refine⟨0,by omega,rfl,?_,(Xa _ _).grown hgrow1 (XK _) (λq hq=>by cases hq)⟩;rw [E8,AG];simpa [toList_madeCells_one,Value.cells] using hown1
 case round=>
  obtain⟨k,hk,rfl,hown,hb⟩:=hrel;by_cases hlt:k<8
  ·
   have hc:wr.cell? ⟨w.heap.size,k,ν⟩=ς (ι .u8 0):=by
    rw [hown.cellAt k (by omega),Dt _ _ _ (by rw [AG];omega) (by rw [AG];omega),if_neg (by omega)]
   have hf:=hown.frozenAt k;have HX:Hid ((v:Int) / 2 ^ (8 * (7 - k)) % 256=(((AJ 8 v).getD k 0).toNat:Int)):=by
    show _=_
    rw [G9 8 v k hlt,Int.pow_mul];rfl
   go_wp2;go_roundw
   case rel=>
    refine⟨k+1,by omega,by go_num,?_,hb.setCell (XK _) _⟩;have:=(hown.stored k (ι .u8 ((v:Int) / 2 ^ (8 * (7 - k)) % 256))).1;rw [Fx _ _ _ (by rw [AG];omega) HX.out] at this;exact this
   case measure=>simp [XX];omega
  ·
   obtain rfl:k=8:=by omega
   have hc:=Ev wr w.heap.size w.heap.size 8 (AJ 8 v) (by rw [AG,←Fz,AG];exact hown);rw [AG] at hc;go_wp2;go_ret
   exact⟨rfl,hb⟩
theorem RY(v:Nat)(w:ο) :
 XR μ 94 #[ι .u64 v,ι κ 2] w λe w'=>e=ρ (τ (bs (AJ 2 v)))/\υ w.heap.size w w':=by
 obtain⟨i0,hi,hz0,hz1,hz2⟩:=info_parts Tryz.infoB;have HI:Hid (Tryz.prog.info? 5=ς i0):=hi;clear hi;go_enter Tryz.func94,Tryz.ntmps94
 go_wp2_with (refine wpList_make_full _ rfl (δ 7) (δ 7) 183 rfl w.heap.size 5 i0 (ι .u8 0) 1 Tryz.underlying183 HI.out hz0 hz1 κ κ 2 2 2 rfl rfl rfl rfl (by rw [hz2];omega) (by simp [maxLen]) (XK _) ?_;intro w1 hown1 hgrow1)
 go_loopw [11] (λi wr=>∃ k:Nat,k<=2/\i=ι κ k/\wr.ownsRow w.heap.size 5 1 (σ (ς ⟨w.heap.size,0,ν⟩) 2 2) 2 (E9 (AJ 2 v) k)/\υ w.heap.size w wr) (λi _=>2 - (XX i).toNat)
 case atStart=>
  refine⟨0,by omega,rfl,?_,(Xa _ _).grown hgrow1 (XK _) (λq hq=>by cases hq)⟩;rw [E8,AG];simpa [toList_madeCells_one,Value.cells] using hown1
 case round=>
  obtain⟨k,hk,rfl,hown,hb⟩:=hrel;by_cases hlt:k<2
  ·
   have hc:wr.cell? ⟨w.heap.size,k,ν⟩=ς (ι .u8 0):=by
    rw [hown.cellAt k (by omega),Dt _ _ _ (by rw [AG];omega) (by rw [AG];omega),if_neg (by omega)]
   have hf:=hown.frozenAt k;have HX:Hid ((v:Int) / 2 ^ (8 * (1 - k)) % 256=(((AJ 2 v).getD k 0).toNat:Int)):=by
    show _=_
    rw [G9 2 v k hlt,Int.pow_mul];rfl
   go_wp2;go_roundw
   case rel=>
    refine⟨k+1,by omega,by go_num,?_,hb.setCell (XK _) _⟩;have:=(hown.stored k (ι .u8 ((v:Int) / 2 ^ (8 * (1 - k)) % 256))).1;rw [Fx _ _ _ (by rw [AG];omega) HX.out] at this;exact this
   case measure=>simp [XX];omega
  ·
   obtain rfl:k=2:=by omega
   have hc:=Ev wr w.heap.size w.heap.size 2 (AJ 2 v) (by rw [AG,←Fz,AG];exact hown);rw [AG] at hc;go_wp2;go_ret
   exact⟨rfl,hb⟩
theorem Ih(v:Nat)(w:ο) :
 XR μ 94 #[ι .u64 v,ι κ 1] w λe w'=>e=ρ (τ (bs (AJ 1 v)))/\υ w.heap.size w w':=by
 obtain⟨i0,hi,hz0,hz1,hz2⟩:=info_parts Tryz.infoB;have HI:Hid (Tryz.prog.info? 5=ς i0):=hi;clear hi;go_enter Tryz.func94,Tryz.ntmps94
 go_wp2_with (refine wpList_make_full _ rfl (δ 7) (δ 7) 183 rfl w.heap.size 5 i0 (ι .u8 0) 1 Tryz.underlying183 HI.out hz0 hz1 κ κ 1 1 1 rfl rfl rfl rfl (by rw [hz2];omega) (by simp [maxLen]) (XK _) ?_;intro w1 hown1 hgrow1)
 go_loopw [11] (λi wr=>∃ k:Nat,k<=1/\i=ι κ k/\wr.ownsRow w.heap.size 5 1 (σ (ς ⟨w.heap.size,0,ν⟩) 1 1) 1 (E9 (AJ 1 v) k)/\υ w.heap.size w wr) (λi _=>1 - (XX i).toNat)
 case atStart=>
  refine⟨0,by omega,rfl,?_,(Xa _ _).grown hgrow1 (XK _) (λq hq=>by cases hq)⟩;rw [E8,AG];simpa [toList_madeCells_one,Value.cells] using hown1
 case round=>
  obtain⟨k,hk,rfl,hown,hb⟩:=hrel;by_cases hlt:k<1
  ·
   obtain rfl:k=0:=by omega
   have hc:wr.cell? ⟨w.heap.size,0,ν⟩=ς (ι .u8 0):=by
    rw [hown.cellAt 0 (by omega),Dt _ _ _ (by rw [AG];omega) (by rw [AG];omega),if_neg (by omega)]
   have hf:=hown.frozenAt 0;have HX:Hid ((v:Int) % 256=(((AJ 1 v).getD 0 0).toNat:Int)):=by
    show _=_
    rw [G9 1 v 0 (by omega)];simp
   go_wp2;go_roundw
   case rel=>
    refine⟨1,by omega,by go_num,?_,hb.setCell (XK _) _⟩;have:=(hown.stored 0 (ι .u8 ((v:Int) % 256))).1;rw [Fx _ _ _ (by rw [AG];omega) HX.out] at this;exact this
   case measure=>simp [XX]
  ·
   obtain rfl:k=1:=by omega
   have hc:=Ev wr w.heap.size w.heap.size 1 (AJ 1 v) (by rw [AG,←Fz,AG];exact hown);rw [AG] at hc;go_wp2;go_ret
   exact⟨rfl,hb⟩
