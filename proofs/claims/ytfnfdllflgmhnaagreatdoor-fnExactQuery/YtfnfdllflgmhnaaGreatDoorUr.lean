import Derived.Test.YtfnfdllflgmhnaaGreatDoorUra
open ByteArray renaming empty → XN
open Go renaming Calls → XR, Value → XU, World → ο, bodyPost_ret → XL, frozen_of_row → ζ, heap_alloc_new → η, heap_setCell_same → π, wpAnyH_done → XW, wpList_append_lies → XY, wp_region_held_drew → XO
open Go.Ending renaming returned → ρ
open Go.Ground renaming data → φ
open Go.IntKind renaming i64 → κ
open Go.Obj renaming cells → γ
open Go.Operand renaming tmp → δ
open Go.Proofs.Tryz renaming prog → μ
open Go.RowKit renaming Below → υ, intOf → XX
open Go.RowKit.Below renaming refl → Xa
open Go.Value renaming agg → χ, bool → β, int → ι, slice → σ, string → τ, tuple → θ
open Go.World renaming news_of_block → XP, ownsRow_made → Xb, size_alloc → ω, size_setCell → Xl
open List renaming nil_append → Xk
open Nat renaming le_refl → XK, zero_add → XT
open Option renaming none → ν, some → ς
open Option.some renaming inj → XM
open Or renaming inl → Xc, inr → Xi
namespace Go.Proofs.YtfnfdllflgmhnaaGreatDoor
open Go.RowKit Go.Maps Go.WideMaps
set_option maxRecDepth 20000
set_option maxHeartbeats 16000000
theorem Fi{C:Nat->Clm}{n:Nat}{R I:Nat->Itm}{m:Nat}(hR:∀ j,j<n->(R j).s.size<=200)(hx:ex I m=ς 1)(hm:m<=100)(h0:0<m):(Cn C n R I m).s.size<=1048576:=by
 have h1:=Iy (C:=C) hR hx m (XK _);have h2:=Fh (C:=C) (n:=n) (R:=R) hx;have h3:=Fm (L:=vl C n R I m) (k:=0) (by omega);unfold Cn;omega
theorem G1{w:ο}{G g cap n e sz:Nat}{xs:List XU}(h:w.ownsRow G e sz (σ (ς ⟨g,0,ν⟩) n cap) n xs):∃ cur,w.heap[g]?=ς (γ cur e (0,0)):=by
 rcases h.2 with ⟨e,-⟩ | ⟨g',cap',cur,e,-,hrow,-⟩
 · simp at e
 ·
  obtain⟨rfl,rfl⟩:g=g'/\cap=cap':=by simpa using e
  exact⟨cur,hrow⟩
theorem IK{w:ο}{G g cap n e sz:Nat}{xs:List XU}(h:w.ownsRow G e sz (σ (ς ⟨g,0,ν⟩) n cap) n xs)(i:Nat):w.frozen? ⟨g,i,ν⟩=false/\w.frozen? ⟨g,i+1,ν⟩=false/\w.frozen? ⟨g,i+2,ν⟩=false:=by
 obtain⟨cur,hr⟩:=G1 h;exact⟨ζ _ _ _ _ _ hr,ζ _ _ _ _ _ hr,ζ _ _ _ _ _ hr⟩
theorem Ek{w:ο}{g n q:Nat}{I:Nat->Itm}(h:IL w (ς ⟨g,0,ν⟩) n I)(hq:q<n):w.cell? ⟨g,q * 3,ν⟩=ς (ι κ (I q).o)/\w.cell? ⟨g,q * 3+1,ν⟩=ς (ι κ (I q).m)/\w.cell? ⟨g,q * 3+2,ν⟩=ς (τ (I q).s):=by
 obtain⟨b,off,e,c0,c1,c2,-⟩:=h q hq;obtain⟨rfl,rfl⟩:g=b/\0=off:=by simpa using e
 rw [XT] at c0 c1 c2;exact⟨c0,c1,c2⟩
theorem H7(F:Nat->Itm)(q:Nat)(v:Itm):H8 F q v q=v:=if_pos rfl
theorem Kc{C:Nat->Clm}{n:Nat}{R:Nat->Nat->Itm}{E:Nat->Itm}{n5:Nat}{W:Nat->Itm}{n6:Nat}:∀ {k:Nat},FF C n R E n5 W n6 k=false->∀ j,j<k->C5 C n (R j) W n6=true->(Cn C n (R j) E n5).s.size<=200
 | 0,_,j,hj,_=>by omega
 | k+1,h,j,hj,hf=>by
  rw [FF,Bool.or_eq_false_iff] at h;by_cases e:j=k
  ·
   subst e;have h2:=h.2;rw [hf] at h2;simp only [Bool.true_and,decide_eq_false_iff_not] at h2
   omega
  · exact Kc h.1 j (by omega) hf
theorem Ka{C:Nat->Clm}{n:Nat}{m:Nat->Nat}{R:Nat->Nat->Itm}{q:Nat}{E:Nat->Itm}{n5:Nat}{W:Nat->Itm}{n6:Nat}{P:Rw->Prop}:∀ {k:Nat},(∀ j,j<k->P (m j,if C5 C n (R j) W n6=true then H8 (R j) q (Cn C n (R j) E n5) else R j))->∀ x∈Ns C n m R q E n5 W n6 k,P x
 | 0,_,x,hx=>by cases hx
 | k+1,h,x,hx=>by
  rw [Ns,List.mem_append] at hx;rcases hx with hx | hx
  · exact Ka (λj hj=>h j (by omega)) x hx
  ·
   simp only [List.mem_cons,List.not_mem_nil,or_false] at hx
   rw [hx];exact h k (by omega)
theorem QD{C:Nat->Clm}{n:Nat}{m:Nat->Nat}{R:Nat->Nat->Itm}{q:Nat}{E:Nat->Itm}{n5:Nat}{W:Nat->Itm}{n6 k:Nat}(hN:Nice n k m R)(hb:FF C n R E n5 W n6 k=false):∀ x∈Ns C n m R q E n5 W n6 k,x.1=n/\∀ j,j<n->(x.2 j).s.size<=200:=by
 refine Ka (P:=λx=>x.1=n/\∀ j,j<n->(x.2 j).s.size<=200) (λj hj=>⟨hN.len j hj,λi hi=>?_⟩);show ((if C5 C n (R j) W n6=true then H8 (R j) q (Cn C n (R j) E n5) else R j) i).s.size<=200
 split
 ·
  rename_i hf
  unfold H8;split
  · exact Kc hb j hj hf
  · exact hN.txt j hj i hi
 · exact hN.txt j hj i hi
theorem OV(a:Option Addr)(n c:Nat)(T:Nat->Td)(ds:ByteArray)(dn:Nat)(dC:Nat->Clm)(dr:Nat)(dm:Nat->Nat)(dR:Nat->Nat->Itm)(ac:Option Addr)(cc:Nat)(ar:Option Addr)(cr:Nat)(k0:Int)(tb:ByteArray)(a2:Option Addr)(n2 c2:Nat)(a3:Option Addr)(n3 c3:Nat)(col:ByteArray)(a5:Option Addr)(n5 c5:Nat)(a6:Option Addr)(n6 c6:Nat)(a7:Option Addr)(n7 c7:Nat)(E W:Nat->Itm)(w:ο)(h:TL w a n T)(hC:CL w ac dn dC)(hR:OL w ar dr dm dR)(hE:IL w a5 n5 E)(hW:IL w a6 n6 W)(hn:n<=1000000)(hF:Kg n T)(hN:Nice dn dr dm dR)(hds:ds.size<=1048576)(hokE:Ag E n5=true)(hok:AR W n6=true) :
 XR μ 76 #[χ #[σ a n c],χ #[τ ds,σ ac dn cc,σ ar dr cr],χ #[ι κ k0,τ tb,σ a2 n2 c2,σ a3 n3 c3,τ col,σ a5 n5 c5,σ a6 n6 c6,σ a7 n7 c7]] w (LN w (Ir T n ds dn dC dr dm dR col E n5 W n6).1 (Ir T n ds dn dC dr dm dR col E n5 W n6).2):=by
 have HF:Hid (Kg n T):=hF;have HN:Hid (Nice dn dr dm dR):=hN;have HOK:Hid (AR W n6=true):=hok;obtain⟨h5a,h5b,h5c⟩:=CK hokE;have H5:Hid (ex E n5=ς 1):=h5c;have hn0:=hN.n0;have hn1:=hN.n1;have hr1:=hN.r1;clear hF hN hok hokE h5c;obtain⟨ek,ec,hck⟩:∃ ek ec,De dC dn E n5=(ek,ec):=⟨_,_,rfl⟩;obtain⟨cw,hcw⟩:∃ cw,EO dC dn W n6=cw:=⟨_,rfl⟩;have HCK:Hid (∀ W',υ w.heap.size w W'->XR μ 78 #[σ ac dn cc,σ a5 n5 c5] W' (λe w'=>e=ρ (θ #[ι κ ek,ι κ ec])/\υ W'.heap.size W' w')):=λW' hW'=>by
  have:=I5 ac dn cc dC a5 n5 c5 E W' (hC.later hW') (hE.later hW') hn1 h5a H5.out;rwa [hck] at this
 have HCW:Hid (∀ W',υ w.heap.size w W'->XR μ 79 #[σ ac dn cc,σ a6 n6 c6] W' (λe w'=>e=ρ (ι κ cw)/\υ W'.heap.size W' w')):=λW' hW'=>by
  have:=Gt ac dn cc dC a6 n6 c6 W W' (hC.later hW') (hW.later hW') hn1 HOK.out;rwa [hcw] at this
 have HCR:Hid (De dC dn E n5=(ek,ec)/\EO dC dn W n6=cw):=⟨hck,hcw⟩;clear hck hcw;have hbU:υ w.heap.size w ((((w.alloc (γ #[σ a n c] 45)).alloc (γ #[τ ds,σ ac dn cc,σ ar dr cr] 100)).alloc (γ #[ι κ k0,τ tb,σ a2 n2 c2,σ a3 n3 c3,τ col,σ a5 n5 c5,σ a6 n6 c6,σ a7 n7 c7] 64)).alloc (γ #[σ ν 0 0] 45)):=AA (A7 _ _ _ _) (AE _ _);have hsU:((((w.alloc (γ #[σ a n c] 45)).alloc (γ #[τ ds,σ ac dn cc,σ ar dr cr] 100)).alloc (γ #[ι κ k0,τ tb,σ a2 n2 c2,σ a3 n3 c3,τ col,σ a5 n5 c5,σ a6 n6 c6,σ a7 n7 c7] 64)).alloc (γ #[σ ν 0 0] 45)).heap.size=w.heap.size+4:=by rw [ω,ω,ω,ω]
 have hq0:((((w.alloc (γ #[σ a n c] 45)).alloc (γ #[τ ds,σ ac dn cc,σ ar dr cr] 100)).alloc (γ #[ι κ k0,τ tb,σ a2 n2 c2,σ a3 n3 c3,τ col,σ a5 n5 c5,σ a6 n6 c6,σ a7 n7 c7] 64)).alloc (γ #[σ ν 0 0] 45)).heap[w.heap.size]?=ς (γ #[σ a n c] 45 (0,0)):=AC (AC (AC (η w _) (AE _ _)) (AE _ _)) (AE _ _);have hq1:((((w.alloc (γ #[σ a n c] 45)).alloc (γ #[τ ds,σ ac dn cc,σ ar dr cr] 100)).alloc (γ #[ι κ k0,τ tb,σ a2 n2 c2,σ a3 n3 c3,τ col,σ a5 n5 c5,σ a6 n6 c6,σ a7 n7 c7] 64)).alloc (γ #[σ ν 0 0] 45)).heap[w.heap.size+1]?=ς (γ #[τ ds,σ ac dn cc,σ ar dr cr] 100 (0,0)):=by
  have q:=η (w.alloc (γ #[σ a n c] 45)) (γ #[τ ds,σ ac dn cc,σ ar dr cr] 100);rw [ω] at q;exact AC (AC q (AE _ _)) (AE _ _)
 have hq2:((((w.alloc (γ #[σ a n c] 45)).alloc (γ #[τ ds,σ ac dn cc,σ ar dr cr] 100)).alloc (γ #[ι κ k0,τ tb,σ a2 n2 c2,σ a3 n3 c3,τ col,σ a5 n5 c5,σ a6 n6 c6,σ a7 n7 c7] 64)).alloc (γ #[σ ν 0 0] 45)).heap[w.heap.size+1+1]?=ς (γ #[ι κ k0,τ tb,σ a2 n2 c2,σ a3 n3 c3,τ col,σ a5 n5 c5,σ a6 n6 c6,σ a7 n7 c7] 64 (0,0)):=by
  have q:=η ((w.alloc (γ #[σ a n c] 45)).alloc (γ #[τ ds,σ ac dn cc,σ ar dr cr] 100)) (γ #[ι κ k0,τ tb,σ a2 n2 c2,σ a3 n3 c3,τ col,σ a5 n5 c5,σ a6 n6 c6,σ a7 n7 c7] 64);rw [ω,ω] at q;exact AC q (AE _ _)
 have hq3:((((w.alloc (γ #[σ a n c] 45)).alloc (γ #[τ ds,σ ac dn cc,σ ar dr cr] 100)).alloc (γ #[ι κ k0,τ tb,σ a2 n2 c2,σ a3 n3 c3,τ col,σ a5 n5 c5,σ a6 n6 c6,σ a7 n7 c7] 64)).alloc (γ #[σ ν 0 0] 45)).heap[w.heap.size+1+1+1]?=ς (γ #[σ ν 0 0] 45 (0,0)):=by
  have q:=η (((w.alloc (γ #[σ a n c] 45)).alloc (γ #[τ ds,σ ac dn cc,σ ar dr cr] 100)).alloc (γ #[ι κ k0,τ tb,σ a2 n2 c2,σ a3 n3 c3,τ col,σ a5 n5 c5,σ a6 n6 c6,σ a7 n7 c7] 64)) (γ #[σ ν 0 0] 45);rw [ω,ω,ω] at q;exact q
 obtain⟨p0,-⟩:=AN hq0;obtain⟨p1,p2,p3,-⟩:=AX hq1;obtain⟨-,-,-,-,p4,p5,p6,-⟩:=Ak hq2;rcases hcol:Bo dC col dn with _ | q
 ·
  have hz:Hj (Bo dC col dn)=-1:=by rw [hcol];rfl
  have HA:Hid (Ir T n ds dn dC dr dm dR col E n5 W n6=(C8 T n,3)):=by show _=_;unfold Ir;rw [hcol]
  clear hcol;go_enter Tryz.func76,Tryz.ntmps76
  go_wp2_with (first | (go_at_call 81;refine(ED _ dn cc dC col _ (hC.later hbU) hn1).mono ?_;rintro e w1 ⟨rfl,hb1⟩;rw [hz];have hB1:=AA hbU hb1;have hs1:=hB1.size;have x0:=AC hq0 hb1;have x1:=AC hq1 hb1;have x2:=AC hq2 hb1;have x3:=AC hq3 hb1;obtain⟨xa,-⟩:=AN x0;obtain⟨xb,xc,xd,-⟩:=AX x1;obtain⟨-,-,-,-,xe,xf,xg,-⟩:=Ak x2) | (go_at_call 74;refine(CQ a n c T _ (h.later (hB1)) (by omega) HF.out).mono ?_;rintro e w9 ⟨a8,c8,rfl,hL8,hb8⟩;have s2:=AC x3 hb8;obtain⟨z2,f2⟩:=AN s2))
  refine XL (AF Tryz.results76 _ _ (w.heap.size+1+1+1) 45 _ (0,0) _ rfl (CA s2 _) Tryz.underlying45 rfl (by kernel_rfl)) rfl ?_;rw [HA.out];exact BI hB1 hL8 hb8 (by omega) (by have:=hb1.size;omega) _
 have hz:Hj (Bo dC col dn)=(q:Int):=by rw [hcol];rfl
 have hq:=(Cu hcol).1;have HUA:Hid (Ir T n ds dn dC dr dm dR col E n5 W n6=if ¬N5 dC dn q E n5 W n6=0 then (C8 T n,N5 dC dn q E n5 W n6) else if FF dC dn dR E n5 W n6 dr=true then (C8 T n,6) else if F6 (E2 dn dC dr dm dR q E n5 W n6) dr=true then (C8 T n,5) else (D8 T (EJ ds dn dC (E2 dn dC dr dm dR q E n5 W n6)) n,0)):=by show _=_;unfold Ir;rw [hcol]
 clear hcol;have hqn:¬(q:Int)<0:=by omega
 have hqn0:(0:Int)<=q:=by omega
 have hqd:(q:Int)<dn:=by omega
 obtain⟨b2,off2,rfl,-⟩:=hC 0 hn0;by_cases e0:ec=0
 rotate_left
 ·
  have n0:(ec == 0)=false:=by simpa using e0
  have n1:(ec != 0)=true:=by simpa using e0
  have HA:Hid (Ir T n ds dn dC dr dm dR col E n5 W n6=(C8 T n,ec)):=by
   show _=_
   have e1:N5 dC dn q E n5 W n6=ec:=by unfold N5;rw [HCR.out.1,if_pos e0]
   rw [HUA.out,e1,if_pos e0]
  clear e0;go_enter Tryz.func76,Tryz.ntmps76
  go_wp2_with (first | (go_at_call 81;refine(ED _ dn cc dC col _ (hC.later hbU) hn1).mono ?_;rintro e w1 ⟨rfl,hb1⟩;rw [hz];have hB1:=AA hbU hb1;have hs1:=hB1.size;have x0:=AC hq0 hb1;have x1:=AC hq1 hb1;have x2:=AC hq2 hb1;have x3:=AC hq3 hb1;obtain⟨xa,-⟩:=AN x0;obtain⟨xb,xc,xd,-⟩:=AX x1;obtain⟨-,-,-,-,xe,xf,xg,-⟩:=Ak x2) | (go_at_call 78;refine(HCK.out _ hB1).mono ?_;rintro e w2 ⟨rfl,hb2⟩;have hB2:=AA hB1 hb2;have hs2:=hB2.size;have hss2:=hb2.size;have y0:=AC x0 hb2;have y1:=AC x1 hb2;have y2:=AC x2 hb2;have y3:=AC x3 hb2;obtain⟨ya,-⟩:=AN y0;obtain⟨yb,yc,yd,-⟩:=AX y1;obtain⟨-,-,-,-,ye,yf,yg,-⟩:=Ak y2;obtain⟨b3,off3,e3,t0_,t1_,-⟩:=hC.later hB2 q hq;obtain⟨rfl,rfl⟩:b2=b3/\off2=off3:=(by simpa using e3);clear e3) | (go_at_call 74;refine(CQ a n c T _ (h.later (hB2)) (by omega) HF.out).mono ?_;rintro e w9 ⟨a8,c8,rfl,hL8,hb8⟩;have s2:=AC y3 hb8;obtain⟨z2,f2⟩:=AN s2))
  refine XL (AF Tryz.results76 _ _ (w.heap.size+1+1+1) 45 _ (0,0) _ rfl (CA s2 _) Tryz.underlying45 rfl (by kernel_rfl)) rfl ?_;rw [HA.out];exact BI hB2 hL8 hb8 (by omega) (by have:=hb1.size;omega) _
 subst e0;obtain⟨tq,htq⟩:∃ tq,(dC q).t=tq:=⟨_,rfl⟩;by_cases e1:ek=tq
 rotate_left
 ·
  have n1:(ek != tq)=true:=by simpa using e1
  have HA:Hid (Ir T n ds dn dC dr dm dR col E n5 W n6=(C8 T n,4)):=by
   show _=_
   have e2:N5 dC dn q E n5 W n6=4:=by unfold N5;rw [HCR.out.1,htq,if_neg (by simp),if_pos e1]
   rw [HUA.out,e2,if_pos (by omega)]
  clear e1;go_enter Tryz.func76,Tryz.ntmps76
  go_wp2_with (first | (go_at_call 81;refine(ED _ dn cc dC col _ (hC.later hbU) hn1).mono ?_;rintro e w1 ⟨rfl,hb1⟩;rw [hz];have hB1:=AA hbU hb1;have hs1:=hB1.size;have x0:=AC hq0 hb1;have x1:=AC hq1 hb1;have x2:=AC hq2 hb1;have x3:=AC hq3 hb1;obtain⟨xa,-⟩:=AN x0;obtain⟨xb,xc,xd,-⟩:=AX x1;obtain⟨-,-,-,-,xe,xf,xg,-⟩:=Ak x2) | (go_at_call 78;refine(HCK.out _ hB1).mono ?_;rintro e w2 ⟨rfl,hb2⟩;have hB2:=AA hB1 hb2;have hs2:=hB2.size;have hss2:=hb2.size;have y0:=AC x0 hb2;have y1:=AC x1 hb2;have y2:=AC x2 hb2;have y3:=AC x3 hb2;obtain⟨ya,-⟩:=AN y0;obtain⟨yb,yc,yd,-⟩:=AX y1;obtain⟨-,-,-,-,ye,yf,yg,-⟩:=Ak y2;obtain⟨b3,off3,e3,t0_,t1_,-⟩:=hC.later hB2 q hq;obtain⟨rfl,rfl⟩:b2=b3/\off2=off3:=(by simpa using e3);clear e3;rw [htq] at t1_) | (go_at_call 74;refine(CQ a n c T _ (h.later (hB2)) (by omega) HF.out).mono ?_;rintro e w9 ⟨a8,c8,rfl,hL8,hb8⟩;have s2:=AC y3 hb8;obtain⟨z2,f2⟩:=AN s2))
  refine XL (AF Tryz.results76 _ _ (w.heap.size+1+1+1) 45 _ (0,0) _ rfl (CA s2 _) Tryz.underlying45 rfl (by kernel_rfl)) rfl ?_;rw [HA.out];exact BI hB2 hL8 hb8 (by omega) (by have:=hb1.size;omega) _
 subst e1;have HUC:Hid (N5 dC dn q E n5 W n6=cw):=by show _=_;unfold N5;rw [HCR.out.1,HCR.out.2,htq,if_neg (by simp),if_neg (by simp)]
 by_cases e2:cw=0
 rotate_left
 ·
  have n1:(cw != 0)=true:=by simpa using e2
  have HA:Hid (Ir T n ds dn dC dr dm dR col E n5 W n6=(C8 T n,cw)):=by show _=_;rw [HUA.out,HUC.out,if_pos e2]
  clear e2;go_enter Tryz.func76,Tryz.ntmps76
  go_wp2_with (first | (go_at_call 81;refine(ED _ dn cc dC col _ (hC.later hbU) hn1).mono ?_;rintro e w1 ⟨rfl,hb1⟩;rw [hz];have hB1:=AA hbU hb1;have hs1:=hB1.size;have x0:=AC hq0 hb1;have x1:=AC hq1 hb1;have x2:=AC hq2 hb1;have x3:=AC hq3 hb1;obtain⟨xa,-⟩:=AN x0;obtain⟨xb,xc,xd,-⟩:=AX x1;obtain⟨-,-,-,-,xe,xf,xg,-⟩:=Ak x2) | (go_at_call 78;refine(HCK.out _ hB1).mono ?_;rintro e w2 ⟨rfl,hb2⟩;have hB2:=AA hB1 hb2;have hs2:=hB2.size;have hss2:=hb2.size;have y0:=AC x0 hb2;have y1:=AC x1 hb2;have y2:=AC x2 hb2;have y3:=AC x3 hb2;obtain⟨ya,-⟩:=AN y0;obtain⟨yb,yc,yd,-⟩:=AX y1;obtain⟨-,-,-,-,ye,yf,yg,-⟩:=Ak y2;obtain⟨b3,off3,e3,t0_,t1_,-⟩:=hC.later hB2 q hq;obtain⟨rfl,rfl⟩:b2=b3/\off2=off3:=(by simpa using e3);clear e3;rw [htq] at t1_) | (go_at_call 79;refine(HCW.out _ hB2).mono ?_;rintro e w3 ⟨rfl,hb3⟩;have hB3:=AA hB2 hb3;have hs3:=hB3.size;have hss3:=hb3.size;have z0:=AC y0 hb3;have z1:=AC y1 hb3;have z2:=AC y2 hb3;have z3:=AC y3 hb3;obtain⟨za,-⟩:=AN z0;obtain⟨zb,zc,zd,-⟩:=AX z1;obtain⟨-,-,-,-,ze,zf,zg,-⟩:=Ak z2) | (go_at_call 74;refine(CQ a n c T _ (h.later (hB3)) (by omega) HF.out).mono ?_;rintro e w9 ⟨a8,c8,rfl,hL8,hb8⟩;have s2:=AC z3 hb8;obtain⟨z2,f2⟩:=AN s2))
  refine XL (AF Tryz.results76 _ _ (w.heap.size+1+1+1) 45 _ (0,0) _ rfl (CA s2 _) Tryz.underlying45 rfl (by kernel_rfl)) rfl ?_;rw [HA.out];exact BI hB3 hL8 hb8 (by omega) (by have:=hb1.size;omega) _
 subst e2;have HC0:Hid (EO dC dn W n6=0):=HCR.out.2;have HE0:Hid ((ck dC dn E n5).2=0):=Hl (by rw [HCR.out.1]);obtain⟨jr,hir,hzr0,hzr1,hzr2⟩:=info_parts Tryz.infoRow;have HIr:Hid (Tryz.prog.info? 60=ς jr):=hir;obtain⟨j3,hi3,hz30,hz31,hz32⟩:=info_parts Tryz.infoVal;have HI3:Hid (Tryz.prog.info? 94=ς j3):=hi3;clear hir hi3;go_enter Tryz.func76,Tryz.ntmps76
 go_wp2_with (first | (go_at_call 81;refine(ED _ dn cc dC col _ (hC.later hbU) hn1).mono ?_;rintro e w1 ⟨rfl,hb1⟩;rw [hz];have hB1:=AA hbU hb1;have hs1:=hB1.size;have x0:=AC hq0 hb1;have x1:=AC hq1 hb1;have x2:=AC hq2 hb1;have x3:=AC hq3 hb1;obtain⟨xa,-⟩:=AN x0;obtain⟨xb,xc,xd,-⟩:=AX x1;obtain⟨-,-,-,-,xe,xf,xg,-⟩:=Ak x2) | (go_at_call 78;refine(HCK.out _ hB1).mono ?_;rintro e w2 ⟨rfl,hb2⟩;have hB2:=AA hB1 hb2;have hs2:=hB2.size;have hss2:=hb2.size;have y0:=AC x0 hb2;have y1:=AC x1 hb2;have y2:=AC x2 hb2;have y3:=AC x3 hb2;obtain⟨ya,-⟩:=AN y0;obtain⟨yb,yc,yd,-⟩:=AX y1;obtain⟨-,-,-,-,ye,yf,yg,-⟩:=Ak y2;obtain⟨b3,off3,e3,t0_,t1_,-⟩:=hC.later hB2 q hq;obtain⟨rfl,rfl⟩:b2=b3/\off2=off3:=(by simpa using e3);clear e3;rw [htq] at t1_) | (go_at_call 79;refine(HCW.out _ hB2).mono ?_;rintro e w3 ⟨rfl,hb3⟩;have hB3:=AA hB2 hb3;have hs3:=hB3.size;have hss3:=hb3.size;have z0:=AC y0 hb3;have z1:=AC y1 hb3;have z2:=AC y2 hb3;have z3:=AC y3 hb3;obtain⟨za,-⟩:=AN z0;obtain⟨zb,zc,zd,-⟩:=AX z1;obtain⟨-,-,-,-,ze,zf,zg,-⟩:=Ak z2;obtain⟨zz1,zz2,zz3,-⟩:=AX (AC z1 (AE w3 (γ #[] 60)))))
 have hO0:(w3.alloc (γ #[] 60)).ownsRow w3.heap.size 60 1 (σ (ς ⟨w3.heap.size,0,ν⟩) 0 0) 0 []:=Xb w3 #[] 0 (XK _) (by unfold maxLen;omega) rfl;have hw3:w.heap.size+4<=w3.heap.size:=by have:=hb1.size;omega
 go_loopw [11,13,14,62] (λv _ _ i wr=>∃ (k:Nat) (A:List Rw) (g cap:Nat) (f:Nat->List XU),k<=dr/\i=ι κ k/\v=σ (ς ⟨g,0,ν⟩) A.length cap/\Ns dC dn dm dR q E n5 W n6 k=A/\FF dC dn dR E n5 W n6 k=false/\RO w3.heap.size (λb=>w3.heap.size<=b) wr (σ (ς ⟨g,0,ν⟩) A.length cap) A.length (λi=>A.getD i _root_.Go.Proofs.YtfnfdllflgmhnaaGreatDoor.r0) f/\υ w3.heap.size w3 wr) (λ_ _ _ i _=>dr - (XX i).toNat)
 case atStart=>exact⟨0,[],w3.heap.size,0,λ_=>[],by omega,rfl,rfl,rfl,rfl,GO.nil hO0,AE _ _⟩
 case round=>
  obtain⟨k,A,g,cap,f,hk,rfl,rfl,hch,hbg,hRO,hbr⟩:=hrel;have HCH:Hid (Ns dC dn dm dR q E n5 W n6 k=A/\A.length=k/\FF dC dn dR E n5 W n6 k=false):=⟨hch,by rw [←hch];exact Hm,hbg⟩;have hAl:A.length<=1000000:=by rw [←hch,Hm];omega
  clear hch hbg;have hbw:=AA hB3 hbr;have hsr:=hbr.size;have q0:=AC z0 hbr;have q1:=AC z1 hbr;have q2:=AC z2 hbr;have q3:=AC z3 hbr;have hgl:=hRO.own.lt g rfl;by_cases hlt:k<dr
  ·
   obtain⟨bR,offR,ai,ci,rfl,d1,-,hI⟩:=ER.of hR hlt;have hmk:=HN.out.len k hlt;have d2:=AB hbw d1;rw [hmk] at d2 hI;have HMK:Hid (dm k=dn):=hmk;clear hmk d1;obtain⟨br,offr,rfl,-⟩:=hI 0 hn0;have hkr:(k:Int)<dr:=by omega
   have HTX:=HN.out.txt k hlt;have HTXH:Hid (∀ j,j<dn->(dR k j).s.size<=200):=HTX;clear HTX;have HFT:Hid (∀ W',υ w.heap.size w W'->XR μ 46 #[σ (ς ⟨b2,off2,ν⟩) dn cc,σ (ς ⟨br,offr,ν⟩) dn ci,σ a6 n6 c6] W' (λe w'=>e=ρ (β (C5 dC dn (dR k) W n6))/\υ W'.heap.size W' w')):=λW' hW'=>Lh _ dn cc dC _ ci (dR k) a6 n6 c6 W W' (hC.later hW') (hI.later hW') (hW.later hW') hn1 HOK.out HC0.out HTXH.out;have HVL:Hid (∀ W',υ w.heap.size w W'->XR μ 47 #[σ (ς ⟨b2,off2,ν⟩) dn cc,σ (ς ⟨br,offr,ν⟩) dn ci,σ a5 n5 c5] W' (λe w'=>e=ρ (χ #[ι κ (Cn dC dn (dR k) E n5).o,ι κ (Cn dC dn (dR k) E n5).m,τ (Cn dC dn (dR k) E n5).s])/\υ W'.heap.size W' w')):=λW' hW'=>Lf _ dn cc dC _ ci (dR k) a5 n5 c5 E W' (hC.later hW') (hI.later hW') (hE.later hW') hn1 h5a H5.out HE0.out HTXH.out;have hvx:(Cn dC dn (dR k) E n5).s.size<=1048576:=Fi HTXH.out H5.out h5a h5b;obtain⟨xo,xm,xs,hx⟩:∃ xo xm xs,Cn dC dn (dR k) E n5=⟨xo,xm,xs⟩:=⟨_,_,_,rfl⟩;obtain⟨fb,hfb⟩:∃ fb,C5 dC dn (dR k) W n6=fb:=⟨_,rfl⟩;have HST:Hid (Ns dC dn dm dR q E n5 W n6 (k+1)=A ++ [(dm k,if fb=true then H8 (dR k) q ⟨xo,xm,xs⟩ else dR k)]/\FF dC dn dR E n5 W n6 (k+1)=(fb && decide (200<xs.size))):=by
    refine⟨?_,?_⟩
    · rw [Ns,HCH.out.1,hfb,hx]
    · rw [FF,HCH.out.2.2,hfb,hx];rfl
   rw [hfb] at HFT;rw [hx] at HVL hvx;simp only at HVL hvx
   clear hx hfb;have HOE:Hid ((wr.alloc (γ #[] 94)).ownsRow wr.heap.size 94 3 (σ (ς ⟨wr.heap.size,0,ν⟩) 0 0) 0 []):=Xb wr #[] 0 (XK _) (by unfold maxLen;omega) rfl;cases fb
   ·
    skip
    go_wp2_with (first | (at_builtin;have _h:=hRO6;refine XY _ rfl _ _ _ rfl w3.heap.size 60 jr (σ ν 0 0) 1 24 Tryz.underlying36 HIr.out hzr0 hzr1 hzr2 rfl (by omega) (σ (ς ⟨g,0,ν⟩) A.length cap) A.length (CH f A.length) rfl (hRO6.later (AE _ _)).own ⟨w6.heap.size,0,ν⟩ 1 1 [σ (ς ⟨g5,0,ν⟩) dn cap5] rfl rfl HNW.out (Bu _ rfl) (by omega) (by unfold maxLen;omega) (by omega) (by simp;omega) _ rfl ?_;intro g8 cap8 w8 hO8 hgr8 hat8 hlt8) | (go_at_call 46;have _h:=hb5;refine(HFT.out _ (AA hbw hb5)).mono ?_;rintro e w6 ⟨rfl,hb6⟩;have hss6:=hb6.size;have v0:=AC u0 hb6;have v1:=AC u1 hb6;have v2:=AC u2 hb6;have v3:=AC u3 hb6;obtain⟨va,-⟩:=AN v0;obtain⟨vb,vc,vd,-⟩:=AX v1;obtain⟨-,-,-,-,ve,vf,vg,-⟩:=Ak v2;have hRO6:=hRO.later (AA hb5 hb6);have HNW:Hid (∀ j u,([σ (ς ⟨g5,0,ν⟩) dn cap5]:List XU)[j]?=ς u->(w6.alloc (γ #[σ (ς ⟨g5,0,ν⟩) dn cap5] 60)).cell? ((⟨w6.heap.size,0,ν⟩:Addr).add j)=ς u):=XP (η w6 _)) | (at_builtin;refine wpList_append_own _ rfl _ _ 60 rfl wr.heap.size 94 j3 (χ #[ι κ 0,ι κ 0,τ XN]) 3 32 Tryz.underlying60 HI3.out hz30 hz31 hz32 rfl (by omega) (σ (ς ⟨wr.heap.size,0,ν⟩) 0 0) 0 [] rfl HOE.out ⟨br,offr,ν⟩ dn ci (CH (λj=>v3 (dR k j)) dn) rfl (Pe _ _) (IL.news (hI.later (AA hbw (AE _ _)))) (PY _ _) (by unfold maxLen;omega) (by omega) (by simp) ?_;intro v1 w5 hO5 hgr5 hnil5;obtain⟨g5,cap5,rfl⟩:=Ac hO5 (λe=>by have:=hnil5.1 e;simp at this);rw [XT,Xk] at hO5;replace hgr5:World.grownBy _ w5 (ς wr.heap.size):=hgr5;have hb5:υ wr.heap.size wr w5:=gB (AE _ _) hgr5 (XK _);have hg5:=(hO5.lt g5 rfl).1;have hss5:=hb5.size;clear hnil5;have u0:=AC q0 hb5;have u1:=AC q1 hb5;have u2:=AC q2 hb5;have u3:=AC q3 hb5;obtain⟨ua,-⟩:=AN u0;obtain⟨ub,uc,ud,-⟩:=AX u1;obtain⟨-,-,-,-,ue,uf,ug,-⟩:=Ak u2))
    have hLt:Liv (λb=>w3.heap.size<=b/\ς b≠(σ (ς ⟨g,0,ν⟩) A.length cap).ownBlock) w6 (ER [σ (ς ⟨g5,0,ν⟩) dn cap5] (dm k,dR k)):=((E5 (AH hO5 hb6) (λj hj=>by have:=HTXH.out j hj;omega)).liv (λb off e=>by
     obtain⟨rfl,-⟩:g5=b/\0=off:=by simpa using e
     refine⟨by omega,?_⟩;show ς g5≠ς g
     intro e2;have e3:g5=g:=XM e2;omega)).imp (λ_ h=>⟨_,_,by rw [HMK.out],by rw [HMK.out];exact h,by rw [HMK.out];exact hn1⟩)
    have hP:=GO.snoc (x:=(dm k,dR k)) (hRO6.later (AE _ _)) (c:=[σ (ς ⟨g5,0,ν⟩) dn cap5]) rfl (hLt.later (AE _ _)) hO8 hgr8 hat8;have hb8:=gB (AA (AA hbr (AA hb5 hb6)) (AE _ _)) (r:=g) hgr8 hgl.1;have eA:(A ++ [(dm k,dR k)]).length=A.length+1:=by simp
    go_roundw
    case rel=>exact⟨k+1,A ++ [(dm k,dR k)],g8,cap8,_,by omega,by go_num,by rw [eA],by rw [HST.out.1];rfl,by rw [HST.out.2];rfl,hP,hb8⟩
    case measure=>simp [XX];omega
   ·
    skip
    by_cases hbig:200<xs.size
    ·
     have hbig2:(200:Int)<xs.size:=by omega
     have HA:Hid (Ir T n ds dn dC dr dm dR col E n5 W n6=(C8 T n,6)):=by
      show _=_
      rw [HUA.out,HUC.out,if_neg (by simp),if_pos (LG (k:=k+1) (by rw [HST.out.2];simpa using hbig) dr (by omega))]
     go_wp2_with (first | (go_at_call 74;refine(CQ a n c T _ (h.later (AA hbw hbY)) (by omega) HF.out).mono ?_;rintro e w9 ⟨a8,c8,rfl,hL8,hb8⟩;have s2:=AC t3 hb8;obtain⟨z2,f2⟩:=AN s2) | (go_at_call 47;have _h:=hb6;refine(HVL.out _ (AA hbw (AA hb5 hb6))).mono ?_;rintro e w7 ⟨rfl,hb7⟩;have hss7:=hb7.size;have hO7:=AH hO5 (AA hb6 hb7);have hrow7:=G1 hO7;obtain⟨k0_,k1_,k2_⟩:=Ek (E5 hO7 (λj hj=>by have:=HTXH.out j hj;omega)) hq;obtain⟨fz0,fz1,fz2⟩:=IK hO7 (q * 3);have hbY:υ wr.heap.size wr (((w7.setCell ⟨g5,q * 3,ν⟩ (ι κ xo)).setCell ⟨g5,q * 3+1,ν⟩ (ι κ xm)).setCell ⟨g5,q * 3+2,ν⟩ (τ xs)):=Al (Al (Al (AA hb5 (AA hb6 hb7)) hg5) hg5) hg5;have hILY:IL (((w7.setCell ⟨g5,q * 3,ν⟩ (ι κ xo)).setCell ⟨g5,q * 3+1,ν⟩ (ι κ xm)).setCell ⟨g5,q * 3+2,ν⟩ (τ xs)) (ς ⟨g5,0,ν⟩) dn (H8 (dR k) q ⟨xo,xm,xs⟩):=KA (I:=dR k) (x:=⟨xo,xm,xs⟩) hO7 (λj hj=>by have:=HTXH.out j hj;omega) hvx hq;have hx2:=(Ek hILY hq).2.2;rw [H7] at hx2;have hROY:=hRO.later hbY;have hsY:(((w7.setCell ⟨g5,q * 3,ν⟩ (ι κ xo)).setCell ⟨g5,q * 3+1,ν⟩ (ι κ xm)).setCell ⟨g5,q * 3+2,ν⟩ (τ xs)).heap.size=w7.heap.size:=(by rw [Xl,Xl,Xl]);have t0:=AC q0 hbY;have t1:=AC q1 hbY;have t2:=AC q2 hbY;have t3:=AC q3 hbY;obtain⟨ta,-⟩:=AN t0;obtain⟨tb,tc,td,-⟩:=AX t1;obtain⟨-,-,-,-,te,tf,tg,-⟩:=Ak t2;have HNW:Hid (∀ j u,([σ (ς ⟨g5,0,ν⟩) dn cap5]:List XU)[j]?=ς u->((((w7.setCell ⟨g5,q * 3,ν⟩ (ι κ xo)).setCell ⟨g5,q * 3+1,ν⟩ (ι κ xm)).setCell ⟨g5,q * 3+2,ν⟩ (τ xs)).alloc (γ #[σ (ς ⟨g5,0,ν⟩) dn cap5] 60)).cell? ((⟨w7.heap.size,0,ν⟩:Addr).add j)=ς u):=(by have:=XP (η (((w7.setCell ⟨g5,q * 3,ν⟩ (ι κ xo)).setCell ⟨g5,q * 3+1,ν⟩ (ι κ xm)).setCell ⟨g5,q * 3+2,ν⟩ (τ xs)) (γ #[σ (ς ⟨g5,0,ν⟩) dn cap5] 60));rw [hsY] at this;exact this)) | (go_at_call 46;have _h:=hb5;refine(HFT.out _ (AA hbw hb5)).mono ?_;rintro e w6 ⟨rfl,hb6⟩;have hss6:=hb6.size;have v0:=AC u0 hb6;have v1:=AC u1 hb6;have v2:=AC u2 hb6;have v3:=AC u3 hb6;obtain⟨va,-⟩:=AN v0;obtain⟨vb,vc,vd,-⟩:=AX v1;obtain⟨-,-,-,-,ve,vf,vg,-⟩:=Ak v2) | (at_builtin;refine wpList_append_own _ rfl _ _ 60 rfl wr.heap.size 94 j3 (χ #[ι κ 0,ι κ 0,τ XN]) 3 32 Tryz.underlying60 HI3.out hz30 hz31 hz32 rfl (by omega) (σ (ς ⟨wr.heap.size,0,ν⟩) 0 0) 0 [] rfl HOE.out ⟨br,offr,ν⟩ dn ci (CH (λj=>v3 (dR k j)) dn) rfl (Pe _ _) (IL.news (hI.later (AA hbw (AE _ _)))) (PY _ _) (by unfold maxLen;omega) (by omega) (by simp) ?_;intro v1 w5 hO5 hgr5 hnil5;obtain⟨g5,cap5,rfl⟩:=Ac hO5 (λe=>by have:=hnil5.1 e;simp at this);rw [XT,Xk] at hO5;replace hgr5:World.grownBy _ w5 (ς wr.heap.size):=hgr5;have hb5:υ wr.heap.size wr w5:=gB (AE _ _) hgr5 (XK _);have hg5:=(hO5.lt g5 rfl).1;have hss5:=hb5.size;clear hnil5;have u0:=AC q0 hb5;have u1:=AC q1 hb5;have u2:=AC q2 hb5;have u3:=AC q3 hb5;obtain⟨ua,-⟩:=AN u0;obtain⟨ub,uc,ud,-⟩:=AX u1;obtain⟨-,-,-,-,ue,uf,ug,-⟩:=Ak u2))
     refine XL (AF Tryz.results76 _ _ (w.heap.size+1+1+1) 45 _ (0,0) _ rfl (CA s2 _) Tryz.underlying45 rfl (by kernel_rfl)) rfl ?_;rw [HA.out];exact BI (AA hbw hbY) hL8 hb8 (by omega) (by omega) _
    ·
     have hbig2:¬(200:Int)<xs.size:=by omega
     go_wp2_with (first | (at_builtin;have _h:=hROY;refine XY _ rfl _ _ _ rfl w3.heap.size 60 jr (σ ν 0 0) 1 24 Tryz.underlying36 HIr.out hzr0 hzr1 hzr2 rfl (by omega) (σ (ς ⟨g,0,ν⟩) A.length cap) A.length (CH f A.length) rfl (hROY.later (AE _ _)).own ⟨w7.heap.size,0,ν⟩ 1 1 [σ (ς ⟨g5,0,ν⟩) dn cap5] rfl rfl HNW.out (Bu _ rfl) (by omega) (by unfold maxLen;omega) (by omega) (by simp;omega) _ rfl ?_;intro g8 cap8 w8 hO8 hgr8 hat8 hlt8) | (go_at_call 47;have _h:=hb6;refine(HVL.out _ (AA hbw (AA hb5 hb6))).mono ?_;rintro e w7 ⟨rfl,hb7⟩;have hss7:=hb7.size;have hO7:=AH hO5 (AA hb6 hb7);have hrow7:=G1 hO7;obtain⟨k0_,k1_,k2_⟩:=Ek (E5 hO7 (λj hj=>by have:=HTXH.out j hj;omega)) hq;obtain⟨fz0,fz1,fz2⟩:=IK hO7 (q * 3);have hbY:υ wr.heap.size wr (((w7.setCell ⟨g5,q * 3,ν⟩ (ι κ xo)).setCell ⟨g5,q * 3+1,ν⟩ (ι κ xm)).setCell ⟨g5,q * 3+2,ν⟩ (τ xs)):=Al (Al (Al (AA hb5 (AA hb6 hb7)) hg5) hg5) hg5;have hILY:IL (((w7.setCell ⟨g5,q * 3,ν⟩ (ι κ xo)).setCell ⟨g5,q * 3+1,ν⟩ (ι κ xm)).setCell ⟨g5,q * 3+2,ν⟩ (τ xs)) (ς ⟨g5,0,ν⟩) dn (H8 (dR k) q ⟨xo,xm,xs⟩):=KA (I:=dR k) (x:=⟨xo,xm,xs⟩) hO7 (λj hj=>by have:=HTXH.out j hj;omega) hvx hq;have hx2:=(Ek hILY hq).2.2;rw [H7] at hx2;have hROY:=hRO.later hbY;have hsY:(((w7.setCell ⟨g5,q * 3,ν⟩ (ι κ xo)).setCell ⟨g5,q * 3+1,ν⟩ (ι κ xm)).setCell ⟨g5,q * 3+2,ν⟩ (τ xs)).heap.size=w7.heap.size:=(by rw [Xl,Xl,Xl]);have t0:=AC q0 hbY;have t1:=AC q1 hbY;have t2:=AC q2 hbY;have t3:=AC q3 hbY;obtain⟨ta,-⟩:=AN t0;obtain⟨tb,tc,td,-⟩:=AX t1;obtain⟨-,-,-,-,te,tf,tg,-⟩:=Ak t2;have HNW:Hid (∀ j u,([σ (ς ⟨g5,0,ν⟩) dn cap5]:List XU)[j]?=ς u->((((w7.setCell ⟨g5,q * 3,ν⟩ (ι κ xo)).setCell ⟨g5,q * 3+1,ν⟩ (ι κ xm)).setCell ⟨g5,q * 3+2,ν⟩ (τ xs)).alloc (γ #[σ (ς ⟨g5,0,ν⟩) dn cap5] 60)).cell? ((⟨w7.heap.size,0,ν⟩:Addr).add j)=ς u):=(by have:=XP (η (((w7.setCell ⟨g5,q * 3,ν⟩ (ι κ xo)).setCell ⟨g5,q * 3+1,ν⟩ (ι κ xm)).setCell ⟨g5,q * 3+2,ν⟩ (τ xs)) (γ #[σ (ς ⟨g5,0,ν⟩) dn cap5] 60));rw [hsY] at this;exact this)) | (go_at_call 46;have _h:=hb5;refine(HFT.out _ (AA hbw hb5)).mono ?_;rintro e w6 ⟨rfl,hb6⟩;have hss6:=hb6.size;have v0:=AC u0 hb6;have v1:=AC u1 hb6;have v2:=AC u2 hb6;have v3:=AC u3 hb6;obtain⟨va,-⟩:=AN v0;obtain⟨vb,vc,vd,-⟩:=AX v1;obtain⟨-,-,-,-,ve,vf,vg,-⟩:=Ak v2) | (at_builtin;refine wpList_append_own _ rfl _ _ 60 rfl wr.heap.size 94 j3 (χ #[ι κ 0,ι κ 0,τ XN]) 3 32 Tryz.underlying60 HI3.out hz30 hz31 hz32 rfl (by omega) (σ (ς ⟨wr.heap.size,0,ν⟩) 0 0) 0 [] rfl HOE.out ⟨br,offr,ν⟩ dn ci (CH (λj=>v3 (dR k j)) dn) rfl (Pe _ _) (IL.news (hI.later (AA hbw (AE _ _)))) (PY _ _) (by unfold maxLen;omega) (by omega) (by simp) ?_;intro v1 w5 hO5 hgr5 hnil5;obtain⟨g5,cap5,rfl⟩:=Ac hO5 (λe=>by have:=hnil5.1 e;simp at this);rw [XT,Xk] at hO5;replace hgr5:World.grownBy _ w5 (ς wr.heap.size):=hgr5;have hb5:υ wr.heap.size wr w5:=gB (AE _ _) hgr5 (XK _);have hg5:=(hO5.lt g5 rfl).1;have hss5:=hb5.size;clear hnil5;have u0:=AC q0 hb5;have u1:=AC q1 hb5;have u2:=AC q2 hb5;have u3:=AC q3 hb5;obtain⟨ua,-⟩:=AN u0;obtain⟨ub,uc,ud,-⟩:=AX u1;obtain⟨-,-,-,-,ue,uf,ug,-⟩:=Ak u2))
     have hLt:Liv (λb=>w3.heap.size<=b/\ς b≠(σ (ς ⟨g,0,ν⟩) A.length cap).ownBlock) (((w7.setCell ⟨g5,q * 3,ν⟩ (ι κ xo)).setCell ⟨g5,q * 3+1,ν⟩ (ι κ xm)).setCell ⟨g5,q * 3+2,ν⟩ (τ xs)) (ER [σ (ς ⟨g5,0,ν⟩) dn cap5] (dm k,H8 (dR k) q ⟨xo,xm,xs⟩)):=((hILY).liv (λb off e=>by
      obtain⟨rfl,-⟩:g5=b/\0=off:=by simpa using e
      refine⟨by omega,?_⟩;show ς g5≠ς g
      intro e2;have e3:g5=g:=XM e2;omega)).imp (λ_ h=>⟨_,_,by rw [HMK.out],by rw [HMK.out];exact h,by rw [HMK.out];exact hn1⟩)
     have hP:=GO.snoc (x:=(dm k,H8 (dR k) q ⟨xo,xm,xs⟩)) (hROY.later (AE _ _)) (c:=[σ (ς ⟨g5,0,ν⟩) dn cap5]) rfl (hLt.later (AE _ _)) hO8 hgr8 hat8;have hb8:=gB (AA (AA hbr hbY) (AE _ _)) (r:=g) hgr8 hgl.1;have eA:(A ++ [(dm k,H8 (dR k) q ⟨xo,xm,xs⟩)]).length=A.length+1:=by simp
     go_roundw
     case rel=>exact⟨k+1,A ++ [(dm k,H8 (dR k) q ⟨xo,xm,xs⟩)],g8,cap8,_,by omega,by go_num,by rw [eA],by rw [HST.out.1];rfl,by rw [HST.out.2];simpa using hbig,hP,hb8⟩
     case measure=>simp [XX];omega
  ·
   obtain rfl:k=dr:=by omega
   obtain⟨S,hS⟩:∃ S,It k A=S:=⟨_,rfl⟩;have HAM:Hid (∀ x∈A,x.1=dn/\∀ j,j<dn->(x.2 j).s.size<=200):=by
    have:=QD (C:=dC) (q:=q) (E:=E) (n5:=n5) (W:=W) (n6:=n6) HN.out HCH.out.2.2;rwa [HCH.out.1] at this
   have HSM:Hid (∀ x∈S,x.1=dn/\∀ j,j<dn->(x.2 j).s.size<=200):=by rw [←hS];exact EV _ _ HAM.out
   have HSN:Hid (∀ x∈S,0<x.1):=λx hx=>by rw [(HSM.out x hx).1];exact hn0
   have HUR:Hid (E2 dn dC k dm dR q E n5 W n6=S/\S.length=k):=by
    refine⟨?_,?_⟩
    · unfold E2;rw [HCH.out.1];exact hS
    · rw [←hS,EW];exact HCH.out.2.1
   have hSl:S.length<=1000000:=by have:=HUR.out.2;omega
   obtain⟨a',c',e',hOD⟩:=RO.od (D':=λb=>w3.heap.size<=b) hRO (λb h=>h) (λb h=>h);obtain⟨rfl,rfl⟩:ς ⟨g,0,ν⟩=a'/\cap=c':=by simpa using e'
   have HSort:=UA (λb=>w3.heap.size<=b) k A (ς ⟨g,0,ν⟩) cap wr (by have:=HCH.out.2.1;omega) hAl (AaC hRO.own) hOD (λx hx=>by rw [(HAM.out x hx).1];exact hn0) (λb hb=>by omega);rw [hS] at HSort;clear hS hOD e';obtain⟨wo,hwo⟩:∃ v,v=wr:=⟨_,rfl⟩;subst hwo;go_wp2_with (first | (go_at_call 134;refine HSort.mono ?_;rintro e w10 ⟨a10,c10,rfl,hc10,hOD10,hb10⟩))
   have hss10:=hb10.size;go_loopw [16] (λv wr=>∃ i:Nat,1<=i/\(i<=S.length∨i=1)/\v=ι κ i/\F6 S i=false/\υ w10.heap.size w10 wr) (λv _=>S.length - (XX v).toNat)
   case atStart=>exact⟨1,XK _,Xi rfl,rfl,by simp [F6],Xa _ _⟩
   case round=>
    obtain⟨i,hi1,hi2,rfl,hdp,hbq⟩:=hrel;have HDP:Hid (F6 S i=false/\(i<=S.length∨i=1)):=⟨hdp,hi2⟩;clear hdp hi2;have hbt:=AA hb10 hbq;have hbW:=AA hbw hbt;have hsq:=hbq.size;have t0:=AC q0 hbt;have t1:=AC q1 hbt;have t3:=AC q3 hbt;obtain⟨ta,-⟩:=AN t0;obtain⟨tb_,tc_,td_,tf1,tf2,tf3⟩:=AX t1;have hODq:=hOD10.later hbq;by_cases hil:i<S.length
    ·
     obtain⟨p,hp⟩:∃ p,i=p+1:=⟨i - 1,by omega⟩;obtain⟨bA,offA,cA,bqA,offqA,mA,FA,oA,mmA,sA,hxA,hFA,hm0A,rfl,e0A,y0A,y1A,y2A,-⟩:=hODq.at (k:=p) (by omega) HSN.out;obtain⟨bB,offB,cB,bqB,offqB,mB,FB,oB,mmB,sB,hxB,hFB,hm0B,eB,e0B,y0B,y1B,y2B,-⟩:=hODq.at hil HSN.out;obtain⟨rfl,rfl⟩:bA=bB/\offA=offB:=by simpa using eB
     clear eB;have HXA:Hid (S.getD p _root_.Go.Proofs.YtfnfdllflgmhnaaGreatDoor.r0=(mA,FA)/\FA 0=⟨oA,mmA,sA⟩):=⟨hxA,hFA⟩;have HXB:Hid (S.getD i _root_.Go.Proofs.YtfnfdllflgmhnaaGreatDoor.r0=(mB,FB)/\FB 0=⟨oB,mmB,sB⟩):=⟨hxB,hFB⟩;have HIP:Hid (i=p+1):=hp;clear hxA hFA hxB hFB;have hmA:(0:Int)<mA:=by omega
     have hmB:(0:Int)<mB:=by omega
     have hi0:(0:Int)<=i:=by omega
     have hp0:(0:Int)<=p:=by omega
     have hil2:(i:Int)<S.length:=by omega
     have hpl2:(p:Int)<S.length:=by omega
     have hpl3:p<S.length:=by omega
     obtain⟨cz,hcz⟩:∃ cz,BP mmA sA mmB sB=cz:=⟨_,rfl⟩;have HCZ:Hid (F6 S (i+1)=decide (cz=0)):=by
      show _=_
      rw [F6,HDP.out.1,show i - 1=p from by omega]
      unfold JC;rw [HXA.out.1,HXB.out.1];show (false || (decide (0<i) && decide (BP (FA 0).m (FA 0).s (FB 0).m (FB 0).s=0)))=_
      rw [HXA.out.2,HXB.out.2,hcz];simp [show 0<i from by omega]
     have hCmp:=λW=>DL oA mmA sA oB mmB sB W;simp only [hcz] at hCmp
     clear hcz hp;have d4:IntKind.i64.wrap ((i:Int) - 1)=(p:Int):=by rw [IntKind.wrap_i64,HIP.out];omega
     go_upto_region 26 with (fail)
     refine XO (S:=λx=>υ wr.heap.size wr x) (by kernel_rfl) (BC _) (λjH=>?_);refine tk 0 (⟨ς 106,.move (δ 15),36,"l5_replay.go:324",#[],ν⟩:Oper) (λx jS=>by go_simp<;>rfl) jH ?_
     try simp only [zS]
     refine tk 1 (⟨ς 107,.move (δ 16),3,"l5_replay.go:324",#[],ν⟩:Oper) (λx jS=>by go_simp<;>rfl) jH ?_
     try simp only [zS]
     refine tk 2 (⟨ς 108,.binOp .sub 3 (δ 107) (.const (ι κ 1)) 3,3,"l5_replay.go:324",#[⟨1,φ⟩],ν⟩:Oper) (λx jS=>by go_simp<;>rfl) jH ?_
     try simp only [zS]
     refine tk 3 (⟨ς 109,.indexAddr 36 (δ 106) (δ 108),0,"l5_replay.go:324",#[⟨0,φ⟩,⟨2,φ⟩],ν⟩:Oper) (λx jS=>by go_simp<;>rfl) jH ?_
     try simp only [zS]
     refine tk 4 (⟨ς 110,.load 60 (δ 109),60,"l5_replay.go:324",#[⟨3,φ⟩],ν⟩:Oper) (λx jS=>by have k0:=AB jS e0A;have k1:=AB jS y0A;have k2:=AB jS y1A;have k3:=AB jS y2A;have k4:=AB jS e0B;have k5:=AB jS y0B;have k6:=AB jS y1B;have k7:=AB jS y2B;go_simp<;>rfl) jH ?_
     try simp only [zS]
     refine tk 5 (⟨ς 111,.indexAddr 60 (δ 110) (.const (ι κ 0)),0,"l5_replay.go:324",#[⟨4,φ⟩],ν⟩:Oper) (λx jS=>by go_simp<;>rfl) jH ?_
     try simp only [zS]
     refine tk 6 (⟨ς 112,.load 94 (δ 111),94,"l5_replay.go:324",#[⟨5,φ⟩],ν⟩:Oper) (λx jS=>by have k0:=AB jS e0A;have k1:=AB jS y0A;have k2:=AB jS y1A;have k3:=AB jS y2A;have k4:=AB jS e0B;have k5:=AB jS y0B;have k6:=AB jS y1B;have k7:=AB jS y2B;go_simp<;>rfl) jH ?_
     try simp only [zS]
     refine tk 7 (⟨ς 113,.move (δ 15),36,"l5_replay.go:324",#[],ν⟩:Oper) (λx jS=>by go_simp<;>rfl) jH ?_
     try simp only [zS]
     refine tk 8 (⟨ς 114,.move (δ 16),3,"l5_replay.go:324",#[],ν⟩:Oper) (λx jS=>by go_simp<;>rfl) jH ?_
     try simp only [zS]
     refine tk 9 (⟨ς 115,.indexAddr 36 (δ 113) (δ 114),0,"l5_replay.go:324",#[⟨7,φ⟩,⟨8,φ⟩],ν⟩:Oper) (λx jS=>by go_simp<;>rfl) jH ?_
     try simp only [zS]
     refine tk 10 (⟨ς 116,.load 60 (δ 115),60,"l5_replay.go:324",#[⟨9,φ⟩],ν⟩:Oper) (λx jS=>by have k0:=AB jS e0A;have k1:=AB jS y0A;have k2:=AB jS y1A;have k3:=AB jS y2A;have k4:=AB jS e0B;have k5:=AB jS y0B;have k6:=AB jS y1B;have k7:=AB jS y2B;go_simp<;>rfl) jH ?_
     try simp only [zS]
     refine tk 11 (⟨ς 117,.indexAddr 60 (δ 116) (.const (ι κ 0)),0,"l5_replay.go:324",#[⟨10,φ⟩],ν⟩:Oper) (λx jS=>by go_simp<;>rfl) jH ?_
     try simp only [zS]
     refine tk 12 (⟨ς 118,.load 94 (δ 117),94,"l5_replay.go:324",#[⟨11,φ⟩],ν⟩:Oper) (λx jS=>by have k0:=AB jS e0A;have k1:=AB jS y0A;have k2:=AB jS y1A;have k3:=AB jS y2A;have k4:=AB jS e0B;have k5:=AB jS y0B;have k6:=AB jS y1B;have k7:=AB jS y2B;go_simp<;>rfl) jH ?_
     try simp only [zS]
     refine rd 13 (⟨ς 119,.call ⟨.value (.func 135),#[δ 112,δ 118],#[94,94]⟩,3,"l5_replay.go:324",#[⟨6,φ⟩,⟨12,φ⟩],ν⟩:Oper) (λK hK=>?_);go_simp;refine(hCmp _).mono ?_;rintro e w4 ⟨rfl,hb4⟩;refine hK.out _ _ (AA jH hb4) (λjH=>?_);clear hK K;try simp only [zS]
     refine tk 14 (⟨ς 120,.binOp .eql 3 (δ 119) (.const (ι κ 0)) 3,4,"l5_replay.go:324",#[⟨13,φ⟩],ν⟩:Oper) (λx jS=>by go_simp<;>rfl) jH ?_
     try simp only [zS]
     refine XW (by kernel_rfl) ?_ _;clear d4;have hbx:υ wr.heap.size wr w4:=jH;clear jH;have hsx:=hbx.size;by_cases hc0:cz=0
     ·
      subst hc0;have HA:Hid (Ir T n ds dn dC k dm dR col E n5 W n6=(C8 T n,5)):=by
       show _=_
       rw [HUA.out,HUC.out,if_neg (by simp),HCH.out.2.2,if_neg (by simp),HUR.out.1,if_pos (Gh (k:=i+1) (by rw [HCZ.out];rfl) k (by have:=HUR.out.2;omega))]
      have s0:=AC t0 hbx;have s3:=AC t3 hbx;obtain⟨sa,-⟩:=AN s0;go_wp2_with (first | (go_at_call 74;refine(CQ a n c T _ (h.later (AA hbW hbx)) (by omega) HF.out).mono ?_;rintro e w9 ⟨a8,c8,rfl,hL8,hb8⟩;have s2:=AC s3 hb8;obtain⟨z2,f2⟩:=AN s2))
      refine XL (AF Tryz.results76 _ _ (w.heap.size+1+1+1) 45 _ (0,0) _ rfl (CA s2 _) Tryz.underlying45 rfl (by kernel_rfl)) rfl ?_;rw [HA.out];exact BI (AA hbW hbx) hL8 hb8 (by omega) (by omega) _
     ·
      have n0:(cz == 0)=false:=by simpa using hc0
      go_wp2;go_roundw
      case rel=>exact⟨i+1,by omega,Xc (by omega),by go_num,by rw [HCZ.out];simpa using hc0,AA hbq hbx⟩
      case measure=>simp [XX];omega
    ·
     have hil2:¬(i:Int)<S.length:=by omega
     have HA:Hid (Ir T n ds dn dC k dm dR col E n5 W n6=(D8 T (EJ ds dn dC S) n,0)):=by
      show _=_
      rw [HUA.out,HUC.out,if_neg (by simp),HCH.out.2.2,if_neg (by simp),HUR.out.1,if_neg (λhd=>by have:=Gh hd i (by have:=HUR.out.2;omega);rw [HDP.out.1] at this;cases this)]
     have qY:(wr.setCell ⟨w.heap.size+1,2,ν⟩ (σ a10 S.length c10)).heap[w.heap.size+1]?=ς (γ #[τ ds,σ (ς ⟨b2,off2,ν⟩) dn cc,σ a10 S.length c10] 100 (0,0)):=π _ _ 2 _ _ _ t1;have hbY:υ w.heap.size w (wr.setCell ⟨w.heap.size+1,2,ν⟩ (σ a10 S.length c10)):=Al hbW (by omega);have hsY:(wr.setCell ⟨w.heap.size+1,2,ν⟩ (σ a10 S.length c10)).heap.size=wr.heap.size:=Xl _ _ _;obtain⟨o1,o2,o3,-⟩:=AX qY;obtain⟨o0,-⟩:=AN (AS (i:=2) (v:=σ a10 S.length c10) t0 (show w.heap.size≠w.heap.size+1 by omega));have q3Y:=AS (B:=w.heap.size+1) (i:=2) (v:=σ a10 S.length c10) t3 (by omega);have hOL:=(hODq.set (B:=w.heap.size+1) (i:=2) (v:=σ a10 S.length c10) (by omega)).ol;have HSM3:Hid (Sm3 (EJ ds dn dC S)):=⟨hds,⟨hn1,λj hj=>by obtain⟨_,_,_,_,_,hz⟩:=hC j hj;exact hz⟩,⟨by show S.length<=_;omega,λj hj=>⟨by show (S.getD j _).1<=_;rw [(HSM.out _ (CV hj)).1];exact hn1,λu hu=>by
      have e1:=HSM.out _ (CV (y:=_root_.Go.Proofs.YtfnfdllflgmhnaaGreatDoor.r0) hj);have e2:u<dn:=by rw [←e1.1];exact hu
      have:=e1.2 u e2;show ((S.getD j _).2 u).s.size<=_
      omega⟩⟩⟩
     have HNN:Hid (0<(EJ ds dn dC S).n/\∀ i,i<(EJ ds dn dC S).r->0<(EJ ds dn dC S).m i):=⟨hn0,λi hi=>HSN.out _ (CV hi)⟩;go_wp2_with (first | (go_at_call 132;refine(EZ a n c T ds dn dC S.length (λi=>(S.getD i _root_.Go.Proofs.YtfnfdllflgmhnaaGreatDoor.r0).1) (λi=>(S.getD i _root_.Go.Proofs.YtfnfdllflgmhnaaGreatDoor.r0).2) (ς ⟨b2,off2,ν⟩) cc a10 c10 (EJ ds dn dC S) rfl _ (h.later hbY) (hC.later hbY) hOL HSM3.out hn HF.out HNN.out).mono ?_;rintro e w9 ⟨a8,c8,rfl,hL8,hb8⟩;have s2:=AC q3Y hb8;obtain⟨z2_,f2⟩:=AN s2))
     refine XL (AF Tryz.results76 _ _ (w.heap.size+1+1+1) 45 _ (0,0) _ rfl (CA s2 _) Tryz.underlying45 rfl (by kernel_rfl)) rfl ?_;rw [HA.out];exact Cm hbY hL8 hb8 (by omega) (by omega) 0
