import Derived.Test.YtoeencbghldmdaaGreatDoorUra
import Derived.Test.YtoeencbghldmdaaGreatDoorUf
open Bool renaming and_eq_true → VO
open ByteArray renaming empty → VG
open Go renaming Calls → VK, Value → VN, World → ο, bodyPost_ret → VE, frozen_of_row → ζ, heap_alloc_new → η, heap_setCell_same → π, wpAnyH_done → VP, wpList_append_lies → VR, wp_region_held_drew → VH, cell_of_row → ε
open Go.Ending renaming returned → ρ
open Go.IntKind renaming i64 → κ
open Go.Obj renaming cells → γ
open Go.Op renaming bytesLess → Va
open Go.Proofs.Tryz renaming prog → μ
open Go.RowKit renaming Below → υ, intOf → VQ
open Go.RowKit.Below renaming refl → VT
open Go.Value renaming agg → χ, bool → β, int → ι, slice → σ, string → τ, tuple → θ, pointer → ψ
open Go.World renaming news_of_block → VI, ownsRow_made → VU, size_alloc → ω, size_setCell → Ve
open List renaming nil_append → Vd
open Nat renaming le_refl → VD, zero_add → VM, add_zero → Vf
open Option renaming none → ν, some → ς
open Option.some renaming inj → VF
open Or renaming inl → VV, inr → Vb
namespace Go.Proofs.YtoeencbghldmdaaGreatDoor
open Go.RowKit Go.Maps Go.WideMaps
set_option maxRecDepth 20000
set_option maxHeartbeats 16000000
theorem Do{C:Nat->Clm}{n:Nat}{R I:Nat->Itm}{m:Nat}(hR:∀ j,j<n->(R j).s.size<=200)(hx:ex I m=ς 1)(hm:m<=100)(h0:0<m):(Bv C n R I m).s.size<=1048576:=by
 have h1:=Ii (C:=C) hR hx m (VD _);have h2:=EE (C:=C) (n:=n) (R:=R) hx;have h3:=AaA (L:=vl C n R I m) (k:=0) (by omega);unfold Bv;omega
theorem Ix{w:ο}{G g cap n e sz:Nat}{xs:List VN}(h:w.ownsRow G e sz (σ (ς ⟨g,0,ν⟩) n cap) n xs):∃ cur,w.heap[g]?=ς (γ cur e (0,0)):=by
 rcases h.2 with ⟨e,-⟩ | ⟨g',cap',cur,e,-,hrow,-⟩
 · simp at e
 ·
  obtain⟨rfl,rfl⟩:g=g'/\cap=cap':=by simpa using e
  exact⟨cur,hrow⟩
theorem FY{w:ο}{G g cap n e sz:Nat}{xs:List VN}(h:w.ownsRow G e sz (σ (ς ⟨g,0,ν⟩) n cap) n xs)(i:Nat):w.frozen? ⟨g,i,ν⟩=false/\w.frozen? ⟨g,i+1,ν⟩=false/\w.frozen? ⟨g,i+2,ν⟩=false:=by
 obtain⟨cur,hr⟩:=Ix h;exact⟨ζ _ _ _ _ _ hr,ζ _ _ _ _ _ hr,ζ _ _ _ _ _ hr⟩
theorem Dv{w:ο}{g n q:Nat}{I:Nat->Itm}(h:IL w (ς ⟨g,0,ν⟩) n I)(hq:q<n):w.cell? ⟨g,q * 3,ν⟩=ς (ι κ (I q).o)/\w.cell? ⟨g,q * 3+1,ν⟩=ς (ι κ (I q).m)/\w.cell? ⟨g,q * 3+2,ν⟩=ς (τ (I q).s):=by
 obtain⟨b,off,e,c0,c1,c2,-⟩:=h q hq;obtain⟨rfl,rfl⟩:g=b/\0=off:=by simpa using e
 rw [VM] at c0 c1 c2;exact⟨c0,c1,c2⟩
theorem JZ(F:Nat->Itm)(q:Nat)(v:Itm):Ck F q v q=v:=if_pos rfl
theorem MH{C:Nat->Clm}{n:Nat}{R:Nat->Nat->Itm}{E:Nat->Itm}{n5:Nat}{W:Nat->Itm}{n6:Nat}:∀ {k:Nat},DY C n R E n5 W n6 k=false->∀ j,j<k->Bp C n (R j) W n6=true->(Bv C n (R j) E n5).s.size<=200
 | 0,_,j,hj,_=>by omega
 | k+1,h,j,hj,hf=>by
  rw [DY,Bool.or_eq_false_iff] at h;by_cases e:j=k
  ·
   subst e;have h2:=h.2;rw [hf] at h2;simp only [Bool.true_and,decide_eq_false_iff_not] at h2
   omega
  · exact MH h.1 j (by omega) hf
theorem ME{C:Nat->Clm}{n:Nat}{m:Nat->Nat}{R:Nat->Nat->Itm}{q:Nat}{E:Nat->Itm}{n5:Nat}{W:Nat->Itm}{n6:Nat}{P:Rw->Prop}:∀ {k:Nat},(∀ j,j<k->P (m j,if Bp C n (R j) W n6=true then Ck (R j) q (Bv C n (R j) E n5) else R j))->∀ x∈JS C n m R q E n5 W n6 k,P x
 | 0,_,x,hx=>by cases hx
 | k+1,h,x,hx=>by
  rw [JS,List.mem_append] at hx;rcases hx with hx | hx
  · exact ME (λj hj=>h j (by omega)) x hx
  ·
   simp only [List.mem_cons,List.not_mem_nil,or_false] at hx
   rw [hx];exact h k (by omega)
theorem QB{C:Nat->Clm}{n:Nat}{m:Nat->Nat}{R:Nat->Nat->Itm}{q:Nat}{E:Nat->Itm}{n5:Nat}{W:Nat->Itm}{n6 k:Nat}(hN:Nice n k m R)(hb:DY C n R E n5 W n6 k=false):∀ x∈JS C n m R q E n5 W n6 k,x.1=n/\∀ j,j<n->(x.2 j).s.size<=200:=by
 refine ME (P:=λx=>x.1=n/\∀ j,j<n->(x.2 j).s.size<=200) (λj hj=>⟨hN.len j hj,λi hi=>?_⟩);show ((if Bp C n (R j) W n6=true then Ck (R j) q (Bv C n (R j) E n5) else R j) i).s.size<=200
 split
 ·
  rename_i hf
  unfold Ck;split
  · exact MH hb j hj hf
  · exact hN.txt j hj i hi
 · exact hN.txt j hj i hi
theorem PN(a:Option Addr)(n c:Nat)(T:Nat->Td)(ds:ByteArray)(dn:Nat)(dC:Nat->Clm)(dr:Nat)(dm:Nat->Nat)(dR:Nat->Nat->Itm)(ac:Option Addr)(cc:Nat)(ar:Option Addr)(cr:Nat)(k0:Int)(tb:ByteArray)(a2:Option Addr)(n2 c2:Nat)(a3:Option Addr)(n3 c3:Nat)(col:ByteArray)(a5:Option Addr)(n5 c5:Nat)(a6:Option Addr)(n6 c6:Nat)(a7:Option Addr)(n7 c7:Nat)(E W:Nat->Itm)(w:ο)(h:TL w a n T)(hC:CL w ac dn dC)(hR:OL w ar dr dm dR)(hE:IL w a5 n5 E)(hW:IL w a6 n6 W)(hn:n<=1000000)(hF:MM n T)(hN:Nice dn dr dm dR)(hds:ds.size<=1048576)(hokE:AZ E n5=true)(hok:AI W n6=true) :
 VK μ 23 #[χ #[σ a n c],χ #[τ ds,σ ac dn cc,σ ar dr cr],χ #[ι κ k0,τ tb,σ a2 n2 c2,σ a3 n3 c3,τ col,σ a5 n5 c5,σ a6 n6 c6,σ a7 n7 c7]] w (LS w (Gd T n ds dn dC dr dm dR col E n5 W n6).1 (Gd T n ds dn dC dr dm dR col E n5 W n6).2):=by
 have HF:Hid (MM n T):=hF;have HN:Hid (Nice dn dr dm dR):=hN;have HOK:Hid (AI W n6=true):=hok;obtain⟨h5a,h5b,h5c⟩:=BX hokE;have H5:Hid (ex E n5=ς 1):=h5c;have hn0:=hN.n0;have hn1:=hN.n1;have hr1:=hN.r1;clear hF hN hok hokE h5c;obtain⟨ek,ec,hck⟩:∃ ek ec,DA dC dn E n5=(ek,ec):=⟨_,_,rfl⟩;obtain⟨cw,hcw⟩:∃ cw,CM dC dn W n6=cw:=⟨_,rfl⟩;have HCK:Hid (∀ W',υ w.heap.size w W'->VK μ 25 #[σ ac dn cc,σ a5 n5 c5] W' (λe w'=>e=ρ (θ #[ι κ ek,ι κ ec])/\υ W'.heap.size W' w')):=λW' hW'=>by
  have:=Ku ac dn cc dC a5 n5 c5 E W' (hC.later hW') (hE.later hW') hn1 h5a H5.out;rwa [hck] at this
 have HCW:Hid (∀ W',υ w.heap.size w W'->VK μ 26 #[σ ac dn cc,σ a6 n6 c6] W' (λe w'=>e=ρ (ι κ cw)/\υ W'.heap.size W' w')):=λW' hW'=>by
  have:=Io ac dn cc dC a6 n6 c6 W W' (hC.later hW') (hW.later hW') hn1 HOK.out;rwa [hcw] at this
 have HCR:Hid (DA dC dn E n5=(ek,ec)/\CM dC dn W n6=cw):=⟨hck,hcw⟩;clear hck hcw;have hbU:υ w.heap.size w ((((w.alloc (γ #[σ a n c] 28)).alloc (γ #[τ ds,σ ac dn cc,σ ar dr cr] 67)).alloc (γ #[ι κ k0,τ tb,σ a2 n2 c2,σ a3 n3 c3,τ col,σ a5 n5 c5,σ a6 n6 c6,σ a7 n7 c7] 34)).alloc (γ #[σ ν 0 0] 28)):=AA (Ay _ _ _ _) (AD _ _);have hsU:((((w.alloc (γ #[σ a n c] 28)).alloc (γ #[τ ds,σ ac dn cc,σ ar dr cr] 67)).alloc (γ #[ι κ k0,τ tb,σ a2 n2 c2,σ a3 n3 c3,τ col,σ a5 n5 c5,σ a6 n6 c6,σ a7 n7 c7] 34)).alloc (γ #[σ ν 0 0] 28)).heap.size=w.heap.size+4:=by rw [ω,ω,ω,ω]
 have hq0:((((w.alloc (γ #[σ a n c] 28)).alloc (γ #[τ ds,σ ac dn cc,σ ar dr cr] 67)).alloc (γ #[ι κ k0,τ tb,σ a2 n2 c2,σ a3 n3 c3,τ col,σ a5 n5 c5,σ a6 n6 c6,σ a7 n7 c7] 34)).alloc (γ #[σ ν 0 0] 28)).heap[w.heap.size]?=ς (γ #[σ a n c] 28 (0,0)):=AC (AC (AC (η w _) (AD _ _)) (AD _ _)) (AD _ _);have hq1:((((w.alloc (γ #[σ a n c] 28)).alloc (γ #[τ ds,σ ac dn cc,σ ar dr cr] 67)).alloc (γ #[ι κ k0,τ tb,σ a2 n2 c2,σ a3 n3 c3,τ col,σ a5 n5 c5,σ a6 n6 c6,σ a7 n7 c7] 34)).alloc (γ #[σ ν 0 0] 28)).heap[w.heap.size+1]?=ς (γ #[τ ds,σ ac dn cc,σ ar dr cr] 67 (0,0)):=by
  have q:=η (w.alloc (γ #[σ a n c] 28)) (γ #[τ ds,σ ac dn cc,σ ar dr cr] 67);rw [ω] at q;exact AC (AC q (AD _ _)) (AD _ _)
 have hq2:((((w.alloc (γ #[σ a n c] 28)).alloc (γ #[τ ds,σ ac dn cc,σ ar dr cr] 67)).alloc (γ #[ι κ k0,τ tb,σ a2 n2 c2,σ a3 n3 c3,τ col,σ a5 n5 c5,σ a6 n6 c6,σ a7 n7 c7] 34)).alloc (γ #[σ ν 0 0] 28)).heap[w.heap.size+1+1]?=ς (γ #[ι κ k0,τ tb,σ a2 n2 c2,σ a3 n3 c3,τ col,σ a5 n5 c5,σ a6 n6 c6,σ a7 n7 c7] 34 (0,0)):=by
  have q:=η ((w.alloc (γ #[σ a n c] 28)).alloc (γ #[τ ds,σ ac dn cc,σ ar dr cr] 67)) (γ #[ι κ k0,τ tb,σ a2 n2 c2,σ a3 n3 c3,τ col,σ a5 n5 c5,σ a6 n6 c6,σ a7 n7 c7] 34);rw [ω,ω] at q;exact AC q (AD _ _)
 have hq3:((((w.alloc (γ #[σ a n c] 28)).alloc (γ #[τ ds,σ ac dn cc,σ ar dr cr] 67)).alloc (γ #[ι κ k0,τ tb,σ a2 n2 c2,σ a3 n3 c3,τ col,σ a5 n5 c5,σ a6 n6 c6,σ a7 n7 c7] 34)).alloc (γ #[σ ν 0 0] 28)).heap[w.heap.size+1+1+1]?=ς (γ #[σ ν 0 0] 28 (0,0)):=by
  have q:=η (((w.alloc (γ #[σ a n c] 28)).alloc (γ #[τ ds,σ ac dn cc,σ ar dr cr] 67)).alloc (γ #[ι κ k0,τ tb,σ a2 n2 c2,σ a3 n3 c3,τ col,σ a5 n5 c5,σ a6 n6 c6,σ a7 n7 c7] 34)) (γ #[σ ν 0 0] 28);rw [ω,ω,ω] at q;exact q
 obtain⟨p0,-⟩:=AG hq0;obtain⟨p1,p2,p3,-⟩:=AL hq1;obtain⟨-,-,-,-,p4,p5,p6,-⟩:=AJ hq2;rcases hcol:BF dC col dn with _ | q
 ·
  have hz:JR (BF dC col dn)=-1:=by rw [hcol];rfl
  have HA:Hid (Gd T n ds dn dC dr dm dR col E n5 W n6=(Ap T n,3)):=by show _=_;unfold Gd;rw [hcol]
  clear hcol;go_enter Tryz.func23,Tryz.ntmps23
  go_wp2_with (first | (go_at_call 51;refine(FG _ dn cc dC col _ (hC.later hbU) hn1).mono ?_;rintro e w1 ⟨rfl,hb1⟩;rw [hz];have hB1:=AA hbU hb1;have hs1:=hB1.size;have x0:=AC hq0 hb1;have x1:=AC hq1 hb1;have x2:=AC hq2 hb1;have x3:=AC hq3 hb1;obtain⟨xa,-⟩:=AG x0;obtain⟨xb,xc,xd,-⟩:=AL x1;obtain⟨-,-,-,-,xe,xf,xg,-⟩:=AJ x2) | (go_at_call 21;refine(Cd a n c T _ (h.later (hB1)) (by omega) HF.out).mono ?_;rintro e w9 ⟨a8,c8,rfl,hL8,hb8⟩;have s2:=AC x3 hb8;obtain⟨z2,f2⟩:=AG s2))
  refine VE (AE Tryz.results23 _ _ (w.heap.size+1+1+1) 28 _ (0,0) _ rfl (BW s2 _) Tryz.underlying28 rfl (by kernel_rfl)) rfl ?_;rw [HA.out];exact BS hB1 hL8 hb8 (by omega) (by have:=hb1.size;omega) _
 have hz:JR (BF dC col dn)=(q:Int):=by rw [hcol];rfl
 have hq:=(Bz hcol).1;have HUA:Hid (Gd T n ds dn dC dr dm dR col E n5 W n6=if ¬Ke dC dn q E n5 W n6=0 then (Ap T n,Ke dC dn q E n5 W n6) else if DY dC dn dR E n5 W n6 dr=true then (Ap T n,6) else if Cc (Av dn dC dr dm dR q E n5 W n6) dr=true then (Ap T n,5) else (DB T (CA ds dn dC (Av dn dC dr dm dR q E n5 W n6)) n,0)):=by show _=_;unfold Gd;rw [hcol]
 clear hcol;have hqn:¬(q:Int)<0:=by omega
 have hqn0:(0:Int)<=q:=by omega
 have hqd:(q:Int)<dn:=by omega
 obtain⟨b2,off2,rfl,-⟩:=hC 0 hn0;by_cases e0:ec=0
 rotate_left
 ·
  have n0:(ec == 0)=false:=by simpa using e0
  have n1:(ec != 0)=true:=by simpa using e0
  have HA:Hid (Gd T n ds dn dC dr dm dR col E n5 W n6=(Ap T n,ec)):=by
   show _=_
   have e1:Ke dC dn q E n5 W n6=ec:=by unfold Ke;rw [HCR.out.1,if_pos e0]
   rw [HUA.out,e1,if_pos e0]
  clear e0;go_enter Tryz.func23,Tryz.ntmps23
  go_wp2_with (first | (go_at_call 51;refine(FG _ dn cc dC col _ (hC.later hbU) hn1).mono ?_;rintro e w1 ⟨rfl,hb1⟩;rw [hz];have hB1:=AA hbU hb1;have hs1:=hB1.size;have x0:=AC hq0 hb1;have x1:=AC hq1 hb1;have x2:=AC hq2 hb1;have x3:=AC hq3 hb1;obtain⟨xa,-⟩:=AG x0;obtain⟨xb,xc,xd,-⟩:=AL x1;obtain⟨-,-,-,-,xe,xf,xg,-⟩:=AJ x2) | (go_at_call 25;refine(HCK.out _ hB1).mono ?_;rintro e w2 ⟨rfl,hb2⟩;have hB2:=AA hB1 hb2;have hs2:=hB2.size;have hss2:=hb2.size;have y0:=AC x0 hb2;have y1:=AC x1 hb2;have y2:=AC x2 hb2;have y3:=AC x3 hb2;obtain⟨ya,-⟩:=AG y0;obtain⟨yb,yc,yd,-⟩:=AL y1;obtain⟨-,-,-,-,ye,yf,yg,-⟩:=AJ y2;obtain⟨b3,off3,e3,t0_,t1_,-⟩:=hC.later hB2 q hq;obtain⟨rfl,rfl⟩:b2=b3/\off2=off3:=(by simpa using e3);clear e3) | (go_at_call 21;refine(Cd a n c T _ (h.later (hB2)) (by omega) HF.out).mono ?_;rintro e w9 ⟨a8,c8,rfl,hL8,hb8⟩;have s2:=AC y3 hb8;obtain⟨z2,f2⟩:=AG s2))
  refine VE (AE Tryz.results23 _ _ (w.heap.size+1+1+1) 28 _ (0,0) _ rfl (BW s2 _) Tryz.underlying28 rfl (by kernel_rfl)) rfl ?_;rw [HA.out];exact BS hB2 hL8 hb8 (by omega) (by have:=hb1.size;omega) _
 subst e0;obtain⟨tq,htq⟩:∃ tq,(dC q).t=tq:=⟨_,rfl⟩;by_cases e1:ek=tq
 rotate_left
 ·
  have n1:(ek != tq)=true:=by simpa using e1
  have HA:Hid (Gd T n ds dn dC dr dm dR col E n5 W n6=(Ap T n,4)):=by
   show _=_
   have e2:Ke dC dn q E n5 W n6=4:=by unfold Ke;rw [HCR.out.1,htq,if_neg (by simp),if_pos e1]
   rw [HUA.out,e2,if_pos (by omega)]
  clear e1;go_enter Tryz.func23,Tryz.ntmps23
  go_wp2_with (first | (go_at_call 51;refine(FG _ dn cc dC col _ (hC.later hbU) hn1).mono ?_;rintro e w1 ⟨rfl,hb1⟩;rw [hz];have hB1:=AA hbU hb1;have hs1:=hB1.size;have x0:=AC hq0 hb1;have x1:=AC hq1 hb1;have x2:=AC hq2 hb1;have x3:=AC hq3 hb1;obtain⟨xa,-⟩:=AG x0;obtain⟨xb,xc,xd,-⟩:=AL x1;obtain⟨-,-,-,-,xe,xf,xg,-⟩:=AJ x2) | (go_at_call 25;refine(HCK.out _ hB1).mono ?_;rintro e w2 ⟨rfl,hb2⟩;have hB2:=AA hB1 hb2;have hs2:=hB2.size;have hss2:=hb2.size;have y0:=AC x0 hb2;have y1:=AC x1 hb2;have y2:=AC x2 hb2;have y3:=AC x3 hb2;obtain⟨ya,-⟩:=AG y0;obtain⟨yb,yc,yd,-⟩:=AL y1;obtain⟨-,-,-,-,ye,yf,yg,-⟩:=AJ y2;obtain⟨b3,off3,e3,t0_,t1_,-⟩:=hC.later hB2 q hq;obtain⟨rfl,rfl⟩:b2=b3/\off2=off3:=(by simpa using e3);clear e3;rw [htq] at t1_) | (go_at_call 21;refine(Cd a n c T _ (h.later (hB2)) (by omega) HF.out).mono ?_;rintro e w9 ⟨a8,c8,rfl,hL8,hb8⟩;have s2:=AC y3 hb8;obtain⟨z2,f2⟩:=AG s2))
  refine VE (AE Tryz.results23 _ _ (w.heap.size+1+1+1) 28 _ (0,0) _ rfl (BW s2 _) Tryz.underlying28 rfl (by kernel_rfl)) rfl ?_;rw [HA.out];exact BS hB2 hL8 hb8 (by omega) (by have:=hb1.size;omega) _
 subst e1;have HUC:Hid (Ke dC dn q E n5 W n6=cw):=by show _=_;unfold Ke;rw [HCR.out.1,HCR.out.2,htq,if_neg (by simp),if_neg (by simp)]
 by_cases e2:cw=0
 rotate_left
 ·
  have n1:(cw != 0)=true:=by simpa using e2
  have HA:Hid (Gd T n ds dn dC dr dm dR col E n5 W n6=(Ap T n,cw)):=by show _=_;rw [HUA.out,HUC.out,if_pos e2]
  clear e2;go_enter Tryz.func23,Tryz.ntmps23
  go_wp2_with (first | (go_at_call 51;refine(FG _ dn cc dC col _ (hC.later hbU) hn1).mono ?_;rintro e w1 ⟨rfl,hb1⟩;rw [hz];have hB1:=AA hbU hb1;have hs1:=hB1.size;have x0:=AC hq0 hb1;have x1:=AC hq1 hb1;have x2:=AC hq2 hb1;have x3:=AC hq3 hb1;obtain⟨xa,-⟩:=AG x0;obtain⟨xb,xc,xd,-⟩:=AL x1;obtain⟨-,-,-,-,xe,xf,xg,-⟩:=AJ x2) | (go_at_call 25;refine(HCK.out _ hB1).mono ?_;rintro e w2 ⟨rfl,hb2⟩;have hB2:=AA hB1 hb2;have hs2:=hB2.size;have hss2:=hb2.size;have y0:=AC x0 hb2;have y1:=AC x1 hb2;have y2:=AC x2 hb2;have y3:=AC x3 hb2;obtain⟨ya,-⟩:=AG y0;obtain⟨yb,yc,yd,-⟩:=AL y1;obtain⟨-,-,-,-,ye,yf,yg,-⟩:=AJ y2;obtain⟨b3,off3,e3,t0_,t1_,-⟩:=hC.later hB2 q hq;obtain⟨rfl,rfl⟩:b2=b3/\off2=off3:=(by simpa using e3);clear e3;rw [htq] at t1_) | (go_at_call 26;refine(HCW.out _ hB2).mono ?_;rintro e w3 ⟨rfl,hb3⟩;have hB3:=AA hB2 hb3;have hs3:=hB3.size;have hss3:=hb3.size;have z0:=AC y0 hb3;have z1:=AC y1 hb3;have z2:=AC y2 hb3;have z3:=AC y3 hb3;obtain⟨za,-⟩:=AG z0;obtain⟨zb,zc,zd,-⟩:=AL z1;obtain⟨-,-,-,-,ze,zf,zg,-⟩:=AJ z2) | (go_at_call 21;refine(Cd a n c T _ (h.later (hB3)) (by omega) HF.out).mono ?_;rintro e w9 ⟨a8,c8,rfl,hL8,hb8⟩;have s2:=AC z3 hb8;obtain⟨z2,f2⟩:=AG s2))
  refine VE (AE Tryz.results23 _ _ (w.heap.size+1+1+1) 28 _ (0,0) _ rfl (BW s2 _) Tryz.underlying28 rfl (by kernel_rfl)) rfl ?_;rw [HA.out];exact BS hB3 hL8 hb8 (by omega) (by have:=hb1.size;omega) _
 subst e2;have HC0:Hid (CM dC dn W n6=0):=HCR.out.2;have HE0:Hid ((ck dC dn E n5).2=0):=FO (by rw [HCR.out.1]);obtain⟨jr,hir,hzr0,hzr1,hzr2⟩:=info_parts Tryz.infoRow;have HIr:Hid (Tryz.prog.info? 30=ς jr):=hir;obtain⟨j3,hi3,hz30,hz31,hz32⟩:=info_parts Tryz.infoVal;have HI3:Hid (Tryz.prog.info? 60=ς j3):=hi3;clear hir hi3;go_enter Tryz.func23,Tryz.ntmps23
 go_wp2_with (first | (go_at_call 51;refine(FG _ dn cc dC col _ (hC.later hbU) hn1).mono ?_;rintro e w1 ⟨rfl,hb1⟩;rw [hz];have hB1:=AA hbU hb1;have hs1:=hB1.size;have x0:=AC hq0 hb1;have x1:=AC hq1 hb1;have x2:=AC hq2 hb1;have x3:=AC hq3 hb1;obtain⟨xa,-⟩:=AG x0;obtain⟨xb,xc,xd,-⟩:=AL x1;obtain⟨-,-,-,-,xe,xf,xg,-⟩:=AJ x2) | (go_at_call 25;refine(HCK.out _ hB1).mono ?_;rintro e w2 ⟨rfl,hb2⟩;have hB2:=AA hB1 hb2;have hs2:=hB2.size;have hss2:=hb2.size;have y0:=AC x0 hb2;have y1:=AC x1 hb2;have y2:=AC x2 hb2;have y3:=AC x3 hb2;obtain⟨ya,-⟩:=AG y0;obtain⟨yb,yc,yd,-⟩:=AL y1;obtain⟨-,-,-,-,ye,yf,yg,-⟩:=AJ y2;obtain⟨b3,off3,e3,t0_,t1_,-⟩:=hC.later hB2 q hq;obtain⟨rfl,rfl⟩:b2=b3/\off2=off3:=(by simpa using e3);clear e3;rw [htq] at t1_) | (go_at_call 26;refine(HCW.out _ hB2).mono ?_;rintro e w3 ⟨rfl,hb3⟩;have hB3:=AA hB2 hb3;have hs3:=hB3.size;have hss3:=hb3.size;have z0:=AC y0 hb3;have z1:=AC y1 hb3;have z2:=AC y2 hb3;have z3:=AC y3 hb3;obtain⟨za,-⟩:=AG z0;obtain⟨zb,zc,zd,-⟩:=AL z1;obtain⟨-,-,-,-,ze,zf,zg,-⟩:=AJ z2;obtain⟨zz1,zz2,zz3,-⟩:=AL (AC z1 (AD w3 (γ #[] 30)))))
 have hO0:(w3.alloc (γ #[] 30)).ownsRow w3.heap.size 30 1 (σ (ς ⟨w3.heap.size,0,ν⟩) 0 0) 0 []:=VU w3 #[] 0 (VD _) (by unfold maxLen;omega) rfl;have hw3:w.heap.size+4<=w3.heap.size:=by have:=hb1.size;omega
 go_loopw [11,13,14,62] (λv _ _ i wr=>∃ (k:Nat) (A:List Rw) (g cap:Nat) (f:Nat->List VN),k<=dr/\i=ι κ k/\v=σ (ς ⟨g,0,ν⟩) A.length cap/\JS dC dn dm dR q E n5 W n6 k=A/\DY dC dn dR E n5 W n6 k=false/\RO w3.heap.size (λb=>w3.heap.size<=b) wr (σ (ς ⟨g,0,ν⟩) A.length cap) A.length (λi=>A.getD i _root_.Go.Proofs.YtoeencbghldmdaaGreatDoor.r0) f/\υ w3.heap.size w3 wr) (λ_ _ _ i _=>dr - (VQ i).toNat)
 case atStart=>exact⟨0,[],w3.heap.size,0,λ_=>[],by omega,rfl,rfl,rfl,rfl,GO.nil hO0,AD _ _⟩
 case round=>
  obtain⟨k,A,g,cap,f,hk,rfl,rfl,hch,hbg,hRO,hbr⟩:=hrel;have HCH:Hid (JS dC dn dm dR q E n5 W n6 k=A/\A.length=k/\DY dC dn dR E n5 W n6 k=false):=⟨hch,by rw [←hch];exact Fx,hbg⟩;have hAl:A.length<=1000000:=by rw [←hch,Fx];omega
  clear hch hbg;have hbw:=AA hB3 hbr;have hsr:=hbr.size;have q0:=AC z0 hbr;have q1:=AC z1 hbr;have q2:=AC z2 hbr;have q3:=AC z3 hbr;have hgl:=hRO.own.lt g rfl;by_cases hlt:k<dr
  ·
   obtain⟨bR,offR,ai,ci,rfl,d1,-,hI⟩:=ER.of hR hlt;have hmk:=HN.out.len k hlt;have d2:=AB hbw d1;rw [hmk] at d2 hI;have HMK:Hid (dm k=dn):=hmk;clear hmk d1;obtain⟨br,offr,rfl,-⟩:=hI 0 hn0;have hkr:(k:Int)<dr:=by omega
   have HTX:=HN.out.txt k hlt;have HTXH:Hid (∀ j,j<dn->(dR k j).s.size<=200):=HTX;clear HTX;have HFT:Hid (∀ W',υ w.heap.size w W'->VK μ 36 #[σ (ς ⟨b2,off2,ν⟩) dn cc,σ (ς ⟨br,offr,ν⟩) dn ci,σ a6 n6 c6] W' (λe w'=>e=ρ (β (Bp dC dn (dR k) W n6))/\υ W'.heap.size W' w')):=λW' hW'=>NX _ dn cc dC _ ci (dR k) a6 n6 c6 W W' (hC.later hW') (hI.later hW') (hW.later hW') hn1 HOK.out HC0.out HTXH.out;have HVL:Hid (∀ W',υ w.heap.size w W'->VK μ 37 #[σ (ς ⟨b2,off2,ν⟩) dn cc,σ (ς ⟨br,offr,ν⟩) dn ci,σ a5 n5 c5] W' (λe w'=>e=ρ (χ #[ι κ (Bv dC dn (dR k) E n5).o,ι κ (Bv dC dn (dR k) E n5).m,τ (Bv dC dn (dR k) E n5).s])/\υ W'.heap.size W' w')):=λW' hW'=>NV _ dn cc dC _ ci (dR k) a5 n5 c5 E W' (hC.later hW') (hI.later hW') (hE.later hW') hn1 h5a H5.out HE0.out HTXH.out;have hvx:(Bv dC dn (dR k) E n5).s.size<=1048576:=Do HTXH.out H5.out h5a h5b;obtain⟨xo,xm,xs,hx⟩:∃ xo xm xs,Bv dC dn (dR k) E n5=⟨xo,xm,xs⟩:=⟨_,_,_,rfl⟩;obtain⟨fb,hfb⟩:∃ fb,Bp dC dn (dR k) W n6=fb:=⟨_,rfl⟩;have HST:Hid (JS dC dn dm dR q E n5 W n6 (k+1)=A ++ [(dm k,if fb=true then Ck (dR k) q ⟨xo,xm,xs⟩ else dR k)]/\DY dC dn dR E n5 W n6 (k+1)=(fb && decide (200<xs.size))):=by
    refine⟨?_,?_⟩
    · rw [JS,HCH.out.1,hfb,hx]
    · rw [DY,HCH.out.2.2,hfb,hx];rfl
   rw [hfb] at HFT;rw [hx] at HVL hvx;simp only at HVL hvx
   clear hx hfb;have HOE:Hid ((wr.alloc (γ #[] 60)).ownsRow wr.heap.size 60 3 (σ (ς ⟨wr.heap.size,0,ν⟩) 0 0) 0 []):=VU wr #[] 0 (VD _) (by unfold maxLen;omega) rfl;cases fb
   ·
    skip
    go_wp2_with (first | (at_builtin;have _h:=hRO6;refine VR _ rfl _ _ _ rfl w3.heap.size 30 jr (σ ν 0 0) 1 24 Tryz.underlying43 HIr.out hzr0 hzr1 hzr2 rfl (by omega) (σ (ς ⟨g,0,ν⟩) A.length cap) A.length (BU f A.length) rfl (hRO6.later (AD _ _)).own ⟨w6.heap.size,0,ν⟩ 1 1 [σ (ς ⟨g5,0,ν⟩) dn cap5] rfl rfl HNW.out (Bt _ rfl) (by omega) (by unfold maxLen;omega) (by omega) (by simp;omega) _ rfl ?_;intro g8 cap8 w8 hO8 hgr8 hat8 hlt8) | (go_at_call 36;have _h:=hb5;refine(HFT.out _ (AA hbw hb5)).mono ?_;rintro e w6 ⟨rfl,hb6⟩;have hss6:=hb6.size;have v0:=AC u0 hb6;have v1:=AC u1 hb6;have v2:=AC u2 hb6;have v3:=AC u3 hb6;obtain⟨va,-⟩:=AG v0;obtain⟨vb,vc,vd,-⟩:=AL v1;obtain⟨-,-,-,-,ve,vf,vg,-⟩:=AJ v2;have hRO6:=hRO.later (AA hb5 hb6);have HNW:Hid (∀ j u,([σ (ς ⟨g5,0,ν⟩) dn cap5]:List VN)[j]?=ς u->(w6.alloc (γ #[σ (ς ⟨g5,0,ν⟩) dn cap5] 30)).cell? ((⟨w6.heap.size,0,ν⟩:Addr).add j)=ς u):=VI (η w6 _)) | (at_builtin;refine wpList_append_own _ rfl _ _ 30 rfl wr.heap.size 60 j3 (χ #[ι κ 0,ι κ 0,τ VG]) 3 32 Tryz.underlying30 HI3.out hz30 hz31 hz32 rfl (by omega) (σ (ς ⟨wr.heap.size,0,ν⟩) 0 0) 0 [] rfl HOE.out ⟨br,offr,ν⟩ dn ci (BU (λj=>v3 (dR k j)) dn) rfl (Pf _ _) (IL.news (hI.later (AA hbw (AD _ _)))) (Nr _ _) (by unfold maxLen;omega) (by omega) (by simp) ?_;intro v1 w5 hO5 hgr5 hnil5;obtain⟨g5,cap5,rfl⟩:=Ab hO5 (λe=>by have:=hnil5.1 e;simp at this);rw [VM,Vd] at hO5;replace hgr5:World.grownBy _ w5 (ς wr.heap.size):=hgr5;have hb5:υ wr.heap.size wr w5:=gB (AD _ _) hgr5 (VD _);have hg5:=(hO5.lt g5 rfl).1;have hss5:=hb5.size;clear hnil5;have u0:=AC q0 hb5;have u1:=AC q1 hb5;have u2:=AC q2 hb5;have u3:=AC q3 hb5;obtain⟨ua,-⟩:=AG u0;obtain⟨ub,uc,ud,-⟩:=AL u1;obtain⟨-,-,-,-,ue,uf,ug,-⟩:=AJ u2))
    have hLt:Liv (λb=>w3.heap.size<=b/\ς b≠(σ (ς ⟨g,0,ν⟩) A.length cap).ownBlock) w6 (ER [σ (ς ⟨g5,0,ν⟩) dn cap5] (dm k,dR k)):=((EK (AF hO5 hb6) (λj hj=>by have:=HTXH.out j hj;omega)).liv (λb off e=>by
     obtain⟨rfl,-⟩:g5=b/\0=off:=by simpa using e
     refine⟨by omega,?_⟩;show ς g5≠ς g
     intro e2;have e3:g5=g:=VF e2;omega)).imp (λ_ h=>⟨_,_,by rw [HMK.out],by rw [HMK.out];exact h,by rw [HMK.out];exact hn1⟩)
    have hP:=GO.snoc (x:=(dm k,dR k)) (hRO6.later (AD _ _)) (c:=[σ (ς ⟨g5,0,ν⟩) dn cap5]) rfl (hLt.later (AD _ _)) hO8 hgr8 hat8;have hb8:=gB (AA (AA hbr (AA hb5 hb6)) (AD _ _)) (r:=g) hgr8 hgl.1;have eA:(A ++ [(dm k,dR k)]).length=A.length+1:=by simp
    go_roundw
    case rel=>exact⟨k+1,A ++ [(dm k,dR k)],g8,cap8,_,by omega,by go_num,by rw [eA],by rw [HST.out.1];rfl,by rw [HST.out.2];rfl,hP,hb8⟩
    case measure=>simp [VQ];omega
   ·
    skip
    by_cases hbig:200<xs.size
    ·
     have hbig2:(200:Int)<xs.size:=by omega
     have HA:Hid (Gd T n ds dn dC dr dm dR col E n5 W n6=(Ap T n,6)):=by
      show _=_
      rw [HUA.out,HUC.out,if_neg (by simp),if_pos (Mw (k:=k+1) (by rw [HST.out.2];simpa using hbig) dr (by omega))]
     go_wp2_with (first | (go_at_call 21;refine(Cd a n c T _ (h.later (AA hbw hbY)) (by omega) HF.out).mono ?_;rintro e w9 ⟨a8,c8,rfl,hL8,hb8⟩;have s2:=AC t3 hb8;obtain⟨z2,f2⟩:=AG s2) | (go_at_call 37;have _h:=hb6;refine(HVL.out _ (AA hbw (AA hb5 hb6))).mono ?_;rintro e w7 ⟨rfl,hb7⟩;have hss7:=hb7.size;have hO7:=AF hO5 (AA hb6 hb7);have hrow7:=Ix hO7;obtain⟨k0_,k1_,k2_⟩:=Dv (EK hO7 (λj hj=>by have:=HTXH.out j hj;omega)) hq;obtain⟨fz0,fz1,fz2⟩:=FY hO7 (q * 3);have hbY:υ wr.heap.size wr (((w7.setCell ⟨g5,q * 3,ν⟩ (ι κ xo)).setCell ⟨g5,q * 3+1,ν⟩ (ι κ xm)).setCell ⟨g5,q * 3+2,ν⟩ (τ xs)):=Bg (Bg (Bg (AA hb5 (AA hb6 hb7)) hg5) hg5) hg5;have hILY:IL (((w7.setCell ⟨g5,q * 3,ν⟩ (ι κ xo)).setCell ⟨g5,q * 3+1,ν⟩ (ι κ xm)).setCell ⟨g5,q * 3+2,ν⟩ (τ xs)) (ς ⟨g5,0,ν⟩) dn (Ck (dR k) q ⟨xo,xm,xs⟩):=Gh (I:=dR k) (x:=⟨xo,xm,xs⟩) hO7 (λj hj=>by have:=HTXH.out j hj;omega) hvx hq;have hx2:=(Dv hILY hq).2.2;rw [JZ] at hx2;have hROY:=hRO.later hbY;have hsY:(((w7.setCell ⟨g5,q * 3,ν⟩ (ι κ xo)).setCell ⟨g5,q * 3+1,ν⟩ (ι κ xm)).setCell ⟨g5,q * 3+2,ν⟩ (τ xs)).heap.size=w7.heap.size:=(by rw [Ve,Ve,Ve]);have t0:=AC q0 hbY;have t1:=AC q1 hbY;have t2:=AC q2 hbY;have t3:=AC q3 hbY;obtain⟨ta,-⟩:=AG t0;obtain⟨tb,tc,td,-⟩:=AL t1;obtain⟨-,-,-,-,te,tf,tg,-⟩:=AJ t2;have HNW:Hid (∀ j u,([σ (ς ⟨g5,0,ν⟩) dn cap5]:List VN)[j]?=ς u->((((w7.setCell ⟨g5,q * 3,ν⟩ (ι κ xo)).setCell ⟨g5,q * 3+1,ν⟩ (ι κ xm)).setCell ⟨g5,q * 3+2,ν⟩ (τ xs)).alloc (γ #[σ (ς ⟨g5,0,ν⟩) dn cap5] 30)).cell? ((⟨w7.heap.size,0,ν⟩:Addr).add j)=ς u):=(by have:=VI (η (((w7.setCell ⟨g5,q * 3,ν⟩ (ι κ xo)).setCell ⟨g5,q * 3+1,ν⟩ (ι κ xm)).setCell ⟨g5,q * 3+2,ν⟩ (τ xs)) (γ #[σ (ς ⟨g5,0,ν⟩) dn cap5] 30));rw [hsY] at this;exact this)) | (go_at_call 36;have _h:=hb5;refine(HFT.out _ (AA hbw hb5)).mono ?_;rintro e w6 ⟨rfl,hb6⟩;have hss6:=hb6.size;have v0:=AC u0 hb6;have v1:=AC u1 hb6;have v2:=AC u2 hb6;have v3:=AC u3 hb6;obtain⟨va,-⟩:=AG v0;obtain⟨vb,vc,vd,-⟩:=AL v1;obtain⟨-,-,-,-,ve,vf,vg,-⟩:=AJ v2) | (at_builtin;refine wpList_append_own _ rfl _ _ 30 rfl wr.heap.size 60 j3 (χ #[ι κ 0,ι κ 0,τ VG]) 3 32 Tryz.underlying30 HI3.out hz30 hz31 hz32 rfl (by omega) (σ (ς ⟨wr.heap.size,0,ν⟩) 0 0) 0 [] rfl HOE.out ⟨br,offr,ν⟩ dn ci (BU (λj=>v3 (dR k j)) dn) rfl (Pf _ _) (IL.news (hI.later (AA hbw (AD _ _)))) (Nr _ _) (by unfold maxLen;omega) (by omega) (by simp) ?_;intro v1 w5 hO5 hgr5 hnil5;obtain⟨g5,cap5,rfl⟩:=Ab hO5 (λe=>by have:=hnil5.1 e;simp at this);rw [VM,Vd] at hO5;replace hgr5:World.grownBy _ w5 (ς wr.heap.size):=hgr5;have hb5:υ wr.heap.size wr w5:=gB (AD _ _) hgr5 (VD _);have hg5:=(hO5.lt g5 rfl).1;have hss5:=hb5.size;clear hnil5;have u0:=AC q0 hb5;have u1:=AC q1 hb5;have u2:=AC q2 hb5;have u3:=AC q3 hb5;obtain⟨ua,-⟩:=AG u0;obtain⟨ub,uc,ud,-⟩:=AL u1;obtain⟨-,-,-,-,ue,uf,ug,-⟩:=AJ u2))
     refine VE (AE Tryz.results23 _ _ (w.heap.size+1+1+1) 28 _ (0,0) _ rfl (BW s2 _) Tryz.underlying28 rfl (by kernel_rfl)) rfl ?_;rw [HA.out];exact BS (AA hbw hbY) hL8 hb8 (by omega) (by omega) _
    ·
     have hbig2:¬(200:Int)<xs.size:=by omega
     go_wp2_with (first | (at_builtin;have _h:=hROY;refine VR _ rfl _ _ _ rfl w3.heap.size 30 jr (σ ν 0 0) 1 24 Tryz.underlying43 HIr.out hzr0 hzr1 hzr2 rfl (by omega) (σ (ς ⟨g,0,ν⟩) A.length cap) A.length (BU f A.length) rfl (hROY.later (AD _ _)).own ⟨w7.heap.size,0,ν⟩ 1 1 [σ (ς ⟨g5,0,ν⟩) dn cap5] rfl rfl HNW.out (Bt _ rfl) (by omega) (by unfold maxLen;omega) (by omega) (by simp;omega) _ rfl ?_;intro g8 cap8 w8 hO8 hgr8 hat8 hlt8) | (go_at_call 37;have _h:=hb6;refine(HVL.out _ (AA hbw (AA hb5 hb6))).mono ?_;rintro e w7 ⟨rfl,hb7⟩;have hss7:=hb7.size;have hO7:=AF hO5 (AA hb6 hb7);have hrow7:=Ix hO7;obtain⟨k0_,k1_,k2_⟩:=Dv (EK hO7 (λj hj=>by have:=HTXH.out j hj;omega)) hq;obtain⟨fz0,fz1,fz2⟩:=FY hO7 (q * 3);have hbY:υ wr.heap.size wr (((w7.setCell ⟨g5,q * 3,ν⟩ (ι κ xo)).setCell ⟨g5,q * 3+1,ν⟩ (ι κ xm)).setCell ⟨g5,q * 3+2,ν⟩ (τ xs)):=Bg (Bg (Bg (AA hb5 (AA hb6 hb7)) hg5) hg5) hg5;have hILY:IL (((w7.setCell ⟨g5,q * 3,ν⟩ (ι κ xo)).setCell ⟨g5,q * 3+1,ν⟩ (ι κ xm)).setCell ⟨g5,q * 3+2,ν⟩ (τ xs)) (ς ⟨g5,0,ν⟩) dn (Ck (dR k) q ⟨xo,xm,xs⟩):=Gh (I:=dR k) (x:=⟨xo,xm,xs⟩) hO7 (λj hj=>by have:=HTXH.out j hj;omega) hvx hq;have hx2:=(Dv hILY hq).2.2;rw [JZ] at hx2;have hROY:=hRO.later hbY;have hsY:(((w7.setCell ⟨g5,q * 3,ν⟩ (ι κ xo)).setCell ⟨g5,q * 3+1,ν⟩ (ι κ xm)).setCell ⟨g5,q * 3+2,ν⟩ (τ xs)).heap.size=w7.heap.size:=(by rw [Ve,Ve,Ve]);have t0:=AC q0 hbY;have t1:=AC q1 hbY;have t2:=AC q2 hbY;have t3:=AC q3 hbY;obtain⟨ta,-⟩:=AG t0;obtain⟨tb,tc,td,-⟩:=AL t1;obtain⟨-,-,-,-,te,tf,tg,-⟩:=AJ t2;have HNW:Hid (∀ j u,([σ (ς ⟨g5,0,ν⟩) dn cap5]:List VN)[j]?=ς u->((((w7.setCell ⟨g5,q * 3,ν⟩ (ι κ xo)).setCell ⟨g5,q * 3+1,ν⟩ (ι κ xm)).setCell ⟨g5,q * 3+2,ν⟩ (τ xs)).alloc (γ #[σ (ς ⟨g5,0,ν⟩) dn cap5] 30)).cell? ((⟨w7.heap.size,0,ν⟩:Addr).add j)=ς u):=(by have:=VI (η (((w7.setCell ⟨g5,q * 3,ν⟩ (ι κ xo)).setCell ⟨g5,q * 3+1,ν⟩ (ι κ xm)).setCell ⟨g5,q * 3+2,ν⟩ (τ xs)) (γ #[σ (ς ⟨g5,0,ν⟩) dn cap5] 30));rw [hsY] at this;exact this)) | (go_at_call 36;have _h:=hb5;refine(HFT.out _ (AA hbw hb5)).mono ?_;rintro e w6 ⟨rfl,hb6⟩;have hss6:=hb6.size;have v0:=AC u0 hb6;have v1:=AC u1 hb6;have v2:=AC u2 hb6;have v3:=AC u3 hb6;obtain⟨va,-⟩:=AG v0;obtain⟨vb,vc,vd,-⟩:=AL v1;obtain⟨-,-,-,-,ve,vf,vg,-⟩:=AJ v2) | (at_builtin;refine wpList_append_own _ rfl _ _ 30 rfl wr.heap.size 60 j3 (χ #[ι κ 0,ι κ 0,τ VG]) 3 32 Tryz.underlying30 HI3.out hz30 hz31 hz32 rfl (by omega) (σ (ς ⟨wr.heap.size,0,ν⟩) 0 0) 0 [] rfl HOE.out ⟨br,offr,ν⟩ dn ci (BU (λj=>v3 (dR k j)) dn) rfl (Pf _ _) (IL.news (hI.later (AA hbw (AD _ _)))) (Nr _ _) (by unfold maxLen;omega) (by omega) (by simp) ?_;intro v1 w5 hO5 hgr5 hnil5;obtain⟨g5,cap5,rfl⟩:=Ab hO5 (λe=>by have:=hnil5.1 e;simp at this);rw [VM,Vd] at hO5;replace hgr5:World.grownBy _ w5 (ς wr.heap.size):=hgr5;have hb5:υ wr.heap.size wr w5:=gB (AD _ _) hgr5 (VD _);have hg5:=(hO5.lt g5 rfl).1;have hss5:=hb5.size;clear hnil5;have u0:=AC q0 hb5;have u1:=AC q1 hb5;have u2:=AC q2 hb5;have u3:=AC q3 hb5;obtain⟨ua,-⟩:=AG u0;obtain⟨ub,uc,ud,-⟩:=AL u1;obtain⟨-,-,-,-,ue,uf,ug,-⟩:=AJ u2))
     have hLt:Liv (λb=>w3.heap.size<=b/\ς b≠(σ (ς ⟨g,0,ν⟩) A.length cap).ownBlock) (((w7.setCell ⟨g5,q * 3,ν⟩ (ι κ xo)).setCell ⟨g5,q * 3+1,ν⟩ (ι κ xm)).setCell ⟨g5,q * 3+2,ν⟩ (τ xs)) (ER [σ (ς ⟨g5,0,ν⟩) dn cap5] (dm k,Ck (dR k) q ⟨xo,xm,xs⟩)):=((hILY).liv (λb off e=>by
      obtain⟨rfl,-⟩:g5=b/\0=off:=by simpa using e
      refine⟨by omega,?_⟩;show ς g5≠ς g
      intro e2;have e3:g5=g:=VF e2;omega)).imp (λ_ h=>⟨_,_,by rw [HMK.out],by rw [HMK.out];exact h,by rw [HMK.out];exact hn1⟩)
     have hP:=GO.snoc (x:=(dm k,Ck (dR k) q ⟨xo,xm,xs⟩)) (hROY.later (AD _ _)) (c:=[σ (ς ⟨g5,0,ν⟩) dn cap5]) rfl (hLt.later (AD _ _)) hO8 hgr8 hat8;have hb8:=gB (AA (AA hbr hbY) (AD _ _)) (r:=g) hgr8 hgl.1;have eA:(A ++ [(dm k,Ck (dR k) q ⟨xo,xm,xs⟩)]).length=A.length+1:=by simp
     go_roundw
     case rel=>exact⟨k+1,A ++ [(dm k,Ck (dR k) q ⟨xo,xm,xs⟩)],g8,cap8,_,by omega,by go_num,by rw [eA],by rw [HST.out.1];rfl,by rw [HST.out.2];simpa using hbig,hP,hb8⟩
     case measure=>simp [VQ];omega
  ·
   obtain rfl:k=dr:=by omega
   obtain⟨S,hS⟩:∃ S,Hu k A=S:=⟨_,rfl⟩;have HAM:Hid (∀ x∈A,x.1=dn/\∀ j,j<dn->(x.2 j).s.size<=200):=by
    have:=QB (C:=dC) (q:=q) (E:=E) (n5:=n5) (W:=W) (n6:=n6) HN.out HCH.out.2.2;rwa [HCH.out.1] at this
   have HSM:Hid (∀ x∈S,x.1=dn/\∀ j,j<dn->(x.2 j).s.size<=200):=by rw [←hS];exact FU _ _ HAM.out
   have HSN:Hid (∀ x∈S,0<x.1):=λx hx=>by rw [(HSM.out x hx).1];exact hn0
   have HUR:Hid (Av dn dC k dm dR q E n5 W n6=S/\S.length=k):=by
    refine⟨?_,?_⟩
    · unfold Av;rw [HCH.out.1];exact hS
    · rw [←hS,Ct];exact HCH.out.2.1
   have hSl:S.length<=1000000:=by have:=HUR.out.2;omega
   obtain⟨a',c',e',hOD⟩:=RO.od (D':=λb=>w3.heap.size<=b) hRO (λb h=>h) (λb h=>h);obtain⟨rfl,rfl⟩:ς ⟨g,0,ν⟩=a'/\cap=c':=by simpa using e'
   have HSort:=SA (λb=>w3.heap.size<=b) k A (ς ⟨g,0,ν⟩) cap wr (by have:=HCH.out.2.1;omega) hAl (Jr hRO.own) hOD (λx hx=>by rw [(HAM.out x hx).1];exact hn0) (λb hb=>by omega);rw [hS] at HSort;clear hS hOD e';obtain⟨wo,hwo⟩:∃ v,v=wr:=⟨_,rfl⟩;subst hwo;go_wp2_with (first | (go_at_call 54;refine HSort.mono ?_;rintro e w10 ⟨a10,c10,rfl,hc10,hOD10,hb10⟩))
   have hss10:=hb10.size;go_loopw [16] (λv wr=>∃ i:Nat,1<=i/\(i<=S.length∨i=1)/\v=ι κ i/\Cc S i=false/\υ w10.heap.size w10 wr) (λv _=>S.length - (VQ v).toNat)
   case atStart=>exact⟨1,VD _,Vb rfl,rfl,by simp [Cc],VT _ _⟩
   case round=>
    obtain⟨i,hi1,hi2,rfl,hdp,hbq⟩:=hrel;have HDP:Hid (Cc S i=false/\(i<=S.length∨i=1)):=⟨hdp,hi2⟩;clear hdp hi2;have hbt:=AA hb10 hbq;have hbW:=AA hbw hbt;have hsq:=hbq.size;have t0:=AC q0 hbt;have t1:=AC q1 hbt;have t3:=AC q3 hbt;obtain⟨ta,-⟩:=AG t0;obtain⟨tb_,tc_,td_,tf1,tf2,tf3⟩:=AL t1;have hODq:=hOD10.later hbq;by_cases hil:i<S.length
    ·
     obtain⟨p,hp⟩:∃ p,i=p+1:=⟨i - 1,by omega⟩;obtain⟨bA,offA,cA,bqA,offqA,mA,FA,oA,mmA,sA,hxA,hFA,hm0A,rfl,e0A,y0A,y1A,y2A,-⟩:=hODq.at (k:=p) (by omega) HSN.out;obtain⟨bB,offB,cB,bqB,offqB,mB,FB,oB,mmB,sB,hxB,hFB,hm0B,eB,e0B,y0B,y1B,y2B,-⟩:=hODq.at hil HSN.out;obtain⟨rfl,rfl⟩:bA=bB/\offA=offB:=by simpa using eB
     clear eB;have HXA:Hid (S.getD p _root_.Go.Proofs.YtoeencbghldmdaaGreatDoor.r0=(mA,FA)/\FA 0=⟨oA,mmA,sA⟩):=⟨hxA,hFA⟩;have HXB:Hid (S.getD i _root_.Go.Proofs.YtoeencbghldmdaaGreatDoor.r0=(mB,FB)/\FB 0=⟨oB,mmB,sB⟩):=⟨hxB,hFB⟩;have HIP:Hid (i=p+1):=hp;clear hxA hFA hxB hFB;have hmA:(0:Int)<mA:=by omega
     have hmB:(0:Int)<mB:=by omega
     have hi0:(0:Int)<=i:=by omega
     have hp0:(0:Int)<=p:=by omega
     have hil2:(i:Int)<S.length:=by omega
     have hpl2:(p:Int)<S.length:=by omega
     have hpl3:p<S.length:=by omega
     obtain⟨cz,hcz⟩:∃ cz,BH mmA sA mmB sB=cz:=⟨_,rfl⟩;have HCZ:Hid (Cc S (i+1)=decide (cz=0)):=by
      show _=_
      rw [Cc,HDP.out.1,show i - 1=p from by omega]
      unfold Ao;rw [HXA.out.1,HXB.out.1];show (false || (decide (0<i) && decide (BH (FA 0).m (FA 0).s (FB 0).m (FB 0).s=0)))=_
      rw [HXA.out.2,HXB.out.2,hcz];simp [show 0<i from by omega]
     have hCmp:=λW=>Dr oA mmA sA oB mmB sB W;simp only [hcz] at hCmp
     clear hcz hp;have d4:IntKind.i64.wrap ((i:Int) - 1)=(p:Int):=by rw [IntKind.wrap_i64,HIP.out];omega
     go_upto_region 26 with (fail)
     refine VH (S:=λx=>υ wr.heap.size wr x) (by kernel_rfl) (Ar _) (λjH=>?_);refine tk 0 jH ?_;refine tk 1 jH ?_;try simp only [zS];refine tk 2 jH ?_;refine tk 3 jH ?_;try simp only [zS];refine tk 4 jH ?_ (hy:=λx jS=>by have k0:=AB jS e0A;have k1:=AB jS y0A;have k2:=AB jS y1A;have k3:=AB jS y2A;have k4:=AB jS e0B;have k5:=AB jS y0B;have k6:=AB jS y1B;have k7:=AB jS y2B;go_simp<;>rfl)
     try simp only [zS]
     refine tk 5 jH ?_;refine tk 6 jH ?_ (hy:=λx jS=>by have k0:=AB jS e0A;have k1:=AB jS y0A;have k2:=AB jS y1A;have k3:=AB jS y2A;have k4:=AB jS e0B;have k5:=AB jS y0B;have k6:=AB jS y1B;have k7:=AB jS y2B;go_simp<;>rfl)
     try simp only [zS]
     refine tk 7 jH ?_;try simp only [zS];refine tk 8 jH ?_;refine tk 9 jH ?_;try simp only [zS];refine tk 10 jH ?_ (hy:=λx jS=>by have k0:=AB jS e0A;have k1:=AB jS y0A;have k2:=AB jS y1A;have k3:=AB jS y2A;have k4:=AB jS e0B;have k5:=AB jS y0B;have k6:=AB jS y1B;have k7:=AB jS y2B;go_simp<;>rfl)
     try simp only [zS]
     refine tk 11 jH ?_;refine tk 12 jH ?_ (hy:=λx jS=>by have k0:=AB jS e0A;have k1:=AB jS y0A;have k2:=AB jS y1A;have k3:=AB jS y2A;have k4:=AB jS e0B;have k5:=AB jS y0B;have k6:=AB jS y1B;have k7:=AB jS y2B;go_simp<;>rfl)
     try simp only [zS]
     refine rd 13 (λK hK=>?_);go_simp;refine(hCmp _).mono ?_;rintro e w4 ⟨rfl,hb4⟩;refine hK.out _ _ (AA jH hb4) (λjH=>?_);clear hK K;try simp only [zS]
     refine tk 14 jH ?_
     try simp only [zS]
     refine VP (by kernel_rfl) ?_ _;clear d4;have hbx:υ wr.heap.size wr w4:=jH;clear jH;have hsx:=hbx.size;by_cases hc0:cz=0
     ·
      subst hc0;have HA:Hid (Gd T n ds dn dC k dm dR col E n5 W n6=(Ap T n,5)):=by
       show _=_
       rw [HUA.out,HUC.out,if_neg (by simp),HCH.out.2.2,if_neg (by simp),HUR.out.1,if_pos (If (k:=i+1) (by rw [HCZ.out];rfl) k (by have:=HUR.out.2;omega))]
      have s0:=AC t0 hbx;have s3:=AC t3 hbx;obtain⟨sa,-⟩:=AG s0;go_wp2_with (first | (go_at_call 21;refine(Cd a n c T _ (h.later (AA hbW hbx)) (by omega) HF.out).mono ?_;rintro e w9 ⟨a8,c8,rfl,hL8,hb8⟩;have s2:=AC s3 hb8;obtain⟨z2,f2⟩:=AG s2))
      refine VE (AE Tryz.results23 _ _ (w.heap.size+1+1+1) 28 _ (0,0) _ rfl (BW s2 _) Tryz.underlying28 rfl (by kernel_rfl)) rfl ?_;rw [HA.out];exact BS (AA hbW hbx) hL8 hb8 (by omega) (by omega) _
     ·
      have n0:(cz == 0)=false:=by simpa using hc0
      go_wp2;go_roundw
      case rel=>exact⟨i+1,by omega,VV (by omega),by go_num,by rw [HCZ.out];simpa using hc0,AA hbq hbx⟩
      case measure=>simp [VQ];omega
    ·
     have hil2:¬(i:Int)<S.length:=by omega
     have HA:Hid (Gd T n ds dn dC k dm dR col E n5 W n6=(DB T (CA ds dn dC S) n,0)):=by
      show _=_
      rw [HUA.out,HUC.out,if_neg (by simp),HCH.out.2.2,if_neg (by simp),HUR.out.1,if_neg (λhd=>by have:=If hd i (by have:=HUR.out.2;omega);rw [HDP.out.1] at this;cases this)]
     have qY:(wr.setCell ⟨w.heap.size+1,2,ν⟩ (σ a10 S.length c10)).heap[w.heap.size+1]?=ς (γ #[τ ds,σ (ς ⟨b2,off2,ν⟩) dn cc,σ a10 S.length c10] 67 (0,0)):=π _ _ 2 _ _ _ t1;have hbY:υ w.heap.size w (wr.setCell ⟨w.heap.size+1,2,ν⟩ (σ a10 S.length c10)):=Bg hbW (by omega);have hsY:(wr.setCell ⟨w.heap.size+1,2,ν⟩ (σ a10 S.length c10)).heap.size=wr.heap.size:=Ve _ _ _;obtain⟨o1,o2,o3,-⟩:=AL qY;obtain⟨o0,-⟩:=AG (Af (i:=2) (v:=σ a10 S.length c10) t0 (show w.heap.size≠w.heap.size+1 by omega));have q3Y:=Af (B:=w.heap.size+1) (i:=2) (v:=σ a10 S.length c10) t3 (by omega);have hOL:=(hODq.set (B:=w.heap.size+1) (i:=2) (v:=σ a10 S.length c10) (by omega)).ol;have HSM3:Hid (Sm3 (CA ds dn dC S)):=⟨hds,⟨hn1,λj hj=>by obtain⟨_,_,_,_,_,hz⟩:=hC j hj;exact hz⟩,⟨by show S.length<=_;omega,λj hj=>⟨by show (S.getD j _).1<=_;rw [(HSM.out _ (Ae hj)).1];exact hn1,λu hu=>by
      have e1:=HSM.out _ (Ae (y:=_root_.Go.Proofs.YtoeencbghldmdaaGreatDoor.r0) hj);have e2:u<dn:=by rw [←e1.1];exact hu
      have:=e1.2 u e2;show ((S.getD j _).2 u).s.size<=_
      omega⟩⟩⟩
     have HNN:Hid (0<(CA ds dn dC S).n/\∀ i,i<(CA ds dn dC S).r->0<(CA ds dn dC S).m i):=⟨hn0,λi hi=>HSN.out _ (Ae hi)⟩;go_wp2_with (first | (go_at_call 52;refine(FW a n c T ds dn dC S.length (λi=>(S.getD i _root_.Go.Proofs.YtoeencbghldmdaaGreatDoor.r0).1) (λi=>(S.getD i _root_.Go.Proofs.YtoeencbghldmdaaGreatDoor.r0).2) (ς ⟨b2,off2,ν⟩) cc a10 c10 (CA ds dn dC S) rfl _ (h.later hbY) (hC.later hbY) hOL HSM3.out hn HF.out HNN.out).mono ?_;rintro e w9 ⟨a8,c8,rfl,hL8,hb8⟩;have s2:=AC q3Y hb8;obtain⟨z2_,f2⟩:=AG s2))
     refine VE (AE Tryz.results23 _ _ (w.heap.size+1+1+1) 28 _ (0,0) _ rfl (BW s2 _) Tryz.underlying28 rfl (by kernel_rfl)) rfl ?_;rw [HA.out];exact C2 hbY hL8 hb8 (by omega) (by omega) 0
set_option maxHeartbeats 8000000
theorem PO(s:ByteArray)(n:Nat)(C:Nat->Clm)(r:Nat)(m:Nat->Nat)(R:Nat->Nat->Itm)(ac ar:Option Addr)(cr cc:Nat)(hcc:n<=cc)(w:ο)(hC:CL w ac n C)(hR:OL w ar r m R)(hsm:Sm3 ⟨s,n,C,r,m,R⟩) :
 VK μ 32 #[χ #[τ s,σ ac n cc,σ ar r cr]] w λe w'=>e=ρ (β (Bk s n C r m R))/\υ w.heap.size w w':=by
 have hb0:=AD w (γ #[τ s,σ ac n cc,σ ar r cr] 67);have hX0:=η w (γ #[τ s,σ ac n cc,σ ar r cr] 67);have hss:=hsm.s;have hn:=hsm.co.1;have hrr:=hsm.ro.1;dsimp only at hss hn hrr
 have c0:(w.alloc (γ #[τ s,σ ac n cc,σ ar r cr] 67)).cell? ⟨w.heap.size,0,ν⟩=ς (τ s):=(ε _ _ 0 _ _ _ hX0).trans rfl;have c1:(w.alloc (γ #[τ s,σ ac n cc,σ ar r cr] 67)).cell? ⟨w.heap.size,1,ν⟩=ς (σ ac n cc):=(ε _ _ 1 _ _ _ hX0).trans rfl;have c2:(w.alloc (γ #[τ s,σ ac n cc,σ ar r cr] 67)).cell? ⟨w.heap.size,2,ν⟩=ς (σ ar r cr):=(ε _ _ 2 _ _ _ hX0).trans rfl;clear hX0;rcases hq1:AM s
 ·
  have HF:Hid (Bk s n C r m R=false):=by show _=_;unfold Bk;rw [hq1];rfl
  go_enter Tryz.func32,Tryz.ntmps32
  go_wp2_with (go_at_call 46;refine(EY s _ hss).mono ?_;rw [hq1];rintro e w1 ⟨rfl,hb1⟩;have d1:=AB hb1 c1;have d2:=AB hb1 c2)
  go_ret
  exact⟨AN HF.out.symm,AA hb0 hb1⟩
 rcases hq2:Bn (n:Int) 1 20
 ·
  have HF:Hid (Bk s n C r m R=false):=by show _=_;unfold Bk;rw [hq1,hq2];rfl
  go_enter Tryz.func32,Tryz.ntmps32
  go_wp2_with (first | (go_at_call 46;refine(EY s _ hss).mono ?_;rw [hq1];rintro e w1 ⟨rfl,hb1⟩;have d1:=AB hb1 c1;have d2:=AB hb1 c2) | (go_at_call 76;refine(Cz _ _ _ _).mono ?_;rw [hq2];rintro e w2 ⟨rfl,rfl⟩))
  go_ret
  exact⟨AN HF.out.symm,AA hb0 hb1⟩
 by_cases hq3:r<=1000
 rotate_left
 ·
  have HF:Hid (Bk s n C r m R=false):=by show _=_;unfold Bk;rw [decide_eq_false hq3];simp
  have hq4:(1000:Int)<r:=by omega
  go_enter Tryz.func32,Tryz.ntmps32
  go_wp2_with (first | (go_at_call 46;refine(EY s _ hss).mono ?_;rw [hq1];rintro e w1 ⟨rfl,hb1⟩;have d1:=AB hb1 c1;have d2:=AB hb1 c2) | (go_at_call 76;refine(Cz _ _ _ _).mono ?_;rw [hq2];rintro e w2 ⟨rfl,rfl⟩))
  go_ret
  exact⟨AN HF.out.symm,AA hb0 hb1⟩
 have hq4:¬(1000:Int)<r:=by omega
 have h0:0<n:=by
  unfold Bn at hq2;simp at hq2
  omega
 have HT:Hid (Bk s n C r m R=(allN n (BJ C) && allN r (A5 n C m R))):=by
  show _=_
  unfold Bk;rw [hq1,hq2,decide_eq_true hq3];rfl
 go_enter Tryz.func32,Tryz.ntmps32
 go_wp2_with (first | (go_at_call 46;refine(EY s _ hss).mono ?_;rw [hq1];rintro e w1 ⟨rfl,hb1⟩;have d1:=AB hb1 c1;have d2:=AB hb1 c2) | (go_at_call 76;refine(Cz _ _ _ _).mono ?_;rw [hq2];rintro e w2 ⟨rfl,rfl⟩))
 have B1:=AA hb0 hb1;clear c0 c1 c2;go_loopw [3,4,29] (λ_ _ i wr=>∃ k:Nat,k<=n/\i=ι κ k/\(∀ j,j<k->BJ C j=true)/\υ w2.heap.size w2 wr) (λ_ _ i _=>n - (VQ i).toNat)
 case atStart=>exact⟨0,by omega,rfl,λj hj=>by omega,VT _ _⟩
 case round=>
  obtain⟨k,hk,rfl,hall,hb⟩:=hrel;have B2:=AA B1 hb;have hkc:k<=cc:=by omega
  by_cases hlt:k<n
  ·
   obtain⟨b,off,rfl,e0,e1,hs⟩:=hC.later B2 k hlt;have hR2:=η wr (γ #[τ (C k).s,ι κ (C k).t] 58);have y0:(wr.alloc (γ #[τ (C k).s,ι κ (C k).t] 58)).cell? ⟨wr.heap.size,0,ν⟩=ς (τ (C k).s):=(ε _ _ 0 _ _ _ hR2).trans rfl;have y1:(wr.alloc (γ #[τ (C k).s,ι κ (C k).t] 58)).cell? ⟨wr.heap.size,1,ν⟩=ς (ι κ (C k).t):=(ε _ _ 1 _ _ _ hR2).trans rfl;clear hR2;have B3:=AD wr (γ #[τ (C k).s,ι κ (C k).t] 58);have x1:=AB B3 (AB hb d1);have hCr:=hC.later (AA B2 B3);have i1:(0:Int)<=(k:Int):=by omega
   have i2:(k:Int)<=(n:Int):=by omega
   rcases hv:AM (C k).s
   ·
    go_wp2;refine VH (S:=λx=>υ (wr.alloc (γ #[τ (C k).s,ι κ (C k).t] 58)).heap.size (wr.alloc (γ #[τ (C k).s,ι κ (C k).t] 58)) x) (by kernel_rfl) (Ar _) (λjH=>?_);refine tk 0 jH ?_;try simp only [zS];refine tk 1 jH ?_ (hy:=λx jS=>by have k0:=AB jS y0;have k1:=AB jS y1;have k2:=AB jS x1;go_simp<;>rfl)
    try simp only [zS]
    refine rd 2 (λK hK=>?_);go_simp;refine(EY _ _ hs).mono ?_;rw [hv];rintro e w3 ⟨rfl,hb3⟩;refine hK.out _ _ (AA jH hb3) (λjH=>?_);clear hK K;try simp only [zS]
    refine tk 3 jH ?_;try simp only [zS];refine tk 4 jH ?_;try simp only [zS];refine A7 5 jH ?_;try simp only [zS];refine A7 6 jH ?_;try simp only [zS];refine A7 7 jH ?_;try simp only [zS];refine A7 8 jH ?_;try simp only [zS];refine tk 9 jH ?_;try simp only [zS];refine tk 10 jH ?_;try simp only [zS];refine A7 11 jH ?_;try simp only [zS];refine A7 12 jH ?_;try simp only [zS];refine A7 13 jH ?_;try simp only [zS];refine A7 14 jH ?_;try simp only [zS];refine A7 15 jH ?_;try simp only [zS];refine A7 16 jH ?_;try simp only [zS];refine A7 17 jH ?_;try simp only [zS];refine A7 18 jH ?_;try simp only [zS];refine tk 19 jH ?_
    try simp only [zS]
    refine VP (by kernel_rfl) ?_ _;go_wp2;go_ret
    exact⟨AN (by rw [HT.out,Am (p:=BJ C) hlt (by unfold BJ;rw [hv];rfl)];rfl),AA B2 (AA B3 jH)⟩
   rcases ht:C9 (C k).t
   ·
    go_wp2;refine VH (S:=λx=>υ (wr.alloc (γ #[τ (C k).s,ι κ (C k).t] 58)).heap.size (wr.alloc (γ #[τ (C k).s,ι κ (C k).t] 58)) x) (by kernel_rfl) (Ar _) (λjH=>?_);refine tk 0 jH ?_;try simp only [zS];refine tk 1 jH ?_ (hy:=λx jS=>by have k0:=AB jS y0;have k1:=AB jS y1;have k2:=AB jS x1;go_simp<;>rfl)
    try simp only [zS]
    refine rd 2 (λK hK=>?_);go_simp;refine(EY _ _ hs).mono ?_;rw [hv];rintro e w3 ⟨rfl,hb3⟩;refine hK.out _ _ (AA jH hb3) (λjH=>?_);clear hK K;try simp only [zS]
    refine tk 3 jH ?_;try simp only [zS];refine tk 4 jH ?_;try simp only [zS];refine tk 5 jH ?_;try simp only [zS];refine tk 6 jH ?_ (hy:=λx jS=>by have k0:=AB jS y0;have k1:=AB jS y1;have k2:=AB jS x1;go_simp<;>rfl)
    try simp only [zS]
    refine rd 7 (λK hK=>?_);go_simp;refine(Lb _ _).mono ?_;rw [ht];rintro e w4 ⟨rfl,rfl⟩;refine hK.out _ _ (jH) (λjH=>?_);clear hK K;try simp only [zS]
    refine tk 8 jH ?_;try simp only [zS];refine tk 9 jH ?_;try simp only [zS];refine tk 10 jH ?_;try simp only [zS];refine A7 11 jH ?_;try simp only [zS];refine A7 12 jH ?_;try simp only [zS];refine A7 13 jH ?_;try simp only [zS];refine A7 14 jH ?_;try simp only [zS];refine A7 15 jH ?_;try simp only [zS];refine A7 16 jH ?_;try simp only [zS];refine A7 17 jH ?_;try simp only [zS];refine A7 18 jH ?_;try simp only [zS];refine tk 19 jH ?_
    try simp only [zS]
    refine VP (by kernel_rfl) ?_ _;go_wp2;go_ret
    exact⟨AN (by rw [HT.out,Am (p:=BJ C) hlt (by unfold BJ;rw [hv,ht];rfl)];rfl),AA B2 (AA B3 jH)⟩
   rcases hc:AR C (C k).s k
   ·
    go_wp2;refine VH (S:=λx=>υ (wr.alloc (γ #[τ (C k).s,ι κ (C k).t] 58)).heap.size (wr.alloc (γ #[τ (C k).s,ι κ (C k).t] 58)) x) (by kernel_rfl) (Ar _) (λjH=>?_);refine tk 0 jH ?_;try simp only [zS];refine tk 1 jH ?_ (hy:=λx jS=>by have k0:=AB jS y0;have k1:=AB jS y1;have k2:=AB jS x1;go_simp<;>rfl)
    try simp only [zS]
    refine rd 2 (λK hK=>?_);go_simp;refine(EY _ _ hs).mono ?_;rw [hv];rintro e w3 ⟨rfl,hb3⟩;refine hK.out _ _ (AA jH hb3) (λjH=>?_);clear hK K;try simp only [zS]
    refine tk 3 jH ?_;try simp only [zS];refine tk 4 jH ?_;try simp only [zS];refine tk 5 jH ?_;try simp only [zS];refine tk 6 jH ?_ (hy:=λx jS=>by have k0:=AB jS y0;have k1:=AB jS y1;have k2:=AB jS x1;go_simp<;>rfl)
    try simp only [zS]
    refine rd 7 (λK hK=>?_);go_simp;refine(Lb _ _).mono ?_;rw [ht];rintro e w4 ⟨rfl,rfl⟩;refine hK.out _ _ (jH) (λjH=>?_);clear hK K;try simp only [zS]
    refine tk 8 jH ?_;try simp only [zS];refine tk 9 jH ?_;try simp only [zS];refine tk 10 jH ?_;try simp only [zS];refine tk 11 jH ?_;try simp only [zS];refine tk 12 jH ?_ (hy:=λx jS=>by have k0:=AB jS y0;have k1:=AB jS y1;have k2:=AB jS x1;go_simp<;>rfl)
    try simp only [zS]
    refine tk 13 jH ?_;try simp only [zS];refine tk 14 (v:=σ (ς ⟨b,off,ν⟩) k cc) jH ?_;try simp only [zS]
    refine tk 15 jH ?_;try simp only [zS];refine tk 16 jH ?_ (hy:=λx jS=>by have k0:=AB jS y0;have k1:=AB jS y1;have k2:=AB jS x1;go_simp<;>rfl)
    try simp only [zS]
    refine rd 17 (λK hK=>?_);go_simp;refine(Q0 _ _ _ C _ _ ((hCr.take (Nat.le_of_lt hlt)).later jH) (by omega)).mono ?_;rintro e w5 ⟨q,rfl,hqq,hb5⟩;rw [hc] at hqq;replace hqq:=show ¬(0:Int)<=q from λhh=>(by cases hqq.1 hh)
    refine hK.out _ _ (AA jH hb5) (λjH=>?_);clear hK K;try simp only [zS]
    refine tk 18 jH ?_;try simp only [zS];refine tk 19 jH ?_
    try simp only [zS]
    refine VP (by kernel_rfl) ?_ _;go_wp2;go_roundw
    case rel=>exact⟨k+1,by omega,by go_num,λj hj=>by
     by_cases e:j=k
     · subst e;unfold BJ;rw [hv,ht,hc];rfl
     · exact hall j (by omega),AA hb (AA B3 jH)⟩
    case measure=>simp [VQ];omega
   ·
    go_wp2;refine VH (S:=λx=>υ (wr.alloc (γ #[τ (C k).s,ι κ (C k).t] 58)).heap.size (wr.alloc (γ #[τ (C k).s,ι κ (C k).t] 58)) x) (by kernel_rfl) (Ar _) (λjH=>?_);refine tk 0 jH ?_;try simp only [zS];refine tk 1 jH ?_ (hy:=λx jS=>by have k0:=AB jS y0;have k1:=AB jS y1;have k2:=AB jS x1;go_simp<;>rfl)
    try simp only [zS]
    refine rd 2 (λK hK=>?_);go_simp;refine(EY _ _ hs).mono ?_;rw [hv];rintro e w3 ⟨rfl,hb3⟩;refine hK.out _ _ (AA jH hb3) (λjH=>?_);clear hK K;try simp only [zS]
    refine tk 3 jH ?_;try simp only [zS];refine tk 4 jH ?_;try simp only [zS];refine tk 5 jH ?_;try simp only [zS];refine tk 6 jH ?_ (hy:=λx jS=>by have k0:=AB jS y0;have k1:=AB jS y1;have k2:=AB jS x1;go_simp<;>rfl)
    try simp only [zS]
    refine rd 7 (λK hK=>?_);go_simp;refine(Lb _ _).mono ?_;rw [ht];rintro e w4 ⟨rfl,rfl⟩;refine hK.out _ _ (jH) (λjH=>?_);clear hK K;try simp only [zS]
    refine tk 8 jH ?_;try simp only [zS];refine tk 9 jH ?_;try simp only [zS];refine tk 10 jH ?_;try simp only [zS];refine tk 11 jH ?_;try simp only [zS];refine tk 12 jH ?_ (hy:=λx jS=>by have k0:=AB jS y0;have k1:=AB jS y1;have k2:=AB jS x1;go_simp<;>rfl)
    try simp only [zS]
    refine tk 13 jH ?_;try simp only [zS];refine tk 14 (v:=σ (ς ⟨b,off,ν⟩) k cc) jH ?_;try simp only [zS]
    refine tk 15 jH ?_;try simp only [zS];refine tk 16 jH ?_ (hy:=λx jS=>by have k0:=AB jS y0;have k1:=AB jS y1;have k2:=AB jS x1;go_simp<;>rfl)
    try simp only [zS]
    refine rd 17 (λK hK=>?_);go_simp;refine(Q0 _ _ _ C _ _ ((hCr.take (Nat.le_of_lt hlt)).later jH) (by omega)).mono ?_;rintro e w5 ⟨q,rfl,hqq,hb5⟩;rw [hc] at hqq;replace hqq:=hqq.2 rfl;refine hK.out _ _ (AA jH hb5) (λjH=>?_);clear hK K;try simp only [zS]
    refine tk 18 jH ?_;try simp only [zS];refine tk 19 jH ?_
    try simp only [zS]
    refine VP (by kernel_rfl) ?_ _;go_wp2;go_ret
    exact⟨AN (by rw [HT.out,Am (p:=BJ C) hlt (by unfold BJ;rw [hc];simp)];rfl),AA B2 (AA B3 jH)⟩
  ·
   obtain rfl:n=k:=by omega
   replace HT:Hid (Bk s n C r m R=allN r (A5 n C m R)):=by
    show _=_
    rw [HT.out,Ak hall];rfl
   have a1:=AB hb d1;have a2:=AB hb d2;clear d1 d2;go_wp2;obtain⟨wo,rfl⟩:∃ wo:ο,wo=wr:=⟨_,rfl⟩;go_loopw [58] (λi wr=>∃ k:Nat,k<=r/\i=ι κ k/\(∀ j,j<k->A5 n C m R j=true)/\υ wo.heap.size wo wr) (λi _=>r - (VQ i).toNat)
   case atStart=>exact⟨0,by omega,rfl,λj hj=>by omega,VT _ _⟩
   case round=>
    obtain⟨k,hk2,rfl,hall2,hb2⟩:=hrel;have B4:=AA B2 hb2;by_cases hlt:k<r
    ·
     obtain⟨b1,o1,i1,k1,ea,f0,di,dm⟩:=hR.later B4 k hlt;subst ea;have a3:=AB hb2 a1;by_cases hmn:m k=n
     rotate_left
     ·
      have hmn':((m k:Int) == (n:Int))=false:=by simp;omega
      go_wp2;go_ret
      exact⟨AN (by rw [HT.out,Am (p:=A5 n C m R) hlt (by unfold A5;rw [decide_eq_false hmn];rfl)]),B4⟩
     have hmn':((m k:Int) == (n:Int))=true:=by simp;omega
     go_wp2;obtain⟨wp,rfl⟩:∃ wp:ο,wp=wr:=⟨_,rfl⟩;go_loopw [71] (λi wr=>∃ j:Nat,j<=m k/\i=ι κ j/\(∀ q,q<j->BB (R k q).o (R k q).m (R k q).s (C q).t=true)/\υ wp.heap.size wp wr) (λi _=>m k - (VQ i).toNat)
     case atStart=>exact⟨0,by omega,rfl,λj hj=>by omega,VT _ _⟩
     case round=>
      obtain⟨j,hj,rfl,hall3,hb3⟩:=hrel;have B5:=AA B4 hb3;by_cases hlj:j<m k
      ·
       obtain⟨bv,ov,ei,v0,v1,v2,hs⟩:=di.later hb3 j hlj;subst ei;obtain⟨b,off,ec,e0,e1,-⟩:=hC.later B5 j (by omega);subst ec;have hR2:=η wr (γ #[ι κ (R k j).o,ι κ (R k j).m,τ (R k j).s] 60);have y0:(wr.alloc (γ #[ι κ (R k j).o,ι κ (R k j).m,τ (R k j).s] 60)).cell? ⟨wr.heap.size,0,ν⟩=ς (ι κ (R k j).o):=(ε _ _ 0 _ _ _ hR2).trans rfl;have y1:(wr.alloc (γ #[ι κ (R k j).o,ι κ (R k j).m,τ (R k j).s] 60)).cell? ⟨wr.heap.size,1,ν⟩=ς (ι κ (R k j).m):=(ε _ _ 1 _ _ _ hR2).trans rfl;have y2:(wr.alloc (γ #[ι κ (R k j).o,ι κ (R k j).m,τ (R k j).s] 60)).cell? ⟨wr.heap.size,2,ν⟩=ς (τ (R k j).s):=(ε _ _ 2 _ _ _ hR2).trans rfl;clear hR2;have B6:=AD wr (γ #[ι κ (R k j).o,ι κ (R k j).m,τ (R k j).s] 60);have x1:=AB B6 (AB hb3 a3);have z1:=AB B6 e1;have i1:(0:Int)<=(j:Int):=by omega
       have i2:(j:Int)<(n:Int):=by omega
       rcases hv:BB (R k j).o (R k j).m (R k j).s (C j).t
       ·
        go_wp2;refine VH (S:=λx=>υ (wr.alloc (γ #[ι κ (R k j).o,ι κ (R k j).m,τ (R k j).s] 60)).heap.size (wr.alloc (γ #[ι κ (R k j).o,ι κ (R k j).m,τ (R k j).s] 60)) x) (by kernel_rfl) (Ar _) (λjH=>?_);refine tk 0 jH ?_ (hy:=λx jS=>by have k0:=AB jS y0;have k1:=AB jS y1;have k2:=AB jS y2;have k3:=AB jS x1;have k4:=AB jS z1;go_simp<;>rfl)
        try simp only [zS]
        refine tk 1 jH ?_;try simp only [zS];refine tk 2 jH ?_ (hy:=λx jS=>by have k0:=AB jS y0;have k1:=AB jS y1;have k2:=AB jS y2;have k3:=AB jS x1;have k4:=AB jS z1;go_simp<;>rfl)
        try simp only [zS]
        refine tk 3 jH ?_;try simp only [zS];refine tk 4 (v:=ψ (ς ⟨b,off+j * 2,ν⟩)) jH ?_;try simp only [zS]
        refine tk 5 (v:=ψ (ς ⟨b,off+j * 2+1,ν⟩)) jH ?_;try simp only [zS]
        refine tk 6 jH ?_ (hy:=λx jS=>by have k0:=AB jS y0;have k1:=AB jS y1;have k2:=AB jS y2;have k3:=AB jS x1;have k4:=AB jS z1;go_simp<;>rfl)
        try simp only [zS]
        refine rd 7 (λK hK=>?_);go_simp;refine(NW _ _ _ _ _ hs).mono ?_;rw [hv];rintro e w6 ⟨rfl,hb6⟩;refine hK.out _ _ (AA jH hb6) (λjH=>?_);clear hK K;try simp only [zS]
        refine tk 8 jH ?_
        try simp only [zS]
        refine VP (by kernel_rfl) ?_ _;go_wp2;go_ret
        exact⟨AN (by rw [HT.out,Am (p:=A5 n C m R) hlt (by unfold A5;rw [Am (p:=λj=>BB (R k j).o (R k j).m (R k j).s (C j).t) hlj hv];simp)]),AA B5 (AA B6 jH)⟩
       ·
        go_wp2;refine VH (S:=λx=>υ (wr.alloc (γ #[ι κ (R k j).o,ι κ (R k j).m,τ (R k j).s] 60)).heap.size (wr.alloc (γ #[ι κ (R k j).o,ι κ (R k j).m,τ (R k j).s] 60)) x) (by kernel_rfl) (Ar _) (λjH=>?_);refine tk 0 jH ?_ (hy:=λx jS=>by have k0:=AB jS y0;have k1:=AB jS y1;have k2:=AB jS y2;have k3:=AB jS x1;have k4:=AB jS z1;go_simp<;>rfl)
        try simp only [zS]
        refine tk 1 jH ?_;try simp only [zS];refine tk 2 jH ?_ (hy:=λx jS=>by have k0:=AB jS y0;have k1:=AB jS y1;have k2:=AB jS y2;have k3:=AB jS x1;have k4:=AB jS z1;go_simp<;>rfl)
        try simp only [zS]
        refine tk 3 jH ?_;try simp only [zS];refine tk 4 (v:=ψ (ς ⟨b,off+j * 2,ν⟩)) jH ?_;try simp only [zS]
        refine tk 5 (v:=ψ (ς ⟨b,off+j * 2+1,ν⟩)) jH ?_;try simp only [zS]
        refine tk 6 jH ?_ (hy:=λx jS=>by have k0:=AB jS y0;have k1:=AB jS y1;have k2:=AB jS y2;have k3:=AB jS x1;have k4:=AB jS z1;go_simp<;>rfl)
        try simp only [zS]
        refine rd 7 (λK hK=>?_);go_simp;refine(NW _ _ _ _ _ hs).mono ?_;rw [hv];rintro e w6 ⟨rfl,hb6⟩;refine hK.out _ _ (AA jH hb6) (λjH=>?_);clear hK K;try simp only [zS]
        refine tk 8 jH ?_
        try simp only [zS]
        refine VP (by kernel_rfl) ?_ _;go_wp2;go_roundw
        case rel=>exact⟨j+1,by omega,by go_num,λq hq=>by
         by_cases e:q=j
         · subst e;exact hv
         · exact hall3 q (by omega),AA hb3 (AA B6 jH)⟩
        case measure=>simp [VQ];omega
      ·
       obtain rfl:j=m k:=by omega
       have HR3:A5 n C m R k=(decide (k=0) || DJ (R (k - 1) 0).m (R (k - 1) 0).s (R k 0).m (R k 0).s):=by
        unfold A5;rw [Ak hall3,decide_eq_true hmn];rfl
       have HR4:Hid (A5 n C m R k=(decide (k=0) || DJ (R (k - 1) 0).m (R (k - 1) 0).s (R k 0).m (R k 0).s)):=HR3;clear HR3;have x2:=AB hb3 (AB hb2 a2);by_cases hk0:k=0
       ·
        subst hk0;go_wp2;refine VH (S:=λx=>υ wr.heap.size wr x) (by kernel_rfl) (Ar _) (λjH=>?_);refine tk 0 jH ?_;try simp only [zS];refine tk 1 jH ?_;try simp only [zS];refine tk 2 jH ?_;try simp only [zS];refine A7 3 jH ?_;try simp only [zS];refine A7 4 jH ?_;try simp only [zS];refine A7 5 jH ?_;try simp only [zS];refine A7 6 jH ?_;try simp only [zS];refine A7 7 jH ?_;try simp only [zS];refine A7 8 jH ?_;try simp only [zS];refine A7 9 jH ?_;try simp only [zS];refine A7 10 jH ?_;try simp only [zS];refine A7 11 jH ?_;try simp only [zS];refine A7 12 jH ?_;try simp only [zS];refine A7 13 jH ?_;try simp only [zS];refine A7 14 jH ?_;try simp only [zS];refine A7 15 jH ?_;try simp only [zS];refine tk 16 jH ?_
        try simp only [zS]
        refine VP (by kernel_rfl) ?_ _;go_wp2;go_roundw
        case rel=>exact⟨0+1,by omega,by go_num,λj hj=>by
         obtain rfl:j=0:=by omega
         rw [HR4.out];rfl,AA hb2 (AA hb3 jH)⟩
        case measure=>simp [VQ];omega
       obtain⟨p,rfl⟩:∃ p,k=p+1:=⟨k - 1,by omega⟩;obtain⟨b',o',ip,kp,e',g0,dp,-⟩:=hR.later B5 p (by omega);obtain⟨rfl,rfl⟩:b1=b'/\o1=o':=by simpa using e'
       have hmp:m p=n:=by
        have:=hall2 p (by omega);unfold A5 at this;rw [VO,VO,decide_eq_true_eq] at this;exact this.1.1
       obtain⟨b2,o2,ep,p0,p1,p2,-⟩:=dp 0 (by omega);subst ep;obtain⟨b3,o3,eq,q0,q1,q2,-⟩:=di.later hb3 0 (by omega);subst eq;have i0:(0:Int)<=(p:Int):=by omega
       have i1:(p:Int)<(r:Int):=by omega
       have i2:IntKind.i64.wrap (p:Int)=(p:Int):=by rw [IntKind.wrap_i64];omega
       have i3:(0:Int)<(m p:Int):=by omega
       have i4:(0:Int)<(m (p+1):Int):=by omega
       have i5:(0:Int)<(p:Int)+1:=by omega
       simp only [Nat.zero_mul,Vf] at p0 p1 p2 q0 q1 q2
       rcases hv:DJ (R p 0).m (R p 0).s (R (p+1) 0).m (R (p+1) 0).s
       ·
        go_wp2;refine VH (S:=λx=>υ wr.heap.size wr x) (by kernel_rfl) (Ar _) (λjH=>?_);refine tk 0 jH ?_;try simp only [zS];refine tk 1 jH ?_;try simp only [zS];refine tk 2 jH ?_;try simp only [zS];refine tk 3 jH ?_;try simp only [zS];refine tk 4 jH ?_ (hy:=λx jS=>by have k1:=AB jS x2;have k2:=AB jS g0;have k3:=AB jS p0;have k4:=AB jS p1;have k5:=AB jS p2;have k6:=AB jS q0;have k7:=AB jS q1;have k8:=AB jS q2;go_simp<;>rfl)
        try simp only [zS]
        refine tk 5 jH ?_;try simp only [zS];refine tk 6 (v:=ι κ (p:Int)) jH ?_;try simp only [zS]
        refine tk 7 (v:=ψ (ς ⟨b1,o1+p,ν⟩)) jH ?_;try simp only [zS]
        refine tk 8 jH ?_ (hy:=λx jS=>by have k1:=AB jS x2;have k2:=AB jS g0;have k3:=AB jS p0;have k4:=AB jS p1;have k5:=AB jS p2;have k6:=AB jS q0;have k7:=AB jS q1;have k8:=AB jS q2;go_simp<;>rfl)
        try simp only [zS]
        refine tk 9 (v:=ψ (ς ⟨b2,o2,ν⟩)) jH ?_;try simp only [zS]
        refine tk 10 jH ?_ (hy:=λx jS=>by have k1:=AB jS x2;have k2:=AB jS g0;have k3:=AB jS p0;have k4:=AB jS p1;have k5:=AB jS p2;have k6:=AB jS q0;have k7:=AB jS q1;have k8:=AB jS q2;go_simp<;>rfl)
        try simp only [zS]
        refine tk 11 jH ?_;try simp only [zS];refine tk 12 (v:=ψ (ς ⟨b3,o3,ν⟩)) jH ?_;try simp only [zS]
        refine tk 13 jH ?_ (hy:=λx jS=>by have k1:=AB jS x2;have k2:=AB jS g0;have k3:=AB jS p0;have k4:=AB jS p1;have k5:=AB jS p2;have k6:=AB jS q0;have k7:=AB jS q1;have k8:=AB jS q2;go_simp<;>rfl)
        try simp only [zS]
        refine rd 14 (λK hK=>?_);go_simp;refine(Jj _ _ _ _ _ _ _).mono ?_;rintro e w7 ⟨y,rfl,hqq,hb7⟩;rw [hv] at hqq;replace hqq:=hqq.2 rfl;refine hK.out _ _ (AA jH hb7) (λjH=>?_);clear hK K;try simp only [zS]
        refine tk 15 jH ?_;try simp only [zS];refine tk 16 jH ?_
        try simp only [zS]
        refine VP (by kernel_rfl) ?_ _;go_wp2;go_ret
        exact⟨AN (by rw [HT.out,Am (p:=A5 n C m R) hlt (by rw [HR4.out,Nat.add_sub_cancel,hv];simp)]),AA B5 jH⟩
       ·
        go_wp2;refine VH (S:=λx=>υ wr.heap.size wr x) (by kernel_rfl) (Ar _) (λjH=>?_);refine tk 0 jH ?_;try simp only [zS];refine tk 1 jH ?_;try simp only [zS];refine tk 2 jH ?_;try simp only [zS];refine tk 3 jH ?_;try simp only [zS];refine tk 4 jH ?_ (hy:=λx jS=>by have k1:=AB jS x2;have k2:=AB jS g0;have k3:=AB jS p0;have k4:=AB jS p1;have k5:=AB jS p2;have k6:=AB jS q0;have k7:=AB jS q1;have k8:=AB jS q2;go_simp<;>rfl)
        try simp only [zS]
        refine tk 5 jH ?_;try simp only [zS];refine tk 6 (v:=ι κ (p:Int)) jH ?_;try simp only [zS]
        refine tk 7 (v:=ψ (ς ⟨b1,o1+p,ν⟩)) jH ?_;try simp only [zS]
        refine tk 8 jH ?_ (hy:=λx jS=>by have k1:=AB jS x2;have k2:=AB jS g0;have k3:=AB jS p0;have k4:=AB jS p1;have k5:=AB jS p2;have k6:=AB jS q0;have k7:=AB jS q1;have k8:=AB jS q2;go_simp<;>rfl)
        try simp only [zS]
        refine tk 9 (v:=ψ (ς ⟨b2,o2,ν⟩)) jH ?_;try simp only [zS]
        refine tk 10 jH ?_ (hy:=λx jS=>by have k1:=AB jS x2;have k2:=AB jS g0;have k3:=AB jS p0;have k4:=AB jS p1;have k5:=AB jS p2;have k6:=AB jS q0;have k7:=AB jS q1;have k8:=AB jS q2;go_simp<;>rfl)
        try simp only [zS]
        refine tk 11 jH ?_;try simp only [zS];refine tk 12 (v:=ψ (ς ⟨b3,o3,ν⟩)) jH ?_;try simp only [zS]
        refine tk 13 jH ?_ (hy:=λx jS=>by have k1:=AB jS x2;have k2:=AB jS g0;have k3:=AB jS p0;have k4:=AB jS p1;have k5:=AB jS p2;have k6:=AB jS q0;have k7:=AB jS q1;have k8:=AB jS q2;go_simp<;>rfl)
        try simp only [zS]
        refine rd 14 (λK hK=>?_);go_simp;refine(Jj _ _ _ _ _ _ _).mono ?_;rintro e w7 ⟨y,rfl,hqq,hb7⟩;rw [hv] at hqq;replace hqq:=show ¬(0:Int)<=y from λhh=>(by cases hqq.1 hh)
        refine hK.out _ _ (AA jH hb7) (λjH=>?_);clear hK K;try simp only [zS]
        refine tk 15 jH ?_;try simp only [zS];refine tk 16 jH ?_
        try simp only [zS]
        refine VP (by kernel_rfl) ?_ _;go_wp2;go_roundw
        case rel=>exact⟨p+1+1,by omega,by go_num,λj hj=>by
         by_cases e:j=p+1
         · subst e;rw [HR4.out,Nat.add_sub_cancel,hv];simp
         · exact hall2 j (by omega),AA hb2 (AA hb3 jH)⟩
        case measure=>simp [VQ];omega
    ·
     obtain rfl:k=r:=by omega
     go_wp2;go_ret
     exact⟨AN (by rw [HT.out,Ak hall2]),B4⟩
theorem Cj{n:Nat}{p:Nat->Bool}:allN n p=true↔∀ j,j<n->p j=true:=by
 refine⟨λh j hj=>?_,Ak⟩;rcases hq:p j
 · rw [Am hj hq] at h;cases h
 · rfl
def Gr(o m:Int)(s:ByteArray):Bool:=Aa o m s || (o == 1 && decide (s.size=0))
def GY(m:Nat)(I:Nat->Itm)(n:Nat)(C:Nat->Clm):Bool:=allN m (λj=>Gr (I j).o (I j).m (I j).s) && BA m n I C
def Gw(C:Nat->Clm)(r:Nat)(R:Nat->Nat->Itm):Bool:=if (C 0).t == 1 then allN r (PC R) else allN r (PB R)
def En(s:ByteArray)(n:Nat)(C:Nat->Clm)(r:Nat)(m:Nat->Nat)(R:Nat->Nat->Itm):Bool:=
 AM s && (Bn n 1 20 && allN n (λj=>BI (C j).s (C j).t)) && DW C n && decide (r<=1000) && allN r (λi=>GY (m i) (R i) n C) && Gw C r R
theorem N4{a b:ByteArray}(h:b.size=0):Va a.toList b.toList=false:=by
 rw [(BY b).2 h];cases a.toList <;> rfl
theorem DK{o m:Int}{s:ByteArray}{t:Int}(ht:C9 t=true):BB o m s t=(Gr o m s && o == t):=by
 unfold C9 at ht;simp only [Bool.or_eq_true,beq_iff_eq] at ht
 unfold BB Gr Aa;rcases ht with rfl | rfl
 ·
  by_cases e:o=1
  · subst e;rcases hs:decide (s.size=0) <;> rcases hm:C0 m <;> simp
  ·
   rw [show (o == 1)=false from by simpa using e]
   simp
 ·
  by_cases e:o=2
  · subst e;simp
  ·
   rw [show (o == 2)=false from by simpa using e]
   simp
theorem Na{n:Nat}{C:Nat->Clm}{r:Nat}{m:Nat->Nat}{R:Nat->Nat->Itm}(h0:0<n)(hT:∀ j,j<n->C9 (C j).t=true) :
 allN r (A5 n C m R)=(allN r (λi=>GY (m i) (R i) n C) && Gw C r R):=by
 rw [Bool.eq_iff_iff];simp only [VO,Cj]
 have key:∀ i,(GY (m i) (R i) n C=true↔m i=n/\∀ j,j<m i->BB (R i j).o (R i j).m (R i j).s (C j).t=true):=λi=>by
  unfold GY BA;simp only [VO,Cj,decide_eq_true_eq]
  constructor
  · rintro ⟨h1,h2,h3⟩;refine⟨h2,λj hj=>?_⟩;rw [DK (hT j (by omega)),h1 j hj,h3 j hj];rfl
  ·
   rintro ⟨h2,h1⟩;refine⟨λj hj=>?_,h2,λj hj=>?_⟩
   · have:=h1 j hj;rw [DK (hT j (by omega)),VO] at this;exact this.1
   · have:=h1 j hj;rw [DK (hT j (by omega)),VO] at this;exact this.2
 have ord:(∀ i,i<r->m i=n/\∀ j,j<m i->BB (R i j).o (R i j).m (R i j).s (C j).t=true)->∀ i,i<r ->
  ((decide (i=0) || DJ (R (i - 1) 0).m (R (i - 1) 0).s (R i 0).m (R i 0).s)=if (C 0).t == 1 then PC R i else PB R i):=λhall i hi=>by
  by_cases e:i=0
  · subst e;simp [PC,PB]
  ·
   obtain⟨a1,a2⟩:=hall i hi;obtain⟨b1,b2⟩:=hall (i - 1) (by omega);have a3:=a2 0 (by omega);have b3:=b2 0 (by omega);have ht:=hT 0 h0;unfold C9 at ht;simp only [Bool.or_eq_true,beq_iff_eq] at ht
   unfold PC PB DJ;rw [decide_eq_false e,Bool.false_or,Bool.false_or,Bool.false_or];rcases ht with ht | ht
   ·
    rw [ht] at a3 b3 ⊢;unfold BB at a3 b3;simp at a3 b3
    rw [N4 (by rw [a3.2];rfl)];simp
   ·
    rw [ht] at a3 b3 ⊢;unfold BB at a3 b3;simp at a3 b3
    rw [a3.2.1,b3.2.1];simp
 have hrow:∀ i,(A5 n C m R i=true↔(m i=n/\∀ j,j<m i->BB (R i j).o (R i j).m (R i j).s (C j).t=true)/\(decide (i=0) || DJ (R (i - 1) 0).m (R (i - 1) 0).s (R i 0).m (R i 0).s)=true):=λi=>by
  unfold A5;rw [VO,VO,decide_eq_true_eq,Cj]
 have hsort:Gw C r R=true↔∀ i,i<r->(if (C 0).t == 1 then PC R i else PB R i)=true:=by
  unfold Gw;split
  · rw [Cj]
  · rw [Cj]
 rw [hsort];constructor
 · intro h;have h1:∀ i,i<r->m i=n/\∀ j,j<m i->BB (R i j).o (R i j).m (R i j).s (C j).t=true:=λi hi=>((hrow i).1 (h i hi)).1;exact⟨λi hi=>(key i).2 (h1 i hi),λi hi=>by rw [←ord h1 i hi];exact((hrow i).1 (h i hi)).2⟩
 · rintro ⟨h1,h2⟩ i hi;have h3:∀ i,i<r->m i=n/\∀ j,j<m i->BB (R i j).o (R i j).m (R i j).s (C j).t=true:=λi hi=>(key i).1 (h1 i hi);exact(hrow i).2 ⟨h3 i hi,by rw [ord h3 i hi];exact h2 i hi⟩
theorem KY(C:Nat->Clm)(n:Nat):allN n (BJ C)=(allN n (λj=>BI (C j).s (C j).t) && DW C n):=by
 unfold DW;rw [Bool.eq_iff_iff];simp only [VO,Cj]
 constructor
 ·
  intro h;refine⟨λj hj=>?_,λj hj=>?_⟩
  · have:=h j hj;unfold BJ at this;rw [VO] at this;exact this.1
  · have:=h j hj;unfold BJ at this;rw [VO] at this;exact this.2
 · rintro ⟨h1,h2⟩ j hj;unfold BJ;rw [VO];exact⟨h1 j hj,h2 j hj⟩
theorem LW(s:ByteArray)(n:Nat)(C:Nat->Clm)(r:Nat)(m:Nat->Nat)(R:Nat->Nat->Itm):En s n C r m R=Bk s n C r m R:=by
 unfold En Bk;rw [KY];rcases h1:AM s
 · rfl
 rcases h2:Bn (n:Int) 1 20
 · rfl
 rcases h3:allN n (λj=>BI (C j).s (C j).t)
 · simp
 rcases h4:DW C n
 · simp
 have h0:0<n:=by
  unfold Bn at h2;simp at h2
  omega
 rw [Na h0 (λj hj=>by
  have:=Cj.1 h3 j hj;unfold BI at this;rw [VO] at this;exact this.2)]
 rcases decide (r<=1000) <;> simp
