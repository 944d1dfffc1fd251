import Derived.Test.YtfnfdllflgmhnaaGreatDoorVl
import Derived.Test.YtfnfdllflgmhnaaGreatDoorRy
import Derived.RegionCalls
open Bool renaming and_eq_true → XV
open Go renaming Calls → XR, World → ο, bodyPost_ret → XL, heap_alloc_new → η, results_tmp2 → Xg, wpAnyH_done → XW, wp_region_held_drew → XO, cell_of_row → ε, Value → XU, frozen_of_row → ζ, heap_setCell_same → π
open Go.Ending renaming returned → ρ
open Go.Ground renaming data → φ, phase → ξ
open Go.IntKind renaming i64 → κ
open Go.Obj renaming cells → γ
open Go.Operand renaming tmp → δ
open Go.Proofs.Tryz renaming prog → μ
open Go.RowKit renaming Below → υ, intOf → XX
open Go.RowKit.Below renaming refl → Xa
open Go.Value renaming agg → χ, bool → β, int → ι, slice → σ, string → τ, tuple → θ
open Go.World renaming size_alloc → ω
open Nat renaming not_lt_zero → Xj
open Option renaming none → ν, some → ς
open Or renaming inl → Xc, inr → Xi
namespace Go.Proofs.YtfnfdllflgmhnaaGreatDoor
open Go.RowKit Go.Maps Go.WideMaps
set_option maxRecDepth 20000
set_option maxHeartbeats 16000000
theorem K5{d:Td}(h:D9 d=true):∀ k,k<d.r->Er d.n d.C (d.R k):=λk hk j hj=>by
 obtain⟨-,-,-,-,h5,h6⟩:=Ft h;have h1:=h6 k hk;have h2:=(Cd h).txt k hk j hj;unfold A9 at h1;simp only [XV,decide_eq_true_eq] at h1
 have h3:=Cw h1.1.2 (j:=j) (by omega);have h4:=Cw h5 hj;simp only [BU,XV,beq_iff_eq] at h3
 simp only [BS,XV] at h4
 have h7:=h4.1.2;simp only [DR,Bool.or_eq_true,beq_iff_eq] at h7
 refine⟨h2,?_,h3.1⟩;unfold CU;rcases h7 with e | e
 ·
  left
  rw [e] at h3;simp only [if_true,decide_eq_true_eq] at h3
  exact⟨h3.1,by
   have:=h3.2;rcases hs:(d.R k j).s with ⟨⟨L⟩⟩
   rw [hs] at this;cases L
   · rfl
   · simp [ByteArray.size] at this⟩
 ·
  right
  rw [e] at h3;simp at h3
  exact⟨h3.1,h3.2.1⟩
theorem Rr{n:Nat}{T:Nat->Td}{D:St}(hk:D.k=5)(h1:CT n T=true)(h2:AL D=true):(¬(Iw n T D).2=0->Bg n T D=([],(Iw n T D).2))/\((Iw n T D).2=0->∃ j,j<n/\Bn T D.tb n=ς j/\(Iw n T D).1=(j:Int)/\Bg n T D=GG (T j).C (T j).n (T j).R D.W D.n6 D.m7 D.O D.n7 (T j).r/\GE (T j).C (T j).n D.m7 D.O D.n7=0/\EO (T j).C (T j).n D.W D.n6=0):=by
 have hap:(E0 n T D).2=(Iw n T D).2:=by
  unfold E0 Iw;rw [h1,h2,if_neg (by simp),if_neg (by simp),if_neg (by omega)];rcases Bn T D.tb n with _ | j
  · rfl
  ·
   simp only
   rw [if_neg (by omega),if_neg (by omega),if_neg (by omega)]
 refine⟨λh=>?_,λh=>?_⟩
 · unfold Bg;rw [if_neg (by simpa using hk),hap,if_pos h]
 · obtain⟨j,e1,e2,-,-,e3,e4⟩:=I2 hk (hap.trans h);refine⟨j,e2,e1,by unfold Iw;rw [e1],?_,e3,e4⟩;unfold Bg GG;rw [if_neg (by simpa using hk),hap,if_neg (by simpa using h),e1]
theorem Lc{n:Nat}{T:Nat->Td}{D:St}(h:¬D.k=5∨CT n T=false∨AL D=false):Bg n T D=([],7):=by
 unfold Bg;by_cases hk:D.k=5
 ·
  have:(E0 n T D).2=7:=by
   unfold E0;by_cases h1:CT n T=false
   · rw [if_pos h1]
   · rw [if_neg h1,if_pos (by rcases h with h | h | h;exact absurd hk h;exact absurd h h1;exact h)]
  rw [if_neg (by simpa using hk),this,if_pos (by omega)]
 · rw [if_pos hk]
theorem Pj(a:Option Addr)(n c:Nat)(T:Nat->Td)(k0:Int)(tb:ByteArray)(a2:Option Addr)(n2 c2:Nat)(a3:Option Addr)(n3 c3:Nat)(col:ByteArray)(a5:Option Addr)(n5 c5:Nat)(a6:Option Addr)(n6 c6:Nat)(a7:Option Addr)(n7 c7:Nat)(C:Nat->Clm)(V E W:Nat->Itm)(m7:Nat->Nat)(O:Nat->Nat->Itm)(D:St)(hD:(⟨k0,tb,n2,C,n3,V,col,n5,E,n6,W,n7,m7,O⟩:St)=D)(w:ο)(hSp:SpT w)(hT:TL w a n T)(hS:SM w ⟨k0,tb,n2,C,n3,V,col,n5,E,n6,W,n7,m7,O⟩ ⟨a2,c2,a3,c3,a5,c5,a6,c6,a7,c7⟩)(hn:n<=1048576) :
 XR μ 25 #[χ #[σ a n c],χ #[ι κ k0,τ tb,σ a2 n2 c2,σ a3 n3 c3,τ col,σ a5 n5 c5,σ a6 n6 c6,σ a7 n7 c7]] w (WV w (Bg n T D).1 (Bg n T D).2):=by
 by_cases hk:k0=5
 rotate_left
 ·
  have HA:Hid (Bg n T D=([],7)):=Lc (Xc (by rw [←hD];exact hk));have n5_:(k0 != 5)=true:=by simpa using hk
  have hbU:υ w.heap.size w ((w.alloc (γ #[σ a n c] 45)).alloc (γ #[ι κ k0,τ tb,σ a2 n2 c2,σ a3 n3 c3,τ col,σ a5 n5 c5,σ a6 n6 c6,σ a7 n7 c7] 64)):=AA (AE _ _) (AE _ _);clear hk;go_enter Tryz.func25,Tryz.ntmps25
  go_wp2;refine XL (Xg rfl _ _ _) rfl ?_;rw [HA.out];exact⟨_,_,rfl,λk hk=>absurd hk (Xj k),Xc rfl,AA hbU (AE _ _)⟩
 subst hk;have hbU:υ w.heap.size w ((w.alloc (γ #[σ a n c] 45)).alloc (γ #[ι κ 5,τ tb,σ a2 n2 c2,σ a3 n3 c3,τ col,σ a5 n5 c5,σ a6 n6 c6,σ a7 n7 c7] 64)):=AA (AE _ _) (AE _ _);have hq0:((w.alloc (γ #[σ a n c] 45)).alloc (γ #[ι κ 5,τ tb,σ a2 n2 c2,σ a3 n3 c3,τ col,σ a5 n5 c5,σ a6 n6 c6,σ a7 n7 c7] 64)).heap[w.heap.size]?=ς (γ #[σ a n c] 45 (0,0)):=AC (η w _) (AE _ _);have hq1:((w.alloc (γ #[σ a n c] 45)).alloc (γ #[ι κ 5,τ tb,σ a2 n2 c2,σ a3 n3 c3,τ col,σ a5 n5 c5,σ a6 n6 c6,σ a7 n7 c7] 64)).heap[w.heap.size+1]?=ς (γ #[ι κ 5,τ tb,σ a2 n2 c2,σ a3 n3 c3,τ col,σ a5 n5 c5,σ a6 n6 c6,σ a7 n7 c7] 64 (0,0)):=by
  have q:=η (w.alloc (γ #[σ a n c] 45)) (γ #[ι κ 5,τ tb,σ a2 n2 c2,σ a3 n3 c3,τ col,σ a5 n5 c5,σ a6 n6 c6,σ a7 n7 c7] 64);rw [ω] at q;exact q
 obtain⟨p0,-⟩:=AN hq0;obtain⟨b0_,b1_,b2_,b3_,b4_,b5_,b6_,b7_⟩:=Ak hq1;have HDB:=XJ a n c T _ (hSp.later hbU) (hT.later hbU) hn;rcases hdb:CT n T with _ | _
 ·
  have HA:Hid (Bg n T D=([],7)):=Lc (Xi (Xc hdb));rw [hdb] at HDB;clear hdb;go_enter Tryz.func25,Tryz.ntmps25
  go_wp2_with (go_at_call 53;refine HDB.mono ?_;rintro e w1 ⟨rfl,hb1⟩)
  refine XL (Xg rfl _ _ _) rfl ?_;rw [HA.out];exact⟨_,_,rfl,λk hk=>absurd hk (Xj k),Xc rfl,AA hbU (AA hb1 (AE _ _))⟩
 rw [hdb] at HDB;have HDBK:Hid (CT n T=true):=hdb;clear hdb;have HST:Hid (∀ W',υ w.heap.size w W'->XR μ 54 #[χ #[ι κ 5,τ tb,σ a2 n2 c2,σ a3 n3 c3,τ col,σ a5 n5 c5,σ a6 n6 c6,σ a7 n7 c7]] W' λe w'=>e=ρ (β (AL D))/\υ W'.heap.size W' w'):=λW' h=>RX tb n2 C n3 V col n5 E n6 W n7 m7 O a2 c2 a3 c3 a5 c5 a6 c6 a7 c7 D hD W' (hS.later h) (hSp.later h);rcases hst:AL D with _ | _
 ·
  have HA:Hid (Bg n T D=([],7)):=Lc (Xi (Xi hst));have HST2:Hid (∀ W',υ w.heap.size w W'->XR μ 54 #[χ #[ι κ 5,τ tb,σ a2 n2 c2,σ a3 n3 c3,τ col,σ a5 n5 c5,σ a6 n6 c6,σ a7 n7 c7]] W' λe w'=>e=ρ (β false)/\υ W'.heap.size W' w'):=by rw [←hst];exact HST
  clear hst HST;go_enter Tryz.func25,Tryz.ntmps25
  go_wp2_with (first | (go_at_call 54;refine(HST2.out _ (AA hbU hb1)).mono ?_;rintro e w2 ⟨rfl,hb2⟩) | (go_at_call 53;refine HDB.mono ?_;rintro e w1 ⟨rfl,hb1⟩;obtain⟨b0,b1,b2,b3,b4,b5,b6,b7⟩:=Ak (AC hq1 hb1)))
  refine XL (Xg rfl _ _ _) rfl ?_;rw [HA.out];exact⟨_,_,rfl,λk hk=>absurd hk (Xj k),Xc rfl,AA hbU (AA hb1 (AA hb2 (AE _ _)))⟩
 have HST2:Hid (∀ W',υ w.heap.size w W'->XR μ 54 #[χ #[ι κ 5,τ tb,σ a2 n2 c2,σ a3 n3 c3,τ col,σ a5 n5 c5,σ a6 n6 c6,σ a7 n7 c7]] W' λe w'=>e=ρ (β true)/\υ W'.heap.size W' w'):=by rw [←hst];exact HST
 have HSTK:Hid (AL D=true):=hst;clear HST hst;obtain⟨hA1,hA2⟩:=Rr (D:=D) (by rw [←hD]) HDBK.out HSTK.out;have HCE:Hid (∀ W',υ w.heap.size w W'->XR μ 55 #[χ #[σ a n c],χ #[ι κ 5,τ tb,σ a2 n2 c2,σ a3 n3 c3,τ col,σ a5 n5 c5,σ a6 n6 c6,σ a7 n7 c7]] W' λe w'=>e=ρ (θ #[ι κ (Iw n T D).1,ι κ (Iw n T D).2])/\υ W'.heap.size W' w'):=λW' h=>by
  have:=LB a n c T tb a2 n2 c2 a3 n3 c3 col a5 n5 c5 a6 n6 c6 a7 n7 c7 C V E W m7 O W' (hT.later h) (hS.later h) hn HDBK.out (by rw [hD];exact HSTK.out);rw [hD] at this;exact this
 obtain⟨x,y,hxy⟩:∃ x y,Iw n T D=(x,y):=⟨_,_,rfl⟩;rw [hxy] at hA1 hA2 HCE;simp only at hA1 hA2 HCE
 clear hxy;by_cases hy:y=0
 rotate_left
 ·
  have HA:Hid (Bg n T D=([],y)):=hA1 hy;have ny:(y != 0)=true:=by simpa using hy
  clear hA1 hA2 hy;go_enter Tryz.func25,Tryz.ntmps25
  go_wp2_with (first | (go_at_call 55;refine(HCE.out _ (AA hbU (AA hb1 hb2))).mono ?_;rintro e w3 ⟨rfl,hb3⟩) | (go_at_call 54;refine(HST2.out _ (AA hbU hb1)).mono ?_;rintro e w2 ⟨rfl,hb2⟩;obtain⟨d0_,-⟩:=AN (AC (AC hq0 hb1) hb2);obtain⟨e0,e1,e2,e3,e4,e5,e6,e7⟩:=Ak (AC (AC hq1 hb1) hb2)) | (go_at_call 53;refine HDB.mono ?_;rintro e w1 ⟨rfl,hb1⟩;obtain⟨b0,b1,b2,b3,b4,b5,b6,b7⟩:=Ak (AC hq1 hb1)))
  refine XL (Xg rfl _ _ _) rfl ?_;rw [HA.out];exact⟨_,_,rfl,λk hk=>absurd hk (Xj k),Xc rfl,AA hbU (AA hb1 (AA hb2 (AA hb3 (AE _ _))))⟩
 subst hy;obtain⟨j,hj,-,rfl,hA,hso,hcw⟩:=hA2 rfl;clear hA1;have hokj:=(DO HDBK.out).2 j hj;have hdj:=IQ hokj;have hNj:=Cd hokj;have hGj:=K5 hokj;obtain⟨-,-,h7c,h7d⟩:=Ja HSTK.out (by rw [←hD]);obtain⟨ds,dn,dC,dr,dm,dR,hTj⟩:∃ ds dn dC dr dm dR,T j=⟨ds,dn,dC,dr,dm,dR⟩:=⟨_,_,_,_,_,_,rfl⟩;have HTJ:Hid (T j=⟨ds,dn,dC,dr,dm,dR⟩):=hTj;rw [hTj] at hdj hNj hGj hA hso hcw;rw [←hD] at h7c h7d hA hso hcw;simp only at hdj hNj hGj hA hso hcw h7c h7d
 rw [hD] at hA;have HA:Hid (Bg n T D=GG dC dn dR W n6 m7 O n7 dr):=hA;have HDJ:Hid (∀ k,k<dn->Ah dC (dC k).s k=false):=hdj;have HWH:Hid (AR W n6=true/\EO dC dn W n6=0):=⟨h7d,hcw⟩;have HEX:Hid (∀ i,i<n7->Ag (O i) (m7 i)=true/\(ck dC dn (O i) (m7 i)).2=0):=λi hi=>⟨h7c i hi,Hl (I0 hso i hi)⟩;have HN:Hid (Nice dn dr dm dR):=hNj;have HG:Hid (∀ k,k<dr->Er dn dC (dR k)):=hGj;have hn1:=hNj.n1;clear hTj hdj hNj hGj hA hso hcw h7c h7d hokj;have hjn:(j:Int)<n:=by omega
 have hj0:(0:Int)<=j:=by omega
 obtain⟨bt,offt,ac,cc,ar,cr,rfl,e0,e1,e2,hC,hR,-⟩:=hT j hj;rw [HTJ.out] at e0 e1 e2 hC hR;simp only at e0 e1 e2 hC hR
 go_enter Tryz.func25,Tryz.ntmps25
 go_upto_region 7 with (first | (go_at_call 55;refine(HCE.out _ (AA hbU (AA hb1 hb2'))).mono ?_;rintro e w2 ⟨rfl,hb2⟩;have t0:=AB (AA hbU (AA hb1 (AA hb2' hb2))) e0;have t1:=AB (AA hbU (AA hb1 (AA hb2' hb2))) e1;have t2:=AB (AA hbU (AA hb1 (AA hb2' hb2))) e2;obtain⟨g0_,-⟩:=AN (AC (AC (AC hq0 hb1) hb2') hb2)) | (go_at_call 54;refine(HST2.out _ (AA hbU hb1)).mono ?_;rintro e w2' ⟨rfl,hb2'⟩;obtain⟨d0_,-⟩:=AN (AC (AC hq0 hb1) hb2');obtain⟨f0,f1,f2,f3,f4,f5,f6,f7⟩:=Ak (AC (AC hq1 hb1) hb2')) | (go_at_call 53;refine HDB.mono ?_;rintro e w1 ⟨rfl,hb1⟩;obtain⟨b0,b1,b2,b3,b4,b5,b6,b7⟩:=Ak (AC hq1 hb1)))
 have hqT:(w2.alloc (γ #[τ ds,σ ac dn cc,σ ar dr cr] 100)).heap[w2.heap.size]?=ς (γ #[τ ds,σ ac dn cc,σ ar dr cr] 100 (0,0)):=η w2 _;have hbT:υ w2.heap.size w2 (w2.alloc (γ #[τ ds,σ ac dn cc,σ ar dr cr] 100)):=AE w2 _;have hb3:=AA hbU (AA hb1 (AA hb2' (AA hb2 hbT)));have r1:=AC (AC (AC (AC hq1 hb1) hb2') hb2) hbT;generalize (w2.alloc (γ #[τ ds,σ ac dn cc,σ ar dr cr] 100))=w3 at hqT hbT hb3 r1 ⊢;have hC3:=hC.later hb3;have hR3:=hR.later hb3;have hs3:=hb3.size;clear hbT;refine XO (S:=λx=>υ w3.heap.size w3 x) (by kernel_rfl) (CE _) (λjH=>?_);refine tk 0 (⟨ς 38,.fieldAddr 100 (δ 8) 1,0,"l5_replay.go:70",#[],ν⟩:Oper) (λx jS=>by go_simp<;>rfl) jH ?_
 try simp only [zS]
 refine tk 1 (⟨ς 39,.load 59 (δ 38),59,"l5_replay.go:70",#[⟨0,φ⟩],ν⟩:Oper) (λx jS=>by obtain⟨k0_,k1_,k2_,-⟩:=AX (AC hqT jS);obtain⟨j0_,j1_,j2_,j3_,j4_,j5_,j6_,j7_⟩:=Ak (AC r1 jS);go_simp<;>rfl) jH ?_
 try simp only [zS]
 refine tk 3 (⟨ς 41,.fieldAddr 100 (δ 8) 2,0,"l5_replay.go:70",#[],ν⟩:Oper) (λx jS=>by go_simp<;>rfl) jH ?_
 try simp only [zS]
 refine tk 4 (⟨ς 42,.load 36 (δ 41),36,"l5_replay.go:70",#[⟨3,φ⟩],ν⟩:Oper) (λx jS=>by obtain⟨k0_,k1_,k2_,-⟩:=AX (AC hqT jS);obtain⟨j0_,j1_,j2_,j3_,j4_,j5_,j6_,j7_⟩:=Ak (AC r1 jS);go_simp<;>rfl) jH ?_
 try simp only [zS]
 refine tk 5 (⟨ς 43,.load 64 (δ 3),64,"l5_replay.go:70",#[],ν⟩:Oper) (λx jS=>by obtain⟨k0_,k1_,k2_,-⟩:=AX (AC hqT jS);obtain⟨j0_,j1_,j2_,j3_,j4_,j5_,j6_,j7_⟩:=Ak (AC r1 jS);go_simp<;>rfl) jH ?_
 try simp only [zS]
 refine rd 2 (⟨ς 40,.call ⟨.value (.func 56),#[δ 39],#[59]⟩,117,"l5_replay.go:70",#[⟨1,φ⟩],ν⟩:Oper) (λK hK=>?_);go_simp;refine(JF ac dn cc dC _ (hC3.later jH) hn1).mono ?_;rintro e w4 ⟨rfl,hP4,hb4⟩;have hH4:=AA jH hb4;refine hK.out _ _ (hH4) (λjH=>?_);clear hK K;try simp only [zS]
 refine rd 6 (⟨ς 44,.call ⟨.value (.func 57),#[δ 40,δ 42,δ 43],#[117,36,64]⟩,67,"l5_replay.go:70",#[⟨2,φ⟩,⟨4,φ⟩,⟨5,φ⟩,⟨2,.chain⟩],ν⟩:Oper) (λK hK=>?_);go_simp;refine(Ps ac dn cc dC _ ar dr cr dm dR 5 tb a2 n2 c2 a3 n3 c3 col a5 n5 c5 a6 n6 c6 a7 n7 c7 W m7 O _ hP4 HDJ.out (hR3.later jH) (hS.wh.later (AA hb3 jH)) (hS.ou.later (AA hb3 jH)) HWH.out.1 HWH.out.2 HEX.out HN.out HG.out hS.l7).mono ?_;rintro e w5 ⟨a5_,c5_,rfl,hOD,hAp,hb5⟩;have hH5:=AA jH hb5;have hsH:=jH.size;refine hK.out _ _ (hH5) (λjH=>?_);clear hK K;try simp only [zS]
 refine tk 7 (⟨ς 45,.extract (δ 44) 0,36,"l5_replay.go:70",#[⟨6,φ⟩],ν⟩:Oper) (λx jS=>by go_simp<;>rfl) jH ?_
 try simp only [zS]
 refine tk 8 (⟨ς 46,.extract (δ 44) 1,3,"l5_replay.go:70",#[⟨6,φ⟩],ν⟩:Oper) (λx jS=>by go_simp<;>rfl) jH ?_
 try simp only [zS]
 refine tk 9 (⟨ς 4,.assign (δ 45),36,"l5_replay.go:70",#[⟨7,φ⟩,⟨6,.chain⟩,⟨0,ξ⟩,⟨1,ξ⟩,⟨2,ξ⟩,⟨3,ξ⟩,⟨4,ξ⟩,⟨5,ξ⟩,⟨6,ξ⟩,⟨7,ξ⟩,⟨8,ξ⟩],ν⟩:Oper) (λx jS=>by go_simp<;>rfl) jH ?_
 try simp only [zS]
 refine tk 10 (⟨ς 5,.assign (δ 46),3,"l5_replay.go:70",#[⟨8,φ⟩,⟨9,.chain⟩,⟨0,ξ⟩,⟨1,ξ⟩,⟨2,ξ⟩,⟨3,ξ⟩,⟨4,ξ⟩,⟨5,ξ⟩,⟨6,ξ⟩,⟨7,ξ⟩,⟨8,ξ⟩,⟨9,ξ⟩],ν⟩:Oper) (λx jS=>by go_simp<;>rfl) jH ?_
 try simp only [zS]
 refine XW (by kernel_rfl) ?_ _;go_wp2;refine XL (Xg rfl _ _ _) rfl ?_;rw [HA.out];exact⟨_,_,rfl,hOD.wide (λb h=>by omega),hAp.later (Xa _ _) (by omega),AA hb3 jH⟩
set_option maxHeartbeats 1000000
theorem T9(b:UInt8)(x:ByteArray):((⟨#[b]⟩:ByteArray) ++ x).size=x.size+1:=by
 have:(⟨#[b]⟩:ByteArray).size=1:=rfl;rw [ByteArray.size_append];omega
def FU:Nat->Nat->ByteArray->ByteArray
 | 0,_,acc=>acc
 | f+1,i,acc=>if i=0 then acc else FU f (i / 10) (⟨#[UInt8.ofNat (48+i % 10)]⟩ ++ acc)
theorem Nk(f:Nat)(acc:ByteArray):FU f 0 acc=acc:=by cases f <;> simp [FU]
theorem Nm(f i:Nat)(acc:ByteArray)(h:i<10 ^ f):FU (f+1) i acc=FU f i acc:=by
 induction f generalizing i acc with
 | zero=>
  have:i=0:=by simpa using h
  subst this;simp [FU]
 | succ f ih=>
  by_cases hi:i=0
  · subst hi;simp [FU]
  ·
   have h':i / 10<10 ^ f:=by rw [Nat.pow_succ] at h;omega
   have e1:FU (f+1+1) i acc=FU (f+1) (i / 10) (⟨#[UInt8.ofNat (48+i % 10)]⟩ ++ acc):=by simp [FU,hi]
   have e2:FU (f+1) i acc=FU f (i / 10) (⟨#[UInt8.ofNat (48+i % 10)]⟩ ++ acc):=by simp [FU,hi]
   rw [e1,e2,ih _ _ h']
def FJ(i:Nat):ByteArray:=⟨#[109]⟩ ++ FU 20 i ⟨#[]⟩
theorem Nl(i:Nat)(acc:ByteArray)(h0:0<i)(h:i<9200000000000000000):FU 20 i acc=FU 20 (i / 10) (⟨#[UInt8.ofNat (48+i % 10)]⟩ ++ acc):=by
 have e:FU 20 i acc=FU 19 (i / 10) (⟨#[UInt8.ofNat (48+i % 10)]⟩ ++ acc):=by
  rw [FU,if_neg (by omega)]
 rw [e,Nm 19 _ _ (by omega)]
theorem WQ(w:ο)(x:Int)(hx:48<=x)(hx2:x<=57) :
 (convert 183 9 (σ (ς ⟨w.heap.size,0,ν⟩) 1 1)).run μ (w.alloc (γ #[ι .u8 x] 5))=.ok (τ ⟨#[UInt8.ofNat x.toNat]⟩) (w.alloc (γ #[ι .u8 x] 5)):=by
 refine run_convert_bytes_back _ 183 9 5 ⟨w.heap.size,0,ν⟩ _ [UInt8.ofNat x.toNat] Tryz.underlying183 Tryz.underlying5 Tryz.underlying9 ?_;intro j hj;obtain rfl:j=0:=by simpa using hj
 have hadd:(⟨w.heap.size,0,ν⟩:Addr).add 0=⟨w.heap.size,0,ν⟩:=rfl;rw [hadd,ε _ _ 0 _ 5 _ (η w _)];have:((UInt8.ofNat x.toNat).toNat:Int)=x:=by simp;omega
 have e2:(List.toArray [ι .u8 x])[0]?=ς (ι .u8 x):=rfl;simp only [List.length_cons,List.length_nil] at hj
 show ς (ι .u8 x)=ς (ι .u8 ((UInt8.ofNat x.toNat).toNat:Int))
 rw [this]
theorem HJ(i:Nat)(w:ο)(h0:0<i)(h1:i<9200000000000000000)(y:ByteArray)(hy:FJ i=y) :
 XR μ 62 #[ι κ i] w λe w'=>e=ρ (τ y)/\υ w.heap.size w w':=by
 have HY:Hid (FJ i=y):=hy;clear hy;have hd0:decide (i=0)=false:=by simpa using (by omega:¬i=0)
 go_enter Tryz.func62,Tryz.ntmps62
 go_wp2;go_loopw [0,3] (λx s wr=>∃ (j:Nat) (acc:ByteArray),acc.size+j<=9200000000000000000/\j<9200000000000000000/\x=ι κ j/\s=τ acc/\FU 20 j acc=FU 20 i ⟨#[]⟩/\υ w.heap.size w wr) (λx _ _=>(XX x).toNat)
 case atStart=>exact⟨i,⟨#[]⟩,(show 0+i<=9200000000000000000 by omega),h1,rfl,rfl,rfl,Xa _ _⟩
 case round=>
  obtain⟨j,acc,hsz,hj,rfl,rfl,hd,hb⟩:=hrel;have HD:Hid (FU 20 j acc=FU 20 i ⟨#[]⟩):=hd;clear hd;by_cases hlt:0<j
  ·
   have HS:Hid (FU 20 j acc=FU 20 (j / 10) (⟨#[UInt8.ofNat (48+j % 10)]⟩ ++ acc)):=Nl j acc hlt hj;have hx1:(48:Int)<=48+(j:Int) % 10:=by omega
   have hx2:48+(j:Int) % 10<=57:=by omega
   have hcv:=WQ wr (48+(j:Int) % 10) hx1 hx2;have e:(48+(j:Int) % 10).toNat=48+j % 10:=by omega
   rw [e] at hcv;have hw8:IntKind.u8.wrap (48+(j:Int) % 10)=48+(j:Int) % 10:=by rw [IntKind.wrap_u8'];omega
   clear e;obtain⟨c8,hc8⟩:∃ c,UInt8.ofNat (48+j % 10)=c:=⟨_,rfl⟩;rw [hc8] at hcv HS;clear hc8;go_wp2;go_roundw
   case rel=>exact⟨j / 10,_,by have:=T9 c8 acc;omega,by omega,by go_num,rfl,by rw [←HS.out];exact HD.out,hb.alloc hb.size _⟩
   case measure=>simp [XX];omega
  ·
   obtain rfl:j=0:=by omega
   have HE:Hid (⟨#[109]⟩ ++ acc=y):=by show ⟨#[109]⟩ ++ acc=y;rw [←HY.out];unfold FJ;rw [←HD.out,Nk]
   go_wp2;go_ret
   exact⟨by rw [←HE.out];rfl,hb⟩
theorem Br(i:Nat)(w:ο)(z:Int)(hz:z=i)(h0:0<i)(h1:i<9200000000000000000)(y:ByteArray)(hy:FJ i=y) :
 XR μ 62 #[ι κ z] w λe w'=>e=ρ (τ y)/\υ w.heap.size w w':=by
 subst hz;exact HJ i w h0 h1 y hy
set_option maxHeartbeats 8000000
theorem C4{w wr W:ο}{g o:Nat}{v:XU}(h:w.grownBy wr (ς g))(hb:υ wr.heap.size wr W):w.grownBy (W.setCell ⟨g,o,ν⟩ v) (ς g):=
 ⟨hb.os.trans h.os,hb.tape.trans h.tape,hb.output.trans h.output,by have:=hb.size;have:=h.size;simp;omega,λi hi hne=>(heap_setCell_other _ _ _ _ (by simpa using λe=>hne (by rw [e]))).trans ((hb.block i (Nat.lt_of_lt_of_le hi h.size)).trans (h.block i hi hne))⟩
def MC(w:ο)(a:Option Addr)(n k:Nat):Prop:=n=0∨∃ g cur,a=ς ⟨g,0,ν⟩/\w.heap[g]?=ς (γ cur 92 (0,0))/\∀ q,q<n->cur[q * 2]?=ς (τ (FJ (k+2 * q)))/\cur[q * 2+1]?=ς (ι κ ((k+2 * q+1:Nat):Int))
def M3(w:ο)(t:TypeId)(a:Option Addr)(n k:Nat):Prop:=n=0∨∃ g cur,a=ς ⟨g,0,ν⟩/\w.heap[g]?=ς (γ cur t (0,0))/\∀ q,q<n->cur[q * 3]?=ς (ι κ ((k+3 * q:Nat):Int))/\cur[q * 3+1]?=ς (ι κ ((k+3 * q+1:Nat):Int))/\cur[q * 3+2]?=ς (τ (FJ (k+3 * q+2)))
theorem D5{g n:Nat}(h:n≠0):bk (ς ⟨g,0,ν⟩) n=ς g:=by unfold bk;rw [if_neg h];rfl
theorem Kb(a:Option Addr):bk a 0=ν:=rfl
theorem WR.gr{w w':ο}{lo hi:Nat}{t:TypeId}{z:Nat}{a a':Option Addr}{n n':Nat}(h:WR w lo hi t z a n)(hg:w.grownBy w' (bk a' n'))(hd:Dj a n a' n'):WR w' lo hi t z a n:=by
 by_cases e:n=0
 · exact Xc e
 ·
  rcases h with h | ⟨g,cur,rfl,h2,h3,h4,h5⟩
  · exact Xc h
  ·
   rcases hd with hd | hd
   · rw [D5 e] at hd;cases hd
   · rw [D5 e] at hd;exact Xi ⟨g,cur,rfl,h2,h3,Bq h4 hg hd,h5⟩
theorem MC.gr{w w':ο}{a:Option Addr}{n k:Nat}{r:Option Nat}(h:MC w a n k)(hg:w.grownBy w' r)(hd:bk a n=ν∨bk a n≠r):MC w' a n k:=by
 by_cases e:n=0
 · exact Xc e
 ·
  rcases h with h | ⟨g,cur,rfl,h2,h3⟩
  · exact Xc h
  · rw [D5 e] at hd;exact Xi ⟨g,cur,rfl,Bq h2 hg (hd.resolve_left (by simp)),h3⟩
theorem M3.gr{w w':ο}{t:TypeId}{a:Option Addr}{n k:Nat}{r:Option Nat}(h:M3 w t a n k)(hg:w.grownBy w' r)(hd:bk a n=ν∨bk a n≠r):M3 w' t a n k:=by
 by_cases e:n=0
 · exact Xc e
 ·
  rcases h with h | ⟨g,cur,rfl,h2,h3⟩
  · exact Xc h
  · rw [D5 e] at hd;exact Xi ⟨g,cur,rfl,Bq h2 hg (hd.resolve_left (by simp)),h3⟩
theorem MC.later{w w':ο}{a:Option Addr}{n k:Nat}(h:MC w a n k)(hb:υ w.heap.size w w'):MC w' a n k:=by
 rcases h with h | ⟨g,cur,rfl,h2,h3⟩
 · exact Xc h
 · exact Xi ⟨g,cur,rfl,AC h2 hb,h3⟩
theorem M3.later{w w':ο}{t:TypeId}{a:Option Addr}{n k:Nat}(h:M3 w t a n k)(hb:υ w.heap.size w w'):M3 w' t a n k:=by
 rcases h with h | ⟨g,cur,rfl,h2,h3⟩
 · exact Xc h
 · exact Xi ⟨g,cur,rfl,AC h2 hb,h3⟩
theorem IV(g n c z:Nat)(cur0:Array XU)(w:ο)(hg0:w.heap[g]?=ς (γ cur0 92 (0,0)))(hcs:n * 2<=cur0.size)(hz0:0<z)(hz:z+2 * n<9000000000000000000) :
 XR μ 123 #[σ (ς ⟨g,0,ν⟩) n c,ι κ (z:Int)] w λe w'=>e=ρ (ι κ ((z+2 * n:Nat):Int))/\(∃ cur,w'.heap[g]?=ς (γ cur 92 (0,0))/\cur.size=cur0.size/\∀ q,q<n->cur[q * 2]?=ς (τ (FJ (z+2 * q)))/\cur[q * 2+1]?=ς (ι κ ((z+2 * q+1:Nat):Int)))/\w.grownBy w' (ς g):=by
 go_enter Tryz.func123,Tryz.ntmps123
 go_wp2;go_loopw [1,5] (λk i wr=>∃ (j:Nat) (K:Int) (cur:Array XU),k=ι κ K/\K=((z+2 * j:Nat):Int)/\j<=n/\i=ι κ j/\wr.heap[g]?=ς (γ cur 92 (0,0))/\cur.size=cur0.size/\(∀ q,q<j->cur[q * 2]?=ς (τ (FJ (z+2 * q)))/\cur[q * 2+1]?=ς (ι κ ((z+2 * q+1:Nat):Int)))/\w.grownBy wr (ς g)) (λ_ i _=>n - (XX i).toNat)
 case atStart=>exact⟨0,_,cur0,rfl,by omega,by omega,rfl,hg0,rfl,λq hq=>by omega,NX _ _⟩
 case round=>
  obtain⟨j,K,cur,rfl,hK,hj,rfl,hg,hsz,hall,hgr⟩:=hrel;have HK:Hid (K=((z+2 * j:Nat):Int)):=hK;have hK0:0<K:=by omega
  have hK1:K<9000000000000000000:=by omega
  clear hK;have HG:Hid (wr.heap[g]?=ς (γ cur 92 (0,0))):=hg;have HALL:Hid (∀ q,q<j->cur[q * 2]?=ς (τ (FJ (z+2 * q)))/\cur[q * 2+1]?=ς (ι κ ((z+2 * q+1:Nat):Int))):=hall;clear hg hall;by_cases hlt:j<n
  ·
   obtain⟨y0,hy0⟩:∃ y,FJ (z+2 * j)=y:=⟨_,rfl⟩;have HY0:Hid (FJ (z+2 * j)=y0):=hy0;clear hy0;obtain⟨v0,hv0⟩:=there (A:=cur) (k:=j * 2) (by omega);obtain⟨v1,hv1⟩:=there (A:=cur) (k:=j * 2+1) (by omega);have HV:Hid (cur[j * 2]?=ς v0/\cur[j * 2+1]?=ς v1):=⟨hv0,hv1⟩;clear hv0 hv1;go_upto_region 6 with (go_at_call 62;refine(Br (z+2 * j) _ _ (by have:=HK.out;omega) (by omega) (by omega) y0 HY0.out).mono ?_;rintro e u0 ⟨rfl,hb0⟩;have K0:Hid (u0.heap[g]?=ς (γ (cur) 92 (0,0))):=AC HG.out hb0;have c0:u0.cell? ⟨g,j * 2,ν⟩=ς v0:=(ε _ _ _ _ _ _ K0.out).trans (HV.out.1);have f0:u0.frozen? ⟨g,j * 2,ν⟩=false:=ζ _ _ _ _ _ K0.out)
   have HG0:Hid ((u0.setCell ⟨g,j * 2,ν⟩ (τ y0)).heap[g]?=ς (γ (cur.setIfInBounds (j * 2) (τ y0)) 92 (0,0))):=π _ _ _ _ _ _ K0.out;have hgr0:w.grownBy (u0.setCell ⟨g,j * 2,ν⟩ (τ y0)) (ς g):=C4 hgr (hb0);obtain⟨W0,hW0⟩:∃ W,u0.setCell ⟨g,j * 2,ν⟩ (τ y0)=W:=⟨_,rfl⟩;rw [hW0] at HG0 hgr0 ⊢;clear hW0 c0 f0;have c1:W0.cell? ⟨g,j * 2+1,ν⟩=ς v1:=(ε _ _ _ _ _ _ HG0.out).trans (setA (HV.out.2) (by omega));have f1:W0.frozen? ⟨g,j * 2+1,ν⟩=false:=ζ _ _ _ _ _ HG0.out;go_wp2;go_roundw
   case rel=>
    refine⟨j+1,_,_,rfl,by have:=HK.out;omega,by omega,by go_num,π _ _ _ _ _ _ HG0.out,by simpa using hsz,λq hq=>?_,C4 hgr0 (Xa _ _)⟩;by_cases e:q=j
    · subst e;rw [HY0.out];exact⟨setA (Df (by first | omega | (simp only [Array.size_setIfInBounds];omega))) (by omega),(Df (by first | omega | (simp only [Array.size_setIfInBounds];omega))).trans (by rw [show (K+1:Int)=((z+2 * q+1:Nat):Int) from by have:=HK.out;omega])⟩
    · obtain⟨r0,r1⟩:=HALL.out q (by omega);exact⟨setA (setA (r0) (by omega)) (by omega),setA (setA (r1) (by omega)) (by omega)⟩
   case measure=>simp [XX];omega
  ·
   obtain rfl:j=n:=by omega
   go_wp2;go_ret
   exact⟨by rw [HK.out];rfl,⟨cur,HG.out,hsz,HALL.out⟩,hgr⟩
theorem IU(a:Option Addr)(c z:Nat)(w:ο):XR μ 123 #[σ a 0 c,ι κ (z:Int)] w λe w'=>e=ρ (ι κ (z:Int))/\w'=w:=by
 go_enter Tryz.func123,Tryz.ntmps123
 go_wp2;go_loop [1,5] (λk i=>k=ι κ (z:Int)/\i=ι κ 0) (λ_ _=>0)
 case atStart=>exact⟨rfl,rfl⟩
 case round=>
  obtain⟨rfl,rfl⟩:=hrel;go_wp2;go_ret
  exact⟨rfl,rfl⟩
theorem FM(g n c z:Nat)(cur0:Array XU)(w:ο)(hg0:w.heap[g]?=ς (γ cur0 94 (0,0)))(hcs:n * 3<=cur0.size)(hz0:0<z)(hz:z+3 * n<9000000000000000000) :
 XR μ 36 #[σ (ς ⟨g,0,ν⟩) n c,ι κ (z:Int)] w λe w'=>e=ρ (ι κ ((z+3 * n:Nat):Int))/\(∃ cur,w'.heap[g]?=ς (γ cur 94 (0,0))/\cur.size=cur0.size/\∀ q,q<n->cur[q * 3]?=ς (ι κ ((z+3 * q:Nat):Int))/\cur[q * 3+1]?=ς (ι κ ((z+3 * q+1:Nat):Int))/\cur[q * 3+2]?=ς (τ (FJ (z+3 * q+2))))/\w.grownBy w' (ς g):=by
 go_enter Tryz.func36,Tryz.ntmps36
 go_wp2;go_loopw [1,5] (λk i wr=>∃ (j:Nat) (K:Int) (cur:Array XU),k=ι κ K/\K=((z+3 * j:Nat):Int)/\j<=n/\i=ι κ j/\wr.heap[g]?=ς (γ cur 94 (0,0))/\cur.size=cur0.size/\(∀ q,q<j->cur[q * 3]?=ς (ι κ ((z+3 * q:Nat):Int))/\cur[q * 3+1]?=ς (ι κ ((z+3 * q+1:Nat):Int))/\cur[q * 3+2]?=ς (τ (FJ (z+3 * q+2))))/\w.grownBy wr (ς g)) (λ_ i _=>n - (XX i).toNat)
 case atStart=>exact⟨0,_,cur0,rfl,by omega,by omega,rfl,hg0,rfl,λq hq=>by omega,NX _ _⟩
 case round=>
  obtain⟨j,K,cur,rfl,hK,hj,rfl,hg,hsz,hall,hgr⟩:=hrel;have HK:Hid (K=((z+3 * j:Nat):Int)):=hK;have hK0:0<K:=by omega
  have hK1:K<9000000000000000000:=by omega
  clear hK;have HG:Hid (wr.heap[g]?=ς (γ cur 94 (0,0))):=hg;have HALL:Hid (∀ q,q<j->cur[q * 3]?=ς (ι κ ((z+3 * q:Nat):Int))/\cur[q * 3+1]?=ς (ι κ ((z+3 * q+1:Nat):Int))/\cur[q * 3+2]?=ς (τ (FJ (z+3 * q+2)))):=hall;clear hg hall;by_cases hlt:j<n
  ·
   obtain⟨y0,hy0⟩:∃ y,FJ (z+3 * j+2)=y:=⟨_,rfl⟩;have HY0:Hid (FJ (z+3 * j+2)=y0):=hy0;clear hy0;obtain⟨v0,hv0⟩:=there (A:=cur) (k:=j * 3) (by omega);obtain⟨v1,hv1⟩:=there (A:=cur) (k:=j * 3+1) (by omega);obtain⟨v2,hv2⟩:=there (A:=cur) (k:=j * 3+2) (by omega);have HV:Hid (cur[j * 3]?=ς v0/\cur[j * 3+1]?=ς v1/\cur[j * 3+2]?=ς v2):=⟨hv0,hv1,hv2⟩;clear hv0 hv1 hv2;have c0:wr.cell? ⟨g,j * 3,ν⟩=ς v0:=(ε _ _ _ _ _ _ HG.out).trans (HV.out.1);have f0:wr.frozen? ⟨g,j * 3,ν⟩=false:=ζ _ _ _ _ _ HG.out;go_upto_region 6 with (fail)
   have HG0:Hid ((wr.setCell ⟨g,j * 3,ν⟩ (ι κ K)).heap[g]?=ς (γ (cur.setIfInBounds (j * 3) (ι κ K)) 94 (0,0))):=π _ _ _ _ _ _ HG.out;have hgr0:w.grownBy (wr.setCell ⟨g,j * 3,ν⟩ (ι κ K)) (ς g):=C4 hgr (Xa _ _);obtain⟨W0,hW0⟩:∃ W,wr.setCell ⟨g,j * 3,ν⟩ (ι κ K)=W:=⟨_,rfl⟩;rw [hW0] at HG0 hgr0 ⊢;clear hW0 c0 f0;have c1:W0.cell? ⟨g,j * 3+1,ν⟩=ς v1:=(ε _ _ _ _ _ _ HG0.out).trans (setA (HV.out.2.1) (by omega));have f1:W0.frozen? ⟨g,j * 3+1,ν⟩=false:=ζ _ _ _ _ _ HG0.out;go_upto_region 8 with (fail)
   have HG1:Hid ((W0.setCell ⟨g,j * 3+1,ν⟩ (ι κ (K+1))).heap[g]?=ς (γ ((cur.setIfInBounds (j * 3) (ι κ K)).setIfInBounds (j * 3+1) (ι κ (K+1))) 94 (0,0))):=π _ _ _ _ _ _ HG0.out;have hgr1:w.grownBy (W0.setCell ⟨g,j * 3+1,ν⟩ (ι κ (K+1))) (ς g):=C4 hgr0 (Xa _ _);obtain⟨W1,hW1⟩:∃ W,W0.setCell ⟨g,j * 3+1,ν⟩ (ι κ (K+1))=W:=⟨_,rfl⟩;rw [hW1] at HG1 hgr1 ⊢;clear hW1 c1 f1;go_wp2_with (go_at_call 62;refine(Br (z+3 * j+2) _ _ (by have:=HK.out;omega) (by omega) (by omega) y0 HY0.out).mono ?_;rintro e u2 ⟨rfl,hb2⟩;have K2:Hid (u2.heap[g]?=ς (γ ((cur.setIfInBounds (j * 3) (ι κ K)).setIfInBounds (j * 3+1) (ι κ (K+1))) 94 (0,0))):=AC HG1.out hb2;have c2:u2.cell? ⟨g,j * 3+2,ν⟩=ς v2:=(ε _ _ _ _ _ _ K2.out).trans (setA (setA (HV.out.2.2) (by omega)) (by omega));have f2:u2.frozen? ⟨g,j * 3+2,ν⟩=false:=ζ _ _ _ _ _ K2.out)
   go_roundw
   case rel=>
    refine⟨j+1,_,_,rfl,by have:=HK.out;omega,by omega,by go_num,π _ _ _ _ _ _ K2.out,by simpa using hsz,λq hq=>?_,C4 hgr1 (hb2)⟩;by_cases e:q=j
    · subst e;rw [HY0.out];exact⟨setA (setA ((Df (by first | omega | (simp only [Array.size_setIfInBounds];omega))).trans (by rw [show (K:Int)=((z+3 * q:Nat):Int) from by have:=HK.out;omega])) (by omega)) (by omega),setA ((Df (by first | omega | (simp only [Array.size_setIfInBounds];omega))).trans (by rw [show (K+1:Int)=((z+3 * q+1:Nat):Int) from by have:=HK.out;omega])) (by omega),Df (by first | omega | (simp only [Array.size_setIfInBounds];omega))⟩
    · obtain⟨r0,r1,r2⟩:=HALL.out q (by omega);exact⟨setA (setA (setA (r0) (by omega)) (by omega)) (by omega),setA (setA (setA (r1) (by omega)) (by omega)) (by omega),setA (setA (setA (r2) (by omega)) (by omega)) (by omega)⟩
   case measure=>simp [XX];omega
  ·
   obtain rfl:j=n:=by omega
   go_wp2;go_ret
   exact⟨by rw [HK.out];rfl,⟨cur,HG.out,hsz,HALL.out⟩,hgr⟩
theorem FK(a:Option Addr)(c z:Nat)(w:ο):XR μ 36 #[σ a 0 c,ι κ (z:Int)] w λe w'=>e=ρ (ι κ (z:Int))/\w'=w:=by
 go_enter Tryz.func36,Tryz.ntmps36
 go_wp2;go_loop [1,5] (λk i=>k=ι κ (z:Int)/\i=ι κ 0) (λ_ _=>0)
 case atStart=>exact⟨rfl,rfl⟩
 case round=>
  obtain⟨rfl,rfl⟩:=hrel;go_wp2;go_ret
  exact⟨rfl,rfl⟩
theorem S8(lo hi:Nat)(a:Option Addr)(n c z:Nat)(w:ο)(h:WR w lo hi 94 3 a n)(hz0:0<z)(hz:z+3 * n<9000000000000000000) :
 XR μ 36 #[σ a n c,ι κ (z:Int)] w λe w'=>e=ρ (ι κ ((z+3 * n:Nat):Int))/\M3 w' 94 a n z/\w.grownBy w' (bk a n):=by
 by_cases e:n=0
 · subst e;refine(FK a c z w).mono ?_;rintro e w' ⟨rfl,rfl⟩;exact⟨rfl,Xc rfl,NX _ _⟩
 ·
  rcases h with h | ⟨g,cur,rfl,h2,h3,h4,h5⟩
  · exact absurd h e
  · refine(FM g n c z cur w h4 h5 hz0 hz).mono ?_;rintro e' w' ⟨rfl,⟨cur',k1,-,k2⟩,k3⟩;exact⟨rfl,Xi ⟨g,cur',rfl,k1,k2⟩,by rw [D5 e];exact k3⟩
theorem TV(a:Option Addr)(n c z:Nat)(w:ο)(h:M3 w 94 a n z)(hz0:0<z)(hz:z+3 * n<9000000000000000000) :
 XR μ 37 #[σ a n c,ι κ (z:Int)] w λe w'=>e=ρ (ι κ ((z+3 * n:Nat):Int))/\υ w.heap.size w w':=by
 have hb0:=Xa w.heap.size w;go_enter Tryz.func37,Tryz.ntmps37
 go_wp2;go_loopw [1,5] (λk i wr=>∃ (j:Nat) (K:Int),k=ι κ K/\K=((z+3 * j:Nat):Int)/\j<=n/\i=ι κ j/\υ w.heap.size w wr) (λ_ i _=>n - (XX i).toNat)
 case atStart=>exact⟨0,_,rfl,by omega,by omega,rfl,hb0⟩
 case round=>
  obtain⟨j,K,rfl,hK,hj,rfl,hb⟩:=hrel;have HK:Hid (K=((z+3 * j:Nat):Int)):=hK;have hK0:0<K:=by omega
  have hK1:K<9000000000000000000:=by omega
  by_cases hlt:j<n
  ·
   have hjn:(j:Int)<n:=by omega
   obtain⟨y0,hy0⟩:∃ y,FJ (z+3 * j+2)=y:=⟨_,rfl⟩;have HY0:Hid (FJ (z+3 * j+2)=y0):=hy0;rcases h.later hb with h0 | ⟨g,cur,rfl,hg,hall⟩
   · omega
   obtain⟨r0,r1,r2⟩:=hall j hlt;rw [show ((z+3 * j:Nat):Int)=K from by omega] at r0
   have c0:wr.cell? ⟨g,j * 3,ν⟩=ς (ι κ K):=(ε _ _ _ _ _ _ hg).trans r0;rw [show ((z+3 * j+1:Nat):Int)=K+1 from by omega] at r1
   have c1:wr.cell? ⟨g,j * 3+1,ν⟩=ς (ι κ (K+1)):=(ε _ _ _ _ _ _ hg).trans r1;rw [hy0] at r2;have c2:wr.cell? ⟨g,j * 3+2,ν⟩=ς (τ y0):=(ε _ _ _ _ _ _ hg).trans r2;clear hy0 hK hg hall r0 r1 r2;have e0:=BH y0;go_upto_region 10 with (fail)
   refine XO (S:=λx=>υ wr.heap.size wr x) (by kernel_rfl) (CE _) (λjH=>?_);refine tk 0 (⟨ς 30,.move (δ 0),60,"exact.go:556",#[],ν⟩:Oper) (λx jS=>by go_simp<;>rfl) jH ?_
   try simp only [zS]
   refine tk 1 (⟨ς 31,.move (δ 5),3,"exact.go:556",#[],ν⟩:Oper) (λx jS=>by go_simp<;>rfl) jH ?_
   try simp only [zS]
   refine tk 2 (⟨ς 32,.indexAddr 60 (δ 30) (δ 31),0,"exact.go:556",#[⟨0,φ⟩,⟨1,φ⟩],ν⟩:Oper) (λx jS=>by go_simp<;>rfl) jH ?_
   try simp only [zS]
   refine tk 3 (⟨ς 33,.fieldAddr 94 (δ 32) 2,0,"exact.go:556",#[⟨2,φ⟩],ν⟩:Oper) (λx jS=>by go_simp<;>rfl) jH ?_
   try simp only [zS]
   refine tk 4 (⟨ς 34,.load 9 (δ 33),9,"exact.go:556",#[⟨3,φ⟩],ν⟩:Oper) (λx jS=>by have k0:=AB jS c0;have k1:=AB jS c1;have k2:=AB jS c2;go_simp<;>rfl) jH ?_
   try simp only [zS]
   refine tk 5 (⟨ς 35,.move (δ 1),3,"exact.go:556",#[],ν⟩:Oper) (λx jS=>by go_simp<;>rfl) jH ?_
   try simp only [zS]
   refine rd 6 (⟨ς 36,.call ⟨.value (.func 62),#[δ 35],#[3]⟩,9,"exact.go:556",#[⟨5,φ⟩],ν⟩:Oper) (λK hK=>?_);go_simp;refine(Br (z+3 * j+2) _ _ (by have:=HK.out;omega) (by omega) (by omega) y0 HY0.out).mono ?_;rintro e w2 ⟨rfl,hb2⟩;refine hK.out _ _ (AA jH hb2) (λjH=>?_);clear hK K;try simp only [zS]
   refine tk 7 (⟨ς 37,.binOp .neq 9 (δ 34) (δ 36) 9,4,"exact.go:556",#[⟨4,φ⟩,⟨6,φ⟩],ν⟩:Oper) (λx jS=>by go_simp<;>rfl) jH ?_
   try simp only [zS]
   refine XW (by kernel_rfl) ?_ _;have k0:=AB jH c0;have k1:=AB jH c1;have k2:=AB jH c2;go_wp2;go_roundw
   case rel=>exact⟨j+1,_,rfl,by have:=HK.out;omega,by omega,by go_num,AA hb jH⟩
   case measure=>simp [XX];omega
  ·
   obtain rfl:j=n:=by omega
   clear hK;go_wp2;go_ret
   exact⟨by rw [HK.out];rfl,hb⟩
