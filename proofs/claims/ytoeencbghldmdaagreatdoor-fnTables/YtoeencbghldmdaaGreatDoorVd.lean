import Derived.Test.YtoeencbghldmdaaGreatDoorXc
import Derived.Test.YtoeencbghldmdaaGreatDoorUf
open Array renaming getElem?_eq_some_iff → VL
open Bool renaming and_eq_true → VO
open ByteArray renaming empty → VG
open Go renaming Calls → VK, World → ο, bodyPost_ret → VE, cell_of_row → ε, heap_alloc_new → η, wpAnyH_done → VP, wp_region_held_drew → VH, Value → VN, heap_setCell_same → π, results_tmp2 → VZ, wpList_append_lies → VR
open Go.Ending renaming returned → ρ
open Go.Ground renaming data → φ
open Go.IntKind renaming i64 → κ
open Go.Obj renaming cells → γ
open Go.Op renaming bytesLess → Va
open Go.Operand renaming tmp → δ
open Go.Proofs.Tryz renaming prog → μ
open Go.RowKit renaming Below → υ, intOf → VQ
open Go.RowKit.Below renaming refl → VT
open Go.Value renaming agg → χ, bool → β, int → ι, slice → σ, string → τ, tuple → θ
open Go.World renaming size_alloc → ω, news_of_block → VI, ownsRow_made → VU
open List renaming length_append → VJ
open Nat renaming le_trans → VX, not_lt_zero → Vc, zero_le → VS, le_refl → VD, zero_add → VM, add_zero → Vf
open Option renaming none → ν, some → ς
open Option.some renaming inj → VF
open Or renaming inl → VV, inr → Vb
namespace Go.Proofs.YtoeencbghldmdaaGreatDoor
open Go.RowKit Go.Maps Go.WideMaps
set_option maxRecDepth 20000
set_option maxHeartbeats 16000000
theorem TS.later{w w':ο}{a:Option Addr}{n:Nat}{T:Nat->Td}(h:TS w a n T)(hb:υ w.heap.size w w'):TS w' a n T:=by
 rcases h with h | ⟨g,h1,h2⟩
 · exact .inl h
 · exact .inr ⟨g,h1,h2.later hb⟩
theorem UG(a:Option Addr)(c:Nat)(T:Nat->Td)(w:ο) :
 VK μ 9 #[χ #[σ a 0 c]] w λe w'=>e=ρ (β (A2 0 T))/\υ w.heap.size w w':=by
 have hb0:=AD w (γ #[σ a 0 c] 28);have hX0:=η w (γ #[σ a 0 c] 28);have c0:(w.alloc (γ #[σ a 0 c] 28)).cell? ⟨w.heap.size,0,ν⟩=ς (σ a 0 c):=(ε _ _ 0 _ _ _ hX0).trans rfl;clear hX0;go_enter Tryz.func9,Tryz.ntmps9
 go_wp2;go_loopw [3,4,12] (λ_ _ i wr=>i=ι κ 0/\wr=w.alloc (γ #[σ a 0 c] 28)) (λ_ _ _ _=>0)
 case atStart=>exact⟨rfl,rfl⟩
 case round=>
  obtain⟨rfl,rfl⟩:=hrel;go_wp2;go_ret
  exact⟨AN (by unfold A2;rw [Hr (by omega) λj hj=>absurd hj (Vc j),Ak λj hj=>absurd hj (Vc j)];rfl),hb0⟩
theorem UF(a:Option Addr)(n c:Nat)(T:Nat->Td)(w:ο)(h:TS w a n T)(hn:n<=1048576) :
 VK μ 9 #[χ #[σ a n c]] w λe w'=>e=ρ (β (A2 n T))/\υ w.heap.size w w':=by
 rcases h with rfl | ⟨g,rfl,h⟩
 · exact UG a c T w
 · exact Uq g n c T w h.tc hn
theorem Lf(a:Option Addr)(n c:Nat)(T:Nat->Td)(k0:Int)(tb:ByteArray)(a2:Option Addr)(n2 c2:Nat)(a3:Option Addr)(n3 c3:Nat)(col:ByteArray)(a5:Option Addr)(n5 c5:Nat)(a6:Option Addr)(n6 c6:Nat)(a7:Option Addr)(n7 c7:Nat)(C:Nat->Clm)(V E W:Nat->Itm)(m7:Nat->Nat)(O:Nat->Nat->Itm)(D:St)(hD:(⟨k0,tb,n2,C,n3,V,col,n5,E,n6,W,n7,m7,O⟩:St)=D)(w:ο)(hT:TS w a n T)(hS:SM w ⟨k0,tb,n2,C,n3,V,col,n5,E,n6,W,n7,m7,O⟩ ⟨a2,c2,a3,c3,a5,c5,a6,c6,a7,c7⟩)(hn:n<=1048576)(hc2:n2<=c2) :
 VK μ 6 #[χ #[σ a n c],χ #[ι κ k0,τ tb,σ a2 n2 c2,σ a3 n3 c3,τ col,σ a5 n5 c5,σ a6 n6 c6,σ a7 n7 c7]] w (LS w (Bf n T D).1 (Bf n T D).2):=by
 have hbU:υ w.heap.size w (((w.alloc (γ #[σ a n c] 28)).alloc (γ #[ι κ k0,τ tb,σ a2 n2 c2,σ a3 n3 c3,τ col,σ a5 n5 c5,σ a6 n6 c6,σ a7 n7 c7] 34)).alloc (γ #[σ ν 0 0] 28)):=Ay _ _ _ _;have hsU:(((w.alloc (γ #[σ a n c] 28)).alloc (γ #[ι κ k0,τ tb,σ a2 n2 c2,σ a3 n3 c3,τ col,σ a5 n5 c5,σ a6 n6 c6,σ a7 n7 c7] 34)).alloc (γ #[σ ν 0 0] 28)).heap.size=w.heap.size+3:=by rw [ω,ω,ω]
 have hq0:(((w.alloc (γ #[σ a n c] 28)).alloc (γ #[ι κ k0,τ tb,σ a2 n2 c2,σ a3 n3 c3,τ col,σ a5 n5 c5,σ a6 n6 c6,σ a7 n7 c7] 34)).alloc (γ #[σ ν 0 0] 28)).heap[w.heap.size]?=ς (γ #[σ a n c] 28 (0,0)):=AC (AC (η w _) (AD _ _)) (AD _ _);have hq1:(((w.alloc (γ #[σ a n c] 28)).alloc (γ #[ι κ k0,τ tb,σ a2 n2 c2,σ a3 n3 c3,τ col,σ a5 n5 c5,σ a6 n6 c6,σ a7 n7 c7] 34)).alloc (γ #[σ ν 0 0] 28)).heap[w.heap.size+1]?=ς (γ #[ι κ k0,τ tb,σ a2 n2 c2,σ a3 n3 c3,τ col,σ a5 n5 c5,σ a6 n6 c6,σ a7 n7 c7] 34 (0,0)):=by
  have q:=η (w.alloc (γ #[σ a n c] 28)) (γ #[ι κ k0,τ tb,σ a2 n2 c2,σ a3 n3 c3,τ col,σ a5 n5 c5,σ a6 n6 c6,σ a7 n7 c7] 34);rw [ω] at q;exact AC q (AD _ _)
 have hq2:(((w.alloc (γ #[σ a n c] 28)).alloc (γ #[ι κ k0,τ tb,σ a2 n2 c2,σ a3 n3 c3,τ col,σ a5 n5 c5,σ a6 n6 c6,σ a7 n7 c7] 34)).alloc (γ #[σ ν 0 0] 28)).heap[w.heap.size+1+1]?=ς (γ #[σ ν 0 0] 28 (0,0)):=by
  have q:=η ((w.alloc (γ #[σ a n c] 28)).alloc (γ #[ι κ k0,τ tb,σ a2 n2 c2,σ a3 n3 c3,τ col,σ a5 n5 c5,σ a6 n6 c6,σ a7 n7 c7] 34)) (γ #[σ ν 0 0] 28);rw [ω,ω] at q;exact q
 have HDB0:=UF a n c T (((w.alloc (γ #[σ a n c] 28)).alloc (γ #[ι κ k0,τ tb,σ a2 n2 c2,σ a3 n3 c3,τ col,σ a5 n5 c5,σ a6 n6 c6,σ a7 n7 c7] 34)).alloc (γ #[σ ν 0 0] 28)) (hT.later hbU) hn;obtain⟨db,hdb⟩:∃ b,A2 n T=b:=⟨_,rfl⟩;obtain⟨sb,hsb⟩:∃ b,AK D=b:=⟨_,rfl⟩;rw [hdb] at HDB0;have HDB:Hid (VK μ 9 #[χ #[σ a n c]] (((w.alloc (γ #[σ a n c] 28)).alloc (γ #[ι κ k0,τ tb,σ a2 n2 c2,σ a3 n3 c3,τ col,σ a5 n5 c5,σ a6 n6 c6,σ a7 n7 c7] 34)).alloc (γ #[σ ν 0 0] 28)) (λe w'=>e=ρ (β db)/\υ (((w.alloc (γ #[σ a n c] 28)).alloc (γ #[ι κ k0,τ tb,σ a2 n2 c2,σ a3 n3 c3,τ col,σ a5 n5 c5,σ a6 n6 c6,σ a7 n7 c7] 34)).alloc (γ #[σ ν 0 0] 28)).heap.size (((w.alloc (γ #[σ a n c] 28)).alloc (γ #[ι κ k0,τ tb,σ a2 n2 c2,σ a3 n3 c3,τ col,σ a5 n5 c5,σ a6 n6 c6,σ a7 n7 c7] 34)).alloc (γ #[σ ν 0 0] 28)) w')):=HDB0;have HST:Hid (∀ W',υ w.heap.size w W'->VK μ 18 #[χ #[ι κ k0,τ tb,σ a2 n2 c2,σ a3 n3 c3,τ col,σ a5 n5 c5,σ a6 n6 c6,σ a7 n7 c7]] W' (λe w'=>e=ρ (β sb)/\υ W'.heap.size W' w')):=λW' hW'=>by
  have:=Ld k0 tb n2 C n3 V col n5 E n6 W n7 m7 O a2 c2 a3 c3 a5 c5 a6 c6 a7 c7 D hD W' (hS.later hW');rwa [hsb] at this
 clear HDB0;cases db
 ·
  have HA:Hid (Bf n T D=([],7)):=by show _=_;unfold Bf;rw [if_pos hdb]
  obtain⟨b0,bf0⟩:=AG hq2;obtain⟨c0,-⟩:=AG hq0;go_enter Tryz.func6,Tryz.ntmps6
  go_wp2_with (first | (go_at_call 9;refine(HDB.out).mono ?_;rintro e w1 ⟨rfl,hb1⟩;have hB1:=AA hbU hb1;have hss1:=hb1.size;have x0:=AC hq0 hb1;have x1:=AC hq1 hb1;have x2:=AC hq2 hb1;obtain⟨xa,-⟩:=AG x0;obtain⟨xb0,xb1,xb2,xb3,xb4,xb5,xb6,xb7⟩:=AJ x1;obtain⟨z2_,f2_⟩:=AG x2))
  refine VE (AE Tryz.results6 _ _ (w.heap.size+1+1) 28 _ (0,0) _ rfl (BW x2 _) Tryz.underlying28 rfl (by kernel_rfl)) rfl ?_;rw [HA.out];exact⟨ν,0,rfl,λ_ _=>VV rfl,Bg hB1 (by omega)⟩
 cases sb
 ·
  have HA:Hid (Bf n T D=([],7)):=by show _=_;unfold Bf;rw [if_neg (by rw [hdb];simp),if_pos hsb]
  obtain⟨c0,-⟩:=AG hq0;go_enter Tryz.func6,Tryz.ntmps6
  go_wp2_with (first | (go_at_call 9;refine(HDB.out).mono ?_;rintro e w1 ⟨rfl,hb1⟩;have hB1:=AA hbU hb1;have hss1:=hb1.size;have x0:=AC hq0 hb1;have x1:=AC hq1 hb1;have x2:=AC hq2 hb1;obtain⟨xa,-⟩:=AG x0;obtain⟨xb0,xb1,xb2,xb3,xb4,xb5,xb6,xb7⟩:=AJ x1) | (go_at_call 18;refine(HST.out _ hB1).mono ?_;rintro e w2 ⟨rfl,hb2⟩;have hB2:=AA hB1 hb2;have hss2:=hb2.size;have y0:=AC x0 hb2;have y1:=AC x1 hb2;have y2:=AC x2 hb2;obtain⟨ya,-⟩:=AG y0;obtain⟨yb0,yb1,yb2,yb3,yb4,yb5,yb6,yb7⟩:=AJ y1;obtain⟨z2_,f2_⟩:=AG y2))
  refine VE (AE Tryz.results6 _ _ (w.heap.size+1+1) 28 _ (0,0) _ rfl (BW y2 _) Tryz.underlying28 rfl (by kernel_rfl)) rfl ?_;rw [HA.out];exact⟨ν,0,rfl,λ_ _=>VV rfl,Bg hB2 (by omega)⟩
 obtain⟨hn100,hok⟩:=Ax hdb;have HF:Hid (MM n T):=Ju hdb;have HOK:Hid (∀ k,k<n->Br (T k)=true):=hok;have HOS:Hid (AK D=true):=hsb;have HAP:Hid (Bf n T D=if D.k=1 then FL T n D.tb D.n2 D.C
 else match An T D.tb n with
  | none=>(Ap T n,1)
  | some j=>if D.k=2 then Gi T n (T j).s (T j).n (T j).C (T j).r (T j).m (T j).R D.n3 D.V
   else if D.k=3 then Gd T n (T j).s (T j).n (T j).C (T j).r (T j).m (T j).R D.col D.E D.n5 D.W D.n6
   else if D.k=4 then JO T n (T j).s (T j).n (T j).C (T j).r (T j).m (T j).R D.W D.n6
   else (Ap T n,Hv (T j).C (T j).n D.m7 D.O D.n7 D.W D.n6)):=by show _=_;unfold Bf;rw [if_neg (by rw [hdb];simp),if_neg (by rw [hsb];simp)];try rfl
 clear hdb hsb hok;have HD:Hid ((⟨k0,tb,n2,C,n3,V,col,n5,E,n6,W,n7,m7,O⟩:St)=D):=hD;clear hD;obtain⟨c0,-⟩:=AG hq0;by_cases hk1:k0=1
 ·
  subst hk1;have hr:=QT HOS.out (by rw [←HD.out]);rw [←HD.out] at hr;simp only at hr
  obtain⟨A1,cd1,hA1⟩:∃ A cd,FL T n tb n2 C=(A,cd):=⟨_,_,rfl⟩;have HA:Hid (Bf n T D=(A1,cd1)):=by show _=_;rw [HAP.out,←HD.out];simp [hA1]
  have HCR:Hid (∀ W',υ w.heap.size w W'->VK μ 19 #[χ #[σ a n c],χ #[ι κ 1,τ tb,σ a2 n2 c2,σ a3 n3 c3,τ col,σ a5 n5 c5,σ a6 n6 c6,σ a7 n7 c7]] W' (LS W' A1 cd1)):=λW' hW'=>by
   have:=PS a n c T 1 tb a2 n2 c2 a3 n3 c3 col a5 n5 c5 a6 n6 c6 a7 n7 c7 C W' (hT.tl.later hW') (hS.co.later hW') (by omega) HF.out hr.1 (by omega) hc2 hS.tb;rwa [hA1] at this
  clear hA1;go_enter Tryz.func6,Tryz.ntmps6
  go_wp2_with (first | (go_at_call 9;refine(HDB.out).mono ?_;rintro e w1 ⟨rfl,hb1⟩;have hB1:=AA hbU hb1;have hss1:=hb1.size;have x0:=AC hq0 hb1;have x1:=AC hq1 hb1;have x2:=AC hq2 hb1;obtain⟨xa,-⟩:=AG x0;obtain⟨xb0,xb1,xb2,xb3,xb4,xb5,xb6,xb7⟩:=AJ x1) | (go_at_call 18;refine(HST.out _ hB1).mono ?_;rintro e w2 ⟨rfl,hb2⟩;have hB2:=AA hB1 hb2;have hss2:=hb2.size;have y0:=AC x0 hb2;have y1:=AC x1 hb2;have y2:=AC x2 hb2;obtain⟨ya,-⟩:=AG y0;obtain⟨yb0,yb1,yb2,yb3,yb4,yb5,yb6,yb7⟩:=AJ y1) | (go_at_call 19;refine(HCR.out _ hB2).mono ?_;rintro e w9 ⟨a8,c8,rfl,hL8,hb8⟩;have s2:=AC y2 hb8;obtain⟨z2_,f2_⟩:=AG s2))
  refine VE (AE Tryz.results6 _ _ (w.heap.size+1+1) 28 _ (0,0) _ rfl (BW s2 _) Tryz.underlying28 rfl (by kernel_rfl)) rfl ?_;rw [HA.out];exact C2 hB2 hL8 hb8 (by omega) (by omega) _
 have nk1:(k0 == 1)=false:=by simpa using hk1
 rcases ht:An T tb n with _ | j
 ·
  have HA:Hid (Bf n T D=(Ap T n,1)):=by show _=_;rw [HAP.out,←HD.out];simp only;rw [if_neg hk1,ht]
  have HTB:Hid (∀ W',υ w.heap.size w W'->VK μ 20 #[χ #[σ a n c],τ tb] W' (λe w'=>e=ρ (ι κ (-1))/\υ W'.heap.size W' w')):=λW' hW'=>by
   have:=Gz a n c T tb W' (hT.tl.later hW') hn;rwa [ht] at this
  clear ht hk1;go_enter Tryz.func6,Tryz.ntmps6
  go_wp2_with (first | (go_at_call 9;refine(HDB.out).mono ?_;rintro e w1 ⟨rfl,hb1⟩;have hB1:=AA hbU hb1;have hss1:=hb1.size;have x0:=AC hq0 hb1;have x1:=AC hq1 hb1;have x2:=AC hq2 hb1;obtain⟨xa,-⟩:=AG x0;obtain⟨xb0,xb1,xb2,xb3,xb4,xb5,xb6,xb7⟩:=AJ x1) | (go_at_call 18;refine(HST.out _ hB1).mono ?_;rintro e w2 ⟨rfl,hb2⟩;have hB2:=AA hB1 hb2;have hss2:=hb2.size;have y0:=AC x0 hb2;have y1:=AC x1 hb2;have y2:=AC x2 hb2;obtain⟨ya,-⟩:=AG y0;obtain⟨yb0,yb1,yb2,yb3,yb4,yb5,yb6,yb7⟩:=AJ y1) | (go_at_call 20;refine(HTB.out _ hB2).mono ?_;rintro e w3 ⟨rfl,hb3⟩;have hB3:=AA hB2 hb3;have hss3:=hb3.size;have z0:=AC y0 hb3;have z1:=AC y1 hb3;have z2:=AC y2 hb3;obtain⟨za,-⟩:=AG z0;obtain⟨zb0,zb1,zb2,zb3,zb4,zb5,zb6,zb7⟩:=AJ z1) | (go_at_call 21;refine(Cd a n c T _ (hT.tl.later (hB3)) (by omega) HF.out).mono ?_;rintro e w9 ⟨a8,c8,rfl,hL8,hb8⟩;have s2:=AC z2 hb8;obtain⟨z2_,f2_⟩:=AG s2))
  refine VE (AE Tryz.results6 _ _ (w.heap.size+1+1) 28 _ (0,0) _ rfl (BW s2 _) Tryz.underlying28 rfl (by kernel_rfl)) rfl ?_;rw [HA.out];exact BS hB3 hL8 hb8 (by omega) (by omega) _
 have hj:=(A4 ht).1;have HTB:Hid (∀ W',υ w.heap.size w W'->VK μ 20 #[χ #[σ a n c],τ tb] W' (λe w'=>e=ρ (ι κ j)/\υ W'.heap.size W' w')):=λW' hW'=>by
  have:=Gz a n c T tb W' (hT.tl.later hW') hn;rwa [ht] at this
 have HTJ:Hid (An T tb n=ς j):=ht;clear ht;obtain⟨g,rfl,hN⟩:∃ g,a=ς ⟨g,0,ν⟩/\TN w g n T:=by
  rcases hT with h | h
  · omega
  · exact h
 obtain⟨g1,dc,g2,cr,e0,e1,e2,⟨hdc,hcr⟩,hCt,hRt,hSt⟩:=hN j hj;have hNt:=Bi (HOK.out j hj);obtain⟨ds,dn,dC,dr,dm,dR,hTj⟩:∃ s nc C r m R,T j=⟨s,nc,C,r,m,R⟩:=⟨_,_,_,_,_,_,rfl⟩;rw [hTj] at e0 e1 e2 hdc hcr hCt hRt hSt hNt;simp only at e0 e1 e2 hdc hcr hCt hRt hNt
 have HAJ:Hid (Bf n T D=if k0=2 then Gi T n ds dn dC dr dm dR n3 V else if k0=3 then Gd T n ds dn dC dr dm dR col E n5 W n6 else if k0=4 then JO T n ds dn dC dr dm dR W n6 else (Ap T n,Hv dC dn m7 O n7 W n6)):=by
  show _=_
  rw [HAP.out,←HD.out];simp only
  rw [if_neg hk1,HTJ.out];simp only
  rw [hTj]
 have HN:Hid (Nice dn dr dm dR):=hNt;have hn1:=hNt.n1;have hr1:=hNt.r1;have hdsz:=hSt.s;simp only at hdsz
 clear hTj hNt;have hjn:(j:Int)<n:=by omega
 have hj0:(0:Int)<=j:=by omega
 have hjm:¬(j:Int)<0:=by omega
 by_cases hk2:k0=2
 ·
  subst hk2;obtain⟨h3a,h3b,h3c⟩:=QS HOS.out (by rw [←HD.out]);rw [←HD.out] at h3a h3b h3c;simp only at h3a h3b h3c
  obtain⟨A1,cd1,hA1⟩:∃ A cd,Gi T n ds dn dC dr dm dR n3 V=(A,cd):=⟨_,_,rfl⟩;have HA:Hid (Bf n T D=(A1,cd1)):=by show _=_;rw [HAJ.out];simp [hA1]
  have HCR:Hid (∀ W',υ w.heap.size w W'->VK μ 22 #[χ #[σ (ς ⟨g,0,ν⟩) n c],χ #[τ ds,σ (ς ⟨g1,0,ν⟩) dn dc,σ (ς ⟨g2,0,ν⟩) dr cr],χ #[ι κ 2,τ tb,σ a2 n2 c2,σ a3 n3 c3,τ col,σ a5 n5 c5,σ a6 n6 c6,σ a7 n7 c7]] W' (LS W' A1 cd1)):=λW' hW'=>by
   have:=PQ (ς ⟨g,0,ν⟩) n c T ds dn dC dr dm dR (ς ⟨g1,0,ν⟩) dc g2 0 cr 2 tb a2 n2 c2 a3 n3 c3 col a5 n5 c5 a6 n6 c6 a7 n7 c7 V W' (hT.tl.later hW') (hCt.later hW') (hRt.later hW') (hS.va.later hW') (by omega) HF.out HN.out hcr hdsz (by omega) h3c;rwa [hA1] at this
  clear hA1;go_enter Tryz.func6,Tryz.ntmps6
  go_wp2_with (first | (go_at_call 9;refine(HDB.out).mono ?_;rintro e w1 ⟨rfl,hb1⟩;have hB1:=AA hbU hb1;have hss1:=hb1.size;have x0:=AC hq0 hb1;have x1:=AC hq1 hb1;have x2:=AC hq2 hb1;obtain⟨xa,-⟩:=AG x0;obtain⟨xb0,xb1,xb2,xb3,xb4,xb5,xb6,xb7⟩:=AJ x1) | (go_at_call 18;refine(HST.out _ hB1).mono ?_;rintro e w2 ⟨rfl,hb2⟩;have hB2:=AA hB1 hb2;have hss2:=hb2.size;have y0:=AC x0 hb2;have y1:=AC x1 hb2;have y2:=AC x2 hb2;obtain⟨ya,-⟩:=AG y0;obtain⟨yb0,yb1,yb2,yb3,yb4,yb5,yb6,yb7⟩:=AJ y1) | (go_at_call 20;refine(HTB.out _ hB2).mono ?_;rintro e w3 ⟨rfl,hb3⟩;have hB3:=AA hB2 hb3;have hss3:=hb3.size;have z0:=AC y0 hb3;have z1:=AC y1 hb3;have z2:=AC y2 hb3;obtain⟨za,-⟩:=AG z0;obtain⟨zb0,zb1,zb2,zb3,zb4,zb5,zb6,zb7⟩:=AJ z1;have f0:=AB hB3 e0;have f1:=AB hB3 e1;have f2:=AB hB3 e2;have v0:=AC z0 (AD w3 (γ #[τ ds,σ (ς ⟨g1,0,ν⟩) dn dc,σ (ς ⟨g2,0,ν⟩) dr cr] 67));have v1:=AC z1 (AD w3 (γ #[τ ds,σ (ς ⟨g1,0,ν⟩) dn dc,σ (ς ⟨g2,0,ν⟩) dr cr] 67));have v2:=AC z2 (AD w3 (γ #[τ ds,σ (ς ⟨g1,0,ν⟩) dn dc,σ (ς ⟨g2,0,ν⟩) dr cr] 67));obtain⟨va,-⟩:=AG v0;obtain⟨vb0,vb1,vb2,vb3,vb4,vb5,vb6,vb7⟩:=AJ v1;have vt:=η w3 (γ #[τ ds,σ (ς ⟨g1,0,ν⟩) dn dc,σ (ς ⟨g2,0,ν⟩) dr cr] 67);obtain⟨vt0,vt1,vt2,-⟩:=AL vt) | (go_at_call 22;refine(HCR.out _ (AA hB3 (AD _ _))).mono ?_;rintro e w9 ⟨a8,c8,rfl,hL8,hb8⟩;have s2:=AC v2 hb8;obtain⟨z2_,f2_⟩:=AG s2))
  refine VE (AE Tryz.results6 _ _ (w.heap.size+1+1) 28 _ (0,0) _ rfl (BW s2 _) Tryz.underlying28 rfl (by kernel_rfl)) rfl ?_;rw [HA.out];exact C2 (AA hB3 (AD _ _)) hL8 hb8 (by omega) (by rw [ω];omega) _
 have nk2:(k0 == 2)=false:=by simpa using hk2
 by_cases hk3:k0=3
 ·
  subst hk3;obtain⟨h3a,h3b⟩:=Lg HOS.out (by rw [←HD.out]);rw [←HD.out] at h3a h3b;simp only at h3a h3b
  obtain⟨A1,cd1,hA1⟩:∃ A cd,Gd T n ds dn dC dr dm dR col E n5 W n6=(A,cd):=⟨_,_,rfl⟩;have HA:Hid (Bf n T D=(A1,cd1)):=by show _=_;rw [HAJ.out];simp [hA1]
  have HCR:Hid (∀ W',υ w.heap.size w W'->VK μ 23 #[χ #[σ (ς ⟨g,0,ν⟩) n c],χ #[τ ds,σ (ς ⟨g1,0,ν⟩) dn dc,σ (ς ⟨g2,0,ν⟩) dr cr],χ #[ι κ 3,τ tb,σ a2 n2 c2,σ a3 n3 c3,τ col,σ a5 n5 c5,σ a6 n6 c6,σ a7 n7 c7]] W' (LS W' A1 cd1)):=λW' hW'=>by
   have:=PN (ς ⟨g,0,ν⟩) n c T ds dn dC dr dm dR (ς ⟨g1,0,ν⟩) dc (ς ⟨g2,0,ν⟩) cr 3 tb a2 n2 c2 a3 n3 c3 col a5 n5 c5 a6 n6 c6 a7 n7 c7 E W W' (hT.tl.later hW') (hCt.later hW') (hRt.later hW') (hS.ex.later hW') (hS.wh.later hW') (by omega) HF.out HN.out hdsz h3a h3b;rwa [hA1] at this
  clear hA1;go_enter Tryz.func6,Tryz.ntmps6
  go_wp2_with (first | (go_at_call 9;refine(HDB.out).mono ?_;rintro e w1 ⟨rfl,hb1⟩;have hB1:=AA hbU hb1;have hss1:=hb1.size;have x0:=AC hq0 hb1;have x1:=AC hq1 hb1;have x2:=AC hq2 hb1;obtain⟨xa,-⟩:=AG x0;obtain⟨xb0,xb1,xb2,xb3,xb4,xb5,xb6,xb7⟩:=AJ x1) | (go_at_call 18;refine(HST.out _ hB1).mono ?_;rintro e w2 ⟨rfl,hb2⟩;have hB2:=AA hB1 hb2;have hss2:=hb2.size;have y0:=AC x0 hb2;have y1:=AC x1 hb2;have y2:=AC x2 hb2;obtain⟨ya,-⟩:=AG y0;obtain⟨yb0,yb1,yb2,yb3,yb4,yb5,yb6,yb7⟩:=AJ y1) | (go_at_call 20;refine(HTB.out _ hB2).mono ?_;rintro e w3 ⟨rfl,hb3⟩;have hB3:=AA hB2 hb3;have hss3:=hb3.size;have z0:=AC y0 hb3;have z1:=AC y1 hb3;have z2:=AC y2 hb3;obtain⟨za,-⟩:=AG z0;obtain⟨zb0,zb1,zb2,zb3,zb4,zb5,zb6,zb7⟩:=AJ z1;have f0:=AB hB3 e0;have f1:=AB hB3 e1;have f2:=AB hB3 e2;have v0:=AC z0 (AD w3 (γ #[τ ds,σ (ς ⟨g1,0,ν⟩) dn dc,σ (ς ⟨g2,0,ν⟩) dr cr] 67));have v1:=AC z1 (AD w3 (γ #[τ ds,σ (ς ⟨g1,0,ν⟩) dn dc,σ (ς ⟨g2,0,ν⟩) dr cr] 67));have v2:=AC z2 (AD w3 (γ #[τ ds,σ (ς ⟨g1,0,ν⟩) dn dc,σ (ς ⟨g2,0,ν⟩) dr cr] 67));obtain⟨va,-⟩:=AG v0;obtain⟨vb0,vb1,vb2,vb3,vb4,vb5,vb6,vb7⟩:=AJ v1;have vt:=η w3 (γ #[τ ds,σ (ς ⟨g1,0,ν⟩) dn dc,σ (ς ⟨g2,0,ν⟩) dr cr] 67);obtain⟨vt0,vt1,vt2,-⟩:=AL vt) | (go_at_call 23;refine(HCR.out _ (AA hB3 (AD _ _))).mono ?_;rintro e w9 ⟨a8,c8,rfl,hL8,hb8⟩;have s2:=AC v2 hb8;obtain⟨z2_,f2_⟩:=AG s2))
  refine VE (AE Tryz.results6 _ _ (w.heap.size+1+1) 28 _ (0,0) _ rfl (BW s2 _) Tryz.underlying28 rfl (by kernel_rfl)) rfl ?_;rw [HA.out];exact C2 (AA hB3 (AD _ _)) hL8 hb8 (by omega) (by rw [ω];omega) _
 have nk3:(k0 == 3)=false:=by simpa using hk3
 by_cases hk4:k0=4
 ·
  subst hk4;have h3a:=Nh HOS.out (by rw [←HD.out]);rw [←HD.out] at h3a;simp only at h3a
  obtain⟨A1,cd1,hA1⟩:∃ A cd,JO T n ds dn dC dr dm dR W n6=(A,cd):=⟨_,_,rfl⟩;have HA:Hid (Bf n T D=(A1,cd1)):=by show _=_;rw [HAJ.out];simp [hA1]
  have HCR:Hid (∀ W',υ w.heap.size w W'->VK μ 24 #[χ #[σ (ς ⟨g,0,ν⟩) n c],χ #[τ ds,σ (ς ⟨g1,0,ν⟩) dn dc,σ (ς ⟨g2,0,ν⟩) dr cr],χ #[ι κ 4,τ tb,σ a2 n2 c2,σ a3 n3 c3,τ col,σ a5 n5 c5,σ a6 n6 c6,σ a7 n7 c7]] W' (LS W' A1 cd1)):=λW' hW'=>by
   have:=PR (ς ⟨g,0,ν⟩) n c T ds dn dC dr dm dR (ς ⟨g1,0,ν⟩) dc (ς ⟨g2,0,ν⟩) cr 4 tb a2 n2 c2 a3 n3 c3 col a5 n5 c5 a6 n6 c6 a7 n7 c7 W W' (hT.tl.later hW') (hCt.later hW') (hRt.later hW') (hS.wh.later hW') (by omega) HF.out HN.out hdsz h3a;rwa [hA1] at this
  clear hA1;go_enter Tryz.func6,Tryz.ntmps6
  go_wp2_with (first | (go_at_call 9;refine(HDB.out).mono ?_;rintro e w1 ⟨rfl,hb1⟩;have hB1:=AA hbU hb1;have hss1:=hb1.size;have x0:=AC hq0 hb1;have x1:=AC hq1 hb1;have x2:=AC hq2 hb1;obtain⟨xa,-⟩:=AG x0;obtain⟨xb0,xb1,xb2,xb3,xb4,xb5,xb6,xb7⟩:=AJ x1) | (go_at_call 18;refine(HST.out _ hB1).mono ?_;rintro e w2 ⟨rfl,hb2⟩;have hB2:=AA hB1 hb2;have hss2:=hb2.size;have y0:=AC x0 hb2;have y1:=AC x1 hb2;have y2:=AC x2 hb2;obtain⟨ya,-⟩:=AG y0;obtain⟨yb0,yb1,yb2,yb3,yb4,yb5,yb6,yb7⟩:=AJ y1) | (go_at_call 20;refine(HTB.out _ hB2).mono ?_;rintro e w3 ⟨rfl,hb3⟩;have hB3:=AA hB2 hb3;have hss3:=hb3.size;have z0:=AC y0 hb3;have z1:=AC y1 hb3;have z2:=AC y2 hb3;obtain⟨za,-⟩:=AG z0;obtain⟨zb0,zb1,zb2,zb3,zb4,zb5,zb6,zb7⟩:=AJ z1;have f0:=AB hB3 e0;have f1:=AB hB3 e1;have f2:=AB hB3 e2;have v0:=AC z0 (AD w3 (γ #[τ ds,σ (ς ⟨g1,0,ν⟩) dn dc,σ (ς ⟨g2,0,ν⟩) dr cr] 67));have v1:=AC z1 (AD w3 (γ #[τ ds,σ (ς ⟨g1,0,ν⟩) dn dc,σ (ς ⟨g2,0,ν⟩) dr cr] 67));have v2:=AC z2 (AD w3 (γ #[τ ds,σ (ς ⟨g1,0,ν⟩) dn dc,σ (ς ⟨g2,0,ν⟩) dr cr] 67));obtain⟨va,-⟩:=AG v0;obtain⟨vb0,vb1,vb2,vb3,vb4,vb5,vb6,vb7⟩:=AJ v1;have vt:=η w3 (γ #[τ ds,σ (ς ⟨g1,0,ν⟩) dn dc,σ (ς ⟨g2,0,ν⟩) dr cr] 67);obtain⟨vt0,vt1,vt2,-⟩:=AL vt) | (go_at_call 24;refine(HCR.out _ (AA hB3 (AD _ _))).mono ?_;rintro e w9 ⟨a8,c8,rfl,hL8,hb8⟩;have s2:=AC v2 hb8;obtain⟨z2_,f2_⟩:=AG s2))
  refine VE (AE Tryz.results6 _ _ (w.heap.size+1+1) 28 _ (0,0) _ rfl (BW s2 _) Tryz.underlying28 rfl (by kernel_rfl)) rfl ?_;rw [HA.out];exact C2 (AA hB3 (AD _ _)) hL8 hb8 (by omega) (by rw [ω];omega) _
 have nk4:(k0 == 4)=false:=by simpa using hk4
 have hk5:k0=5:=by
  have:=Ng HOS.out;rw [←HD.out] at this;simp only at this
  omega
 subst hk5;obtain⟨h7a,h7b,h7c,h7d⟩:=IS HOS.out (by rw [←HD.out]);rw [←HD.out] at h7a h7b h7c h7d;simp only at h7a h7b h7c h7d
 have HEX:Hid (∀ j,j<n7->AZ (O j) (m7 j)=true):=h7c;have HA:Hid (Bf n T D=(Ap T n,Hv dC dn m7 O n7 W n6)):=by show _=_;rw [HAJ.out,if_neg hk2,if_neg hk3,if_neg hk4]
 have HCW:Hid (∀ W',υ w.heap.size w W'->VK μ 26 #[σ (ς ⟨g1,0,ν⟩) dn dc,σ a6 n6 c6] W' (λe w'=>e=ρ (ι κ (CM dC dn W n6))/\υ W'.heap.size W' w')):=λW' hW'=>Io _ dn dc dC a6 n6 c6 W W' (hCt.later hW') (hS.wh.later hW') hn1 h7d;clear h7c h7d hk1 hk2 hk3 hk4;go_enter Tryz.func6,Tryz.ntmps6
 go_wp2_with (first | (go_at_call 9;refine(HDB.out).mono ?_;rintro e w1 ⟨rfl,hb1⟩;have hB1:=AA hbU hb1;have hss1:=hb1.size;have x0:=AC hq0 hb1;have x1:=AC hq1 hb1;have x2:=AC hq2 hb1;obtain⟨xa,-⟩:=AG x0;obtain⟨xb0,xb1,xb2,xb3,xb4,xb5,xb6,xb7⟩:=AJ x1) | (go_at_call 18;refine(HST.out _ hB1).mono ?_;rintro e w2 ⟨rfl,hb2⟩;have hB2:=AA hB1 hb2;have hss2:=hb2.size;have y0:=AC x0 hb2;have y1:=AC x1 hb2;have y2:=AC x2 hb2;obtain⟨ya,-⟩:=AG y0;obtain⟨yb0,yb1,yb2,yb3,yb4,yb5,yb6,yb7⟩:=AJ y1) | (go_at_call 20;refine(HTB.out _ hB2).mono ?_;rintro e w3 ⟨rfl,hb3⟩;have hB3:=AA hB2 hb3;have hss3:=hb3.size;have z0:=AC y0 hb3;have z1:=AC y1 hb3;have z2:=AC y2 hb3;obtain⟨za,-⟩:=AG z0;obtain⟨zb0,zb1,zb2,zb3,zb4,zb5,zb6,zb7⟩:=AJ z1;have f0:=AB hB3 e0;have f1:=AB hB3 e1;have f2:=AB hB3 e2;have v0:=AC z0 (AD w3 (γ #[τ ds,σ (ς ⟨g1,0,ν⟩) dn dc,σ (ς ⟨g2,0,ν⟩) dr cr] 67));have v1:=AC z1 (AD w3 (γ #[τ ds,σ (ς ⟨g1,0,ν⟩) dn dc,σ (ς ⟨g2,0,ν⟩) dr cr] 67));have v2:=AC z2 (AD w3 (γ #[τ ds,σ (ς ⟨g1,0,ν⟩) dn dc,σ (ς ⟨g2,0,ν⟩) dr cr] 67));obtain⟨va,-⟩:=AG v0;obtain⟨vb0,vb1,vb2,vb3,vb4,vb5,vb6,vb7⟩:=AJ v1;have vt:=η w3 (γ #[τ ds,σ (ς ⟨g1,0,ν⟩) dn dc,σ (ς ⟨g2,0,ν⟩) dr cr] 67);obtain⟨vt0,vt1,vt2,-⟩:=AL vt))
 have hB4:=AA hB3 (AD w3 (γ #[τ ds,σ (ς ⟨g1,0,ν⟩) dn dc,σ (ς ⟨g2,0,ν⟩) dr cr] 67));have hs4:(w3.alloc (γ #[τ ds,σ (ς ⟨g1,0,ν⟩) dn dc,σ (ς ⟨g2,0,ν⟩) dr cr] 67)).heap.size=w3.heap.size+1:=ω _ _;generalize w3.alloc (γ #[τ ds,σ (ς ⟨g1,0,ν⟩) dn dc,σ (ς ⟨g2,0,ν⟩) dr cr] 67)=w4 at hB4 v0 v1 v2 vt hs4 ⊢;go_loopw [9,10,11,71] (λ_ _ _ i wr=>∃ k:Nat,k<=n7/\i=ι κ k/\GJ dC dn m7 O k=0/\υ w4.heap.size w4 wr) (λ_ _ _ i _=>n7 - (VQ i).toNat)
 case atStart=>exact⟨0,VS _,rfl,rfl,VT _ _⟩
 case round=>
  obtain⟨k,hk,rfl,hso,hbr⟩:=hrel;have HSO:Hid (GJ dC dn m7 O k=0):=hso;clear hso;have hbW:=AA hB4 hbr;have hsr:=hbr.size;have q0:=AC v0 hbr;have q1:=AC v1 hbr;have q2:=AC v2 hbr;have qt:=AC vt hbr;obtain⟨qa,-⟩:=AG q0;obtain⟨-,-,-,-,-,-,qw,qo⟩:=AJ q1;obtain⟨qt0,qt1,qt2,-⟩:=AL qt;by_cases hlt:k<n7
  ·
   obtain⟨bO,offO,ai,ci,rfl,d1,hIO,hmO⟩:=hS.ou.later hbW k hlt;simp only at d1 hIO hmO
   have hkn:(k:Int)<n7:=by omega
   obtain⟨hx1,hx2,hx3⟩:=BX (HEX.out k hlt);obtain⟨ek,ec,hck⟩:∃ ek ec,DA dC dn (O k) (m7 k)=(ek,ec):=⟨_,_,rfl⟩;have HCK:VK μ 25 #[σ (ς ⟨g1,0,ν⟩) dn dc,σ ai (m7 k) ci] wr (λe w'=>e=ρ (θ #[ι κ ek,ι κ ec])/\υ wr.heap.size wr w'):=by
    have:=Ku (ς ⟨g1,0,ν⟩) dn dc dC ai (m7 k) ci (O k) wr (hCt.later hbW) hIO hn1 hx1 hx3;rwa [hck] at this
   have HNX:Hid (GJ dC dn m7 O (k+1)=ec):=by show _=_;rw [GJ,if_pos HSO.out,hck]
   clear hck hx3;by_cases he:ec=0
   ·
    subst he;go_wp2_with (go_at_call 25;refine HCK.mono ?_;rintro e w5 ⟨rfl,hb5⟩)
    go_roundw
    case rel=>exact⟨k+1,by omega,by go_num,HNX.out,AA hbr hb5⟩
    case measure=>simp [VQ];omega
   ·
    have n0:(ec != 0)=true:=by simpa using he
    have HA2:Hid (Bf n T D=(Ap T n,ec)):=by
     show _=_
     have h1:GJ dC dn m7 O n7=ec:=by rw [Jg (k:=k+1) (by rw [HNX.out];exact he) n7 (by omega),HNX.out]
     rw [HA.out];unfold Hv;rw [h1,if_neg he]
    clear he;go_wp2_with (first | (go_at_call 21;have _h:=hb5;refine(Cd (ς ⟨g,0,ν⟩) n c T _ (hT.tl.later (AA hbW hb5)) (by omega) HF.out).mono ?_;rintro e w9 ⟨a8,c8,rfl,hL8,hb8⟩;have s2:=AC x2_ hb8;obtain⟨z2_,f2_⟩:=AG s2) | (go_at_call 25;refine HCK.mono ?_;rintro e w5 ⟨rfl,hb5⟩;have hss5:=hb5.size;have x0_:=AC q0 hb5;have x2_:=AC q2 hb5;obtain⟨xa_,-⟩:=AG x0_))
    refine VE (AE Tryz.results6 _ _ (w.heap.size+1+1) 28 _ (0,0) _ rfl (BW s2 _) Tryz.underlying28 rfl (by kernel_rfl)) rfl ?_;rw [HA2.out];exact BS (AA hbW hb5) hL8 hb8 (by omega) (by omega) _
  ·
   obtain rfl:k=n7:=by omega
   have HA2:Hid (Bf n T D=(Ap T n,CM dC dn W n6)):=by show _=_;rw [HA.out];unfold Hv;rw [if_pos HSO.out]
   have hbv:=AA hbW (CU wr);have hrr:wr.drew.heap[w.heap.size+1+1]?=ς (γ #[σ ν 0 0] 28 (0,0)):=q2;have hsv:w.heap.size+3<=wr.drew.heap.size:=by show _<=wr.heap.size;omega
   go_upto_region 23 with (fail)
   refine VH (S:=λx=>x.heap[w.heap.size]?=ς (γ #[σ (ς ⟨g,0,ν⟩) n c] 28 (0,0))/\x.heap[w.heap.size+1]?=ς (γ #[ι κ 5,τ tb,σ a2 n2 c2,σ a3 n3 c3,τ col,σ a5 n5 c5,σ a6 n6 c6,σ a7 k c7] 34 (0,0))/\x.heap[w3.heap.size]?=ς (γ #[τ ds,σ (ς ⟨g1,0,ν⟩) dn dc,σ (ς ⟨g2,0,ν⟩) dr cr] 67 (0,0))) (by kernel_rfl) (⟨q0,q1,qt⟩) (λjH=>?_);generalize wr.drew=v at jH hbv hrr hsv ⊢;refine tk 0 jH ?_ (hy:=λx jS=>by obtain⟨h0_,h1_,h2_⟩:=jS;obtain⟨Dl,-⟩:=AG h0_;obtain⟨-,-,-,-,-,-,i6_,-⟩:=AJ h1_;obtain⟨-,i7_,-⟩:=AL h2_;go_simp<;>rfl)
   try simp only [zS]
   refine tk 2 jH ?_;refine tk 3 jH ?_ (hy:=λx jS=>by obtain⟨h0_,h1_,h2_⟩:=jS;obtain⟨Dl,-⟩:=AG h0_;obtain⟨-,-,-,-,-,-,i6_,-⟩:=AJ h1_;obtain⟨-,i7_,-⟩:=AL h2_;go_simp<;>rfl)
   try simp only [zS]
   refine tk 4 jH ?_;try simp only [zS];refine tk 5 jH ?_ (hy:=λx jS=>by obtain⟨h0_,h1_,h2_⟩:=jS;obtain⟨Dl,-⟩:=AG h0_;obtain⟨-,-,-,-,-,-,i6_,-⟩:=AJ h1_;obtain⟨-,i7_,-⟩:=AL h2_;go_simp<;>rfl)
   try simp only [zS]
   refine rd 1 (λK hK=>?_);go_simp;refine(Cd (ς ⟨g,0,ν⟩) n c T _ (hT.tl.later hbv) (by omega) HF.out).mono ?_;rintro e v ⟨a8,c8,rfl,hL8,hb8⟩;refine hK.out _ _ (⟨AC jH.1 hb8,AC jH.2.1 hb8,AC jH.2.2 hb8⟩) (λjH=>?_);clear hK K;try simp only [zS]
   replace hL8:=hL8.wide (Y:=λb=>w.heap.size+3<=b) (λb hb _=>VX hsv hb);replace hrr:=AC hrr hb8;replace hbv:=AA hbv hb8;replace hsv:=VX hsv (hb8).size;refine rd 6 (λK hK=>?_);go_simp;refine(HCW.out _ hbv).mono ?_;rintro e v ⟨rfl,hb7⟩;refine hK.out _ _ (⟨AC jH.1 hb7,AC jH.2.1 hb7,AC jH.2.2 hb7⟩) (λjH=>?_);clear hK K;try simp only [zS]
   replace hL8:=hL8.later hb7;replace hrr:=AC hrr hb7;replace hbv:=AA hbv hb7;replace hsv:=VX hsv (hb7).size;refine rd 7 (λK hK=>?_);obtain⟨m9,f9⟩:=AG hrr;go_simp;refine hK.out _ _ ⟨Af jH.1 (by omega),Af jH.2.1 (by omega),Af jH.2.2 (by omega)⟩ (λjH=>?_);clear hK K;try simp only [zS]
   refine tk 8 jH ?_
   try simp only [zS]
   refine VP (by kernel_rfl) ?_ _;go_wp2;refine VE (AE Tryz.results6 _ _ (w.heap.size+1+1) 28 _ (0,0) _ rfl (BW hrr _) Tryz.underlying28 rfl (by kernel_rfl)) rfl ?_;rw [HA2.out];exact⟨a8,c8,by rw [AY];rfl,((hL8.set (B:=w.heap.size+1+1) (by omega)).wide (λb hb _=>by omega)).imp (λ_ h=>h.list),Bg hbv (by omega)⟩
abbrev UK:Oper:=⟨ς 35,.call ⟨.value (.func 20),#[δ 32,δ 34],#[28,9]⟩,3,"l5_replay.go:385",#[⟨2,φ⟩,⟨4,φ⟩],ν⟩
abbrev UJ:Oper:=⟨ς 9,.alloc 67,0,"l5_replay.go:385",#[],ν⟩
def Kg(C:Nat->Clm)(n:Nat)(F:Nat->Itm)(m7:Nat->Nat)(O:Nat->Nat->Itm)(n7:Nat):Rw:=(n7,λi=>Bv C n F (O i) (m7 i))
def CO(C:Nat->Clm)(n:Nat)(F:Nat->Itm)(m7:Nat->Nat)(O:Nat->Nat->Itm):Nat->Bool
 | 0=>false
 | k+1=>CO C n F m7 O k || decide (200<(Bv C n F (O k) (m7 k)).s.size)
theorem Kp{C:Nat->Clm}{n:Nat}{F:Nat->Itm}{m7:Nat->Nat}{O:Nat->Nat->Itm}{k:Nat}(h:CO C n F m7 O k=true):∀ r,k<=r->CO C n F m7 O r=true:=by
 intro r hr;induction r with
 | zero=>
  obtain rfl:k=0:=by omega
  exact h
 | succ r ih=>
  by_cases e:k=r+1
  · subst e;exact h
  · rw [CO,ih (by omega)];rfl
def Gf(C:Nat->Clm)(n:Nat)(R:Nat->Nat->Itm)(W:Nat->Itm)(n6:Nat)(m7:Nat->Nat)(O:Nat->Nat->Itm)(n7:Nat):Nat->List Rw
 | 0=>[]
 | k+1=>Gf C n R W n6 m7 O n7 k ++ Eb (Bp C n (R k) W n6) (Kg C n (R k) m7 O n7)
def Gy(C:Nat->Clm)(n:Nat)(R:Nat->Nat->Itm)(W:Nat->Itm)(n6:Nat)(m7:Nat->Nat)(O:Nat->Nat->Itm)(n7:Nat):Nat->Bool
 | 0=>false
 | k+1=>Gy C n R W n6 m7 O n7 k || (Bp C n (R k) W n6 && CO C n (R k) m7 O n7)
theorem NU{C:Nat->Clm}{n:Nat}{R:Nat->Nat->Itm}{W:Nat->Itm}{n6:Nat}{m7:Nat->Nat}{O:Nat->Nat->Itm}{n7 k:Nat}(h:Gy C n R W n6 m7 O n7 k=true):∀ r,k<=r->Gy C n R W n6 m7 O n7 r=true:=by
 intro r hr;induction r with
 | zero=>
  obtain rfl:k=0:=by omega
  exact h
 | succ r ih=>
  by_cases e:k=r+1
  · subst e;exact h
  · rw [Gy,ih (by omega)];rfl
theorem Il{C:Nat->Clm}{n:Nat}{R:Nat->Nat->Itm}{W:Nat->Itm}{n6:Nat}{m7:Nat->Nat}{O:Nat->Nat->Itm}{n7:Nat}:∀ {k:Nat},(Gf C n R W n6 m7 O n7 k).length<=k
 | 0=>by simp [Gf]
 | k+1=>by
  have ih:=Il (C:=C) (n:=n) (R:=R) (W:=W) (n6:=n6) (m7:=m7) (O:=O) (n7:=n7) (k:=k);simp only [Gf,VJ,DE]
  split <;> omega
def A8(n:Nat)(T:Nat->Td)(D:St):List Rw×Int:=
 if ¬D.k=5 then ([],7) else if ¬(Bf n T D).2=0 then ([],(Bf n T D).2)
 else match An T D.tb n with
  | none=>([],0)
  | some j=>if Gy (T j).C (T j).n (T j).R D.W D.n6 D.m7 D.O D.n7 (T j).r=true then ([],6) else (Gf (T j).C (T j).n (T j).R D.W D.n6 D.m7 D.O D.n7 (T j).r,0)
def Um(w:ο)(A:List Rw)(cd:Int)(e:Ending)(w':ο):Prop:=∃ a' c',e=ρ (θ #[σ a' A.length c',ι κ cd])/\OD (λb=>w.heap.size<=b) w' a' A/\υ w.heap.size w w'
theorem Kn{n:Nat}{T:Nat->Td}{D:St}(hk:D.k=5)(h:(Bf n T D).2=0):∃ j,An T D.tb n=ς j/\j<n/\Br (T j)=true/\AK D=true/\GJ (T j).C (T j).n D.m7 D.O D.n7=0/\CM (T j).C (T j).n D.W D.n6=0:=by
 unfold Bf at h;split at h
 · simp at h
 rename_i h1
 split at h
 · simp at h
 rename_i h2
 rw [if_neg (by omega)] at h;rcases ht:An T D.tb n with _ | j
 · rw [ht] at h;simp at h
 ·
  rw [ht] at h;simp only at h
  rw [if_neg (by omega),if_neg (by omega),if_neg (by omega)] at h;simp only at h
  unfold Hv at h;have hdb:A2 n T=true:=by simpa using h1
  have hj:=(A4 ht).1;split at h
  ·
   rename_i h3
   exact⟨j,rfl,hj,(Ax hdb).2 j hj,by simpa using h2,h3,h⟩
  ·
   rename_i h3
   exact absurd h h3
theorem Km{C:Nat->Clm}{n:Nat}{m:Nat->Nat}{O:Nat->Nat->Itm}:∀ {k:Nat},GJ C n m O k=0->∀ j,j<k->(DA C n (O j) (m j)).2=0
 | 0,_,j,hj=>by omega
 | k+1,h,j,hj=>by
  rw [GJ] at h;split at h
  ·
   rename_i h1
   by_cases e:j=k
   · subst e;exact h
   · exact Km h1 j (by omega)
  ·
   rename_i h1
   exact absurd h h1
theorem FH{W:ο}{R:Nat}{x0 x1 x2:VN}{t:TypeId}(h:W.heap[R]?=ς (γ #[x0,x1,x2] t (0,0)))(v0 v1 v2:VN):(((W.setCell ⟨R,0,ν⟩ v0).setCell ⟨R,1,ν⟩ v1).setCell ⟨R,2,ν⟩ v2).heap[R]?=ς (γ #[v0,v1,v2] t (0,0)):=
 π _ _ 2 _ _ v2 (π _ _ 1 _ _ v1 (π _ _ 0 _ _ v0 h))
theorem PP(a:Option Addr)(n c:Nat)(T:Nat->Td)(k0:Int)(tb:ByteArray)(a2:Option Addr)(n2 c2:Nat)(a3:Option Addr)(n3 c3:Nat)(col:ByteArray)(a5:Option Addr)(n5 c5:Nat)(a6:Option Addr)(n6 c6:Nat)(a7:Option Addr)(n7 c7:Nat)(C:Nat->Clm)(V E W:Nat->Itm)(m7:Nat->Nat)(O:Nat->Nat->Itm)(D:St)(hD:(⟨k0,tb,n2,C,n3,V,col,n5,E,n6,W,n7,m7,O⟩:St)=D)(w:ο)(hT:TS w a n T)(hS:SM w ⟨k0,tb,n2,C,n3,V,col,n5,E,n6,W,n7,m7,O⟩ ⟨a2,c2,a3,c3,a5,c5,a6,c6,a7,c7⟩)(hn:n<=1048576)(hc2:n2<=c2) :
 VK μ 11 #[χ #[σ a n c],χ #[ι κ k0,τ tb,σ a2 n2 c2,σ a3 n3 c3,τ col,σ a5 n5 c5,σ a6 n6 c6,σ a7 n7 c7]] w (Um w (A8 n T D).1 (A8 n T D).2):=by
 have hbU:υ w.heap.size w (((w.alloc (γ #[σ a n c] 28)).alloc (γ #[ι κ k0,τ tb,σ a2 n2 c2,σ a3 n3 c3,τ col,σ a5 n5 c5,σ a6 n6 c6,σ a7 n7 c7] 34)).alloc (γ #[] 30)):=Ay _ _ _ _;have hsU:(((w.alloc (γ #[σ a n c] 28)).alloc (γ #[ι κ k0,τ tb,σ a2 n2 c2,σ a3 n3 c3,τ col,σ a5 n5 c5,σ a6 n6 c6,σ a7 n7 c7] 34)).alloc (γ #[] 30)).heap.size=w.heap.size+3:=by rw [ω,ω,ω]
 have hq0:(((w.alloc (γ #[σ a n c] 28)).alloc (γ #[ι κ k0,τ tb,σ a2 n2 c2,σ a3 n3 c3,τ col,σ a5 n5 c5,σ a6 n6 c6,σ a7 n7 c7] 34)).alloc (γ #[] 30)).heap[w.heap.size]?=ς (γ #[σ a n c] 28 (0,0)):=AC (AC (η w _) (AD _ _)) (AD _ _);have hq1:(((w.alloc (γ #[σ a n c] 28)).alloc (γ #[ι κ k0,τ tb,σ a2 n2 c2,σ a3 n3 c3,τ col,σ a5 n5 c5,σ a6 n6 c6,σ a7 n7 c7] 34)).alloc (γ #[] 30)).heap[w.heap.size+1]?=ς (γ #[ι κ k0,τ tb,σ a2 n2 c2,σ a3 n3 c3,τ col,σ a5 n5 c5,σ a6 n6 c6,σ a7 n7 c7] 34 (0,0)):=by
  have q:=η (w.alloc (γ #[σ a n c] 28)) (γ #[ι κ k0,τ tb,σ a2 n2 c2,σ a3 n3 c3,τ col,σ a5 n5 c5,σ a6 n6 c6,σ a7 n7 c7] 34);rw [ω] at q;exact AC q (AD _ _)
 have hOE:(((w.alloc (γ #[σ a n c] 28)).alloc (γ #[ι κ k0,τ tb,σ a2 n2 c2,σ a3 n3 c3,τ col,σ a5 n5 c5,σ a6 n6 c6,σ a7 n7 c7] 34)).alloc (γ #[] 30)).ownsRow (w.heap.size+1+1) 30 1 (σ (ς ⟨w.heap.size+1+1,0,ν⟩) 0 0) 0 []:=by
  have q:=VU (base:=w.heap.size+1+1) (e:=30) (size:=1) ((w.alloc (γ #[σ a n c] 28)).alloc (γ #[ι κ k0,τ tb,σ a2 n2 c2,σ a3 n3 c3,τ col,σ a5 n5 c5,σ a6 n6 c6,σ a7 n7 c7] 34)) #[] 0 (by rw [ω,ω];exact VD _) (by unfold maxLen;omega) rfl;rw [ω,ω] at q;exact q
 obtain⟨c0,-⟩:=AG hq0;obtain⟨d0_,d1_,d2_,d3_,d4_,d5_,d6_,d7_⟩:=AJ hq1;obtain⟨AP,cd,hap⟩:∃ A cd,Bf n T D=(A,cd):=⟨_,_,rfl⟩;have HAP:Hid (VK μ 6 #[χ #[σ a n c],χ #[ι κ k0,τ tb,σ a2 n2 c2,σ a3 n3 c3,τ col,σ a5 n5 c5,σ a6 n6 c6,σ a7 n7 c7]] (((w.alloc (γ #[σ a n c] 28)).alloc (γ #[ι κ k0,τ tb,σ a2 n2 c2,σ a3 n3 c3,τ col,σ a5 n5 c5,σ a6 n6 c6,σ a7 n7 c7] 34)).alloc (γ #[] 30)) (LS (((w.alloc (γ #[σ a n c] 28)).alloc (γ #[ι κ k0,τ tb,σ a2 n2 c2,σ a3 n3 c3,τ col,σ a5 n5 c5,σ a6 n6 c6,σ a7 n7 c7] 34)).alloc (γ #[] 30)) AP cd)):=by
  have:=Lf a n c T k0 tb a2 n2 c2 a3 n3 c3 col a5 n5 c5 a6 n6 c6 a7 n7 c7 C V E W m7 O D hD (((w.alloc (γ #[σ a n c] 28)).alloc (γ #[ι κ k0,τ tb,σ a2 n2 c2,σ a3 n3 c3,τ col,σ a5 n5 c5,σ a6 n6 c6,σ a7 n7 c7] 34)).alloc (γ #[] 30)) (hT.later hbU) (hS.later hbU) hn hc2;rwa [hap] at this
 have HD:Hid ((⟨k0,tb,n2,C,n3,V,col,n5,E,n6,W,n7,m7,O⟩:St)=D):=hD;have HPP:Hid (Bf n T D=(AP,cd)):=hap;clear hD hap;by_cases hk:k0=5
 rotate_left
 ·
  have nk:(k0 != 5)=true:=by simpa using hk
  have HA:Hid (A8 n T D=([],7)):=by show _=_;unfold A8;rw [if_pos (by rw [←HD.out];exact hk)]
  clear hk;go_enter Tryz.func11,Tryz.ntmps11
  go_wp2_with (first | (go_at_call 6;refine(HAP.out).mono ?_;rintro e w1 ⟨a8,c8,rfl,-,hb1⟩;have hB1:=AA hbU hb1;have hss1:=hb1.size;have x0:=AC hq0 hb1;have x1:=AC hq1 hb1;have hx9:=AD w1 (γ #[σ a8 AP.length c8] 28);have hbx:=AA hB1 hx9;have y0:=AC x0 hx9;have y1:=AC x1 hx9;obtain⟨ya,-⟩:=AG y0;obtain⟨yb0,yb1,yb2,yb3,yb4,yb5,yb6,yb7⟩:=AJ y1))
  refine VE (VZ rfl _ _ _) rfl ?_;rw [HA.out];exact⟨_,_,rfl,λk hk=>absurd hk (Vc k),hbx⟩
 subst hk;by_cases he:cd=0
 rotate_left
 ·
  have ne:(cd != 0)=true:=by simpa using he
  have HA:Hid (A8 n T D=([],cd)):=by show _=_;unfold A8;rw [if_neg (by rw [←HD.out];simp),HPP.out,if_pos he]
  clear he;go_enter Tryz.func11,Tryz.ntmps11
  go_wp2_with (first | (go_at_call 6;refine(HAP.out).mono ?_;rintro e w1 ⟨a8,c8,rfl,-,hb1⟩;have hB1:=AA hbU hb1;have hss1:=hb1.size;have x0:=AC hq0 hb1;have x1:=AC hq1 hb1;have hx9:=AD w1 (γ #[σ a8 AP.length c8] 28);have hbx:=AA hB1 hx9;have y0:=AC x0 hx9;have y1:=AC x1 hx9;obtain⟨ya,-⟩:=AG y0;obtain⟨yb0,yb1,yb2,yb3,yb4,yb5,yb6,yb7⟩:=AJ y1))
  refine VE (VZ rfl _ _ _) rfl ?_;rw [HA.out];exact⟨_,_,rfl,λk hk=>absurd hk (Vc k),hbx⟩
 subst he;obtain⟨j,htj,hj,hokj,hokS,hso,hcw⟩:=Kn (n:=n) (T:=T) (D:=D) (by rw [←HD.out]) (by rw [HPP.out]);rw [←HD.out] at htj hso hcw;simp only at htj hso hcw
 obtain⟨h7a,h7b,h7c,h7d⟩:=IS hokS (by rw [←HD.out]);rw [←HD.out] at h7a h7b h7c h7d;simp only at h7a h7b h7c h7d
 obtain⟨g,rfl,hN⟩:∃ g,a=ς ⟨g,0,ν⟩/\TN w g n T:=by
  rcases hT with h | h
  · omega
  · exact h
 obtain⟨g1,dc,g2,cr,e0,e1,e2,⟨hdc,hcr⟩,hCt,hRt,hSt⟩:=hN j hj;have hNt:=Bi hokj;have HSE0:A8 n T D=if Gy (T j).C (T j).n (T j).R W n6 m7 O n7 (T j).r=true then ([],6) else (Gf (T j).C (T j).n (T j).R W n6 m7 O n7 (T j).r,0):=by
  unfold A8;rw [if_neg (by rw [←HD.out];simp),HPP.out,if_neg (by simp),←HD.out];simp only
  rw [htj]
 obtain⟨ds,dn,dC,dr,dm,dR,hTj⟩:∃ s nc C r m R,T j=⟨s,nc,C,r,m,R⟩:=⟨_,_,_,_,_,_,rfl⟩;rw [hTj] at e0 e1 e2 hdc hcr hCt hRt hSt hNt hso hcw HSE0;simp only at e0 e1 e2 hdc hcr hCt hRt hNt hso hcw HSE0
 have HSE:Hid (A8 n T D=if Gy dC dn dR W n6 m7 O n7 dr=true then ([],6) else (Gf dC dn dR W n6 m7 O n7 dr,0)):=HSE0
 have HN:Hid (Nice dn dr dm dR):=hNt;have HEX:Hid (∀ i,i<n7->AZ (O i) (m7 i)=true/\(ck dC dn (O i) (m7 i)).2=0):=λi hi=>⟨h7c i hi,FO (Km hso i hi)⟩;have HWH:Hid (AI W n6=true/\CM dC dn W n6=0):=⟨h7d,hcw⟩;have hn1:=hNt.n1;have hn0:=hNt.n0;have hr1:=hNt.r1;have HTJ:Hid (∀ W',υ w.heap.size w W'->VK μ 20 #[χ #[σ (ς ⟨g,0,ν⟩) n c],τ tb] W' (λe w'=>e=ρ (ι κ j)/\υ W'.heap.size W' w')):=λW' hW'=>by
  have:=Gz (ς ⟨g,0,ν⟩) n c T tb W' (hT.tl.later hW') hn;rwa [htj] at this
 clear HSE0 hTj hNt h7c h7d hso hcw htj hokj hokS;have hjn:(j:Int)<n:=by omega
 have hj0:(0:Int)<=j:=by omega
 obtain⟨jr,hir,hzr0,hzr1,hzr2⟩:=info_parts Tryz.infoRow;have HIr:Hid (Tryz.prog.info? 30=ς jr):=hir;obtain⟨j3,hi3,hz30,hz31,hz32⟩:=info_parts Tryz.infoVal;have HI3:Hid (Tryz.prog.info? 60=ς j3):=hi3;clear hir hi3;go_enter Tryz.func11,Tryz.ntmps11
 go_upto_region 7 with (first | (go_at_call 6;refine(HAP.out).mono ?_;rintro e w1 ⟨a8,c8,rfl,-,hb1⟩;have hB1:=AA hbU hb1;have hss1:=hb1.size;have x0:=AC hq0 hb1;have x1:=AC hq1 hb1;have hx9:=AD w1 (γ #[σ a8 AP.length c8] 28);have hbx:=AA hB1 hx9;have y0:=AC x0 hx9;have y1:=AC x1 hx9;obtain⟨ya,-⟩:=AG y0;obtain⟨yb0,yb1,yb2,yb3,yb4,yb5,yb6,yb7⟩:=AJ y1))
 have hOE2:=AF hOE (AA hb1 hx9);have hs2:w.heap.size+4<=(w1.alloc (γ #[σ a8 AP.length c8] 28)).heap.size:=by rw [ω];omega
 clear ya yb0 yb1 yb2 yb3 yb4 yb5 yb6 yb7 x0 x1;generalize w1.alloc (γ #[σ a8 AP.length c8] 28)=w2 at hbx y0 y1 hOE2 hs2 ⊢;clear hx9 hB1 hss1 hb1 hOE;refine VH (S:=λx=>υ w2.heap.size w2 x) (by kernel_rfl) (CU _) (λjH=>?_);generalize w2.drew=v at jH ⊢;refine tk 0 jH ?_;refine tk 1 jH ?_ (hy:=λx jS=>by have k0:=(AG (AC y0 jS)).1;have k1:=(AJ (AC y1 jS)).2.1;have k2:=AB (AA hbx jS) e0;have k3:=AB (AA hbx jS) e1;have k4:=AB (AA hbx jS) e2;go_simp<;>rfl)
 try simp only [zS]
 refine tk 2 jH ?_ (hy:=λx jS=>by have k0:=(AG (AC y0 jS)).1;have k1:=(AJ (AC y1 jS)).2.1;have k2:=AB (AA hbx jS) e0;have k3:=AB (AA hbx jS) e1;have k4:=AB (AA hbx jS) e2;go_simp<;>rfl)
 try simp only [zS]
 refine tk 3 jH ?_;try simp only [zS];refine tk 4 jH ?_ (hy:=λx jS=>by have k0:=(AG (AC y0 jS)).1;have k1:=(AJ (AC y1 jS)).2.1;have k2:=AB (AA hbx jS) e0;have k3:=AB (AA hbx jS) e1;have k4:=AB (AA hbx jS) e2;go_simp<;>rfl)
 try simp only [zS]
 refine wpAnyH_ready (rs:=[5,8]) (by kernel_rfl) (by simp) ?_;refine(AllReadyH.cons (o:=UK) rfl (λK hK=>?w1_c2) (AllReadyH.cons (o:=UJ) rfl (λK hK=>?w1_c1) AllReadyH.nil));case' w1_c2=>
  go_simp;refine(HTJ.out _ (AA hbx jH)).mono ?_;rintro e v ⟨rfl,hb5⟩;refine hK.out _ _ (AA jH hb5) (λjH=>?_);clear hK K;try simp only [zS]
  clear hb5;refine tk 6 jH ?_;try simp only [zS];refine tk 7 jH ?_ (hy:=λx jS=>by have k0:=(AG (AC y0 jS)).1;have k1:=(AJ (AC y1 jS)).2.1;have k2:=AB (AA hbx jS) e0;have k3:=AB (AA hbx jS) e1;have k4:=AB (AA hbx jS) e2;go_simp<;>rfl)
  try simp only [zS]
  refine rd 8 (λK hK=>?_);have hqT:=η v (γ #[τ ⟨#[]⟩,σ ν 0 0,σ ν 0 0] 67);have hbT:=AD v (γ #[τ ⟨#[]⟩,σ ν 0 0,σ ν 0 0] 67);have hsT:=jH.size;go_simp;refine hK.out _ _ (AA jH (AD _ _)) (λjH=>?_);clear hK K;try simp only [zS]
  generalize v.heap.size=BT at hqT hsT ⊢;generalize v.alloc (γ #[τ ⟨#[]⟩,σ ν 0 0,σ ν 0 0] 67)=v at hqT hbT  jH ⊢;clear hbT;refine rd 9 (λK hK=>?_);obtain⟨s0_,s1_,s2_,sf0_,sf1_,sf2_⟩:=AL hqT;go_simp;refine hK.out _ _ (BM jH hsT _ _ _) (λjH=>?_);clear hK K s0_ s1_ s2_ sf0_ sf1_ sf2_;try simp only [zS]
  replace hqT:=FH hqT (τ ds) (σ (ς ⟨g1,0,ν⟩) dn dc) (σ (ς ⟨g2,0,ν⟩) dr cr);refine VP (by kernel_rfl) ?_ _
 case' w1_c1=>
  have hqT:=η v (γ #[τ ⟨#[]⟩,σ ν 0 0,σ ν 0 0] 67);have hbT:=AD v (γ #[τ ⟨#[]⟩,σ ν 0 0,σ ν 0 0] 67);have hsT:=jH.size;go_simp;refine hK.out _ _ (AA jH (AD _ _)) (λjH=>?_);clear hK K;try simp only [zS]
  generalize v.heap.size=BT at hqT hsT ⊢;generalize v.alloc (γ #[τ ⟨#[]⟩,σ ν 0 0,σ ν 0 0] 67)=v at hqT hbT  jH ⊢;clear hbT;refine rd 5 (λK hK=>?_);go_simp;refine(HTJ.out _ (AA hbx jH)).mono ?_;rintro e v ⟨rfl,hb5⟩;refine hK.out _ _ (AA jH hb5) (λjH=>?_);clear hK K;try simp only [zS]
  replace hqT:=AC hqT hb5;clear hb5;refine tk 6 jH ?_;try simp only [zS];refine tk 7 jH ?_ (hy:=λx jS=>by have k0:=(AG (AC y0 jS)).1;have k1:=(AJ (AC y1 jS)).2.1;have k2:=AB (AA hbx jS) e0;have k3:=AB (AA hbx jS) e1;have k4:=AB (AA hbx jS) e2;go_simp<;>rfl)
  try simp only [zS]
  refine rd 9 (λK hK=>?_);obtain⟨s0_,s1_,s2_,sf0_,sf1_,sf2_⟩:=AL hqT;go_simp;refine hK.out _ _ (BM jH hsT _ _ _) (λjH=>?_);clear hK K s0_ s1_ s2_ sf0_ sf1_ sf2_;try simp only [zS]
  replace hqT:=FH hqT (τ ds) (σ (ς ⟨g1,0,ν⟩) dn dc) (σ (ς ⟨g2,0,ν⟩) dr cr);refine VP (by kernel_rfl) ?_ _
 all_goals
  generalize (((v.setCell ⟨BT,0,ν⟩ (τ ds)).setCell ⟨BT,1,ν⟩ (σ (ς ⟨g1,0,ν⟩) dn dc)).setCell ⟨BT,2,ν⟩ (σ (ς ⟨g2,0,ν⟩) dr cr))=w4 at hqT jH ⊢;have hb4:=AA hbx jH;have hOE4:=AF hOE2 jH;have z1:=AC y1 jH;have hs4:w.heap.size+4<=w4.heap.size:=VX hs2 jH.size;obtain⟨t0_,t1_,t2_,-⟩:=AL hqT;have hBT:w.heap.size+4<=BT/\BT<w4.heap.size:=⟨VX hs2 hsT,(VL.1 hqT).1⟩;clear jH hOE2 y0 y1;go_wp2;go_loopw [6,11,12,14,15,41] (λv _ _ _ _ i wr=>∃ (k:Nat) (A:List Rw) (gg cap:Nat) (f:Nat->List VN),k<=dr/\i=ι κ k/\v=σ (ς ⟨gg,0,ν⟩) A.length cap/\Gf dC dn dR W n6 m7 O n7 k=A/\Gy dC dn dR W n6 m7 O n7 k=false/\RO (w.heap.size+1+1) (λb=>w4.heap.size<=b) wr (σ (ς ⟨gg,0,ν⟩) A.length cap) A.length (λi=>A.getD i _root_.Go.Proofs.YtoeencbghldmdaaGreatDoor.r0) f/\gg≠BT/\wr.heap[w.heap.size+1]?=ς (γ #[ι κ 5,τ tb,σ a2 n2 c2,σ a3 n3 c3,τ col,σ a5 n5 c5,σ a6 n6 c6,σ a7 n7 c7] 34 (0,0))/\wr.heap[BT]?=ς (γ #[τ ds,σ (ς ⟨g1,0,ν⟩) dn dc,σ (ς ⟨g2,0,ν⟩) dr cr] 67 (0,0))/\υ w.heap.size w wr/\w4.heap.size<=wr.heap.size) (λ_ _ _ _ _ i _=>dr - (VQ i).toNat)
  case atStart=>exact⟨0,[],w.heap.size+1+1,0,λ_=>[],VS _,rfl,rfl,rfl,rfl,GO.nil hOE4,by omega,z1,hqT,hb4,VD _⟩
  case round=>
   obtain⟨k,A,gg,cap,f,hk,rfl,rfl,hse,hsg,hRO,hgb,q1,qt,hbw,hsr⟩:=hrel;have HSS:Hid (Gf dC dn dR W n6 m7 O n7 k=A/\Gy dC dn dR W n6 m7 O n7 k=false):=⟨hse,hsg⟩;have hAl:A.length<=1000000:=by rw [←hse];have:=Il (C:=dC) (n:=dn) (R:=dR) (W:=W) (n6:=n6) (m7:=m7) (O:=O) (n7:=n7) (k:=k);omega
   clear hse hsg;have hgl:=hRO.own.lt gg rfl;obtain⟨-,-,-,-,-,-,qw,qo⟩:=AJ q1;obtain⟨qt0,qt1,qt2,-⟩:=AL qt;by_cases hlt:k<dr
   rotate_left
   ·
    obtain rfl:k=dr:=by omega
    have HA:Hid (A8 n T D=(A,0)):=by show _=_;rw [HSE.out,HSS.out.1,HSS.out.2,if_neg (by simp)]
    obtain⟨a',c',e',hOD⟩:=RO.od (D':=λb=>w.heap.size<=b) hRO (λb h=>by omega) (λb h=>by omega);obtain⟨rfl,rfl⟩:ς ⟨gg,0,ν⟩=a'/\cap=c':=by simpa using e'
    go_wp2;refine VE (VZ rfl _ _ _) rfl ?_;rw [HA.out];exact⟨_,_,rfl,hOD,hbw⟩
   obtain⟨bR,offR,ai,ci,eR,d1,-,hI⟩:=ER.of hRt hlt;obtain⟨rfl,rfl⟩:g2=bR/\0=offR:=by simpa using eR
   have hmk:=HN.out.len k hlt;have d2:=AB hbw d1;rw [hmk,VM] at d2;rw [hmk] at hI;clear hmk d1 eR;obtain⟨br,offr,rfl,-⟩:=hI 0 hn0;have hkr:(k:Int)<dr:=by omega
   have HTX:Hid (∀ j,j<dn->(dR k j).s.size<=200):=HN.out.txt k hlt;obtain⟨fb,hfb⟩:∃ fb,Bp dC dn (dR k) W n6=fb:=⟨_,rfl⟩;have HFT:=NX (ς ⟨g1,0,ν⟩) dn dc dC (ς ⟨br,offr,ν⟩) ci (dR k) a6 n6 c6 W wr (hCt.later hbw) (hI.later hbw) (hS.wh.later hbw) hn1 HWH.out.1 HWH.out.2 HTX.out;rw [hfb] at HFT;have HST:Hid (Gf dC dn dR W n6 m7 O n7 (k+1)=A ++ Eb fb (Kg dC dn (dR k) m7 O n7)/\Gy dC dn dR W n6 m7 O n7 (k+1)=(fb && CO dC dn (dR k) m7 O n7)):=by
    refine⟨?_,?_⟩
    · rw [Gf,HSS.out.1,hfb]
    · rw [Gy,HSS.out.2,hfb];rfl
   clear hfb;cases fb
   ·
    go_wp2_with (go_at_call 36;refine HFT.mono ?_;rintro e w5 ⟨rfl,hb5⟩)
    go_roundw
    case rel=>exact⟨k+1,A,gg,cap,f,by omega,by go_num,rfl,by rw [HST.out.1];simp [Eb],by rw [HST.out.2];rfl,hRO.later hb5,hgb,AC q1 hb5,AC qt hb5,AA hbw hb5,VX hsr hb5.size⟩
    case measure=>simp [VQ];omega
   have HVL:Hid (∀ i,i<n7->∀ aO cO W',IL W' aO (m7 i) (O i)->υ w.heap.size w W'->VK μ 37 #[σ (ς ⟨g1,0,ν⟩) dn dc,σ (ς ⟨br,offr,ν⟩) dn ci,σ aO (m7 i) cO] W' (λe w'=>e=ρ (χ #[ι κ (Bv dC dn (dR k) (O i) (m7 i)).o,ι κ (Bv dC dn (dR k) (O i) (m7 i)).m,τ (Bv dC dn (dR k) (O i) (m7 i)).s])/\υ W'.heap.size W' w')):=λi hi aO cO W' hIO hW'=>by
    obtain⟨ho,hc⟩:=HEX.out i hi;obtain⟨x1,x2,x3⟩:=BX ho;exact NV _ dn dc dC _ ci (dR k) aO (m7 i) cO (O i) W' (hCt.later hW') (hI.later hW') hIO hn1 x1 x3 hc HTX.out
   have HVX:Hid (∀ i,i<n7->(Bv dC dn (dR k) (O i) (m7 i)).s.size<=1048576):=λi hi=>by
    obtain⟨ho,-⟩:=HEX.out i hi;obtain⟨x1,x2,x3⟩:=BX ho;exact Do HTX.out x3 x1 x2
   obtain⟨wo,hwo⟩:∃ v,v=wr:=⟨_,rfl⟩;subst hwo;go_wp2_with (go_at_call 36;refine HFT.mono ?_;rintro e w5 ⟨rfl,hb5⟩;have x1:=AC q1 hb5;have xt:=AC qt hb5;obtain⟨-,-,-,-,-,-,-,xo⟩:=AJ (AC x1 (AD w5 (γ #[] 60))))
   have hbw5:=AA hbw hb5;have hss5:=hb5.size;have hOV:(w5.alloc (γ #[] 60)).ownsRow w5.heap.size 60 3 (σ (ς ⟨w5.heap.size,0,ν⟩) 0 0) 0 (BU (λi=>v3 (Bv dC dn (dR k) (O i) (m7 i))) 0):=VU w5 #[] 0 (VD _) (by unfold maxLen;omega) rfl;go_loopw [12,14,15,55] (λv _ _ i wr=>∃ (q gv capv:Nat),q<=n7/\i=ι κ q/\v=σ (ς ⟨gv,0,ν⟩) q capv/\wr.ownsRow w5.heap.size 60 3 (σ (ς ⟨gv,0,ν⟩) q capv) q (BU (λi=>v3 (Bv dC dn (dR k) (O i) (m7 i))) q)/\CO dC dn (dR k) m7 O q=false/\υ w5.heap.size w5 wr) (λ_ _ _ i _=>n7 - (VQ i).toNat)
   case atStart=>exact⟨0,w5.heap.size,0,VS _,rfl,rfl,hOV,rfl,AD _ _⟩
   case round=>
    obtain⟨q,gv,capv,hq,rfl,rfl,hOq,hbig,hbr⟩:=hrel;have HBG:Hid (CO dC dn (dR k) m7 O q=false):=hbig;clear hbig;have hbwr:=AA hbw5 hbr;have hssr:=hbr.size;have p1:=AC x1 hbr;have pt:=AC xt hbr;obtain⟨pt0,pt1,pt2,-⟩:=AL pt;have hglv:=hOq.lt gv rfl;by_cases hql:q<n7
    ·
     obtain⟨bO,offO,aO,cO,rfl,dO,hIO,-⟩:=hS.ou.later hbwr q hql;simp only at dO hIO
     have hqn:(q:Int)<n7:=by omega
     have HV:=HVL.out q hql aO cO wr hIO hbwr;have hvx:=HVX.out q hql;obtain⟨xo_,xm,xs,hx⟩:∃ xo xm xs,Bv dC dn (dR k) (O q) (m7 q)=⟨xo,xm,xs⟩:=⟨_,_,_,rfl⟩;have HX:Hid (Bv dC dn (dR k) (O q) (m7 q)=⟨xo_,xm,xs⟩):=hx;have HNX:Hid (CO dC dn (dR k) m7 O (q+1)=decide (200<xs.size)):=by show _=_;rw [CO,HBG.out,hx];rfl
     rw [hx] at HV hvx;simp only at HV hvx
     clear hx;by_cases hb200:200<xs.size
     ·
      have hb2:(200:Int)<xs.size:=by omega
      have HA:Hid (A8 n T D=([],6)):=by
       show _=_
       rw [HSE.out,if_pos (NU (k:=k+1) (by rw [HST.out.2,Kp (k:=q+1) (by rw [HNX.out];simpa using hb200) n7 (by omega)];rfl) dr (by omega))]
      go_wp2_with (go_at_call 37;refine HV.mono ?_;rintro e w6 ⟨rfl,hb6⟩)
      refine VE (VZ rfl _ _ _) rfl ?_;rw [HA.out];exact⟨_,_,rfl,λk hk=>absurd hk (Vc k),AA (AA hbwr hb6) (AA (AD _ _) (AD _ _))⟩
     ·
      have hb2:¬(200:Int)<xs.size:=by omega
      go_wp2_with (first | (at_builtin;have _h:=hO6;refine VR _ rfl _ _ _ rfl w5.heap.size 60 j3 (χ #[ι κ 0,ι κ 0,τ VG]) 3 32 Tryz.underlying30 HI3.out hz30 hz31 hz32 rfl (by omega) (σ (ς ⟨gv,0,ν⟩) q capv) q _ rfl (hO6.alloc _) ⟨w6.heap.size+1,0,ν⟩ 1 1 [ι κ xo_,ι κ xm,τ xs] rfl rfl (GN (ω _ _)) (GL rfl rfl rfl) (by omega) (by unfold maxLen;omega) (by omega) (by simp;omega) _ rfl ?_;intro g8 cap8 w8 hO8 hgr8 hat8 hlt8) | (go_at_call 37;refine HV.mono ?_;rintro e w6 ⟨rfl,hb6⟩;have hss6:=hb6.size;have hO6:=AF hOq (AA hb6 (AD w6 (γ #[ι κ xo_,ι κ xm,τ xs] 60)));have hB6:=AL (η w6 (γ #[ι κ xo_,ι κ xm,τ xs] 60));obtain⟨u0,u1,u2,-⟩:=hB6))
      have hb8:=gB (AA (AA hbr hb6) (AA (AD _ _) (AD _ _))) (r:=gv) hgr8 hglv.1;go_roundw
      case rel=>exact⟨q+1,g8,cap8,by omega,by go_num,rfl,by rw [Bs,HX.out];exact hO8,by rw [HNX.out];simpa using hb200,hb8⟩
      case measure=>simp [VQ];omega
    ·
     obtain rfl:q=n7:=by omega
     have hROr:=hRO.later (AA hb5 hbr);have hIL:=EK hOq HVX.out;go_wp2_with (first | (at_builtin;refine VR _ rfl _ _ _ rfl (w.heap.size+1+1) 30 jr (σ ν 0 0) 1 24 Tryz.underlying43 HIr.out hzr0 hzr1 hzr2 rfl (by omega) (σ (ς ⟨gg,0,ν⟩) A.length cap) A.length (BU f A.length) rfl (hROr.later (AD _ _)).own ⟨wr.heap.size,0,ν⟩ 1 1 [σ (ς ⟨gv,0,ν⟩) q capv] rfl rfl (VI (η wr _)) (Bt _ rfl) (by omega) (by unfold maxLen;omega) (by omega) (by simp;omega) _ rfl ?_;intro g8 cap8 w8 hO8 hgr8 hat8 hlt8))
     have hLt:Liv (λb=>w4.heap.size<=b/\ς b≠(σ (ς ⟨gg,0,ν⟩) A.length cap).ownBlock) wr (ER [σ (ς ⟨gv,0,ν⟩) q capv] (Kg dC dn (dR k) m7 O q)):=(hIL.liv (λb off e=>by
      obtain⟨rfl,-⟩:gv=b/\0=off:=by simpa using e
      refine⟨by omega,?_⟩;show ς gv≠ς gg
      intro e2;have e3:gv=gg:=VF e2;omega)).imp (λ_ h=>⟨_,_,rfl,h,by show q<=_;omega⟩)
     have hP:=GO.snoc (x:=Kg dC dn (dR k) m7 O q) (hROr.later (AD _ _)) (c:=[σ (ς ⟨gv,0,ν⟩) q capv]) rfl (hLt.later (AD _ _)) hO8 hgr8 hat8;have eA:(A ++ [Kg dC dn (dR k) m7 O q]).length=A.length+1:=by simp
     have hne:∀ b,b≠gg->ς b≠(σ (ς ⟨gg,0,ν⟩) A.length cap).ownBlock:=λb hb=>by
      show ς b≠ς gg
      intro e2;exact hb (VF e2)
     go_roundw
     case rel=>exact⟨k+1,A ++ [Kg dC dn (dR k) m7 O q],g8,cap8,_,by omega,by go_num,by rw [eA],by rw [HST.out.1];rfl,by rw [HST.out.2,HBG.out];rfl,hP,by
      rcases hat8 with e2 | e2
      · have e3:gg=g8:=VF e2;omega
      · rw [ω] at e2;omega,Bl (AC p1 (AD _ _)) hgr8 (hne _ (by omega)),Bl (AC pt (AD _ _)) hgr8 (hne _ (by omega)),JI (AA hbwr (AD _ _)) hgr8 (λx hx=>hne _ (by omega)),VX hsr (VX hss5 (VX hssr (VX (AD _ _).size hgr8.size)))⟩
     case measure=>simp [VQ];omega
set_option maxHeartbeats 4000000
theorem DQ(x:List UInt8):Va x x=false:=by
 induction x with
 | nil=>rfl
 | cons a x ih=>simp [Va,ih]
theorem DP(x y z:List UInt8)(h1:Va x y=true)(h2:Va y z=true):Va x z=true:=by
 induction x generalizing y z with
 | nil=>
  cases z with
  | nil=>cases y <;> simp [Va] at h2
  | cons c z=>rfl
 | cons a x ih=>
  cases y with
  | nil=>simp [Va] at h1
  | cons b y=>
   cases z with
   | nil=>simp [Va] at h2
   | cons c z=>
    simp only [Va,Bool.or_eq_true,decide_eq_true_eq,VO,beq_iff_eq] at h1 h2 ⊢
    rcases h1 with h1 | ⟨rfl,h1⟩
    ·
     rcases h2 with h2 | ⟨rfl,h2⟩
     · exact VV (UInt8.lt_trans h1 h2)
     · exact VV h1
    ·
     rcases h2 with h2 | ⟨rfl,h2⟩
     · exact VV h2
     · exact Vb ⟨rfl,ih y z h1 h2⟩
def FE(a b:ByteArray):Int:=if Va a.toList b.toList then -1 else if a=b then 0 else 1
theorem OM(a b:ByteArray)(w:ο):VK μ 113 #[τ a,τ b] w λe w'=>e=ρ (ι κ (FE a b))/\w'=w:=by
 have hq:=Rm a b;rcases hl:Va a.toList b.toList
 ·
  by_cases he:a=b
  ·
   have hq1:(a.toList == b.toList)=true:=by rw [hq];simp [he]
   have hc:Hid (FE a b=0):=by show _=_;unfold FE;rw [hl,if_neg (by simp),if_pos he]
   clear hq he;go_enter Tryz.func113,Tryz.ntmps113
   go_wp2_with (go_at_call 128;refine(Lw _ _).mono ?_;rintro e w1 ⟨rfl,rfl⟩)
   go_ret
   exact⟨by rw [hc.out];rfl,rfl⟩
  ·
   have hq1:(a.toList == b.toList)=false:=by rw [hq];simp [he]
   have hc:Hid (FE a b=1):=by show _=_;unfold FE;rw [hl,if_neg (by simp),if_neg he]
   clear hq he;go_enter Tryz.func113,Tryz.ntmps113
   go_wp2_with (go_at_call 128;refine(Lw _ _).mono ?_;rintro e w1 ⟨rfl,rfl⟩)
   go_ret
   exact⟨by rw [hc.out];rfl,rfl⟩
 ·
  have hc:Hid (FE a b=-1):=by show _=_;unfold FE;rw [hl,if_pos rfl]
  clear hq;go_enter Tryz.func113,Tryz.ntmps113
  go_wp2_with (go_at_call 128;refine(Lw _ _).mono ?_;rintro e w1 ⟨rfl,rfl⟩)
  go_ret
  exact⟨by rw [hc.out];rfl,rfl⟩
theorem LA(s:ByteArray)(ac:Option Addr)(n cc:Nat)(ar:Option Addr)(r cr:Nat)(nm:ByteArray)(w:ο):VK μ 112 #[χ #[τ s,σ ac n cc,σ ar r cr],τ nm] w λe w'=>e=ρ (ι κ (FE s nm))/\υ w.heap.size w w':=by
 go_enter Tryz.func112,Tryz.ntmps112
 go_wp2_with (go_at_call 113;refine(OM _ _ _).mono ?_;rintro e w1 ⟨rfl,rfl⟩)
 go_ret
 exact⟨rfl,AD _ _⟩
def Rx(F:Nat->Td)(n:Nat)(nm:ByteArray)(i:Nat):Prop:=i<=n/\(∀ k,k<i->Va (F k).s.toList nm.toList=true)/\(∀ k,i<=k->k<n->Va (F k).s.toList nm.toList=false)
def KF(F:Nat->Td)(n:Nat)(nm:ByteArray)(i:Nat):Bool:=decide (i<n) && decide ((F i).s=nm)
theorem OQ(a:Option Addr)(n c:Nat)(F:Nat->Td)(nm:ByteArray)(w:ο)(h:TL w a n F)(hn:n<=1048576)(hm:∀ j k,j<k->k<n->Va (F k).s.toList nm.toList=true->Va (F j).s.toList nm.toList=true) :
 VK μ 111 #[σ a n c,τ nm,.func (.func 112) #[] #[]] w λe w'=>∃ i:Nat,e=ρ (θ #[ι κ i,β (KF F n nm i)])/\Rx F n nm i/\υ w.heap.size w w':=by
 have hb0:=VT w.heap.size w;go_enter Tryz.func111,Tryz.ntmps111
 go_wp2;go_loopw [9,10,11] (λi j _ wr=>∃ p q:Nat,p<=q/\q<=n/\i=ι κ p/\j=ι κ q/\(∀ k,k<p->Va (F k).s.toList nm.toList=true)/\(∀ k,q<=k->k<n->Va (F k).s.toList nm.toList=false)/\υ w.heap.size w wr) (λi j _ _=>(VQ j - VQ i).toNat)
 case atStart=>exact⟨0,n,by omega,by omega,rfl,rfl,λk hk=>by omega,λk h1 h2=>by omega,hb0⟩
 case round=>
  obtain⟨p,q,hpq,hqn,rfl,rfl,hlo,hhi,hb⟩:=hrel;by_cases hlt:p<q
  ·
   have hlt':(p:Int)<q:=by omega
   obtain⟨m,hmm⟩:∃ m:Nat,m=(p+q) / 2:=⟨_,rfl⟩;have m1:((p:Int)+q) / 2=(m:Int):=by omega
   have m2:p<=m:=by omega
   have m3:m<q:=by omega
   have m4:(m:Int)<n:=by omega
   have m5:(0:Int)<=(m:Int):=by omega
   obtain⟨b,off,ac,cc,ar,cr_,rfl,c0,c1,c2,-⟩:=h.later hb m (by omega);clear hmm;rcases hl:Va (F m).s.toList nm.toList
   ·
    have hc:¬FE (F m).s nm<0:=by unfold FE;rw [hl,if_neg (by simp)];split <;> omega
    obtain⟨cr,hcr⟩:∃ cr,FE (F m).s nm=cr:=⟨_,rfl⟩;rw [hcr] at hc;go_wp2_with (go_at_call 112;refine(LA _ _ _ _ _ _ _ _ _).mono ?_;rw [hcr];rintro e w1 ⟨rfl,hb1⟩)
    refine⟨⟨p,m,m2,by omega,rfl,rfl,hlo,λk h1 h2=>?_,hb.trans (hb1.mono hb.size)⟩,by simp only [VQ];omega⟩;rcases hk:Va (F k).s.toList nm.toList
    · rfl
    ·
     rcases Nat.lt_or_ge m k with h3 | h3
     · have:=hm m k h3 h2 hk;rw [hl] at this;exact this.symm
     ·
      obtain rfl:k=m:=by omega
      rw [hl] at hk;exact hk.symm
   ·
    have hc:FE (F m).s nm<0:=by unfold FE;rw [hl,if_pos rfl];omega
    obtain⟨cr,hcr⟩:∃ cr,FE (F m).s nm=cr:=⟨_,rfl⟩;rw [hcr] at hc;go_wp2_with (go_at_call 112;refine(LA _ _ _ _ _ _ _ _ _).mono ?_;rw [hcr];rintro e w1 ⟨rfl,hb1⟩)
    refine⟨⟨m+1,q,by omega,by omega,by rw [Int.natCast_add];rfl,rfl,λk hk=>?_,hhi,hb.trans (hb1.mono hb.size)⟩,by simp only [VQ];omega⟩;rcases Nat.lt_or_ge k m with h3 | h3
    · exact hm k m h3 (by omega) hl
    ·
     obtain rfl:k=m:=by omega
     exact hl
  ·
   obtain rfl:p=q:=by omega
   by_cases hpn:p<n
   ·
    have hpn':(p:Int)<n:=by omega
    obtain⟨b,off,ac,cc,ar,cr_,rfl,c0,c1,c2,-⟩:=h.later hb p (by omega);obtain⟨cr,hcr⟩:∃ cr,FE (F p).s nm=cr:=⟨_,rfl⟩;go_wp2_with (go_at_call 112;refine(LA _ _ _ _ _ _ _ _ _).mono ?_;rw [hcr];rintro e w1 ⟨rfl,hb1⟩)
    go_ret2
    refine⟨p,?_,⟨by omega,hlo,hhi⟩,hb.trans (hb1.mono hb.size)⟩;have hh:KF F n nm p=(cr == 0):=by
     rw [←hcr];unfold KF FE;rw [hhi p (VD _) hpn,if_neg (by simp)];by_cases he:(F p).s=nm
     · rw [if_pos he];simp [hpn,he]
     · rw [if_neg he];simp [he]
    rw [hh];rfl
   ·
    have hpn':¬(p:Int)<n:=by omega
    go_wp2;go_ret2
    refine⟨p,?_,⟨by omega,hlo,hhi⟩,hb⟩;have hh:KF F n nm p=false:=by unfold KF;simp [hpn]
    rw [hh];rfl
theorem Cw{n:Nat}{T:Nat->Td}(h:A2 n T=true):∀ k j,k<n->j<k->Va (T j).s.toList (T k).s.toList=true:=by
 unfold A2 at h;simp only [VO] at h
 intro k;induction k with
 | zero=>intro j _ hj;omega
 | succ k ih=>
  intro j hk hj;have h1:=CE h.2 hk;unfold Ki at h1;simp only [Bool.or_eq_true,decide_eq_true_eq] at h1
  have h2:Va (T k).s.toList (T (k+1)).s.toList=true:=by
   rcases h1 with h1 | h1
   · omega
   · exact h1
  by_cases e:j=k
  · subst e;exact h2
  · exact DP _ _ _ (ih j (by omega) (by omega)) h2
theorem LX{n i:Nat}{T:Nat->Td}{nm:ByteArray}(h:A2 n T=true)(hi:i<n)(he:(T i).s=nm):An T nm n=ς i:=by
 rcases ht:An T nm n with _ | j
 · exact absurd he (Dp ht i hi)
 ·
  obtain⟨hj,hs⟩:=A4 ht;by_cases e:i=j
  · rw [e]
  ·
   exfalso
   rcases Nat.lt_or_gt_of_ne e with h1 | h1
   · have:=Cw h j i hj h1;rw [hs,he,DQ] at this;cases this
   · have:=Cw h i j hi h1;rw [hs,he,DQ] at this;cases this
theorem OH(a:Option Addr)(n c:Nat)(T:Nat->Td)(nm:ByteArray)(w:ο)(h:TL w a n T)(hn:n<=1048576)(hok:A2 n T=true) :
 VK μ 78 #[χ #[σ a n c],τ nm] w λe w'=>∃ i:Nat,e=ρ (θ #[ι κ i,β (An T nm n).isSome])/\Rx T n nm i/\(∀ j,An T nm n=ς j->i=j)/\υ w.heap.size w w':=by
 have hm:∀ j k,j<k->k<n->Va (T k).s.toList nm.toList=true->Va (T j).s.toList nm.toList=true:=λj k hjk hk hl=>DP _ _ _ (Cw hok k j hk hjk) hl;have HB:=OQ a n c T nm (w.alloc (γ #[σ a n c] 28)) (h.later (AD _ _)) hn hm;have HOK:Hid (A2 n T=true):=hok;clear hok hm;go_enter Tryz.func78,Tryz.ntmps78
 go_wp2_with (go_at_call 111;refine HB.mono ?_;rintro e w1 ⟨i,rfl,hlo,hb1⟩)
 refine VE (VZ rfl _ _ _) rfl ?_;have hhit:KF T n nm i=(An T nm n).isSome:=by
  unfold KF;by_cases h1:i<n
  ·
   by_cases h2:(T i).s=nm
   · rw [LX HOK.out h1 h2];simp [h1,h2]
   ·
    rcases ht:An T nm n with _ | j
    · simp [h2]
    ·
     exfalso
     obtain⟨hj,hs⟩:=A4 ht;have hij:i<j:=by
      rcases Nat.lt_or_ge i j with h3 | h3
      · exact h3
      ·
       rcases Nat.lt_or_ge j i with h4 | h4
       · have:=hlo.2.1 j h4;rw [hs,DQ] at this;cases this
       ·
        obtain rfl:i=j:=by omega
        exact absurd hs h2
     have:=hlo.2.2 i (VD _) h1;have h5:=Cw HOK.out j i hj hij;rw [hs,this] at h5;cases h5
  ·
   rcases ht:An T nm n with _ | j
   · simp [h1]
   ·
    exfalso
    obtain⟨hj,hs⟩:=A4 ht;have:=hlo.2.1 j (by omega);rw [hs,DQ] at this;cases this
 refine⟨i,by rw [←hhit];rfl,hlo,λj hj=>?_,bj (VT _ _) hb1⟩;obtain⟨hjn,hs⟩:=A4 hj;rw [hj] at hhit;unfold KF at hhit;simp only [Option.isSome,VO,decide_eq_true_eq] at hhit
 have:=LX HOK.out hhit.1 hhit.2;rw [hj] at this;exact(VF this).symm
def PlAt(w:ο)(b n:Nat)(C:Nat->Clm):Prop:=w.ownsMap μ 9 (plainElem (H:=Unit) μ 3) b n (pl C n)
theorem PlAt.later{w w':ο}{b n:Nat}{C:Nat->Clm}(h:PlAt w b n C)(hb:υ w.heap.size w w'):PlAt w' b n C:=by
 have hl:=h.lt;obtain⟨es,clock,h1,F,hs,hD⟩:=h;exact⟨es,clock,(hb.block _ hl).trans h1,F,hs,hD⟩
theorem Ev(C:Nat->Clm)(s:ByteArray):∀ n,AR C s n=(BF C s n).isSome
 | 0=>rfl
 | n+1=>by
  rw [AR,BF,Ev C s n];rcases BF C s n with _ | j
  ·
   simp only [Option.isSome,Bool.false_or]
   rcases (C n).s.toList == s.toList <;> rfl
  · rfl
theorem Jn{C:Nat->Clm}{s:ByteArray}:∀ {n j:Nat},(∀ k,k<n->AR C (C k).s k=false)->BF C s n=ς j->∀ z,(pl C n).atKey (CQ s) z=.lit (.int .i64 j)
 | 0,j,_,h,z=>by cases h
 | n+1,j,hd,h,z=>by
  rw [BF] at h;show ((pl C n).put (CQ (C n).s) (.lit (.int .i64 n))).atKey (CQ s) z=_
  by_cases e:(C n).s=s
  ·
   rcases hc:BF C s n with _ | i
   ·
    rw [hc] at h;simp only [e,CG,if_true] at h
    cases h
    rw [e,atKey_put_same (Gg C n).isMap (show WideAt.IsKeyLit (CQ s) from trivial)]
   · have:=hd n (by omega);rw [e,Ev,hc] at this;cases this
  ·
   rw [atKey_put_other (λh=>e (Jv h).symm)];rcases hc:BF C s n with _ | i
   ·
    rw [hc] at h;have e2:((C n).s.toList == s.toList)=false:=by rw [Rm];simp [e]
    simp only [e2] at h
    cases h
   ·
    rw [hc] at h;cases h
    exact Jn (λk hk=>hd k (by omega)) hc z
def NI(w:ο)(a:Option Addr)(L:List Int):Prop:=∀ k,k<L.length->∃ b off,a=ς ⟨b,off,ν⟩/\w.cell? ⟨b,off+k,ν⟩=ς (ι κ (L.getD k 0))
theorem NI.later{w w':ο}{a:Option Addr}{L:List Int}(h:NI w a L)(hb:υ w.heap.size w w'):NI w' a L:=λk hk=>by
 obtain⟨b,off,e,c⟩:=h k hk;exact⟨b,off,e,AB hb c⟩
def IR(L:List Int)(x r:Int):Int×Int:=if L.all (λy=>y == x)=true then (r,0) else (0,4)
theorem Jz(a:Option Addr)(c:Nat)(L:List Int)(x r:Int)(w:ο)(h:NI w a L)(hl:L.length<=100) :
 VK μ 165 #[σ a L.length c,ι κ x,ι κ r] w λe w'=>e=ρ (θ #[ι κ (IR L x r).1,ι κ (IR L x r).2])/\υ w.heap.size w w':=by
 go_enter Tryz.func165,Tryz.ntmps165
 go_wp2;go_loopw [9,12] (λ_ i wr=>∃ k:Nat,k<=L.length/\i=ι κ k/\(L.take k).all (λy=>y == x)=true/\υ w.heap.size w wr) (λ_ i _=>L.length - (VQ i).toNat)
 case atStart=>exact⟨0,VS _,rfl,rfl,VT _ _⟩
 case round=>
  obtain⟨k,hk,rfl,hall,hb⟩:=hrel;have HAL:Hid ((L.take k).all (λy=>y == x)=true):=hall;clear hall;by_cases hlt:k<L.length
  ·
   obtain⟨b,off,rfl,c0⟩:=h.later hb k hlt;have hkl:(k:Int)<L.length:=by omega
   have HN:Hid ((L.take (k+1)).all (λy=>y == x)=(L.getD k 0 == x)):=by
    show _=_
    rw [List.take_add_one,List.all_append,HAL.out];simp [hlt]
   have HF:Hid (L.getD k 0≠x->IR L x r=(0,4)):=λhne=>by
    unfold IR;rw [if_neg];intro hh;rw [List.all_eq_true] at hh;have e:L.getD k 0=L[k]:=by simp [hlt]
    have:=hh (L.getD k 0) (by rw [e];exact List.getElem_mem hlt);exact hne (eq_of_beq this)
   obtain⟨y,hy⟩:∃ y,L.getD k 0=y:=⟨_,rfl⟩;rw [hy] at c0 HN HF;clear hy;by_cases e:y=x
   ·
    subst e;go_wp2;go_roundw
    case rel=>exact⟨k+1,by omega,by go_num,by rw [HN.out];simp,hb⟩
    case measure=>simp [VQ];omega
   ·
    have n1:(y != x)=true:=by simpa using e
    have HF2:Hid (IR L x r=(0,4)):=HF.out e;clear e;go_wp2;refine VE (VZ rfl _ _ _) rfl ⟨by rw [HF2.out];rfl,hb⟩
  ·
   have hkl:¬(k:Int)<L.length:=by omega
   have HE:Hid (IR L x r=(r,0)):=by
    show _=_
    have:=HAL.out;rw [List.take_of_length_le (by omega)] at this;unfold IR;rw [if_pos this]
   have hkk:k=L.length:=by omega
   clear hkk;go_wp2;refine VE (VZ rfl _ _ _) rfl ⟨by rw [HE.out];rfl,hb⟩
set_option maxHeartbeats 8000000
theorem IG(w:ο):(zeroValue 3).run μ w=.ok (ι κ 0) w:=by kernel_rfl
theorem UZ{L:List Int}(h:L.length=0):L=[]:=List.length_eq_zero_iff.1 h
theorem Sy{L:List Int}(h:L.length=1):∃ x,L=[x]:=List.length_eq_one_iff.1 h
theorem QW{L:List Int}(h:L.length=2):∃ x y,L=[x,y]:=by
 match L,h with
 | [x,y],_=>exact⟨x,y,rfl⟩
theorem QJ{C:Nat->Clm}{n:Nat}{o mm:Int}{s:ByteArray}{L:List Int}(hl:L.length=2)(ho:o=7∨o=8):B7 C n ⟨o,mm,s⟩ L=IR L (L.getD 0 0) 1:=by
 obtain⟨x,y,rfl⟩:=QW hl;unfold B7 IR;rcases ho with rfl | rfl <;> simp <;> by_cases h:x=y <;> simp [h] <;> (intro h2;exact absurd h2.symm h)
theorem R9{C:Nat->Clm}{n:Nat}{mm:Int}{s:ByteArray}{L:List Int}(hl:L.length=2):B7 C n ⟨12,mm,s⟩ L=IR L 2 2:=by
 obtain⟨x,y,rfl⟩:=QW hl;unfold B7 IR;simp
theorem R8{C:Nat->Clm}{n:Nat}{mm:Int}{s:ByteArray}{L:List Int}(hl:L.length=1):B7 C n ⟨13,mm,s⟩ L=IR L 2 1:=by
 obtain⟨x,rfl⟩:=Sy hl;unfold B7 IR;simp
theorem Qi{C:Nat->Clm}{n:Nat}{o mm:Int}{s:ByteArray}{L:List Int}(h2:¬o=2)(h3:¬o=3)(h7:¬o=7)(h8:¬o=8)(h12:¬o=12)(h13:¬o=13):B7 C n ⟨o,mm,s⟩ L=IR L 1 1:=by
 unfold B7 IR;simp only
 rw [if_neg h2,if_neg h3,if_neg (by omega),if_neg h12,if_neg h13]
theorem Pp(ac:Option Addr)(n cc:Nat)(C:Nat->Clm)(mb:Nat)(o mm:Int)(s:ByteArray)(a:Option Addr)(c:Nat)(L:List Int)(w:ο)(hC:CL w ac n C)(hP:PlAt w mb n C)(hd:∀ k,k<n->AR C (C k).s k=false)(hN:NI w a L)(hlen:L.length=DZ o)(ho:1<=o/\o<=13)(hs:s.size<=1048576) :
 VK μ 151 #[.agg #[.slice ac n cc,.map (ς mb)],.agg #[.int .i64 o,.int .i64 mm,.string s],.slice a L.length c] w λe w'=>e=.returned (.tuple #[.int .i64 (B7 C n ⟨o,mm,s⟩ L).1,.int .i64 (B7 C n ⟨o,mm,s⟩ L).2])/\υ w.heap.size w w':=by
 have hb0:υ w.heap.size w ((w.alloc (.cells #[.slice ac n cc,.map (ς mb)] 77)).alloc (.cells #[.int .i64 o,.int .i64 mm,.string s] 42)):=AA (AD _ _) (AD _ _);have hL100:L.length<=100:=by
  have:=CV o;have:=FP o;omega
 have HLN:Hid (L.length=DZ o):=hlen;clear hlen;by_cases e1:o=1
 ·
  subst e1;have HT:Hid (B7 C n ⟨1,mm,s⟩ L=(1,0)):=by
   show _=_
   have h0:L=[]:=UZ HLN.out;subst h0;rfl
  go_enter Tryz.func151,Tryz.ntmps151
  go_wp2;refine VE (VZ rfl _ _ _) rfl ⟨by rw [HT.out];rfl,hb0⟩
 by_cases e2:o=2
 ·
  subst e2;have HT:Hid (B7 C n ⟨2,mm,s⟩ L=(2,0)):=by show _=_;simp [B7]
  go_enter Tryz.func151,Tryz.ntmps151
  go_wp2;refine VE (VZ rfl _ _ _) rfl ⟨by rw [HT.out];rfl,hb0⟩
 by_cases e3:o=3
 ·
  subst e3;have hkey:keyOf μ 9 (.string s)=ς (CQ s):=keyOf_string_mk Tryz.underlying9 (by unfold maxLen;omega);have hP3:=hP.later hb0;have hh:=Hd C s n;rw [Ev] at hh;rcases hcol:BF C s n with _ | q
  ·
   have HT:Hid (B7 C n ⟨3,mm,s⟩ L=(0,3)):=by show _=_;simp [B7,hcol]
   have hh2:Maps.has (pl C n) (CQ s)=false:=by rw [hh,hcol];rfl
   clear hcol hh;go_enter Tryz.func151,Tryz.ntmps151
   go_wp2_with (at_lookup;refine wpList_lookup_own_ok_int _ rfl _ _ 75 rfl 9 3 .i64 Fk Tryz.underlying75 Tryz.underlying3 (IG _) mb n (pl C n) rfl hP3 _ _ rfl hkey ?_;intro cv hat hwc;rw [hh2];clear hat hwc)
   refine VE (VZ rfl _ _ _) rfl ⟨by rw [HT.out];rfl,hb0⟩
  ·
   have HT:Hid (B7 C n ⟨3,mm,s⟩ L=((C q).t,0)):=by show _=_;simp [B7,hcol]
   have hh2:Maps.has (pl C n) (CQ s)=true:=by rw [hh,hcol];rfl
   have hq:=(Bz hcol).1;have HAT:Hid ((pl C n).atKey (CQ s) (.lit (.int .i64 0))=.lit (.int .i64 q)):=Jn hd hcol _;clear hcol hh;have hq0:(0:Int)<=q:=by omega
   have hqn:(q:Int)<n:=by omega
   obtain⟨b3,off3,rfl,t0_,t1_,-⟩:=hC.later hb0 q hq;obtain⟨tq,htq⟩:∃ t,(C q).t=t:=⟨_,rfl⟩;rw [htq] at t1_ HT;clear htq;go_enter Tryz.func151,Tryz.ntmps151
   go_wp2_with (at_lookup;refine wpList_lookup_own_ok_int _ rfl _ _ 75 rfl 9 3 .i64 Fk Tryz.underlying75 Tryz.underlying3 (IG _) mb n (pl C n) rfl hP3 _ _ rfl hkey ?_;intro cv hat hwc;rw [hh2];rw [HAT.out] at hat;obtain rfl:(q:Int)=cv:=(by simpa using hat);clear hat hwc)
   refine VE (VZ rfl _ _ _) rfl ⟨by rw [HT.out];rfl,hb0⟩
 by_cases e7:o=7
 ·
  subst e7;have hl2:L.length=2:=HLN.out;obtain⟨b1,off1,rfl,d0_⟩:=hN.later hb0 0 (by omega);rw [Vf] at d0_;have hl0:(0:Int)<L.length:=by omega
  obtain⟨x,hx⟩:∃ x,L.getD 0 0=x:=⟨_,rfl⟩;rw [hx] at d0_;obtain⟨r1,r2,hr⟩:∃ r1 r2,IR L (x) 1=(r1,r2):=⟨_,_,rfl⟩;have HT:Hid (B7 C n ⟨7,mm,s⟩ L=(r1,r2)):=by show _=_;rw [QJ hl2 (by simp),hx];exact hr
  have HR:=λW (hW:υ w.heap.size w W)=>Jz _ c L (x) 1 W (hN.later hW) hL100;simp only [hr] at HR
  have HRH:Hid (∀ W,υ w.heap.size w W->VK μ 165 #[.slice (ς ⟨b1,off1,ν⟩) L.length c,.int .i64 (x),.int .i64 1] W (λe w'=>e=.returned (.tuple #[.int .i64 r1,.int .i64 r2])/\υ W.heap.size W w')):=HR;clear hr HR;clear hx hl2;go_enter Tryz.func151,Tryz.ntmps151
  go_wp2_with (go_at_call 165;refine(HRH.out _ hb0).mono ?_;rintro e w1 ⟨rfl,hb1⟩)
  refine VE (VZ rfl _ _ _) rfl ⟨by rw [HT.out];rfl,AA hb0 hb1⟩
 by_cases e8:o=8
 ·
  subst e8;have hl2:L.length=2:=HLN.out;obtain⟨b1,off1,rfl,d0_⟩:=hN.later hb0 0 (by omega);rw [Vf] at d0_;have hl0:(0:Int)<L.length:=by omega
  obtain⟨x,hx⟩:∃ x,L.getD 0 0=x:=⟨_,rfl⟩;rw [hx] at d0_;obtain⟨r1,r2,hr⟩:∃ r1 r2,IR L (x) 1=(r1,r2):=⟨_,_,rfl⟩;have HT:Hid (B7 C n ⟨8,mm,s⟩ L=(r1,r2)):=by show _=_;rw [QJ hl2 (by simp),hx];exact hr
  have HR:=λW (hW:υ w.heap.size w W)=>Jz _ c L (x) 1 W (hN.later hW) hL100;simp only [hr] at HR
  have HRH:Hid (∀ W,υ w.heap.size w W->VK μ 165 #[.slice (ς ⟨b1,off1,ν⟩) L.length c,.int .i64 (x),.int .i64 1] W (λe w'=>e=.returned (.tuple #[.int .i64 r1,.int .i64 r2])/\υ W.heap.size W w')):=HR;clear hr HR;clear hx hl2;go_enter Tryz.func151,Tryz.ntmps151
  go_wp2_with (go_at_call 165;refine(HRH.out _ hb0).mono ?_;rintro e w1 ⟨rfl,hb1⟩)
  refine VE (VZ rfl _ _ _) rfl ⟨by rw [HT.out];rfl,AA hb0 hb1⟩
 by_cases e12:o=12
 ·
  subst e12;have hl2:L.length=2:=HLN.out;obtain⟨r1,r2,hr⟩:∃ r1 r2,IR L (2) 2=(r1,r2):=⟨_,_,rfl⟩;have HT:Hid (B7 C n ⟨12,mm,s⟩ L=(r1,r2)):=by show _=_;rw [R9 hl2];exact hr
  have HR:=λW (hW:υ w.heap.size w W)=>Jz a c L (2) 2 W (hN.later hW) hL100;simp only [hr] at HR
  have HRH:Hid (∀ W,υ w.heap.size w W->VK μ 165 #[.slice a L.length c,.int .i64 (2),.int .i64 2] W (λe w'=>e=.returned (.tuple #[.int .i64 r1,.int .i64 r2])/\υ W.heap.size W w')):=HR;clear hr HR;clear hl2;go_enter Tryz.func151,Tryz.ntmps151
  go_wp2_with (go_at_call 165;refine(HRH.out _ hb0).mono ?_;rintro e w1 ⟨rfl,hb1⟩)
  refine VE (VZ rfl _ _ _) rfl ⟨by rw [HT.out];rfl,AA hb0 hb1⟩
 by_cases e13:o=13
 ·
  subst e13;have hl2:L.length=1:=HLN.out;obtain⟨r1,r2,hr⟩:∃ r1 r2,IR L (2) 1=(r1,r2):=⟨_,_,rfl⟩;have HT:Hid (B7 C n ⟨13,mm,s⟩ L=(r1,r2)):=by show _=_;rw [R8 hl2];exact hr
  have HR:=λW (hW:υ w.heap.size w W)=>Jz a c L (2) 1 W (hN.later hW) hL100;simp only [hr] at HR
  have HRH:Hid (∀ W,υ w.heap.size w W->VK μ 165 #[.slice a L.length c,.int .i64 (2),.int .i64 1] W (λe w'=>e=.returned (.tuple #[.int .i64 r1,.int .i64 r2])/\υ W.heap.size W w')):=HR;clear hr HR;clear hl2;go_enter Tryz.func151,Tryz.ntmps151
  go_wp2_with (go_at_call 165;refine(HRH.out _ hb0).mono ?_;rintro e w1 ⟨rfl,hb1⟩)
  refine VE (VZ rfl _ _ _) rfl ⟨by rw [HT.out];rfl,AA hb0 hb1⟩
 have n1:(o == 1)=false:=by simpa using e1
 have n2:(o == 2)=false:=by simpa using e2
 have n3:(o == 3)=false:=by simpa using e3
 have n7:(o == 7)=false:=by simpa using e7
 have n8:(o == 8)=false:=by simpa using e8
 have n12:(o == 12)=false:=by simpa using e12
 have n13:(o == 13)=false:=by simpa using e13
 obtain⟨r1,r2,hr⟩:∃ r1 r2,IR L (1) 1=(r1,r2):=⟨_,_,rfl⟩;have HT:Hid (B7 C n ⟨o,mm,s⟩ L=(r1,r2)):=by show _=_;rw [Qi e2 e3 e7 e8 e12 e13];exact hr
 have HR:=λW (hW:υ w.heap.size w W)=>Jz a c L (1) 1 W (hN.later hW) hL100;simp only [hr] at HR
 have HRH:Hid (∀ W,υ w.heap.size w W->VK μ 165 #[.slice a L.length c,.int .i64 (1),.int .i64 1] W (λe w'=>e=.returned (.tuple #[.int .i64 r1,.int .i64 r2])/\υ W.heap.size W w')):=HR;clear hr HR;clear e1 e2 e3 e7 e8 e12 e13;go_enter Tryz.func151,Tryz.ntmps151
 go_wp2_with (go_at_call 165;refine(HRH.out _ hb0).mono ?_;rintro e w1 ⟨rfl,hb1⟩)
 refine VE (VZ rfl _ _ _) rfl ⟨by rw [HT.out];rfl,AA hb0 hb1⟩
set_option maxHeartbeats 16000000
theorem Fi{t e:TypeId}{z:VN}{size bytes:Nat}(ht:Tryz.prog.underlying t=ς (.slice e))(hinfo:(Tryz.prog.info? e).map (λi=>(i.zero,i.size,i.bytes))=ς (ς z,size,bytes))(n:Nat)(hn:n<=1048576)(hb:bytes<=1000)(w:ο) :
 (Instr.makeSlice t (ι κ 0) (ι κ (n:Int))).run μ w=.ok (σ (ς ⟨w.heap.size,0,ν⟩) 0 n) (w.alloc (γ (madeCells z.cells (n * size)) e)):=by
 obtain⟨i,hi,hzz⟩:=Option.map_eq_some_iff.1 hinfo;simp only [Prod.mk.injEq] at hzz
 obtain⟨hz,hs,hbb⟩:=hzz;have h1:((i.bytes:Int) * (n:Int))<=281474976710656:=by
  rw [hbb];have:bytes * n<=1000 * 1048576:=Nat.mul_le_mul hb hn;have h2:((bytes:Int) * (n:Int))=((bytes * n:Nat):Int):=by simp
  omega
 have:=run_make (P:=μ) w t e i z ht hi hz κ κ 0 n (by omega) (by omega) h1 (by omega);rw [hs] at this;simp only [Int.toNat_natCast] at this
 exact this
theorem Nq{o m:Int}{s:ByteArray}(h:Aq o m s=true):EC o m s=AW o:=by
 simp only [Aq,Bool.or_eq_true,VO,decide_eq_true_eq,beq_iff_eq] at h
 unfold EC AW;rcases h with ((⟨⟨rfl,-⟩,hs⟩ | ⟨⟨rfl,hm⟩,-⟩) | ⟨⟨rfl,hm⟩,-⟩) | ⟨⟨hb,hm⟩,hs⟩
 · simp [hs]
 · simp [hm]
 · simp [hm]
 ·
  have hb2:=hb;simp only [Bn,VO,decide_eq_true_eq] at hb2
  rw [if_neg (by omega)];by_cases h1:o=11∨o=13
  · rw [if_pos ⟨h1,hm,hs⟩,if_neg (by omega),if_pos h1]
  ·
   have hS:Dj o=true:=by
    unfold Dj Bn;simp only [Bool.or_eq_true,VO,decide_eq_true_eq,beq_iff_eq]
    omega
   rw [if_neg (λh=>h1 h.1),if_pos ⟨hm,hs,hS⟩,if_neg (by omega),if_neg h1]
theorem PF{C:Nat->Clm}{n:Nat}{t:Itm}{L:List Int}:¬(B7 C n t L).2=0->(B7 C n t L).1=0:=by
 intro h;unfold B7 at h ⊢;by_cases h2:t.o=2
 · rw [if_pos h2] at h;exact absurd rfl h
 rw [if_neg h2] at h ⊢;by_cases h3:t.o=3
 ·
  rw [if_pos h3] at h ⊢;revert h
  cases BF C t.s n <;> simp
 rw [if_neg h3] at h ⊢;by_cases h7:t.o=7∨t.o=8
 ·
  rw [if_pos h7] at h ⊢;by_cases e:L.getD 0 0=L.getD 1 0
  · rw [if_pos e] at h;exact absurd rfl h
  · rw [if_neg e]
 rw [if_neg h7] at h ⊢;by_cases h12:t.o=12
 ·
  rw [if_pos h12] at h ⊢;by_cases e:L.getD 0 0=2/\L.getD 1 0=2
  · rw [if_pos e] at h;exact absurd rfl h
  · rw [if_neg e]
 rw [if_neg h12] at h ⊢;by_cases h13:t.o=13
 ·
  rw [if_pos h13] at h ⊢;by_cases e:L.getD 0 0=2
  · rw [if_pos e] at h;exact absurd rfl h
  · rw [if_neg e]
 rw [if_neg h13] at h ⊢;by_cases e:L.all (λx=>x == 1)=true
 · rw [if_pos e] at h;exact absurd rfl h
 · rw [if_neg e]
theorem Sk.ni{w:ο}{base g cap:Nat}{L:List Int}(h:Sk w base g cap L)(j:Nat):NI w (ς ⟨g,j,ν⟩) (L.drop j):=λk hk=>by
 rw [List.length_drop] at hk;refine⟨g,j,rfl,?_⟩;rw [B9];exact h.at (by omega)
theorem IV{w:ο}{base g cap j:Nat}{L:List Int}(h:Sk w base g cap L)(hj:j<=L.length):w.ownsRow base 3 1 (σ (ς ⟨g,0,ν⟩) j cap) j (By (L.take j)):=by
 have:=G5 h hj;rwa [show (By L).take j=By (L.take j) from by unfold By;rw [List.map_take]] at this
theorem Rc(ac:Option Addr)(n cc:Nat)(C:Nat->Clm)(mb:Nat)(a:Option Addr)(m c:Nat)(I:Nat->Itm)(w:ο)(hC:CL w ac n C)(hP:PlAt w mb n C)(hdp:∀ k,k<n->AR C (C k).s k=false)(hI:IL w a m I)(hm:m<=100)(hx:ex I m=ς 1) :
 VK μ 150 #[σ a m c,.func (.func 151) #[χ #[σ ac n cc,.map (ς mb)]] #[]] w λe w'=>e=ρ (θ #[ι κ (DA C n I m).1,ι κ (DA C n I m).2])/\υ w.heap.size w w':=by
 have HX:Hid (ex I m=ς 1):=hx;have HDP:Hid (∀ k,k<n->AR C (C k).s k=false):=hdp;clear hx hdp;obtain⟨i0,hi,hz0,hz1,hz2⟩:=info_parts Tryz.infoInt;have HI:Hid (Tryz.prog.info? 3=ς i0):=hi;clear hi;have hmk:=Fi Tryz.underlying99 Tryz.infoInt m (by omega) (by omega) w;have hO0:Sk (w.alloc (γ (madeCells (ι κ 0).cells (m * 1)) 3)) w.heap.size w.heap.size m []:=VU w _ m (VD _) (by unfold maxLen;omega) (CH _ _);have hb0:=AD w (γ (madeCells (ι κ 0).cells (m * 1)) 3);generalize w.alloc (γ (madeCells (ι κ 0).cells (m * 1)) 3)=w0 at hmk hO0 hb0;go_enter Tryz.func150,Tryz.ntmps150
 go_wp2;clear hmk;go_loopw [6,7,9,10,11,12,18] (λv6 v7 _ _ _ _ i wr=>∃ (k g cap:Nat) (L:List Int) (lst:Int),k<=m/\i=ι κ k/\v6=ι κ lst/\v7=σ (ς ⟨g,0,ν⟩) L.length cap/\ck C n I k=(L,0)/\Sk wr w.heap.size g cap L/\(0<k->L.getLast?=ς lst)/\υ w.heap.size w wr) (λ_ _ _ _ _ _ i _=>m - (VQ i).toNat)
 case atStart=>exact⟨0,w.heap.size,m,[],0,by omega,rfl,rfl,rfl,rfl,hO0,λh=>by omega,hb0⟩
 case round=>
  obtain⟨k,g,cap,L,lst,hk,rfl,rfl,rfl,hck,hO,hlst,hb⟩:=hrel;have HCK:Hid (ck C n I k=(L,0)/\(0<k->L.getLast?=ς lst)):=⟨hck,hlst⟩;clear hck hlst;have hsw:=hb.size;by_cases hlt:k<m
  rotate_left
  ·
   obtain rfl:k=m:=by omega
   have e:Hid (DA C n I k=(lst,0)):=by
    show _=_
    have hl1:=Hm (C:=C) (n:=n) HX.out (by rw [HCK.out.1]);rw [HCK.out.1] at hl1;simp only at hl1
    have hk1:0<k:=by
     have:=Hg HX.out;omega
    have h3:=HCK.out.2 hk1;obtain⟨x,rfl⟩:=Sy (L:=L) (by omega);simp at h3
    unfold DA;rw [HCK.out.1,h3];rfl
   go_wp2;refine VE (VZ rfl _ _ _) rfl ⟨by rw [e.out];rfl,hb⟩
  obtain⟨d,hd,hok,had⟩:=GT HX.out hlt;have hlen:((L.length:Nat):Int)=d:=by
   have:=Hm (C:=C) (n:=n) hd (by rw [HCK.out.1]);rwa [HCK.out.1] at this
  have hll:=Hg hd;have hst:ck C n I (k+1)=if (B7 C n (I k) (L.drop (L.length - DZ (I k).o))).2≠0 then (L,(B7 C n (I k) (L.drop (L.length - DZ (I k).o))).2) else (L.take (L.length - DZ (I k).o) ++ [(B7 C n (I k) (L.drop (L.length - DZ (I k).o))).1],0):=by
   rw [ck,HCK.out.1];simp only [MS]
   rw [if_neg (by simp)];rfl
  obtain⟨b,off,rfl,c0,c1,c2,hs⟩:=hI.later hb k hlt;obtain⟨o,mm,s,hIk⟩:∃ o mm s,I k=⟨o,mm,s⟩:=⟨_,_,_,rfl⟩;rw [hIk] at hok had hst c0 c1 c2 hs;simp only at hok had hst c0 c1 c2 hs
  have hop:=Du hok;have HOPN:Hid (EC o mm s=AW o):=Nq hok;have ha:=FP o;have hal:=CV o;obtain⟨j,hj⟩:∃ j:Nat,L.length - DZ o=j:=⟨_,rfl⟩;rw [hj] at hst;have hj1:((L.length:Nat):Int) - AW o=(j:Nat):=by omega
  have hjl:j<=L.length:=by omega
  have hcp:=Jq hO;have hjj:(j:Int)<=L.length:=by omega
  have hjc:(j:Int)<=cap:=by omega
  have hjc2:j<=cap:=by omega
  have hj0:(0:Int)<=j:=by omega
  have hj100:j<=100:=by omega
  have hdr:(L.drop j).length=DZ o:=by rw [List.length_drop];omega
  obtain⟨r1,r2,hr⟩:∃ r1 r2,B7 C n ⟨o,mm,s⟩ (L.drop j)=(r1,r2):=⟨_,_,rfl⟩;have HTY:∀ (ad:Option Addr) (cx:Nat) W',υ wr.heap.size wr W'->NI W' ad (L.drop j)->VK μ 151 #[χ #[σ ac n cc,.map (ς mb)],χ #[ι κ o,ι κ mm,τ s],σ ad (L.length - j) cx] W' (λe w'=>e=ρ (θ #[ι κ r1,ι κ r2])/\υ W'.heap.size W' w'):=λad cx W' hW hNI=>by
   have:=Pp ac n cc C mb o mm s ad cx (L.drop j) W' (hC.later (AA hb hW)) (hP.later (AA hb hW)) HDP.out hNI hdr hop hs;rwa [hr,List.length_drop] at this
  have HTYH:Hid (∀ (ad:Option Addr) (cx:Nat) W',υ wr.heap.size wr W'->NI W' ad (L.drop j)->VK μ 151 #[χ #[σ ac n cc,.map (ς mb)],χ #[ι κ o,ι κ mm,τ s],σ ad (L.length - j) cx] W' (λe w'=>e=ρ (θ #[ι κ r1,ι κ r2])/\υ W'.heap.size W' w')):=HTY;have HST:Hid (ck C n I (k+1)=if ¬r2=0 then (L,r2) else (L.take j ++ [r1],0)):=by show _=_;rw [hst,hr]
  have HR1:Hid (¬r2=0->r1=0):=λh2=>by
   have:=PF (C:=C) (n:=n) (t:=⟨o,mm,s⟩) (L:=L.drop j);rw [hr] at this;exact this h2
  have HLE:Hid (((L.length:Nat):Int)=d/\L.length - DZ o=j/\L.length<=100):=⟨hlen,hj,by omega⟩;clear hst hIk hj ha had hd hok hlen hr HTY hdr;have hB1:υ wr.heap.size wr (wr.alloc (γ #[ι κ o,ι κ mm,τ s] 42)):=AD _ _;have hrow:=η wr (γ #[ι κ o,ι κ mm,τ s] 42);obtain⟨y0,y1,y2,-⟩:=AL hrow;have hsW:(wr.alloc (γ #[ι κ o,ι κ mm,τ s] 42)).heap.size=wr.heap.size+1:=ω _ _;have HNI1:Hid (∀ W',υ wr.heap.size wr W'->NI W' (ς ⟨g,j,ν⟩) (L.drop j)):=λW' hW=>Sk.ni (AF hO hW) j;have HNI0:Hid (cap=j->∀ W',NI W' (ς ⟨g,0,ν⟩) (L.drop j)):=λhc W' q hq=>by rw [List.length_drop] at hq;omega
  by_cases hcj:cap=j
  ·
   have hOj:Sk wr w.heap.size g j L:=by rw [←hcj];exact hO
   go_upto_region 7 with (go_at_call 133;refine(DL o mm s _).mono ?_;rintro e w3 ⟨rfl,hb3⟩;rw [HOPN.out];have y0_:=AB hb3 y0;have y1_:=AB hb3 y1;have y2_:=AB hb3 y2)
   refine VH (S:=λx=>υ w3.heap.size w3 x) (by kernel_rfl) (CU _) (λjH=>?_);refine tk 0 jH ?_;refine tk 1 jH ?_ (hy:=λx jS=>by have k0:=AB jS y0_;have k1:=AB jS y1_;have k2:=AB jS y2_;go_simp<;>rfl)
   try simp only [zS]
   refine tk 2 jH ?_;try simp only [zS];refine tk 3 jH ?_;try simp only [zS];refine tk 4 jH ?_
   try simp only [zS]
   refine rd 5 (λK hK=>?_);go_simp;refine(HTYH.out (ς ⟨g,0,ν⟩) 0 _ (AA hB1 (AA hb3 jH)) (HNI0.out hcj _)).mono ?_;rintro e w4 ⟨rfl,hb4⟩;refine hK.out _ _ (AA jH hb4) (λjH=>?_);clear hK K;try simp only [zS]
   refine tk 6 jH ?_;try simp only [zS];refine tk 7 jH ?_;refine tk 8 jH ?_;try simp only [zS];refine tk 9 jH ?_;try simp only [zS];refine tk 10 jH ?_
   try simp only [zS]
   refine VP (by kernel_rfl) ?_ _;have hb34:υ wr.heap.size wr w4:=AA hB1 (AA hb3 jH);clear jH;have hO4:Sk w4 w.heap.size g j L:=AF hOj hb34;have hss4:=hb34.size;by_cases he:r2=0
   ·
    subst he;go_wp2_with (at_builtin;refine VR _ rfl _ _ _ rfl w.heap.size 3 i0 (ι κ 0) 1 8 Tryz.underlying99 HI.out hz0 hz1 hz2 rfl (by omega) (σ (ς ⟨g,0,ν⟩) j j) j (By (L.take j)) rfl (AF (IV hO4 hjl) (AD _ _)) ⟨w4.heap.size,0,ν⟩ 1 1 [ι κ r1] rfl rfl (VI (η w4 _)) (Bt _ rfl) (by omega) (by unfold maxLen;omega) (by omega) (by simp;omega) _ rfl ?_;intro g6 cap6 w6 hO6 hgr6 hat6 hlt6)
    obtain⟨q1,q2⟩:=C6 hjl hO6;have hgl:=hO4.lt g rfl;have hb6:=gB (AA (AA hb hb34) (AD _ _)) (r:=g) hgr6 hgl.1;go_roundw
    case rel=>exact⟨k+1,g6,cap6,L.take j ++ [r1],r1,by omega,by go_num,rfl,by rw [q1],by rw [HST.out];rfl,q2,λ_=>by simp,hb6⟩
    case measure=>simp [VQ];omega
   ·
    have n0:(r2 != 0)=true:=by simpa using he
    have hE:Hid (DA C n I m=(r1,r2)):=by
     show _=_
     have e1:ck C n I (k+1)=(L,r2):=by rw [HST.out,if_pos he]
     have e2:=E6 (C:=C) (n:=n) (I:=I) (k:=k+1) (by rw [e1];exact he) m hlt;unfold DA;rw [e2,e1,if_pos he,HR1.out he]
    clear he;go_wp2;refine VE (VZ rfl _ _ _) rfl ⟨by rw [hE.out];rfl,AA hb hb34⟩
  ·
   skip
   go_upto_region 7 with (go_at_call 133;refine(DL o mm s _).mono ?_;rintro e w3 ⟨rfl,hb3⟩;rw [HOPN.out];have y0_:=AB hb3 y0;have y1_:=AB hb3 y1;have y2_:=AB hb3 y2)
   refine VH (S:=λx=>υ w3.heap.size w3 x) (by kernel_rfl) (CU _) (λjH=>?_);refine tk 0 jH ?_;try simp only [zS];refine tk 1 jH ?_ (hy:=λx jS=>by have k0:=AB jS y0_;have k1:=AB jS y1_;have k2:=AB jS y2_;go_simp<;>rfl)
   try simp only [zS]
   refine tk 2 jH ?_;refine tk 3 jH ?_;try simp only [zS];refine tk 4 jH ?_
   try simp only [zS]
   refine rd 5 (λK hK=>?_);go_simp;refine(HTYH.out (ς ⟨g,j,ν⟩) (cap - j) _ (AA hB1 (AA hb3 jH)) (HNI1.out _ (AA hB1 (AA hb3 jH)))).mono ?_;rintro e w4 ⟨rfl,hb4⟩;refine hK.out _ _ (AA jH hb4) (λjH=>?_);clear hK K;try simp only [zS]
   refine tk 6 jH ?_;try simp only [zS];refine tk 7 jH ?_;try simp only [zS];refine tk 8 jH ?_;refine tk 9 jH ?_;try simp only [zS];refine tk 10 jH ?_
   try simp only [zS]
   refine VP (by kernel_rfl) ?_ _;have hb34:υ wr.heap.size wr w4:=AA hB1 (AA hb3 jH);clear jH;have hO4:Sk w4 w.heap.size g cap L:=AF hO hb34;have hss4:=hb34.size;by_cases he:r2=0
   ·
    subst he;go_wp2_with (at_builtin;refine VR _ rfl _ _ _ rfl w.heap.size 3 i0 (ι κ 0) 1 8 Tryz.underlying99 HI.out hz0 hz1 hz2 rfl (by omega) (σ (ς ⟨g,0,ν⟩) j cap) j (By (L.take j)) rfl (AF (IV hO4 hjl) (AD _ _)) ⟨w4.heap.size,0,ν⟩ 1 1 [ι κ r1] rfl rfl (VI (η w4 _)) (Bt _ rfl) (by omega) (by unfold maxLen;omega) (by omega) (by simp;omega) _ rfl ?_;intro g6 cap6 w6 hO6 hgr6 hat6 hlt6)
    obtain⟨q1,q2⟩:=C6 hjl hO6;have hgl:=hO4.lt g rfl;have hb6:=gB (AA (AA hb hb34) (AD _ _)) (r:=g) hgr6 hgl.1;go_roundw
    case rel=>exact⟨k+1,g6,cap6,L.take j ++ [r1],r1,by omega,by go_num,rfl,by rw [q1],by rw [HST.out];rfl,q2,λ_=>by simp,hb6⟩
    case measure=>simp [VQ];omega
   ·
    have n0:(r2 != 0)=true:=by simpa using he
    have hE:Hid (DA C n I m=(r1,r2)):=by
     show _=_
     have e1:ck C n I (k+1)=(L,r2):=by rw [HST.out,if_pos he]
     have e2:=E6 (C:=C) (n:=n) (I:=I) (k:=k+1) (by rw [e1];exact he) m hlt;unfold DA;rw [e2,e1,if_pos he,HR1.out he]
    clear he;go_wp2;refine VE (VZ rfl _ _ _) rfl ⟨by rw [hE.out];rfl,AA hb hb34⟩
