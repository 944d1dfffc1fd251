import Derived.Test.YtfnfdllflgmhnaaGreatDoorUr
import Derived.Test.YtfnfdllflgmhnaaGreatDoorTr
import Derived.Test.YtfnfdllflgmhnaaGreatDoorNl
open Bool renaming and_eq_true → XV
open Go renaming World → ο, Calls → XR, bodyPost_ret → XL, heap_alloc_new → η, wpAnyH_done → XW, wp_region_held_drew → XO
open Go.Ending renaming returned → ρ
open Go.Ground renaming data → φ, phase → ξ
open Go.IntKind renaming i64 → κ
open Go.Obj renaming cells → γ
open Go.Operand renaming tmp → δ
open Go.Proofs.Tryz renaming prog → μ
open Go.RowKit renaming Below → υ, intOf → XX
open Go.RowKit.Below renaming refl → Xa
open Go.Value renaming slice → σ, string → τ, agg → χ, bool → β, int → ι, tuple → θ
open Go.World renaming size_alloc → ω
open Nat renaming le_trans → Xe, not_lt_zero → Xj, zero_le → XZ
open Option renaming none → ν, some → ς
open Or renaming inl → Xc, inr → Xi
namespace Go.Proofs.YtfnfdllflgmhnaaGreatDoor
open Go.RowKit Go.Maps Go.WideMaps
def GE(C:Nat->Clm)(n:Nat)(m:Nat->Nat)(O:Nat->Nat->Itm):Nat->Int
 | 0=>0
 | k+1=>if GE C n m O k=0 then (De C n (O k) (m k)).2 else GE C n m O k
theorem AaB{C:Nat->Clm}{n:Nat}{m:Nat->Nat}{O:Nat->Nat->Itm}{k:Nat}(h:¬GE C n m O k=0):∀ r,k<=r->GE C n m O r=GE C n m O k:=by
 intro r hr;induction r with
 | zero=>
  obtain rfl:k=0:=by omega
  rfl
 | succ r ih=>
  by_cases e:k=r+1
  · subst e;rfl
  · have:=ih (by omega);rw [GE,this,if_neg h]
def JS(C:Nat->Clm)(n:Nat)(m:Nat->Nat)(O:Nat->Nat->Itm)(n7:Nat)(W:Nat->Itm)(n6:Nat):Int:=if GE C n m O n7=0 then EO C n W n6 else GE C n m O n7
def E0(n:Nat)(T:Nat->Td)(d:St):List Td×Int:=
 if CT n T=false then ([],7) else if AL d=false then ([],7) else if d.k=1 then LE T n d.tb d.n2 d.C
 else match Bn T d.tb n with
  | none=>(C8 T n,1)
  | some j=>if d.k=2 then Iv T n (T j).s (T j).n (T j).C (T j).r (T j).m (T j).R d.n3 d.V
   else if d.k=3 then Ir T n (T j).s (T j).n (T j).C (T j).r (T j).m (T j).R d.col d.E d.n5 d.W d.n6
   else if d.k=4 then N9 T n (T j).s (T j).n (T j).C (T j).r (T j).m (T j).R d.W d.n6
   else (C8 T n,JS (T j).C (T j).n d.m7 d.O d.n7 d.W d.n6)
theorem Cw{n j:Nat}{p:Nat->Bool}(h:Aw n p=true)(hj:j<n):p j=true:=by
 rcases hp:p j with _ | _
 · rw [Ae hj hp] at h;cases h
 · rfl
theorem I6{o m:Int}{s:ByteArray}{k:Int}(h:BU o m s k=true):s.size<=200:=by
 unfold BU at h;simp only [XV] at h
 have h2:=h.2;split at h2
 · simp only [decide_eq_true_eq] at h2;omega
 · simp only [XV] at h2;exact Dn h2.2
theorem Ft{d:Td}(h:D9 d=true):AV d.s=true/\0<d.n/\d.n<=20/\d.r<=1000/\Aw d.n (BS d.C)=true/\∀ i,i<d.r->A9 d.n d.C d.m d.R i=true:=by
 unfold D9 BZ at h;simp only [XV,Bb,decide_eq_true_eq] at h
 obtain⟨⟨⟨⟨h1,h2,h3⟩,h4⟩,h5⟩,h6⟩:=h;exact⟨h1,by omega,by omega,h4,h5,λi hi=>Cw h6 hi⟩
theorem Cd{d:Td}(h:D9 d=true):Nice d.n d.r d.m d.R:=by
 obtain⟨-,h1,h2,h3,-,h4⟩:=Ft h;refine⟨h1,by omega,by omega,λk hk=>?_,λk hk j hj=>?_⟩
 ·
  have:=h4 k hk;unfold A9 at this;simp only [XV,decide_eq_true_eq] at this
  exact this.1.1
 ·
  have:=h4 k hk;unfold A9 at this;simp only [XV,decide_eq_true_eq] at this
  exact I6 (Cw this.1.2 (by rw [this.1.1];exact hj))
theorem DO{n:Nat}{T:Nat->Td}(h:CT n T=true):n<=100/\∀ k,k<n->D9 (T k)=true:=by
 unfold CT GR at h;simp only [XV,decide_eq_true_eq] at h
 exact⟨h.1.1,λk hk=>Cw h.1.2 hk⟩
theorem M0{n:Nat}{T:Nat->Td}(h:CT n T=true):Kg n T:=λk hk=>by
 have hN:=Cd ((DO h).2 k hk);exact⟨hN.n0,λi hi=>by rw [hN.len i hi];exact hN.n0⟩
theorem Ce{d:St}(h:AL d=true):A6 d=true:=by
 unfold AL at h;simp only [XV] at h
 exact h.2
theorem UZ{d:St}(h:AL d=true)(e:d.k=1):0<d.n2/\d.n2<=20:=by
 have:=Ce h;unfold A6 at this;rw [if_pos e] at this;simp only [XV,Bb,decide_eq_true_eq] at this
 omega
theorem UY{d:St}(h:AL d=true)(e:d.k=2):0<d.n3/\d.n3<=20/\∀ j,j<d.n3->(d.V j).s.size<=1048576:=by
 have:=Ce h;unfold A6 at this;rw [if_neg (by omega),if_pos e] at this;simp only [XV,Bb,decide_eq_true_eq] at this
 refine⟨by omega,by omega,λj hj=>?_⟩;have h2:=Cw this.2 hj;unfold Ap at h2;simp only [Bool.or_eq_true,XV,decide_eq_true_eq] at h2
 rcases h2 with ⟨-,h2⟩ | ⟨-,h2⟩
 · omega
 · have:=Dn h2;omega
theorem UX{d:St}(h:AL d=true)(e:d.k=3):Ag d.E d.n5=true/\AR d.W d.n6=true:=by
 have:=Ce h;unfold A6 at this;rw [if_neg (by omega),if_neg (by omega),if_pos e] at this;simp only [XV] at this
 exact⟨this.1.2,this.2⟩
theorem UW{d:St}(h:AL d=true)(e:d.k=4):AR d.W d.n6=true:=by
 have:=Ce h;unfold A6 at this;rwa [if_neg (by omega),if_neg (by omega),if_neg (by omega),if_pos e] at this
theorem Ja{d:St}(h:AL d=true)(e:d.k=5):0<d.n7/\d.n7<=20/\(∀ j,j<d.n7->Ag (d.O j) (d.m7 j)=true)/\AR d.W d.n6=true:=by
 have:=Ce h;unfold A6 at this;rw [if_neg (by omega),if_neg (by omega),if_neg (by omega),if_neg (by omega),if_pos e] at this;simp only [XV,Bb,decide_eq_true_eq] at this
 have h2:Aw d.n7 (λj=>Ag (d.O j) (d.m7 j))=true:=this.1.2;exact⟨by omega,by omega,λj hj=>Cw (p:=λj=>Ag (d.O j) (d.m7 j)) h2 hj,this.2⟩
theorem R9{d:St}(h:AL d=true):d.k=1∨d.k=2∨d.k=3∨d.k=4∨d.k=5:=by
 have:=Ce h;unfold A6 at this;by_cases h1:d.k=1
 · exact Xc h1
 by_cases h2:d.k=2
 · exact Xi (Xc h2)
 by_cases h3:d.k=3
 · exact Xi (Xi (Xc h3))
 by_cases h4:d.k=4
 · exact Xi (Xi (Xi (Xc h4)))
 by_cases h5:d.k=5
 · exact Xi (Xi (Xi (Xi h5)))
 rw [if_neg h1,if_neg h2,if_neg h3,if_neg h4,if_neg h5] at this;cases this
def TN(w:ο)(g n:Nat)(T:Nat->Td):Prop:=
 ∀ k,k<n->∃ g1 g2 cr,w.cell? ⟨g,k * 3,ν⟩=ς (τ (T k).s)/\w.cell? ⟨g,k * 3+1,ν⟩=ς (σ (ς ⟨g1,0,ν⟩) (T k).n (T k).n)/\w.cell? ⟨g,k * 3+2,ν⟩=ς (σ (ς ⟨g2,0,ν⟩) (T k).r cr)/\(T k).r<=cr/\CL w (ς ⟨g1,0,ν⟩) (T k).n (T k).C/\OL w (ς ⟨g2,0,ν⟩) (T k).r (T k).m (T k).R/\Sm3 (T k)
theorem TN.later{w w':ο}{g n:Nat}{T:Nat->Td}(h:TN w g n T)(hb:υ w.heap.size w w'):TN w' g n T:=λk hk=>by
 obtain⟨g1,g2,cr,h0,h1,h2,hc,hC,hR,hs⟩:=h k hk;exact⟨g1,g2,cr,AB hb h0,AB hb h1,AB hb h2,hc,hC.later hb,hR.later hb,hs⟩
theorem TN.tc{w:ο}{g n:Nat}{T:Nat->Td}(h:TN w g n T):TC w g n T:=λk hk=>by
 obtain⟨g1,g2,cr,h0,h1,h2,-,hC,hR,hs⟩:=h k hk;exact⟨g1,_,cr,h0,h1,h2,hC,hR,hs⟩
theorem TN.tl{w:ο}{g n:Nat}{T:Nat->Td}(h:TN w g n T):TL w (ς ⟨g,0,ν⟩) n T:=h.tc.tl
set_option maxRecDepth 20000
set_option maxHeartbeats 16000000
theorem Oe(g n c:Nat)(T:Nat->Td)(k0:Int)(tb:ByteArray)(a2:Option Addr)(n2 c2:Nat)(a3:Option Addr)(n3 c3:Nat)(col:ByteArray)(a5:Option Addr)(n5 c5:Nat)(a6:Option Addr)(n6 c6:Nat)(a7:Option Addr)(n7 c7:Nat)(C:Nat->Clm)(V E W:Nat->Itm)(m7:Nat->Nat)(O:Nat->Nat->Itm)(D:St)(hD:(⟨k0,tb,n2,C,n3,V,col,n5,E,n6,W,n7,m7,O⟩:St)=D)(w:ο)(hT:TN w g n T)(hS:SM w ⟨k0,tb,n2,C,n3,V,col,n5,E,n6,W,n7,m7,O⟩ ⟨a2,c2,a3,c3,a5,c5,a6,c6,a7,c7⟩)(hn:n<=1048576)(hc2:n2<=c2) :
 XR μ 44 #[χ #[σ (ς ⟨g,0,ν⟩) n c],χ #[ι κ k0,τ tb,σ a2 n2 c2,σ a3 n3 c3,τ col,σ a5 n5 c5,σ a6 n6 c6,σ a7 n7 c7]] w (LN w (E0 n T D).1 (E0 n T D).2):=by
 have hbU:υ w.heap.size w (((w.alloc (γ #[σ (ς ⟨g,0,ν⟩) n c] 45)).alloc (γ #[ι κ k0,τ tb,σ a2 n2 c2,σ a3 n3 c3,τ col,σ a5 n5 c5,σ a6 n6 c6,σ a7 n7 c7] 64)).alloc (γ #[σ ν 0 0] 45)):=A7 _ _ _ _;have hsU:(((w.alloc (γ #[σ (ς ⟨g,0,ν⟩) n c] 45)).alloc (γ #[ι κ k0,τ tb,σ a2 n2 c2,σ a3 n3 c3,τ col,σ a5 n5 c5,σ a6 n6 c6,σ a7 n7 c7] 64)).alloc (γ #[σ ν 0 0] 45)).heap.size=w.heap.size+3:=by rw [ω,ω,ω]
 have hq0:(((w.alloc (γ #[σ (ς ⟨g,0,ν⟩) n c] 45)).alloc (γ #[ι κ k0,τ tb,σ a2 n2 c2,σ a3 n3 c3,τ col,σ a5 n5 c5,σ a6 n6 c6,σ a7 n7 c7] 64)).alloc (γ #[σ ν 0 0] 45)).heap[w.heap.size]?=ς (γ #[σ (ς ⟨g,0,ν⟩) n c] 45 (0,0)):=AC (AC (η w _) (AE _ _)) (AE _ _);have hq1:(((w.alloc (γ #[σ (ς ⟨g,0,ν⟩) n c] 45)).alloc (γ #[ι κ k0,τ tb,σ a2 n2 c2,σ a3 n3 c3,τ col,σ a5 n5 c5,σ a6 n6 c6,σ a7 n7 c7] 64)).alloc (γ #[σ ν 0 0] 45)).heap[w.heap.size+1]?=ς (γ #[ι κ k0,τ tb,σ a2 n2 c2,σ a3 n3 c3,τ col,σ a5 n5 c5,σ a6 n6 c6,σ a7 n7 c7] 64 (0,0)):=by
  have q:=η (w.alloc (γ #[σ (ς ⟨g,0,ν⟩) n c] 45)) (γ #[ι κ k0,τ tb,σ a2 n2 c2,σ a3 n3 c3,τ col,σ a5 n5 c5,σ a6 n6 c6,σ a7 n7 c7] 64);rw [ω] at q;exact AC q (AE _ _)
 have hq2:(((w.alloc (γ #[σ (ς ⟨g,0,ν⟩) n c] 45)).alloc (γ #[ι κ k0,τ tb,σ a2 n2 c2,σ a3 n3 c3,τ col,σ a5 n5 c5,σ a6 n6 c6,σ a7 n7 c7] 64)).alloc (γ #[σ ν 0 0] 45)).heap[w.heap.size+1+1]?=ς (γ #[σ ν 0 0] 45 (0,0)):=by
  have q:=η ((w.alloc (γ #[σ (ς ⟨g,0,ν⟩) n c] 45)).alloc (γ #[ι κ k0,τ tb,σ a2 n2 c2,σ a3 n3 c3,τ col,σ a5 n5 c5,σ a6 n6 c6,σ a7 n7 c7] 64)) (γ #[σ ν 0 0] 45);rw [ω,ω] at q;exact q
 have HDB0:=XF g n c T (((w.alloc (γ #[σ (ς ⟨g,0,ν⟩) n c] 45)).alloc (γ #[ι κ k0,τ tb,σ a2 n2 c2,σ a3 n3 c3,τ col,σ a5 n5 c5,σ a6 n6 c6,σ a7 n7 c7] 64)).alloc (γ #[σ ν 0 0] 45)) (hT.tc.later hbU) hn;obtain⟨db,hdb⟩:∃ b,CT n T=b:=⟨_,rfl⟩;obtain⟨sb,hsb⟩:∃ b,AL D=b:=⟨_,rfl⟩;rw [hdb] at HDB0;have HDB:Hid (XR μ 72 #[χ #[σ (ς ⟨g,0,ν⟩) n c]] (((w.alloc (γ #[σ (ς ⟨g,0,ν⟩) n c] 45)).alloc (γ #[ι κ k0,τ tb,σ a2 n2 c2,σ a3 n3 c3,τ col,σ a5 n5 c5,σ a6 n6 c6,σ a7 n7 c7] 64)).alloc (γ #[σ ν 0 0] 45)) (λe w'=>e=ρ (β db)/\υ (((w.alloc (γ #[σ (ς ⟨g,0,ν⟩) n c] 45)).alloc (γ #[ι κ k0,τ tb,σ a2 n2 c2,σ a3 n3 c3,τ col,σ a5 n5 c5,σ a6 n6 c6,σ a7 n7 c7] 64)).alloc (γ #[σ ν 0 0] 45)).heap.size (((w.alloc (γ #[σ (ς ⟨g,0,ν⟩) n c] 45)).alloc (γ #[ι κ k0,τ tb,σ a2 n2 c2,σ a3 n3 c3,τ col,σ a5 n5 c5,σ a6 n6 c6,σ a7 n7 c7] 64)).alloc (γ #[σ ν 0 0] 45)) w')):=HDB0;have HST:Hid (∀ W',υ w.heap.size w W'->XR μ 67 #[χ #[ι κ k0,τ tb,σ a2 n2 c2,σ a3 n3 c3,τ col,σ a5 n5 c5,σ a6 n6 c6,σ a7 n7 c7]] W' (λe w'=>e=ρ (β sb)/\υ W'.heap.size W' w')):=λW' hW'=>by
  have:=JY k0 tb n2 C n3 V col n5 E n6 W n7 m7 O a2 c2 a3 c3 a5 c5 a6 c6 a7 c7 D hD W' (hS.later hW');rwa [hsb] at this
 clear HDB0;cases db
 ·
  have HA:Hid (E0 n T D=([],7)):=by show _=_;unfold E0;rw [if_pos hdb]
  obtain⟨b0,bf0⟩:=AN hq2;obtain⟨c0,-⟩:=AN hq0;go_enter Tryz.func44,Tryz.ntmps44
  go_wp2_with (first | (go_at_call 72;refine(HDB.out).mono ?_;rintro e w1 ⟨rfl,hb1⟩;have hB1:=AA hbU hb1;have hss1:=hb1.size;have x0:=AC hq0 hb1;have x1:=AC hq1 hb1;have x2:=AC hq2 hb1;obtain⟨xa,-⟩:=AN x0;obtain⟨xb0,xb1,xb2,xb3,xb4,xb5,xb6,xb7⟩:=Ak x1;obtain⟨z2_,f2_⟩:=AN x2))
  refine XL (AF Tryz.results44 _ _ (w.heap.size+1+1) 45 _ (0,0) _ rfl (CA x2 _) Tryz.underlying45 rfl (by kernel_rfl)) rfl ?_;rw [HA.out];exact⟨ν,0,rfl,λv _ k hk=>absurd hk (Xj k),Al hB1 (by omega)⟩
 cases sb
 ·
  have HA:Hid (E0 n T D=([],7)):=by show _=_;unfold E0;rw [if_neg (by rw [hdb];simp),if_pos hsb]
  obtain⟨c0,-⟩:=AN hq0;go_enter Tryz.func44,Tryz.ntmps44
  go_wp2_with (first | (go_at_call 72;refine(HDB.out).mono ?_;rintro e w1 ⟨rfl,hb1⟩;have hB1:=AA hbU hb1;have hss1:=hb1.size;have x0:=AC hq0 hb1;have x1:=AC hq1 hb1;have x2:=AC hq2 hb1;obtain⟨xa,-⟩:=AN x0;obtain⟨xb0,xb1,xb2,xb3,xb4,xb5,xb6,xb7⟩:=Ak x1) | (go_at_call 67;refine(HST.out _ hB1).mono ?_;rintro e w2 ⟨rfl,hb2⟩;have hB2:=AA hB1 hb2;have hss2:=hb2.size;have y0:=AC x0 hb2;have y1:=AC x1 hb2;have y2:=AC x2 hb2;obtain⟨ya,-⟩:=AN y0;obtain⟨yb0,yb1,yb2,yb3,yb4,yb5,yb6,yb7⟩:=Ak y1;obtain⟨z2_,f2_⟩:=AN y2))
  refine XL (AF Tryz.results44 _ _ (w.heap.size+1+1) 45 _ (0,0) _ rfl (CA y2 _) Tryz.underlying45 rfl (by kernel_rfl)) rfl ?_;rw [HA.out];exact⟨ν,0,rfl,λv _ k hk=>absurd hk (Xj k),Al hB2 (by omega)⟩
 obtain⟨hn100,hok⟩:=DO hdb;have HF:Hid (Kg n T):=M0 hdb;have HOK:Hid (∀ k,k<n->D9 (T k)=true):=hok;have HOS:Hid (AL D=true):=hsb;have HAP:Hid (E0 n T D=if D.k=1 then LE T n D.tb D.n2 D.C
 else match Bn T D.tb n with
  | none=>(C8 T n,1)
  | some j=>if D.k=2 then Iv T n (T j).s (T j).n (T j).C (T j).r (T j).m (T j).R D.n3 D.V
   else if D.k=3 then Ir T n (T j).s (T j).n (T j).C (T j).r (T j).m (T j).R D.col D.E D.n5 D.W D.n6
   else if D.k=4 then N9 T n (T j).s (T j).n (T j).C (T j).r (T j).m (T j).R D.W D.n6
   else (C8 T n,JS (T j).C (T j).n D.m7 D.O D.n7 D.W D.n6)):=by show _=_;unfold E0;rw [if_neg (by rw [hdb];simp),if_neg (by rw [hsb];simp)];try rfl
 clear hdb hsb hok;have HD:Hid ((⟨k0,tb,n2,C,n3,V,col,n5,E,n6,W,n7,m7,O⟩:St)=D):=hD;clear hD;obtain⟨c0,-⟩:=AN hq0;by_cases hk1:k0=1
 ·
  subst hk1;have hr:=UZ HOS.out (by rw [←HD.out]);rw [←HD.out] at hr;simp only at hr
  obtain⟨A1,cd1,hA1⟩:∃ A cd,LE T n tb n2 C=(A,cd):=⟨_,_,rfl⟩;have HA:Hid (E0 n T D=(A1,cd1)):=by show _=_;rw [HAP.out,←HD.out];simp [hA1]
  have HCR:Hid (∀ W',υ w.heap.size w W'->XR μ 73 #[χ #[σ (ς ⟨g,0,ν⟩) n c],χ #[ι κ 1,τ tb,σ a2 n2 c2,σ a3 n3 c3,τ col,σ a5 n5 c5,σ a6 n6 c6,σ a7 n7 c7]] W' (LN W' A1 cd1)):=λW' hW'=>by
   have:=Od (ς ⟨g,0,ν⟩) n c T 1 tb a2 n2 c2 a3 n3 c3 col a5 n5 c5 a6 n6 c6 a7 n7 c7 C W' (hT.tl.later hW') (hS.co.later hW') (by omega) HF.out hr.1 (by omega) hc2 hS.tb;rwa [hA1] at this
  clear hA1;go_enter Tryz.func44,Tryz.ntmps44
  go_wp2_with (first | (go_at_call 72;refine(HDB.out).mono ?_;rintro e w1 ⟨rfl,hb1⟩;have hB1:=AA hbU hb1;have hss1:=hb1.size;have x0:=AC hq0 hb1;have x1:=AC hq1 hb1;have x2:=AC hq2 hb1;obtain⟨xa,-⟩:=AN x0;obtain⟨xb0,xb1,xb2,xb3,xb4,xb5,xb6,xb7⟩:=Ak x1) | (go_at_call 67;refine(HST.out _ hB1).mono ?_;rintro e w2 ⟨rfl,hb2⟩;have hB2:=AA hB1 hb2;have hss2:=hb2.size;have y0:=AC x0 hb2;have y1:=AC x1 hb2;have y2:=AC x2 hb2;obtain⟨ya,-⟩:=AN y0;obtain⟨yb0,yb1,yb2,yb3,yb4,yb5,yb6,yb7⟩:=Ak y1) | (go_at_call 73;refine(HCR.out _ hB2).mono ?_;rintro e w9 ⟨a8,c8,rfl,hL8,hb8⟩;have s2:=AC y2 hb8;obtain⟨z2_,f2_⟩:=AN s2))
  refine XL (AF Tryz.results44 _ _ (w.heap.size+1+1) 45 _ (0,0) _ rfl (CA s2 _) Tryz.underlying45 rfl (by kernel_rfl)) rfl ?_;rw [HA.out];exact Cm hB2 hL8 hb8 (by omega) (by omega) _
 have nk1:(k0 == 1)=false:=by simpa using hk1
 rcases ht:Bn T tb n with _ | j
 ·
  have HA:Hid (E0 n T D=(C8 T n,1)):=by show _=_;rw [HAP.out,←HD.out];simp only;rw [if_neg hk1,ht]
  have HTB:Hid (∀ W',υ w.heap.size w W'->XR μ 45 #[χ #[σ (ς ⟨g,0,ν⟩) n c],τ tb] W' (λe w'=>e=ρ (ι κ (-1))/\υ W'.heap.size W' w')):=λW' hW'=>by
   have:=Fq (ς ⟨g,0,ν⟩) n c T tb W' (hT.tl.later hW') hn;rwa [ht] at this
  clear ht hk1;go_enter Tryz.func44,Tryz.ntmps44
  go_wp2_with (first | (go_at_call 72;refine(HDB.out).mono ?_;rintro e w1 ⟨rfl,hb1⟩;have hB1:=AA hbU hb1;have hss1:=hb1.size;have x0:=AC hq0 hb1;have x1:=AC hq1 hb1;have x2:=AC hq2 hb1;obtain⟨xa,-⟩:=AN x0;obtain⟨xb0,xb1,xb2,xb3,xb4,xb5,xb6,xb7⟩:=Ak x1) | (go_at_call 67;refine(HST.out _ hB1).mono ?_;rintro e w2 ⟨rfl,hb2⟩;have hB2:=AA hB1 hb2;have hss2:=hb2.size;have y0:=AC x0 hb2;have y1:=AC x1 hb2;have y2:=AC x2 hb2;obtain⟨ya,-⟩:=AN y0;obtain⟨yb0,yb1,yb2,yb3,yb4,yb5,yb6,yb7⟩:=Ak y1) | (go_at_call 45;refine(HTB.out _ hB2).mono ?_;rintro e w3 ⟨rfl,hb3⟩;have hB3:=AA hB2 hb3;have hss3:=hb3.size;have z0:=AC y0 hb3;have z1:=AC y1 hb3;have z2:=AC y2 hb3;obtain⟨za,-⟩:=AN z0;obtain⟨zb0,zb1,zb2,zb3,zb4,zb5,zb6,zb7⟩:=Ak z1) | (go_at_call 74;refine(CQ (ς ⟨g,0,ν⟩) n c T _ (hT.tl.later (hB3)) (by omega) HF.out).mono ?_;rintro e w9 ⟨a8,c8,rfl,hL8,hb8⟩;have s2:=AC z2 hb8;obtain⟨z2_,f2_⟩:=AN s2))
  refine XL (AF Tryz.results44 _ _ (w.heap.size+1+1) 45 _ (0,0) _ rfl (CA s2 _) Tryz.underlying45 rfl (by kernel_rfl)) rfl ?_;rw [HA.out];exact BI hB3 hL8 hb8 (by omega) (by omega) _
 have hj:=(C9 ht).1;have HTB:Hid (∀ W',υ w.heap.size w W'->XR μ 45 #[χ #[σ (ς ⟨g,0,ν⟩) n c],τ tb] W' (λe w'=>e=ρ (ι κ j)/\υ W'.heap.size W' w')):=λW' hW'=>by
  have:=Fq (ς ⟨g,0,ν⟩) n c T tb W' (hT.tl.later hW') hn;rwa [ht] at this
 have HTJ:Hid (Bn T tb n=ς j):=ht;clear ht;obtain⟨g1,g2,cr,e0,e1,e2,hcr,hCt,hRt,hSt⟩:=hT j hj;have hNt:=Cd (HOK.out j hj);obtain⟨ds,dn,dC,dr,dm,dR,hTj⟩:∃ s nc C r m R,T j=⟨s,nc,C,r,m,R⟩:=⟨_,_,_,_,_,_,rfl⟩;rw [hTj] at e0 e1 e2 hcr hCt hRt hSt hNt;simp only at e0 e1 e2 hcr hCt hRt hNt
 have HAJ:Hid (E0 n T D=if k0=2 then Iv T n ds dn dC dr dm dR n3 V else if k0=3 then Ir T n ds dn dC dr dm dR col E n5 W n6 else if k0=4 then N9 T n ds dn dC dr dm dR W n6 else (C8 T n,JS dC dn m7 O n7 W n6)):=by
  show _=_
  rw [HAP.out,←HD.out];simp only
  rw [if_neg hk1,HTJ.out];simp only
  rw [hTj]
 have HN:Hid (Nice dn dr dm dR):=hNt;have hn1:=hNt.n1;have hr1:=hNt.r1;have hdsz:=hSt.s;simp only at hdsz
 clear hTj hNt;have hjn:(j:Int)<n:=by omega
 have hj0:(0:Int)<=j:=by omega
 have hjm:¬(j:Int)<0:=by omega
 by_cases hk2:k0=2
 ·
  subst hk2;obtain⟨h3a,h3b,h3c⟩:=UY HOS.out (by rw [←HD.out]);rw [←HD.out] at h3a h3b h3c;simp only at h3a h3b h3c
  obtain⟨A1,cd1,hA1⟩:∃ A cd,Iv T n ds dn dC dr dm dR n3 V=(A,cd):=⟨_,_,rfl⟩;have HA:Hid (E0 n T D=(A1,cd1)):=by show _=_;rw [HAJ.out];simp [hA1]
  have HCR:Hid (∀ W',υ w.heap.size w W'->XR μ 75 #[χ #[σ (ς ⟨g,0,ν⟩) n c],χ #[τ ds,σ (ς ⟨g1,0,ν⟩) dn dn,σ (ς ⟨g2,0,ν⟩) dr cr],χ #[ι κ 2,τ tb,σ a2 n2 c2,σ a3 n3 c3,τ col,σ a5 n5 c5,σ a6 n6 c6,σ a7 n7 c7]] W' (LN W' A1 cd1)):=λW' hW'=>by
   have:=Ob (ς ⟨g,0,ν⟩) n c T ds dn dC dr dm dR (ς ⟨g1,0,ν⟩) dn g2 0 cr 2 tb a2 n2 c2 a3 n3 c3 col a5 n5 c5 a6 n6 c6 a7 n7 c7 V W' (hT.tl.later hW') (hCt.later hW') (hRt.later hW') (hS.va.later hW') (by omega) HF.out HN.out hcr hdsz (by omega) h3c;rwa [hA1] at this
  clear hA1;go_enter Tryz.func44,Tryz.ntmps44
  go_wp2_with (first | (go_at_call 72;refine(HDB.out).mono ?_;rintro e w1 ⟨rfl,hb1⟩;have hB1:=AA hbU hb1;have hss1:=hb1.size;have x0:=AC hq0 hb1;have x1:=AC hq1 hb1;have x2:=AC hq2 hb1;obtain⟨xa,-⟩:=AN x0;obtain⟨xb0,xb1,xb2,xb3,xb4,xb5,xb6,xb7⟩:=Ak x1) | (go_at_call 67;refine(HST.out _ hB1).mono ?_;rintro e w2 ⟨rfl,hb2⟩;have hB2:=AA hB1 hb2;have hss2:=hb2.size;have y0:=AC x0 hb2;have y1:=AC x1 hb2;have y2:=AC x2 hb2;obtain⟨ya,-⟩:=AN y0;obtain⟨yb0,yb1,yb2,yb3,yb4,yb5,yb6,yb7⟩:=Ak y1) | (go_at_call 45;refine(HTB.out _ hB2).mono ?_;rintro e w3 ⟨rfl,hb3⟩;have hB3:=AA hB2 hb3;have hss3:=hb3.size;have z0:=AC y0 hb3;have z1:=AC y1 hb3;have z2:=AC y2 hb3;obtain⟨za,-⟩:=AN z0;obtain⟨zb0,zb1,zb2,zb3,zb4,zb5,zb6,zb7⟩:=Ak z1;have f0:=AB hB3 e0;have f1:=AB hB3 e1;have f2:=AB hB3 e2;have v0:=AC z0 (AE w3 (γ #[τ ds,σ (ς ⟨g1,0,ν⟩) dn dn,σ (ς ⟨g2,0,ν⟩) dr cr] 100));have v1:=AC z1 (AE w3 (γ #[τ ds,σ (ς ⟨g1,0,ν⟩) dn dn,σ (ς ⟨g2,0,ν⟩) dr cr] 100));have v2:=AC z2 (AE w3 (γ #[τ ds,σ (ς ⟨g1,0,ν⟩) dn dn,σ (ς ⟨g2,0,ν⟩) dr cr] 100));obtain⟨va,-⟩:=AN v0;obtain⟨vb0,vb1,vb2,vb3,vb4,vb5,vb6,vb7⟩:=Ak v1;have vt:=η w3 (γ #[τ ds,σ (ς ⟨g1,0,ν⟩) dn dn,σ (ς ⟨g2,0,ν⟩) dr cr] 100);obtain⟨vt0,vt1,vt2,-⟩:=AX vt) | (go_at_call 75;refine(HCR.out _ (AA hB3 (AE _ _))).mono ?_;rintro e w9 ⟨a8,c8,rfl,hL8,hb8⟩;have s2:=AC v2 hb8;obtain⟨z2_,f2_⟩:=AN s2))
  refine XL (AF Tryz.results44 _ _ (w.heap.size+1+1) 45 _ (0,0) _ rfl (CA s2 _) Tryz.underlying45 rfl (by kernel_rfl)) rfl ?_;rw [HA.out];exact Cm (AA hB3 (AE _ _)) hL8 hb8 (by omega) (by rw [ω];omega) _
 have nk2:(k0 == 2)=false:=by simpa using hk2
 by_cases hk3:k0=3
 ·
  subst hk3;obtain⟨h3a,h3b⟩:=UX HOS.out (by rw [←HD.out]);rw [←HD.out] at h3a h3b;simp only at h3a h3b
  obtain⟨A1,cd1,hA1⟩:∃ A cd,Ir T n ds dn dC dr dm dR col E n5 W n6=(A,cd):=⟨_,_,rfl⟩;have HA:Hid (E0 n T D=(A1,cd1)):=by show _=_;rw [HAJ.out];simp [hA1]
  have HCR:Hid (∀ W',υ w.heap.size w W'->XR μ 76 #[χ #[σ (ς ⟨g,0,ν⟩) n c],χ #[τ ds,σ (ς ⟨g1,0,ν⟩) dn dn,σ (ς ⟨g2,0,ν⟩) dr cr],χ #[ι κ 3,τ tb,σ a2 n2 c2,σ a3 n3 c3,τ col,σ a5 n5 c5,σ a6 n6 c6,σ a7 n7 c7]] W' (LN W' A1 cd1)):=λW' hW'=>by
   have:=OV (ς ⟨g,0,ν⟩) n c T ds dn dC dr dm dR (ς ⟨g1,0,ν⟩) dn (ς ⟨g2,0,ν⟩) cr 3 tb a2 n2 c2 a3 n3 c3 col a5 n5 c5 a6 n6 c6 a7 n7 c7 E W W' (hT.tl.later hW') (hCt.later hW') (hRt.later hW') (hS.ex.later hW') (hS.wh.later hW') (by omega) HF.out HN.out hdsz h3a h3b;rwa [hA1] at this
  clear hA1;go_enter Tryz.func44,Tryz.ntmps44
  go_wp2_with (first | (go_at_call 72;refine(HDB.out).mono ?_;rintro e w1 ⟨rfl,hb1⟩;have hB1:=AA hbU hb1;have hss1:=hb1.size;have x0:=AC hq0 hb1;have x1:=AC hq1 hb1;have x2:=AC hq2 hb1;obtain⟨xa,-⟩:=AN x0;obtain⟨xb0,xb1,xb2,xb3,xb4,xb5,xb6,xb7⟩:=Ak x1) | (go_at_call 67;refine(HST.out _ hB1).mono ?_;rintro e w2 ⟨rfl,hb2⟩;have hB2:=AA hB1 hb2;have hss2:=hb2.size;have y0:=AC x0 hb2;have y1:=AC x1 hb2;have y2:=AC x2 hb2;obtain⟨ya,-⟩:=AN y0;obtain⟨yb0,yb1,yb2,yb3,yb4,yb5,yb6,yb7⟩:=Ak y1) | (go_at_call 45;refine(HTB.out _ hB2).mono ?_;rintro e w3 ⟨rfl,hb3⟩;have hB3:=AA hB2 hb3;have hss3:=hb3.size;have z0:=AC y0 hb3;have z1:=AC y1 hb3;have z2:=AC y2 hb3;obtain⟨za,-⟩:=AN z0;obtain⟨zb0,zb1,zb2,zb3,zb4,zb5,zb6,zb7⟩:=Ak z1;have f0:=AB hB3 e0;have f1:=AB hB3 e1;have f2:=AB hB3 e2;have v0:=AC z0 (AE w3 (γ #[τ ds,σ (ς ⟨g1,0,ν⟩) dn dn,σ (ς ⟨g2,0,ν⟩) dr cr] 100));have v1:=AC z1 (AE w3 (γ #[τ ds,σ (ς ⟨g1,0,ν⟩) dn dn,σ (ς ⟨g2,0,ν⟩) dr cr] 100));have v2:=AC z2 (AE w3 (γ #[τ ds,σ (ς ⟨g1,0,ν⟩) dn dn,σ (ς ⟨g2,0,ν⟩) dr cr] 100));obtain⟨va,-⟩:=AN v0;obtain⟨vb0,vb1,vb2,vb3,vb4,vb5,vb6,vb7⟩:=Ak v1;have vt:=η w3 (γ #[τ ds,σ (ς ⟨g1,0,ν⟩) dn dn,σ (ς ⟨g2,0,ν⟩) dr cr] 100);obtain⟨vt0,vt1,vt2,-⟩:=AX vt) | (go_at_call 76;refine(HCR.out _ (AA hB3 (AE _ _))).mono ?_;rintro e w9 ⟨a8,c8,rfl,hL8,hb8⟩;have s2:=AC v2 hb8;obtain⟨z2_,f2_⟩:=AN s2))
  refine XL (AF Tryz.results44 _ _ (w.heap.size+1+1) 45 _ (0,0) _ rfl (CA s2 _) Tryz.underlying45 rfl (by kernel_rfl)) rfl ?_;rw [HA.out];exact Cm (AA hB3 (AE _ _)) hL8 hb8 (by omega) (by rw [ω];omega) _
 have nk3:(k0 == 3)=false:=by simpa using hk3
 by_cases hk4:k0=4
 ·
  subst hk4;have h3a:=UW HOS.out (by rw [←HD.out]);rw [←HD.out] at h3a;simp only at h3a
  obtain⟨A1,cd1,hA1⟩:∃ A cd,N9 T n ds dn dC dr dm dR W n6=(A,cd):=⟨_,_,rfl⟩;have HA:Hid (E0 n T D=(A1,cd1)):=by show _=_;rw [HAJ.out];simp [hA1]
  have HCR:Hid (∀ W',υ w.heap.size w W'->XR μ 77 #[χ #[σ (ς ⟨g,0,ν⟩) n c],χ #[τ ds,σ (ς ⟨g1,0,ν⟩) dn dn,σ (ς ⟨g2,0,ν⟩) dr cr],χ #[ι κ 4,τ tb,σ a2 n2 c2,σ a3 n3 c3,τ col,σ a5 n5 c5,σ a6 n6 c6,σ a7 n7 c7]] W' (LN W' A1 cd1)):=λW' hW'=>by
   have:=Oc (ς ⟨g,0,ν⟩) n c T ds dn dC dr dm dR (ς ⟨g1,0,ν⟩) dn (ς ⟨g2,0,ν⟩) cr 4 tb a2 n2 c2 a3 n3 c3 col a5 n5 c5 a6 n6 c6 a7 n7 c7 W W' (hT.tl.later hW') (hCt.later hW') (hRt.later hW') (hS.wh.later hW') (by omega) HF.out HN.out hdsz h3a;rwa [hA1] at this
  clear hA1;go_enter Tryz.func44,Tryz.ntmps44
  go_wp2_with (first | (go_at_call 72;refine(HDB.out).mono ?_;rintro e w1 ⟨rfl,hb1⟩;have hB1:=AA hbU hb1;have hss1:=hb1.size;have x0:=AC hq0 hb1;have x1:=AC hq1 hb1;have x2:=AC hq2 hb1;obtain⟨xa,-⟩:=AN x0;obtain⟨xb0,xb1,xb2,xb3,xb4,xb5,xb6,xb7⟩:=Ak x1) | (go_at_call 67;refine(HST.out _ hB1).mono ?_;rintro e w2 ⟨rfl,hb2⟩;have hB2:=AA hB1 hb2;have hss2:=hb2.size;have y0:=AC x0 hb2;have y1:=AC x1 hb2;have y2:=AC x2 hb2;obtain⟨ya,-⟩:=AN y0;obtain⟨yb0,yb1,yb2,yb3,yb4,yb5,yb6,yb7⟩:=Ak y1) | (go_at_call 45;refine(HTB.out _ hB2).mono ?_;rintro e w3 ⟨rfl,hb3⟩;have hB3:=AA hB2 hb3;have hss3:=hb3.size;have z0:=AC y0 hb3;have z1:=AC y1 hb3;have z2:=AC y2 hb3;obtain⟨za,-⟩:=AN z0;obtain⟨zb0,zb1,zb2,zb3,zb4,zb5,zb6,zb7⟩:=Ak z1;have f0:=AB hB3 e0;have f1:=AB hB3 e1;have f2:=AB hB3 e2;have v0:=AC z0 (AE w3 (γ #[τ ds,σ (ς ⟨g1,0,ν⟩) dn dn,σ (ς ⟨g2,0,ν⟩) dr cr] 100));have v1:=AC z1 (AE w3 (γ #[τ ds,σ (ς ⟨g1,0,ν⟩) dn dn,σ (ς ⟨g2,0,ν⟩) dr cr] 100));have v2:=AC z2 (AE w3 (γ #[τ ds,σ (ς ⟨g1,0,ν⟩) dn dn,σ (ς ⟨g2,0,ν⟩) dr cr] 100));obtain⟨va,-⟩:=AN v0;obtain⟨vb0,vb1,vb2,vb3,vb4,vb5,vb6,vb7⟩:=Ak v1;have vt:=η w3 (γ #[τ ds,σ (ς ⟨g1,0,ν⟩) dn dn,σ (ς ⟨g2,0,ν⟩) dr cr] 100);obtain⟨vt0,vt1,vt2,-⟩:=AX vt) | (go_at_call 77;refine(HCR.out _ (AA hB3 (AE _ _))).mono ?_;rintro e w9 ⟨a8,c8,rfl,hL8,hb8⟩;have s2:=AC v2 hb8;obtain⟨z2_,f2_⟩:=AN s2))
  refine XL (AF Tryz.results44 _ _ (w.heap.size+1+1) 45 _ (0,0) _ rfl (CA s2 _) Tryz.underlying45 rfl (by kernel_rfl)) rfl ?_;rw [HA.out];exact Cm (AA hB3 (AE _ _)) hL8 hb8 (by omega) (by rw [ω];omega) _
 have nk4:(k0 == 4)=false:=by simpa using hk4
 have hk5:k0=5:=by
  have:=R9 HOS.out;rw [←HD.out] at this;simp only at this
  omega
 subst hk5;obtain⟨h7a,h7b,h7c,h7d⟩:=Ja HOS.out (by rw [←HD.out]);rw [←HD.out] at h7a h7b h7c h7d;simp only at h7a h7b h7c h7d
 have HEX:Hid (∀ j,j<n7->Ag (O j) (m7 j)=true):=h7c;have HA:Hid (E0 n T D=(C8 T n,JS dC dn m7 O n7 W n6)):=by show _=_;rw [HAJ.out,if_neg hk2,if_neg hk3,if_neg hk4]
 have HCW:Hid (∀ W',υ w.heap.size w W'->XR μ 79 #[σ (ς ⟨g1,0,ν⟩) dn dn,σ a6 n6 c6] W' (λe w'=>e=ρ (ι κ (EO dC dn W n6))/\υ W'.heap.size W' w')):=λW' hW'=>Gt _ dn dn dC a6 n6 c6 W W' (hCt.later hW') (hS.wh.later hW') hn1 h7d;clear h7c h7d hk1 hk2 hk3 hk4;go_enter Tryz.func44,Tryz.ntmps44
 go_wp2_with (first | (go_at_call 72;refine(HDB.out).mono ?_;rintro e w1 ⟨rfl,hb1⟩;have hB1:=AA hbU hb1;have hss1:=hb1.size;have x0:=AC hq0 hb1;have x1:=AC hq1 hb1;have x2:=AC hq2 hb1;obtain⟨xa,-⟩:=AN x0;obtain⟨xb0,xb1,xb2,xb3,xb4,xb5,xb6,xb7⟩:=Ak x1) | (go_at_call 67;refine(HST.out _ hB1).mono ?_;rintro e w2 ⟨rfl,hb2⟩;have hB2:=AA hB1 hb2;have hss2:=hb2.size;have y0:=AC x0 hb2;have y1:=AC x1 hb2;have y2:=AC x2 hb2;obtain⟨ya,-⟩:=AN y0;obtain⟨yb0,yb1,yb2,yb3,yb4,yb5,yb6,yb7⟩:=Ak y1) | (go_at_call 45;refine(HTB.out _ hB2).mono ?_;rintro e w3 ⟨rfl,hb3⟩;have hB3:=AA hB2 hb3;have hss3:=hb3.size;have z0:=AC y0 hb3;have z1:=AC y1 hb3;have z2:=AC y2 hb3;obtain⟨za,-⟩:=AN z0;obtain⟨zb0,zb1,zb2,zb3,zb4,zb5,zb6,zb7⟩:=Ak z1;have f0:=AB hB3 e0;have f1:=AB hB3 e1;have f2:=AB hB3 e2;have v0:=AC z0 (AE w3 (γ #[τ ds,σ (ς ⟨g1,0,ν⟩) dn dn,σ (ς ⟨g2,0,ν⟩) dr cr] 100));have v1:=AC z1 (AE w3 (γ #[τ ds,σ (ς ⟨g1,0,ν⟩) dn dn,σ (ς ⟨g2,0,ν⟩) dr cr] 100));have v2:=AC z2 (AE w3 (γ #[τ ds,σ (ς ⟨g1,0,ν⟩) dn dn,σ (ς ⟨g2,0,ν⟩) dr cr] 100));obtain⟨va,-⟩:=AN v0;obtain⟨vb0,vb1,vb2,vb3,vb4,vb5,vb6,vb7⟩:=Ak v1;have vt:=η w3 (γ #[τ ds,σ (ς ⟨g1,0,ν⟩) dn dn,σ (ς ⟨g2,0,ν⟩) dr cr] 100);obtain⟨vt0,vt1,vt2,-⟩:=AX vt))
 have hB4:=AA hB3 (AE w3 (γ #[τ ds,σ (ς ⟨g1,0,ν⟩) dn dn,σ (ς ⟨g2,0,ν⟩) dr cr] 100));have hs4:(w3.alloc (γ #[τ ds,σ (ς ⟨g1,0,ν⟩) dn dn,σ (ς ⟨g2,0,ν⟩) dr cr] 100)).heap.size=w3.heap.size+1:=ω _ _;generalize w3.alloc (γ #[τ ds,σ (ς ⟨g1,0,ν⟩) dn dn,σ (ς ⟨g2,0,ν⟩) dr cr] 100)=w4 at hB4 v0 v1 v2 vt hs4 ⊢;go_loopw [9,10,11,71] (λ_ _ _ i wr=>∃ k:Nat,k<=n7/\i=ι κ k/\GE dC dn m7 O k=0/\υ w4.heap.size w4 wr) (λ_ _ _ i _=>n7 - (XX i).toNat)
 case atStart=>exact⟨0,XZ _,rfl,rfl,Xa _ _⟩
 case round=>
  obtain⟨k,hk,rfl,hso,hbr⟩:=hrel;have HSO:Hid (GE dC dn m7 O k=0):=hso;clear hso;have hbW:=AA hB4 hbr;have hsr:=hbr.size;have q0:=AC v0 hbr;have q1:=AC v1 hbr;have q2:=AC v2 hbr;have qt:=AC vt hbr;obtain⟨qa,-⟩:=AN q0;obtain⟨-,-,-,-,-,-,qw,qo⟩:=Ak q1;obtain⟨qt0,qt1,qt2,-⟩:=AX qt;by_cases hlt:k<n7
  ·
   obtain⟨bO,offO,ai,ci,rfl,d1,hIO,hmO⟩:=hS.ou.later hbW k hlt;simp only at d1 hIO hmO
   have hkn:(k:Int)<n7:=by omega
   obtain⟨hx1,hx2,hx3⟩:=CK (HEX.out k hlt);obtain⟨ek,ec,hck⟩:∃ ek ec,De dC dn (O k) (m7 k)=(ek,ec):=⟨_,_,rfl⟩;have HCK:XR μ 78 #[σ (ς ⟨g1,0,ν⟩) dn dn,σ ai (m7 k) ci] wr (λe w'=>e=ρ (θ #[ι κ ek,ι κ ec])/\υ wr.heap.size wr w'):=by
    have:=I5 (ς ⟨g1,0,ν⟩) dn dn dC ai (m7 k) ci (O k) wr (hCt.later hbW) hIO hn1 hx1 hx3;rwa [hck] at this
   have HNX:Hid (GE dC dn m7 O (k+1)=ec):=by show _=_;rw [GE,if_pos HSO.out,hck]
   clear hck hx3;by_cases he:ec=0
   ·
    subst he;go_wp2_with (go_at_call 78;refine HCK.mono ?_;rintro e w5 ⟨rfl,hb5⟩)
    go_roundw
    case rel=>exact⟨k+1,by omega,by go_num,HNX.out,AA hbr hb5⟩
    case measure=>simp [XX];omega
   ·
    have n0:(ec != 0)=true:=by simpa using he
    have HA2:Hid (E0 n T D=(C8 T n,ec)):=by
     show _=_
     have h1:GE dC dn m7 O n7=ec:=by rw [AaB (k:=k+1) (by rw [HNX.out];exact he) n7 (by omega),HNX.out]
     rw [HA.out];unfold JS;rw [h1,if_neg he]
    clear he;go_wp2_with (first | (go_at_call 74;have _h:=hb5;refine(CQ (ς ⟨g,0,ν⟩) n c T _ (hT.tl.later (AA hbW hb5)) (by omega) HF.out).mono ?_;rintro e w9 ⟨a8,c8,rfl,hL8,hb8⟩;have s2:=AC x2_ hb8;obtain⟨z2_,f2_⟩:=AN s2) | (go_at_call 78;refine HCK.mono ?_;rintro e w5 ⟨rfl,hb5⟩;have hss5:=hb5.size;have x0_:=AC q0 hb5;have x2_:=AC q2 hb5;obtain⟨xa_,-⟩:=AN x0_))
    refine XL (AF Tryz.results44 _ _ (w.heap.size+1+1) 45 _ (0,0) _ rfl (CA s2 _) Tryz.underlying45 rfl (by kernel_rfl)) rfl ?_;rw [HA2.out];exact BI (AA hbW hb5) hL8 hb8 (by omega) (by omega) _
  ·
   obtain rfl:k=n7:=by omega
   have HA2:Hid (E0 n T D=(C8 T n,EO dC dn W n6)):=by show _=_;rw [HA.out];unfold JS;rw [if_pos HSO.out]
   have hbv:=AA hbW (CE wr);have hrr:wr.drew.heap[w.heap.size+1+1]?=ς (γ #[σ ν 0 0] 45 (0,0)):=q2;have hsv:w.heap.size+3<=wr.drew.heap.size:=by show _<=wr.heap.size;omega
   go_upto_region 23 with (fail)
   refine XO (S:=λx=>x.heap[w.heap.size]?=ς (γ #[σ (ς ⟨g,0,ν⟩) n c] 45 (0,0))/\x.heap[w.heap.size+1]?=ς (γ #[ι κ 5,τ tb,σ a2 n2 c2,σ a3 n3 c3,τ col,σ a5 n5 c5,σ a6 n6 c6,σ a7 k c7] 64 (0,0))/\x.heap[w3.heap.size]?=ς (γ #[τ ds,σ (ς ⟨g1,0,ν⟩) dn dn,σ (ς ⟨g2,0,ν⟩) dr cr] 100 (0,0))) (by kernel_rfl) (⟨q0,q1,qt⟩) (λjH=>?_);generalize wr.drew=v at jH hbv hrr hsv ⊢;refine tk 0 (⟨ς 88,.load 45 (δ 2),45,"l5_replay.go:373",#[],ν⟩:Oper) (λx jS=>by obtain⟨h0_,h1_,h2_⟩:=jS;obtain⟨i0_,-⟩:=AN h0_;obtain⟨-,-,-,-,-,-,i6_,-⟩:=Ak h1_;obtain⟨-,i7_,-⟩:=AX h2_;go_simp<;>rfl) jH ?_
   try simp only [zS]
   refine tk 2 (⟨ς 90,.fieldAddr 100 (δ 7) 1,0,"l5_replay.go:373",#[],ν⟩:Oper) (λx jS=>by go_simp<;>rfl) jH ?_
   try simp only [zS]
   refine tk 3 (⟨ς 91,.load 59 (δ 90),59,"l5_replay.go:373",#[⟨2,φ⟩],ν⟩:Oper) (λx jS=>by obtain⟨h0_,h1_,h2_⟩:=jS;obtain⟨i0_,-⟩:=AN h0_;obtain⟨-,-,-,-,-,-,i6_,-⟩:=Ak h1_;obtain⟨-,i7_,-⟩:=AX h2_;go_simp<;>rfl) jH ?_
   try simp only [zS]
   refine tk 4 (⟨ς 92,.fieldAddr 64 (δ 3) 6,0,"l5_replay.go:373",#[],ν⟩:Oper) (λx jS=>by go_simp<;>rfl) jH ?_
   try simp only [zS]
   refine tk 5 (⟨ς 93,.load 61 (δ 92),61,"l5_replay.go:373",#[⟨4,φ⟩],ν⟩:Oper) (λx jS=>by obtain⟨h0_,h1_,h2_⟩:=jS;obtain⟨i0_,-⟩:=AN h0_;obtain⟨-,-,-,-,-,-,i6_,-⟩:=Ak h1_;obtain⟨-,i7_,-⟩:=AX h2_;go_simp<;>rfl) jH ?_
   try simp only [zS]
   refine rd 1 (⟨ς 89,.call ⟨.value (.func 74),#[δ 88],#[45]⟩,45,"l5_replay.go:373",#[⟨0,φ⟩],ν⟩:Oper) (λK hK=>?_);go_simp;refine(CQ (ς ⟨g,0,ν⟩) n c T _ (hT.tl.later hbv) (by omega) HF.out).mono ?_;rintro e v ⟨a8,c8,rfl,hL8,hb8⟩;refine hK.out _ _ (⟨AC jH.1 hb8,AC jH.2.1 hb8,AC jH.2.2 hb8⟩) (λjH=>?_);clear hK K;try simp only [zS]
   replace hL8:=hL8.wide (Y:=λb=>w.heap.size+3<=b) (λb hb _=>Xe hsv hb);replace hrr:=AC hrr hb8;replace hbv:=AA hbv hb8;replace hsv:=Xe hsv (hb8).size;refine rd 6 (⟨ς 94,.call ⟨.value (.func 79),#[δ 91,δ 93],#[59,61]⟩,3,"l5_replay.go:373",#[⟨3,φ⟩,⟨5,φ⟩,⟨1,.chain⟩],ν⟩:Oper) (λK hK=>?_);go_simp;refine(HCW.out _ hbv).mono ?_;rintro e v ⟨rfl,hb7⟩;refine hK.out _ _ (⟨AC jH.1 hb7,AC jH.2.1 hb7,AC jH.2.2 hb7⟩) (λjH=>?_);clear hK K;try simp only [zS]
   replace hL8:=hL8.later hb7;replace hrr:=AC hrr hb7;replace hbv:=AA hbv hb7;replace hsv:=Xe hsv (hb7).size;refine rd 7 (⟨ν,.store 45 (δ 4) (δ 89),0,"l5_replay.go:373",#[⟨1,φ⟩,⟨6,.chain⟩,⟨0,ξ⟩,⟨1,ξ⟩,⟨2,.textOnly .lateStores⟩,⟨3,.textOnly .lateStores⟩,⟨4,.textOnly .lateStores⟩,⟨5,.textOnly .lateStores⟩,⟨6,.textOnly .lateStoresUnsure⟩],ν⟩:Oper) (λK hK=>?_);obtain⟨m9,f9⟩:=AN hrr;go_simp;refine hK.out _ _ ⟨AS jH.1 (by omega),AS jH.2.1 (by omega),AS jH.2.2 (by omega)⟩ (λjH=>?_);clear hK K;try simp only [zS]
   refine tk 8 (⟨ς 5,.assign (δ 94),3,"l5_replay.go:373",#[⟨6,φ⟩,⟨7,.chain⟩,⟨0,ξ⟩,⟨1,ξ⟩,⟨2,ξ⟩,⟨3,ξ⟩,⟨4,ξ⟩,⟨5,ξ⟩,⟨6,ξ⟩,⟨7,ξ⟩],ν⟩:Oper) (λx jS=>by go_simp<;>rfl) jH ?_
   try simp only [zS]
   refine XW (by kernel_rfl) ?_ _;go_wp2;refine XL (AF Tryz.results44 _ _ (w.heap.size+1+1) 45 _ (0,0) _ rfl (CA hrr _) Tryz.underlying45 rfl (by kernel_rfl)) rfl ?_;rw [HA2.out];exact⟨a8,c8,by rw [Gm];rfl,((hL8.set (B:=w.heap.size+1+1) (by omega)).wide (λb hb _=>by omega)).imp (λ_ h=>h.list),Al hbv (by omega)⟩
