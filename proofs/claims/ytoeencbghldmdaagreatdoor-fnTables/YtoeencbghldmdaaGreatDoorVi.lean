import Derived.Test.YtoeencbghldmdaaGreatDoorVd
open Bool renaming and_eq_true → VO
open ByteArray renaming empty → VG
open Go renaming Calls → VK, World → ο, bodyPost_ret → VE, cell_of_row → ε, heap_alloc_new → η, results_tmp2 → VZ, wpAnyH_done → VP, wp_region_held_drew → VH, results_cell_row → VW
open Go.Ending renaming returned → ρ
open Go.Ground renaming data → φ
open Go.IntKind renaming i64 → κ
open Go.Obj renaming cells → γ
open Go.Op renaming bytesLess → Va
open Go.Operand renaming tmp → δ
open Go.Proofs.Tryz renaming prog → μ
open Go.RowKit renaming Below → υ, intOf → VQ
open Go.RowKit.Below renaming refl → VT
open Go.Value renaming agg → χ, int → ι, slice → σ, string → τ, tuple → θ, bool → β, pointer → ψ
open Go.World renaming size_alloc → ω, news_of_block → VI, ownsRow_made → VU, size_setCell → Ve
open List renaming length_append → VJ, length_take → VY
open Nat renaming zero_le → VS, add_zero → Vf, le_refl → VD, le_trans → VX
open Option renaming none → ν, some → ς
open Option.some renaming inj → VF
open Or renaming inl → VV, inr → Vb
namespace Go.Proofs.YtoeencbghldmdaaGreatDoor
open Go.RowKit Go.Maps Go.WideMaps
set_option maxRecDepth 20000
set_option maxHeartbeats 16000000
theorem Lz(ac:Option Addr)(n cc:Nat)(C:Nat->Clm)(mb:Nat)(a:Option Addr)(m c:Nat)(I:Nat->Itm)(w:ο)(hC:CL w ac n C)(hP:PlAt w mb n C)(hdp:∀ k,k<n->AR C (C k).s k=false)(hI:IL w a m I)(hm:m<=100)(hx:ex I m=ς 1) :
 VK μ 116 #[χ #[σ ac n cc,.map (ς mb)],σ a m c] w λe w'=>e=ρ (θ #[ι κ (DA C n I m).1,ι κ (DA C n I m).2])/\υ w.heap.size w w':=by
 have hb0:=AD w (γ #[σ ac n cc,.map (ς mb)] 77);have HW:=Rc ac n cc C mb a m c I (w.alloc (γ #[σ ac n cc,.map (ς mb)] 77)) (hC.later hb0) (hP.later hb0) hdp (hI.later hb0) hm hx;obtain⟨ek,ec,hck⟩:∃ ek ec,DA C n I m=(ek,ec):=⟨_,_,rfl⟩;rw [hck] at HW ⊢;clear hck hx;go_enter Tryz.func116,Tryz.ntmps116
 go_wp2_with (go_at_call 150;refine HW.mono ?_;rintro e w1 ⟨rfl,hb1⟩)
 refine VE (VZ rfl _ _ _) rfl ⟨rfl,AA hb0 hb1⟩
def Om(C:Nat->Clm)(n:Nat)(I:Nat->Itm)(m:Nat)(q:Int):Int:=if (DA C n I m).2=0/\¬(DA C n I m).1=q then 4 else (DA C n I m).2
theorem Ly(ac:Option Addr)(n cc:Nat)(C:Nat->Clm)(mb:Nat)(a:Option Addr)(m c:Nat)(I:Nat->Itm)(q:Int)(w:ο)(hC:CL w ac n C)(hP:PlAt w mb n C)(hdp:∀ k,k<n->AR C (C k).s k=false)(hI:IL w a m I)(hm:m<=100)(hx:ex I m=ς 1) :
 VK μ 149 #[χ #[σ ac n cc,.map (ς mb)],σ a m c,ι κ q] w λe w'=>e=ρ (ι κ (Om C n I m q))/\υ w.heap.size w w':=by
 have hb0:=AD w (γ #[σ ac n cc,.map (ς mb)] 77);have HW:=Lz ac n cc C mb a m c I (w.alloc (γ #[σ ac n cc,.map (ς mb)] 77)) (hC.later hb0) (hP.later hb0) hdp (hI.later hb0) hm hx;obtain⟨ek,ec,hck⟩:∃ ek ec,DA C n I m=(ek,ec):=⟨_,_,rfl⟩;rw [hck] at HW;have HK:Hid (DA C n I m=(ek,ec)):=hck;clear hck hx;by_cases e0:ec=0
 ·
  subst e0;by_cases e1:ek=q
  ·
   subst e1;go_enter Tryz.func149,Tryz.ntmps149
   go_wp2_with (go_at_call 116;refine HW.mono ?_;rintro e w1 ⟨rfl,hb1⟩)
   go_ret
   exact⟨by unfold Om;rw [HK.out,if_neg (by simp)];rfl,AA hb0 hb1⟩
  ·
   have n2:(ek != q)=true:=by simpa using e1
   have HE:Hid (¬ek=q):=e1;clear e1;go_enter Tryz.func149,Tryz.ntmps149
   go_wp2_with (go_at_call 116;refine HW.mono ?_;rintro e w1 ⟨rfl,hb1⟩)
   go_ret
   exact⟨by unfold Om;rw [HK.out,if_pos ⟨rfl,HE.out⟩];rfl,AA hb0 hb1⟩
 ·
  have n1:(ec == 0)=false:=by simpa using e0
  have HE:Hid (¬ec=0):=e0;clear e0;go_enter Tryz.func149,Tryz.ntmps149
  go_wp2_with (go_at_call 116;refine HW.mono ?_;rintro e w1 ⟨rfl,hb1⟩)
  go_ret
  exact⟨by unfold Om;rw [HK.out,if_neg (λh=>HE.out h.1)];rfl,AA hb0 hb1⟩
theorem Fo(ac:Option Addr)(n cc:Nat)(C:Nat->Clm)(mb:Nat)(a:Option Addr)(m c:Nat)(I:Nat->Itm)(w:ο)(hC:CL w ac n C)(hP:PlAt w mb n C)(hdp:∀ k,k<n->AR C (C k).s k=false)(hI:IL w a m I)(hok:AI I m=true) :
 VK μ 117 #[χ #[σ ac n cc,.map (ς mb)],σ a m c] w λe w'=>e=ρ (ι κ (CM C n I m))/\υ w.heap.size w w':=by
 have hb0:=AD w (γ #[σ ac n cc,.map (ς mb)] 77);by_cases h0:m=0
 ·
  subst h0;go_enter Tryz.func117,Tryz.ntmps117
  go_wp2;go_ret
  exact⟨by simp [CM],hb0⟩
 ·
  obtain⟨h1,h2,h3⟩:=CY hok h0;have HW:=Ly ac n cc C mb a m c I 1 (w.alloc (γ #[σ ac n cc,.map (ς mb)] 77)) (hC.later hb0) (hP.later hb0) hdp (hI.later hb0) h1 h3;have HE:Hid (CM C n I m=Om C n I m 1):=by show _=_;unfold CM Om;rw [if_neg h0]
  have n0:((m:Int) == 0)=false:=by simp;omega
  clear h0 h3 hok;go_enter Tryz.func117,Tryz.ntmps117
  go_wp2_with (go_at_call 149;refine HW.mono ?_;rintro e w1 ⟨rfl,hb1⟩)
  go_ret
  exact⟨by rw [HE.out];rfl,AA hb0 hb1⟩
theorem KD(ac:Option Addr)(n cc:Nat)(C:Nat->Clm)(mb:Nat)(tb:ByteArray)(a2:Option Addr)(n2 c2:Nat)(a3:Option Addr)(n3 c3:Nat)(col:ByteArray)(a5:Option Addr)(n5 c5:Nat)(a6:Option Addr)(n6 c6:Nat)(a7:Option Addr)(n7 c7:Nat)(W:Nat->Itm)(m7:Nat->Nat)(O:Nat->Nat->Itm)(w:ο)(hC:CL w ac n C)(hP:PlAt w mb n C)(hdp:∀ k,k<n->AR C (C k).s k=false)(hO:OL w a7 n7 m7 O)(hW:IL w a6 n6 W)(h7:n7<=1048576)(hex:∀ i,i<n7->AZ (O i) (m7 i)=true)(hok:AI W n6=true) :
 VK μ 79 #[χ #[σ ac n cc,.map (ς mb)],χ #[ι κ 5,τ tb,σ a2 n2 c2,σ a3 n3 c3,τ col,σ a5 n5 c5,σ a6 n6 c6,σ a7 n7 c7]] w λe w'=>e=ρ (ι κ (Hv C n m7 O n7 W n6))/\υ w.heap.size w w':=by
 have HEX:Hid (∀ i,i<n7->AZ (O i) (m7 i)=true):=hex;have HDP:Hid (∀ k,k<n->AR C (C k).s k=false):=hdp;have HOK:Hid (AI W n6=true):=hok;clear hex hdp hok;have hbU:υ w.heap.size w ((w.alloc (γ #[σ ac n cc,.map (ς mb)] 77)).alloc (γ #[ι κ 5,τ tb,σ a2 n2 c2,σ a3 n3 c3,τ col,σ a5 n5 c5,σ a6 n6 c6,σ a7 n7 c7] 34)):=AA (AD _ _) (AD _ _);have hq0:((w.alloc (γ #[σ ac n cc,.map (ς mb)] 77)).alloc (γ #[ι κ 5,τ tb,σ a2 n2 c2,σ a3 n3 c3,τ col,σ a5 n5 c5,σ a6 n6 c6,σ a7 n7 c7] 34)).heap[w.heap.size]?=ς (γ #[σ ac n cc,.map (ς mb)] 77 (0,0)):=AC (η w _) (AD _ _);have hq1:((w.alloc (γ #[σ ac n cc,.map (ς mb)] 77)).alloc (γ #[ι κ 5,τ tb,σ a2 n2 c2,σ a3 n3 c3,τ col,σ a5 n5 c5,σ a6 n6 c6,σ a7 n7 c7] 34)).heap[w.heap.size+1]?=ς (γ #[ι κ 5,τ tb,σ a2 n2 c2,σ a3 n3 c3,τ col,σ a5 n5 c5,σ a6 n6 c6,σ a7 n7 c7] 34 (0,0)):=by
  have q:=η (w.alloc (γ #[σ ac n cc,.map (ς mb)] 77)) (γ #[ι κ 5,τ tb,σ a2 n2 c2,σ a3 n3 c3,τ col,σ a5 n5 c5,σ a6 n6 c6,σ a7 n7 c7] 34);rw [ω] at q;exact q
 go_enter Tryz.func79,Tryz.ntmps79
 go_wp2;go_loopw [7,8,9,36] (λ_ _ _ i wr=>∃ k:Nat,k<=n7/\i=ι κ k/\GJ C n m7 O k=0/\υ ((w.alloc (γ #[σ ac n cc,.map (ς mb)] 77)).alloc (γ #[ι κ 5,τ tb,σ a2 n2 c2,σ a3 n3 c3,τ col,σ a5 n5 c5,σ a6 n6 c6,σ a7 n7 c7] 34)).heap.size ((w.alloc (γ #[σ ac n cc,.map (ς mb)] 77)).alloc (γ #[ι κ 5,τ tb,σ a2 n2 c2,σ a3 n3 c3,τ col,σ a5 n5 c5,σ a6 n6 c6,σ a7 n7 c7] 34)) wr) (λ_ _ _ i _=>n7 - (VQ i).toNat)
 case atStart=>exact⟨0,VS _,rfl,rfl,VT _ _⟩
 case round=>
  obtain⟨k,hk,rfl,hso,hbr⟩:=hrel;have HSO:Hid (GJ C n m7 O k=0):=hso;clear hso;have hbW:=AA hbU hbr;have q0:=AC hq0 hbr;have q1:=AC hq1 hbr;obtain⟨s0,s1⟩:wr.cell? ⟨w.heap.size,0,ν⟩=ς (σ ac n cc)/\wr.cell? ⟨w.heap.size,1,ν⟩=ς (.map (ς mb)):=⟨ε _ _ 0 _ _ _ q0,ε _ _ 1 _ _ _ q0⟩;obtain⟨-,-,-,-,-,-,qw,qo⟩:=AJ q1;by_cases hlt:k<n7
  ·
   obtain⟨bO,offO,ai,ci,rfl,d1,hIO,-⟩:=hO.later hbW k hlt;have hkn:(k:Int)<n7:=by omega
   obtain⟨hx1,hx2,hx3⟩:=BX (HEX.out k hlt);obtain⟨ek,ec,hck⟩:∃ ek ec,DA C n (O k) (m7 k)=(ek,ec):=⟨_,_,rfl⟩;have HCK:=Lz ac n cc C mb ai (m7 k) ci (O k) wr (hC.later hbW) (hP.later hbW) HDP.out hIO hx1 hx3;rw [hck] at HCK;have HNX:Hid (GJ C n m7 O (k+1)=ec):=by show _=_;rw [GJ,if_pos HSO.out,hck]
   clear hck hx3;by_cases he:ec=0
   ·
    subst he;go_wp2_with (go_at_call 116;refine HCK.mono ?_;rintro e w5 ⟨rfl,hb5⟩)
    go_roundw
    case rel=>exact⟨k+1,by omega,by go_num,HNX.out,AA hbr hb5⟩
    case measure=>simp [VQ];omega
   ·
    have n0:(ec != 0)=true:=by simpa using he
    have HA2:Hid (Hv C n m7 O n7 W n6=ec):=by
     show _=_
     have h1:GJ C n m7 O n7=ec:=by rw [Jg (k:=k+1) (by rw [HNX.out];exact he) n7 (by omega),HNX.out]
     unfold Hv;rw [h1,if_neg he]
    clear he;go_wp2_with (go_at_call 116;refine HCK.mono ?_;rintro e w5 ⟨rfl,hb5⟩)
    go_ret
    exact⟨by rw [HA2.out];rfl,AA hbW hb5⟩
  ·
   obtain rfl:k=n7:=by omega
   have HA2:Hid (Hv C n m7 O k W n6=CM C n W n6):=by show _=_;unfold Hv;rw [if_pos HSO.out]
   have HWH:=Fo ac n cc C mb a6 n6 c6 W wr (hC.later hbW) (hP.later hbW) HDP.out (hW.later hbW) HOK.out;go_wp2_with (go_at_call 117;refine HWH.mono ?_;rintro e w5 ⟨rfl,hb5⟩)
   go_ret
   exact⟨by rw [HA2.out];rfl,AA hbW hb5⟩
theorem Fb{d:Td}(h:Br d=true):∀ k,k<d.n->AR d.C (d.C k).s k=false:=λk hk=>by
 obtain⟨-,-,-,-,h5,-⟩:=CF h;have:=CE h5 hk;unfold BJ at this;simp only [VO,Bool.not_eq_true'] at this
 exact this.2
def Kj(n:Nat)(T:Nat->Td)(D:St):Int×Int:=match An T D.tb n with
 | none=>(0,1)
 | some j=>((j:Int),Hv (T j).C (T j).n D.m7 D.O D.n7 D.W D.n6)
theorem Mo(a:Option Addr)(n c:Nat)(T:Nat->Td)(tb:ByteArray)(a2:Option Addr)(n2 c2:Nat)(a3:Option Addr)(n3 c3:Nat)(col:ByteArray)(a5:Option Addr)(n5 c5:Nat)(a6:Option Addr)(n6 c6:Nat)(a7:Option Addr)(n7 c7:Nat)(C:Nat->Clm)(V E W:Nat->Itm)(m7:Nat->Nat)(O:Nat->Nat->Itm)(w:ο)(hT:TL w a n T)(hS:SM w ⟨5,tb,n2,C,n3,V,col,n5,E,n6,W,n7,m7,O⟩ ⟨a2,c2,a3,c3,a5,c5,a6,c6,a7,c7⟩)(hn:n<=1048576)(hok:A2 n T=true)(hos:AK ⟨5,tb,n2,C,n3,V,col,n5,E,n6,W,n7,m7,O⟩=true) :
 VK μ 33 #[χ #[σ a n c],χ #[ι κ 5,τ tb,σ a2 n2 c2,σ a3 n3 c3,τ col,σ a5 n5 c5,σ a6 n6 c6,σ a7 n7 c7]] w λe w'=>e=ρ (θ #[ι κ (Kj n T ⟨5,tb,n2,C,n3,V,col,n5,E,n6,W,n7,m7,O⟩).1,ι κ (Kj n T ⟨5,tb,n2,C,n3,V,col,n5,E,n6,W,n7,m7,O⟩).2])/\υ w.heap.size w w':=by
 obtain⟨h7a,h7b,h7c,h7d⟩:=IS hos rfl;simp only at h7a h7b h7c h7d
 have HEX:Hid (∀ i,i<n7->AZ (O i) (m7 i)=true):=h7c;have HWH:Hid (AI W n6=true):=h7d;have HOK:Hid (A2 n T=true):=hok;clear h7c h7d hok hos;have hbU:υ w.heap.size w ((w.alloc (γ #[σ a n c] 28)).alloc (γ #[ι κ 5,τ tb,σ a2 n2 c2,σ a3 n3 c3,τ col,σ a5 n5 c5,σ a6 n6 c6,σ a7 n7 c7] 34)):=AA (AD _ _) (AD _ _);have hq0:((w.alloc (γ #[σ a n c] 28)).alloc (γ #[ι κ 5,τ tb,σ a2 n2 c2,σ a3 n3 c3,τ col,σ a5 n5 c5,σ a6 n6 c6,σ a7 n7 c7] 34)).heap[w.heap.size]?=ς (γ #[σ a n c] 28 (0,0)):=AC (η w _) (AD _ _);have hq1:((w.alloc (γ #[σ a n c] 28)).alloc (γ #[ι κ 5,τ tb,σ a2 n2 c2,σ a3 n3 c3,τ col,σ a5 n5 c5,σ a6 n6 c6,σ a7 n7 c7] 34)).heap[w.heap.size+1]?=ς (γ #[ι κ 5,τ tb,σ a2 n2 c2,σ a3 n3 c3,τ col,σ a5 n5 c5,σ a6 n6 c6,σ a7 n7 c7] 34 (0,0)):=by
  have q:=η (w.alloc (γ #[σ a n c] 28)) (γ #[ι κ 5,τ tb,σ a2 n2 c2,σ a3 n3 c3,τ col,σ a5 n5 c5,σ a6 n6 c6,σ a7 n7 c7] 34);rw [ω] at q;exact q
 obtain⟨p0,-⟩:=AG hq0;obtain⟨-,p1,-⟩:=AJ hq1;have HF:=OH a n c T tb ((w.alloc (γ #[σ a n c] 28)).alloc (γ #[ι κ 5,τ tb,σ a2 n2 c2,σ a3 n3 c3,τ col,σ a5 n5 c5,σ a6 n6 c6,σ a7 n7 c7] 34)) (hT.later hbU) hn HOK.out;rcases ht:An T tb n with _ | j
 ·
  have HA:Hid (Kj n T ⟨5,tb,n2,C,n3,V,col,n5,E,n6,W,n7,m7,O⟩=(0,1)):=by show _=_;unfold Kj;simp only;rw [ht]
  rw [ht] at HF;simp only [Option.isSome] at HF
  clear ht;go_enter Tryz.func33,Tryz.ntmps33
  go_wp2_with (go_at_call 78;refine HF.mono ?_;rintro e w1 ⟨i,rfl,-,-,hb1⟩)
  refine VE (VZ rfl _ _ _) rfl ⟨by rw [HA.out];rfl,AA hbU hb1⟩
 ·
  have hj:=(A4 ht).1;have hdj:=Fb ((Ax HOK.out).2 j hj);have hNj:=Bi ((Ax HOK.out).2 j hj);have HA:Hid (Kj n T ⟨5,tb,n2,C,n3,V,col,n5,E,n6,W,n7,m7,O⟩=((j:Int),Hv (T j).C (T j).n m7 O n7 W n6)):=by show _=_;unfold Kj;simp only;rw [ht]
  rw [ht] at HF;simp only [Option.isSome] at HF
  clear ht;obtain⟨dn,hdn⟩:∃ x,(T j).n=x:=⟨_,rfl⟩;obtain⟨dC,hdC⟩:∃ x,(T j).C=x:=⟨_,rfl⟩;rw [hdn,hdC] at HA;have hn1:=hNj.n1;have hn0:=hNj.n0;rw [hdn] at hn1 hn0 hdj;rw [hdC] at hdj;have HDJ:Hid (∀ k,k<dn->AR dC (dC k).s k=false):=hdj;have HDN:Hid ((T j).n=dn/\(T j).C=dC):=⟨hdn,hdC⟩;clear hdn hdC hdj hNj;have hjn:(j:Int)<n:=by omega
  have hj0:(0:Int)<=j:=by omega
  go_enter Tryz.func33,Tryz.ntmps33
  go_upto_region 4 with (go_at_call 78;refine HF.mono ?_;rintro e w1 ⟨i,rfl,-,hij,hb1⟩;obtain rfl:=hij j rfl)
  have hb10:=AA hbU hb1;have r0:=AC hq0 hb1;have r1:=AC hq1 hb1;obtain⟨bt,offt,ac,cc,ar,cr,rfl,-,e1,-,hC,-,-⟩:=hT.later hb10 i hj;rw [HDN.out.1] at e1 hC;rw [HDN.out.2] at hC;refine VH (S:=λx=>υ w1.heap.size w1 x) (by kernel_rfl) (CU _) (λjH=>?_);refine tk 0 jH ?_;refine tk 1 jH ?_;try simp only [zS];refine tk 2 jH ?_ (hy:=λx jS=>by obtain⟨k0,-⟩:=AG (AC r0 jS);have k1:=AB jS e1;obtain⟨j0_,j1_,j2_,j3_,j4_,j5_,j6_,j7_⟩:=AJ (AC r1 jS);go_simp<;>rfl)
  try simp only [zS]
  refine tk 3 jH ?_;try simp only [zS];refine tk 4 jH ?_;try simp only [zS];refine tk 5 jH ?_;refine tk 6 jH ?_ (hy:=λx jS=>by obtain⟨k0,-⟩:=AG (AC r0 jS);have k1:=AB jS e1;obtain⟨j0_,j1_,j2_,j3_,j4_,j5_,j6_,j7_⟩:=AJ (AC r1 jS);go_simp<;>rfl)
  try simp only [zS]
  refine tk 8 jH ?_ (hy:=λx jS=>by obtain⟨k0,-⟩:=AG (AC r0 jS);have k1:=AB jS e1;obtain⟨j0_,j1_,j2_,j3_,j4_,j5_,j6_,j7_⟩:=AJ (AC r1 jS);go_simp<;>rfl)
  try simp only [zS]
  refine rd 7 (λK hK=>?_);go_simp;refine(Ep ac dn cc dC _ (hC.later jH) hn1).mono ?_;rintro e w2 ⟨rfl,hP2,hb2⟩;have hH2:=AA jH hb2;refine hK.out _ _ (hH2) (λjH=>?_);clear hK K;try simp only [zS]
  refine rd 9 (λK hK=>?_);go_simp;refine(KD ac dn cc dC _ tb a2 n2 c2 a3 n3 c3 col a5 n5 c5 a6 n6 c6 a7 n7 c7 W m7 O _ (hC.later jH) hP2 HDJ.out (hS.ou.later (AA hb10 jH)) (hS.wh.later (AA hb10 jH)) hS.l7 HEX.out HWH.out).mono ?_;rintro e w3 ⟨rfl,hb3⟩;refine hK.out _ _ (AA jH hb3) (λjH=>?_);clear hK K;try simp only [zS]
  refine tk 10 jH ?_;try simp only [zS];refine tk 11 jH ?_
  try simp only [zS]
  refine VP (by kernel_rfl) ?_ _;go_wp2;refine VE (VZ rfl _ _ _) rfl ⟨by rw [HA.out];rfl,AA hb10 jH⟩
set_option maxHeartbeats 4000000
theorem OC(s:ByteArray)(w:ο):VK μ 152 #[τ s] w λe w'=>e=ρ (χ #[ι κ 2,ι κ 0,τ s])/\υ w.heap.size w w':=by
 go_enter Tryz.func152,Tryz.ntmps152
 go_wp2;exact VE (v:=χ #[ι κ 2,ι κ 0,τ s]) (by simp [results,Tryz.results152,go_sem]) rfl ⟨rfl,by first | exact AD _ _ | exact AA (AD _ _) (AD _ _)⟩
theorem Eo(b:Bool)(w:ο):VK μ 153 #[β b] w λe w'=>e=ρ (ι κ (Db b))/\w'=w:=by
 cases b
 ·
  go_enter Tryz.func153,Tryz.ntmps153
  go_wp2;go_ret
  exact⟨rfl,rfl⟩
 ·
  go_enter Tryz.func153,Tryz.ntmps153
  go_wp2;go_ret
  exact⟨rfl,rfl⟩
def El(o m:Int)(s:ByteArray)(m':Int)(s':ByteArray):Bool:=if o=1 then decide (m<m') else Va s.toList s'.toList
theorem Ps(o m:Int)(s:ByteArray)(o' m':Int)(s':ByteArray)(w:ο):VK μ 154 #[χ #[ι κ o,ι κ m,τ s],χ #[ι κ o',ι κ m',τ s']] w λe w'=>e=ρ (β (El o m s m' s'))/\υ w.heap.size w w':=by
 have hb0:=AA (AD w (γ #[ι κ o,ι κ m,τ s] 60)) (AD _ (γ #[ι κ o',ι κ m',τ s'] 60));by_cases h:o=1
 ·
  subst h;have HE:Hid (El 1 m s m' s'=decide (m<m')):=by show _=_;simp [El]
  go_enter Tryz.func154,Tryz.ntmps154
  go_wp2_with (go_at_call 127;refine(Hl m m' _).mono ?_;rintro e w1 ⟨rfl,rfl⟩)
  go_ret
  exact⟨by rw [HE.out];rfl,hb0⟩
 ·
  have n1:(o == 1)=false:=by simpa using h
  have HE:Hid (El o m s m' s'=Va s.toList s'.toList):=by show _=_;unfold El;rw [if_neg h]
  clear h;go_enter Tryz.func154,Tryz.ntmps154
  go_wp2_with (go_at_call 103;refine(Fw s s' _).mono ?_;rintro e w1 ⟨rfl,rfl⟩)
  go_ret
  exact⟨by rw [HE.out];rfl,hb0⟩
def Ow(o x y:Int):Int:=if o=4 then wrap64 (x+y) else if o=5 then wrap64 (x - y) else if o=6 then wrap64 (x * y) else if o=9 then Db (!decide (x=0) && !decide (y=0)) else Db (!decide (x=0) || !decide (y=0))
theorem TY(o x y:Int)(w:ο):VK μ 155 #[ι κ o,ι κ x,ι κ y] w λe w'=>e=ρ (ι κ (Ow o x y))/\w'=w:=by
 by_cases h4:o=4
 ·
  subst h4;go_enter Tryz.func155,Tryz.ntmps155
  go_wp2;go_ret
  exact⟨by simp [Ow],rfl⟩
 by_cases h5:o=5
 ·
  subst h5;go_enter Tryz.func155,Tryz.ntmps155
  go_wp2;go_ret
  exact⟨by simp [Ow],rfl⟩
 by_cases h6:o=6
 ·
  subst h6;go_enter Tryz.func155,Tryz.ntmps155
  go_wp2;go_ret
  exact⟨by simp [Ow],rfl⟩
 have n4:(o == 4)=false:=by simpa using h4
 have n5:(o == 5)=false:=by simpa using h5
 have n6:(o == 6)=false:=by simpa using h6
 have key:∀ b:Bool,b=(x != 0)->∀ c:Bool,c=(y != 0)->b=!decide (x=0)/\c=!decide (y=0):=λb hb c hc=>by
  subst hb;subst hc;constructor <;> (by_cases h:x=0 <;> by_cases h':y=0 <;> simp [h,h'])
 obtain⟨b,hb⟩:∃ b,(x != 0)=b:=⟨_,rfl⟩;obtain⟨c,hc⟩:∃ c,(y != 0)=c:=⟨_,rfl⟩;obtain⟨k1,k2⟩:=key b hb.symm c hc.symm;by_cases h9:o=9
 ·
  subst h9;have HE:Hid (Ow 9 x y=Db (b && c)):=by show _=_;unfold Ow;rw [k1,k2];simp
  clear k1 k2 key h4 h5 h6;cases b <;> cases c
  all_goals
   go_enter Tryz.func155,Tryz.ntmps155
   go_wp2_with (go_at_call 153;first | (refine(Eo true _).mono ?_;rintro e w1 ⟨rfl,rfl⟩) | (refine(Eo false _).mono ?_;rintro e w1 ⟨rfl,rfl⟩))
   go_ret
   exact⟨by rw [HE.out];rfl,rfl⟩
 ·
  have n9:(o == 9)=false:=by simpa using h9
  have HE:Hid (Ow o x y=Db (b || c)):=by show _=_;unfold Ow;rw [k1,k2,if_neg h4,if_neg h5,if_neg h6,if_neg h9]
  clear k1 k2 key h4 h5 h6 h9;cases b <;> cases c
  all_goals
   go_enter Tryz.func155,Tryz.ntmps155
   go_wp2_with (go_at_call 153;first | (refine(Eo true _).mono ?_;rintro e w1 ⟨rfl,rfl⟩) | (refine(Eo false _).mono ?_;rintro e w1 ⟨rfl,rfl⟩))
   go_ret
   exact⟨by rw [HE.out];rfl,rfl⟩
set_option maxHeartbeats 8000000
def Bu(x:Itm):Prop:=(x.o=1/\x.s=⟨#[]⟩)∨(x.o=2/\x.m=0)
theorem Ez(x:List UInt8):Va x x=false:=DQ x
theorem Fj(x y:List UInt8)(h:Va x y=false)(h2:x≠y):Va y x=true:=by
 induction x generalizing y with
 | nil=>cases y with
  | nil=>exact absurd rfl h2
  | cons b y=>simp [Va] at h
 | cons a x ih=>cases y with
  | nil=>rfl
  | cons b y=>
   simp only [Va,Bool.or_eq_false_iff,decide_eq_false_iff_not,Bool.and_eq_false_iff,beq_eq_false_iff_ne,Bool.or_eq_true,decide_eq_true_eq,VO,beq_iff_eq] at h ⊢
   by_cases e:a=b
   ·
    subst e;right
    refine⟨rfl,ih y ?_ (λh3=>h2 (by rw [h3]))⟩;rcases h.2 with h3 | h3
    · exact absurd rfl h3
    · exact h3
   ·
    left
    have h1:=h.1;rcases UInt8.lt_or_lt_of_ne e with h4 | h4
    · exact absurd h4 h1
    · exact h4
theorem Oo{x y:Itm}(hx:Bu x)(hy:Bu y)(ho:x.o=y.o):decide (BH x.m x.s y.m y.s=0)=decide (x.m=y.m/\x.s=y.s):=by
 have hl:∀ s:ByteArray,Va s.toList s.toList=false:=λs=>DQ _;rcases hx with ⟨h1,h2⟩ | ⟨h1,h2⟩ <;> rcases hy with ⟨h3,h4⟩ | ⟨h3,h4⟩
 ·
  rw [h2,h4];unfold BH DJ;rw [hl];simp only [Bool.or_false]
  by_cases e1:x.m<y.m
  ·
   have:¬x.m=y.m:=by omega
   simp [e1,this]
  ·
   by_cases e2:y.m<x.m
   ·
    have:¬x.m=y.m:=by omega
    simp [e1,e2,this]
   ·
    have:x.m=y.m:=by omega
    simp [this]
 · omega
 · omega
 ·
  rw [h2,h4];unfold BH DJ;simp only [Int.lt_irrefl,decide_false,Bool.false_or]
  rcases e1:Va x.s.toList y.s.toList
  ·
   by_cases e2:x.s=y.s
   · simp [e2]
   ·
    have:(x.s.toList == y.s.toList)=false:=by rw [Rm];simp [e2]
    simp [this,e2]
  ·
   have e2:¬x.s=y.s:=λe=>by rw [e,hl] at e1;cases e1
   simp [e2]
theorem On{x y:Itm}(hx:Bu x)(hy:Bu y)(ho:x.o=y.o):decide (BH x.m x.s y.m y.s<0)=El x.o x.m x.s y.m y.s:=by
 have hl:∀ s:ByteArray,Va s.toList s.toList=false:=λs=>DQ _;rcases hx with ⟨h1,h2⟩ | ⟨h1,h2⟩ <;> rcases hy with ⟨h3,h4⟩ | ⟨h3,h4⟩
 ·
  rw [h2,h4];unfold BH DJ El;rw [hl,if_pos h1];simp only [Bool.or_false]
  by_cases e1:x.m<y.m
  · simp [e1]
  ·
   by_cases e2:y.m<x.m
   · simp [e1,e2]
   · simp [e1,e2]
 · omega
 · omega
 ·
  rw [h2,h4,show El x.o 0 x.s 0 y.s=Va x.s.toList y.s.toList from by unfold El;rw [if_neg (by omega)]]
  unfold BH DJ;simp only [Int.lt_irrefl,decide_false,Bool.false_or]
  rcases e1:Va x.s.toList y.s.toList
  ·
   by_cases e2:(x.s.toList == y.s.toList)=true
   · simp [e2]
   · simp [e2]
  · simp
theorem S9{α:Type}(m m':Int)(s s':ByteArray)(f:Bool->α):(if m=m' then (if s.toList=s'.toList then f true else f false) else f false)=f (decide (m=m'/\s=s')):=by
 by_cases h1:m=m'
 ·
  rw [if_pos h1];by_cases h2:s.toList=s'.toList
  · rw [if_pos h2];simp [h1,BD h2]
  · have h3:¬s=s':=λe=>h2 (by rw [e]);rw [if_neg h2];simp [h3]
 · rw [if_neg h1];simp [h1]
def H9(t:Itm)(x y:Itm):Itm:=if t.o=1 then ⟨1,t.m,⟨#[]⟩⟩ else if t.o=2 then ⟨2,0,t.s⟩ else C8 t.o x y
theorem TM(o mm:Int)(s:ByteArray)(a:Option Addr)(m c:Nat)(X:Nat->Itm)(w:ο)(hX:IL w a m X)(hm:AW o<=m)(hm2:m<=1048576)(ho:1<=o/\o<=13)(ho3:¬o=3)(hgo:(o=7∨o=8)->Bu (X 0)/\Bu (X 1)/\(X 0).o=(X 1).o)(hsz:∀ i,i<m->(X i).s.size<=1000000) :
 VK μ 120 #[χ #[ι κ o,ι κ mm,τ s],σ a m c] w λe w'=>e=ρ (χ #[ι κ (H9 ⟨o,mm,s⟩ (X 0) (X 1)).o,ι κ (H9 ⟨o,mm,s⟩ (X 0) (X 1)).m,τ (H9 ⟨o,mm,s⟩ (X 0) (X 1)).s])/\υ w.heap.size w w':=by
 have HGO:Hid ((o=7∨o=8)->Bu (X 0)/\Bu (X 1)/\(X 0).o=(X 1).o):=hgo;clear hgo;by_cases e1:o=1
 ·
  subst e1;have hbU:υ w.heap.size w ((w.alloc (γ #[ι κ 1,ι κ mm,τ s] 42)).alloc (γ #[ι κ 0,ι κ 0,τ ⟨#[]⟩] 60)):=AA (AD _ _) (AD _ _);have hrr:((w.alloc (γ #[ι κ 1,ι κ mm,τ s] 42)).alloc (γ #[ι κ 0,ι κ 0,τ ⟨#[]⟩] 60)).heap[w.heap.size+1]?=ς (γ #[ι κ 0,ι κ 0,τ ⟨#[]⟩] 60 (0,0)):=by
   have q:=η (w.alloc (γ #[ι κ 1,ι κ mm,τ s] 42)) (γ #[ι κ 0,ι κ 0,τ ⟨#[]⟩] 60);rw [ω] at q;exact q
  have hri:((w.alloc (γ #[ι κ 1,ι κ mm,τ s] 42)).alloc (γ #[ι κ 0,ι κ 0,τ ⟨#[]⟩] 60)).heap[w.heap.size]?=ς (γ #[ι κ 1,ι κ mm,τ s] 42 (0,0)):=AC (η w _) (AD _ _);have HT:Hid (H9 ⟨1,mm,s⟩ (X 0) (X 1)=⟨1,mm,⟨#[]⟩⟩):=by show _=_;simp [H9]
  go_enter Tryz.func120,Tryz.ntmps120
  go_wp2_with (go_at_call 126;refine(Ca _ _).mono ?_;rintro e w2 ⟨rfl,hb2⟩;have hr2:=AC hrr hb2;have hB2:=AA hbU hb2;obtain⟨q0,q1,q2,f0,f1,f2⟩:=AL hr2)
  refine VE (v:=χ #[ι κ 1,ι κ mm,τ ⟨#[]⟩]) (VW Tryz.results120 _ _ (w.heap.size+1) 60 _ (0,0) _ rfl (DM hr2 _ _ _) Tryz.underlying60 rfl (by kernel_rfl)) rfl ⟨by rw [HT.out],BM hB2 (by omega) _ _ _⟩
 by_cases e2:o=2
 ·
  subst e2;have hbU:υ w.heap.size w ((w.alloc (γ #[ι κ 2,ι κ mm,τ s] 42)).alloc (γ #[ι κ 0,ι κ 0,τ ⟨#[]⟩] 60)):=AA (AD _ _) (AD _ _);have hrr:((w.alloc (γ #[ι κ 2,ι κ mm,τ s] 42)).alloc (γ #[ι κ 0,ι κ 0,τ ⟨#[]⟩] 60)).heap[w.heap.size+1]?=ς (γ #[ι κ 0,ι κ 0,τ ⟨#[]⟩] 60 (0,0)):=by
   have q:=η (w.alloc (γ #[ι κ 2,ι κ mm,τ s] 42)) (γ #[ι κ 0,ι κ 0,τ ⟨#[]⟩] 60);rw [ω] at q;exact q
  have hri:((w.alloc (γ #[ι κ 2,ι κ mm,τ s] 42)).alloc (γ #[ι κ 0,ι κ 0,τ ⟨#[]⟩] 60)).heap[w.heap.size]?=ς (γ #[ι κ 2,ι κ mm,τ s] 42 (0,0)):=AC (η w _) (AD _ _);have HT:Hid (H9 ⟨2,mm,s⟩ (X 0) (X 1)=⟨2,0,s⟩):=by show _=_;simp [H9]
  go_enter Tryz.func120,Tryz.ntmps120
  go_wp2_with (go_at_call 152;refine(OC _ _).mono ?_;rintro e w2 ⟨rfl,hb2⟩;have hr2:=AC hrr hb2;have hB2:=AA hbU hb2;obtain⟨q0,q1,q2,f0,f1,f2⟩:=AL hr2)
  refine VE (v:=χ #[ι κ 2,ι κ 0,τ s]) (VW Tryz.results120 _ _ (w.heap.size+1) 60 _ (0,0) _ rfl (DM hr2 _ _ _) Tryz.underlying60 rfl (by kernel_rfl)) rfl ⟨by rw [HT.out],BM hB2 (by omega) _ _ _⟩
 by_cases e11:o=11
 ·
  subst e11;have hbU:υ w.heap.size w ((w.alloc (γ #[ι κ 11,ι κ mm,τ s] 42)).alloc (γ #[ι κ 0,ι κ 0,τ ⟨#[]⟩] 60)):=AA (AD _ _) (AD _ _);have hrr:((w.alloc (γ #[ι κ 11,ι κ mm,τ s] 42)).alloc (γ #[ι κ 0,ι κ 0,τ ⟨#[]⟩] 60)).heap[w.heap.size+1]?=ς (γ #[ι κ 0,ι κ 0,τ ⟨#[]⟩] 60 (0,0)):=by
   have q:=η (w.alloc (γ #[ι κ 11,ι κ mm,τ s] 42)) (γ #[ι κ 0,ι κ 0,τ ⟨#[]⟩] 60);rw [ω] at q;exact q
  have hri:((w.alloc (γ #[ι κ 11,ι κ mm,τ s] 42)).alloc (γ #[ι κ 0,ι κ 0,τ ⟨#[]⟩] 60)).heap[w.heap.size]?=ς (γ #[ι κ 11,ι κ mm,τ s] 42 (0,0)):=AC (η w _) (AD _ _);have ha:1<=m:=by simp [AW] at hm;omega
  obtain⟨b,off,rfl,x0,x1,x2,-⟩:=hX.later hbU 0 (by omega);simp only [Nat.zero_mul,Vf] at x0 x1 x2
  have Dl:(0:Int)<m:=by omega
  have in0_:0<m:=by omega
  have hz0:=hsz 0 (by omega);obtain⟨xo,xm,xs,hx⟩:∃ xo xm xs,X 0=⟨xo,xm,xs⟩:=⟨_,_,_,rfl⟩;rw [hx] at x0 x1 x2 hz0;simp only at x0 x1 x2 hz0
  have HT:Hid (H9 ⟨11,mm,s⟩ (X 0) (X 1)=⟨1,Db (decide (xm=0)),⟨#[]⟩⟩):=by show _=_;simp [H9,C8,Kf,hx]
  clear hx;obtain⟨bb,hbb⟩:∃ bb,decide (xm=0)=bb:=⟨_,rfl⟩;have hbb2:(xm == 0)=bb:=by rw [←hbb];by_cases h:xm=0 <;> simp [h]
  rw [hbb] at HT;clear hbb;cases bb
  all_goals
   go_enter Tryz.func120,Tryz.ntmps120
   go_wp2_with (first | (go_at_call 153;first | (refine(Eo true _).mono ?_;rintro e w1 ⟨rfl,rfl⟩) | (refine(Eo false _).mono ?_;rintro e w1 ⟨rfl,rfl⟩)) | (go_at_call 126;refine(Ca _ _).mono ?_;rintro e w2 ⟨rfl,hb2⟩;have hr2:=AC hrr hb2;have hB2:=AA hbU hb2;obtain⟨q0,q1,q2,f0,f1,f2⟩:=AL hr2))
   refine VE (v:=χ #[ι κ 1,ι κ (Db _),τ ⟨#[]⟩]) (VW Tryz.results120 _ _ (w.heap.size+1) 60 _ (0,0) _ rfl (DM hr2 _ _ _) Tryz.underlying60 rfl (by kernel_rfl)) rfl ⟨by rw [HT.out],BM hB2 (by omega) _ _ _⟩
 by_cases e13:o=13
 ·
  subst e13;have hbU:υ w.heap.size w ((w.alloc (γ #[ι κ 13,ι κ mm,τ s] 42)).alloc (γ #[ι κ 0,ι κ 0,τ ⟨#[]⟩] 60)):=AA (AD _ _) (AD _ _);have hrr:((w.alloc (γ #[ι κ 13,ι κ mm,τ s] 42)).alloc (γ #[ι κ 0,ι κ 0,τ ⟨#[]⟩] 60)).heap[w.heap.size+1]?=ς (γ #[ι κ 0,ι κ 0,τ ⟨#[]⟩] 60 (0,0)):=by
   have q:=η (w.alloc (γ #[ι κ 13,ι κ mm,τ s] 42)) (γ #[ι κ 0,ι κ 0,τ ⟨#[]⟩] 60);rw [ω] at q;exact q
  have hri:((w.alloc (γ #[ι κ 13,ι κ mm,τ s] 42)).alloc (γ #[ι κ 0,ι κ 0,τ ⟨#[]⟩] 60)).heap[w.heap.size]?=ς (γ #[ι κ 13,ι κ mm,τ s] 42 (0,0)):=AC (η w _) (AD _ _);have ha:1<=m:=by simp [AW] at hm;omega
  obtain⟨b,off,rfl,x0,x1,x2,-⟩:=hX.later hbU 0 (by omega);simp only [Nat.zero_mul,Vf] at x0 x1 x2
  have Dl:(0:Int)<m:=by omega
  have in0_:0<m:=by omega
  have hz0:=hsz 0 (by omega);obtain⟨xo,xm,xs,hx⟩:∃ xo xm xs,X 0=⟨xo,xm,xs⟩:=⟨_,_,_,rfl⟩;rw [hx] at x0 x1 x2 hz0;simp only at x0 x1 x2 hz0
  have HT:Hid (H9 ⟨13,mm,s⟩ (X 0) (X 1)=⟨1,(xs.size:Int),⟨#[]⟩⟩):=by show _=_;simp [H9,C8,hx]
  clear hx;go_enter Tryz.func120,Tryz.ntmps120
  go_wp2_with (go_at_call 126;refine(Ca _ _).mono ?_;rintro e w2 ⟨rfl,hb2⟩;have hr2:=AC hrr hb2;have hB2:=AA hbU hb2;obtain⟨q0,q1,q2,f0,f1,f2⟩:=AL hr2)
  refine VE (v:=χ #[ι κ 1,ι κ (xs.size:Int),τ ⟨#[]⟩]) (VW Tryz.results120 _ _ (w.heap.size+1) 60 _ (0,0) _ rfl (DM hr2 _ _ _) Tryz.underlying60 rfl (by kernel_rfl)) rfl ⟨by rw [HT.out],BM hB2 (by omega) _ _ _⟩
 by_cases e12:o=12
 ·
  subst e12;have hbU:υ w.heap.size w ((w.alloc (γ #[ι κ 12,ι κ mm,τ s] 42)).alloc (γ #[ι κ 0,ι κ 0,τ ⟨#[]⟩] 60)):=AA (AD _ _) (AD _ _);have hrr:((w.alloc (γ #[ι κ 12,ι κ mm,τ s] 42)).alloc (γ #[ι κ 0,ι κ 0,τ ⟨#[]⟩] 60)).heap[w.heap.size+1]?=ς (γ #[ι κ 0,ι κ 0,τ ⟨#[]⟩] 60 (0,0)):=by
   have q:=η (w.alloc (γ #[ι κ 12,ι κ mm,τ s] 42)) (γ #[ι κ 0,ι κ 0,τ ⟨#[]⟩] 60);rw [ω] at q;exact q
  have hri:((w.alloc (γ #[ι κ 12,ι κ mm,τ s] 42)).alloc (γ #[ι κ 0,ι κ 0,τ ⟨#[]⟩] 60)).heap[w.heap.size]?=ς (γ #[ι κ 12,ι κ mm,τ s] 42 (0,0)):=AC (η w _) (AD _ _);have ha:2<=m:=by simp [AW] at hm;omega
  obtain⟨b,off,rfl,x0,x1,x2,-⟩:=hX.later hbU 0 (by omega);simp only [Nat.zero_mul,Vf] at x0 x1 x2
  have Dl:(0:Int)<m:=by omega
  have in0_:0<m:=by omega
  have hz0:=hsz 0 (by omega);obtain⟨b9,off9,e9,y0,y1,y2,-⟩:=hX.later hbU 1 (by omega);obtain⟨rfl,rfl⟩:b=b9/\off=off9:=by simpa using e9
  clear e9;simp only [Nat.one_mul] at y0 y1 y2
  have i1_:(1:Int)<m:=by omega
  have in1_:1<m:=by omega
  have hz1:=hsz 1 (by omega);obtain⟨xo,xm,xs,hx⟩:∃ xo xm xs,X 0=⟨xo,xm,xs⟩:=⟨_,_,_,rfl⟩;rw [hx] at x0 x1 x2 hz0;simp only at x0 x1 x2 hz0
  obtain⟨yo,ym,ys,hy⟩:∃ yo ym ys,X 1=⟨yo,ym,ys⟩:=⟨_,_,_,rfl⟩;rw [hy] at y0 y1 y2 hz1;simp only at y0 y1 y2 hz1
  have hcat:¬9223372036854775807<xs.size+ys.size:=by omega
  have HXY:Hid (X 0=⟨xo,xm,xs⟩/\X 1=⟨yo,ym,ys⟩):=⟨hx,hy⟩;have HT:Hid (H9 ⟨12,mm,s⟩ (X 0) (X 1)=⟨2,0,xs ++ ys⟩):=by show _=_;simp [H9,C8,hx,hy]
  clear hx hy;go_enter Tryz.func120,Tryz.ntmps120
  go_upto_region 13 with (fail)
  replace hrr:((w.alloc (γ #[ι κ 12,ι κ mm,τ s] 42)).alloc (γ #[ι κ 0,ι κ 0,τ ⟨#[]⟩] 60)).drew.heap[w.heap.size+1]?=ς (γ #[ι κ 0,ι κ 0,τ ⟨#[]⟩] 60 (0,0)):=hrr;refine VH (S:=λx=>υ w.heap.size w x/\x.heap[w.heap.size]?=ς (γ #[ι κ 12,ι κ mm,τ s] 42 (0,0))) (by kernel_rfl) (⟨AA hbU (CU _),hri⟩) (λjH=>?_);refine tk 0 jH ?_;refine tk 1 jH ?_;try simp only [zS];refine tk 2 jH ?_;try simp only [zS];refine tk 3 jH ?_ (hy:=λx jS=>by obtain⟨hs1,hs2⟩:=jS;obtain⟨k0,k1,k2,-⟩:=AL hs2;obtain⟨_,_,ea,l0,l1,l2,-⟩:=hX.later hs1 0 (by omega);obtain⟨_,_,eb,m0,m1,m2,-⟩:=hX.later hs1 1 (by omega);obtain⟨rfl,rfl⟩:=(by simpa using ea);obtain⟨rfl,rfl⟩:=(by simpa using eb);simp only [Nat.zero_mul,Nat.one_mul,Vf] at l0 l1 l2 m0 m1 m2;rw [HXY.out.1] at l0 l1 l2;rw [HXY.out.2] at m0 m1 m2;simp only at l0 l1 l2 m0 m1 m2;go_simp<;>rfl)
  try simp only [zS]
  refine tk 4 jH ?_;try simp only [zS];refine tk 5 jH ?_;refine tk 6 jH ?_;try simp only [zS];refine tk 7 jH ?_ (hy:=λx jS=>by obtain⟨hs1,hs2⟩:=jS;obtain⟨k0,k1,k2,-⟩:=AL hs2;obtain⟨_,_,ea,l0,l1,l2,-⟩:=hX.later hs1 0 (by omega);obtain⟨_,_,eb,m0,m1,m2,-⟩:=hX.later hs1 1 (by omega);obtain⟨rfl,rfl⟩:=(by simpa using ea);obtain⟨rfl,rfl⟩:=(by simpa using eb);simp only [Nat.zero_mul,Nat.one_mul,Vf] at l0 l1 l2 m0 m1 m2;rw [HXY.out.1] at l0 l1 l2;rw [HXY.out.2] at m0 m1 m2;simp only at l0 l1 l2 m0 m1 m2;go_simp<;>rfl)
  try simp only [zS]
  refine tk 8 jH ?_
  try simp only [zS]
  refine rd 9 (λK hK=>?_);go_simp;refine(OC _ _).mono ?_;rintro e w5 ⟨rfl,hb5⟩;replace hrr:=AC hrr hb5;refine hK.out _ _ (⟨AA jH.1 hb5,AC jH.2 hb5⟩) (λjH=>?_);clear hK K;try simp only [zS]
  refine rd 10 (λK hK=>?_);obtain⟨g0_,g1_,g2_,gf0,gf1,gf2⟩:=AL hrr;go_simp;refine hK.out _ _ (⟨BM jH.1 (by omega) _ _ _,Af (Af (Af jH.2 (by omega)) (by omega)) (by omega)⟩) (λjH=>?_);clear hK K;try simp only [zS]
  refine VP (by kernel_rfl) ?_ _;go_wp2;refine VE (v:=χ #[ι κ 2,ι κ 0,τ (xs ++ ys)]) (VW Tryz.results120 _ _ (w.heap.size+1) 60 _ (0,0) _ rfl (DM hrr _ _ _) Tryz.underlying60 rfl (by kernel_rfl)) rfl ⟨by rw [HT.out],jH.1⟩
 by_cases e8:o=8
 ·
  subst e8;have hbU:υ w.heap.size w ((w.alloc (γ #[ι κ 8,ι κ mm,τ s] 42)).alloc (γ #[ι κ 0,ι κ 0,τ ⟨#[]⟩] 60)):=AA (AD _ _) (AD _ _);have hrr:((w.alloc (γ #[ι κ 8,ι κ mm,τ s] 42)).alloc (γ #[ι κ 0,ι κ 0,τ ⟨#[]⟩] 60)).heap[w.heap.size+1]?=ς (γ #[ι κ 0,ι κ 0,τ ⟨#[]⟩] 60 (0,0)):=by
   have q:=η (w.alloc (γ #[ι κ 8,ι κ mm,τ s] 42)) (γ #[ι κ 0,ι κ 0,τ ⟨#[]⟩] 60);rw [ω] at q;exact q
  have hri:((w.alloc (γ #[ι κ 8,ι κ mm,τ s] 42)).alloc (γ #[ι κ 0,ι κ 0,τ ⟨#[]⟩] 60)).heap[w.heap.size]?=ς (γ #[ι κ 8,ι κ mm,τ s] 42 (0,0)):=AC (η w _) (AD _ _);have ha:2<=m:=by simp [AW] at hm;omega
  obtain⟨b,off,rfl,x0,x1,x2,-⟩:=hX.later hbU 0 (by omega);simp only [Nat.zero_mul,Vf] at x0 x1 x2
  have Dl:(0:Int)<m:=by omega
  have in0_:0<m:=by omega
  have hz0:=hsz 0 (by omega);obtain⟨b9,off9,e9,y0,y1,y2,-⟩:=hX.later hbU 1 (by omega);obtain⟨rfl,rfl⟩:b=b9/\off=off9:=by simpa using e9
  clear e9;simp only [Nat.one_mul] at y0 y1 y2
  have i1_:(1:Int)<m:=by omega
  have in1_:1<m:=by omega
  have hz1:=hsz 1 (by omega);obtain⟨xo,xm,xs,hx⟩:∃ xo xm xs,X 0=⟨xo,xm,xs⟩:=⟨_,_,_,rfl⟩;rw [hx] at x0 x1 x2 hz0;simp only at x0 x1 x2 hz0
  obtain⟨yo,ym,ys,hy⟩:∃ yo ym ys,X 1=⟨yo,ym,ys⟩:=⟨_,_,_,rfl⟩;rw [hy] at y0 y1 y2 hz1;simp only at y0 y1 y2 hz1
  have hcl:=On (HGO.out (by simp)).1 (HGO.out (by simp)).2.1 (HGO.out (by simp)).2.2;rw [hx,hy] at hcl;simp only at hcl
  have HXY:Hid (X 0=⟨xo,xm,xs⟩/\X 1=⟨yo,ym,ys⟩):=⟨hx,hy⟩;have HT:Hid (H9 ⟨8,mm,s⟩ (X 0) (X 1)=⟨1,Db (El xo xm xs ym ys),⟨#[]⟩⟩):=by show _=_;simp [H9,C8,Kf,hx,hy];rw [←hcl]
  clear hx hy;go_enter Tryz.func120,Tryz.ntmps120
  go_upto_region 9 with (fail)
  replace hrr:((w.alloc (γ #[ι κ 8,ι κ mm,τ s] 42)).alloc (γ #[ι κ 0,ι κ 0,τ ⟨#[]⟩] 60)).drew.heap[w.heap.size+1]?=ς (γ #[ι κ 0,ι κ 0,τ ⟨#[]⟩] 60 (0,0)):=hrr;refine VH (S:=λx=>υ w.heap.size w x/\x.heap[w.heap.size]?=ς (γ #[ι κ 8,ι κ mm,τ s] 42 (0,0))) (by kernel_rfl) (⟨AA hbU (CU _),hri⟩) (λjH=>?_);refine tk 0 jH ?_;try simp only [zS];refine tk 1 jH ?_;try simp only [zS];refine tk 2 jH ?_ (hy:=λx jS=>by obtain⟨hs1,hs2⟩:=jS;obtain⟨k0,k1,k2,-⟩:=AL hs2;obtain⟨_,_,ea,l0,l1,l2,-⟩:=hX.later hs1 0 (by omega);obtain⟨_,_,eb,m0,m1,m2,-⟩:=hX.later hs1 1 (by omega);obtain⟨rfl,rfl⟩:=(by simpa using ea);obtain⟨rfl,rfl⟩:=(by simpa using eb);simp only [Nat.zero_mul,Nat.one_mul,Vf] at l0 l1 l2 m0 m1 m2;rw [HXY.out.1] at l0 l1 l2;rw [HXY.out.2] at m0 m1 m2;simp only at l0 l1 l2 m0 m1 m2;go_simp<;>rfl)
  try simp only [zS]
  refine tk 3 jH ?_;refine tk 4 jH ?_;try simp only [zS];refine tk 5 jH ?_ (hy:=λx jS=>by obtain⟨hs1,hs2⟩:=jS;obtain⟨k0,k1,k2,-⟩:=AL hs2;obtain⟨_,_,ea,l0,l1,l2,-⟩:=hX.later hs1 0 (by omega);obtain⟨_,_,eb,m0,m1,m2,-⟩:=hX.later hs1 1 (by omega);obtain⟨rfl,rfl⟩:=(by simpa using ea);obtain⟨rfl,rfl⟩:=(by simpa using eb);simp only [Nat.zero_mul,Nat.one_mul,Vf] at l0 l1 l2 m0 m1 m2;rw [HXY.out.1] at l0 l1 l2;rw [HXY.out.2] at m0 m1 m2;simp only at l0 l1 l2 m0 m1 m2;go_simp<;>rfl)
  try simp only [zS]
  refine rd 6 (λK hK=>?_);go_simp;refine(Ps xo xm xs yo ym ys _).mono ?_;rintro e w4 ⟨rfl,hb4⟩;replace hrr:=AC hrr hb4;refine hK.out _ _ (⟨AA jH.1 hb4,AC jH.2 hb4⟩) (λjH=>?_);clear hK K;try simp only [zS]
  refine rd 7 (λK hK=>?_);go_simp;refine(Eo _ _).mono ?_;rintro e w1 ⟨rfl,rfl⟩;refine hK.out _ _ (jH) (λjH=>?_);clear hK K;try simp only [zS]
  refine rd 8 (λK hK=>?_);go_simp;refine(Ca _ _).mono ?_;rintro e w6 ⟨rfl,hb6⟩;replace hrr:=AC hrr hb6;refine hK.out _ _ (⟨AA jH.1 hb6,AC jH.2 hb6⟩) (λjH=>?_);clear hK K;try simp only [zS]
  refine rd 9 (λK hK=>?_);obtain⟨g0_,g1_,g2_,gf0,gf1,gf2⟩:=AL hrr;go_simp;refine hK.out _ _ (⟨BM jH.1 (by omega) _ _ _,Af (Af (Af jH.2 (by omega)) (by omega)) (by omega)⟩) (λjH=>?_);clear hK K;try simp only [zS]
  refine VP (by kernel_rfl) ?_ _;go_wp2;refine VE (v:=χ #[ι κ 1,ι κ (Db (El xo xm xs ym ys)),τ ⟨#[]⟩]) (VW Tryz.results120 _ _ (w.heap.size+1) 60 _ (0,0) _ rfl (DM hrr _ _ _) Tryz.underlying60 rfl (by kernel_rfl)) rfl ⟨by rw [HT.out],jH.1⟩
 by_cases e7:o=7
 ·
  subst e7;have hbU:υ w.heap.size w ((w.alloc (γ #[ι κ 7,ι κ mm,τ s] 42)).alloc (γ #[ι κ 0,ι κ 0,τ ⟨#[]⟩] 60)):=AA (AD _ _) (AD _ _);have hrr:((w.alloc (γ #[ι κ 7,ι κ mm,τ s] 42)).alloc (γ #[ι κ 0,ι κ 0,τ ⟨#[]⟩] 60)).heap[w.heap.size+1]?=ς (γ #[ι κ 0,ι κ 0,τ ⟨#[]⟩] 60 (0,0)):=by
   have q:=η (w.alloc (γ #[ι κ 7,ι κ mm,τ s] 42)) (γ #[ι κ 0,ι κ 0,τ ⟨#[]⟩] 60);rw [ω] at q;exact q
  have hri:((w.alloc (γ #[ι κ 7,ι κ mm,τ s] 42)).alloc (γ #[ι κ 0,ι κ 0,τ ⟨#[]⟩] 60)).heap[w.heap.size]?=ς (γ #[ι κ 7,ι κ mm,τ s] 42 (0,0)):=AC (η w _) (AD _ _);have ha:2<=m:=by simp [AW] at hm;omega
  obtain⟨b,off,rfl,x0,x1,x2,-⟩:=hX.later hbU 0 (by omega);simp only [Nat.zero_mul,Vf] at x0 x1 x2
  have Dl:(0:Int)<m:=by omega
  have in0_:0<m:=by omega
  have hz0:=hsz 0 (by omega);obtain⟨b9,off9,e9,y0,y1,y2,-⟩:=hX.later hbU 1 (by omega);obtain⟨rfl,rfl⟩:b=b9/\off=off9:=by simpa using e9
  clear e9;simp only [Nat.one_mul] at y0 y1 y2
  have i1_:(1:Int)<m:=by omega
  have in1_:1<m:=by omega
  have hz1:=hsz 1 (by omega);obtain⟨xo,xm,xs,hx⟩:∃ xo xm xs,X 0=⟨xo,xm,xs⟩:=⟨_,_,_,rfl⟩;rw [hx] at x0 x1 x2 hz0;simp only at x0 x1 x2 hz0
  obtain⟨yo,ym,ys,hy⟩:∃ yo ym ys,X 1=⟨yo,ym,ys⟩:=⟨_,_,_,rfl⟩;rw [hy] at y0 y1 y2 hz1;simp only at y0 y1 y2 hz1
  have hcl:=Oo (HGO.out (by simp)).1 (HGO.out (by simp)).2.1 (HGO.out (by simp)).2.2;have hoo:=(HGO.out (by simp)).2.2;rw [hx,hy] at hcl hoo;simp only at hcl hoo
  subst hoo;obtain⟨be,hbe⟩:∃ be,decide (xm=ym/\xs=ys)=be:=⟨_,rfl⟩;rw [hbe] at hcl;have HBE:Hid (decide (xm=ym/\xs=ys)=be):=hbe;clear hbe;have HXY:Hid (X 0=⟨xo,xm,xs⟩/\X 1=⟨xo,ym,ys⟩):=⟨hx,hy⟩;have HT:Hid (H9 ⟨7,mm,s⟩ (X 0) (X 1)=⟨1,Db be,⟨#[]⟩⟩):=by show _=_;simp [H9,C8,Kf,hx,hy];rw [hcl]
  clear hx hy;go_enter Tryz.func120,Tryz.ntmps120
  go_upto_region 7 with (fail)
  replace hrr:((w.alloc (γ #[ι κ 7,ι κ mm,τ s] 42)).alloc (γ #[ι κ 0,ι κ 0,τ ⟨#[]⟩] 60)).drew.heap[w.heap.size+1]?=ς (γ #[ι κ 0,ι κ 0,τ ⟨#[]⟩] 60 (0,0)):=hrr;refine VH (S:=λx=>υ w.heap.size w x/\x.heap[w.heap.size]?=ς (γ #[ι κ 7,ι κ mm,τ s] 42 (0,0))) (by kernel_rfl) (⟨AA hbU (CU _),hri⟩) (λjH=>?_);refine tk 0 jH ?_;try simp only [zS];refine tk 1 jH ?_;try simp only [zS];refine tk 2 jH ?_ (hy:=λx jS=>by obtain⟨hs1,hs2⟩:=jS;obtain⟨k0,k1,k2,-⟩:=AL hs2;obtain⟨_,_,ea,l0,l1,l2,-⟩:=hX.later hs1 0 (by omega);obtain⟨_,_,eb,m0,m1,m2,-⟩:=hX.later hs1 1 (by omega);obtain⟨rfl,rfl⟩:=(by simpa using ea);obtain⟨rfl,rfl⟩:=(by simpa using eb);simp only [Nat.zero_mul,Nat.one_mul,Vf] at l0 l1 l2 m0 m1 m2;rw [HXY.out.1] at l0 l1 l2;rw [HXY.out.2] at m0 m1 m2;simp only at l0 l1 l2 m0 m1 m2;go_simp<;>rfl)
  try simp only [zS]
  refine tk 3 jH ?_;refine tk 4 jH ?_;try simp only [zS];refine tk 5 jH ?_ (hy:=λx jS=>by obtain⟨hs1,hs2⟩:=jS;obtain⟨k0,k1,k2,-⟩:=AL hs2;obtain⟨_,_,ea,l0,l1,l2,-⟩:=hX.later hs1 0 (by omega);obtain⟨_,_,eb,m0,m1,m2,-⟩:=hX.later hs1 1 (by omega);obtain⟨rfl,rfl⟩:=(by simpa using ea);obtain⟨rfl,rfl⟩:=(by simpa using eb);simp only [Nat.zero_mul,Nat.one_mul,Vf] at l0 l1 l2 m0 m1 m2;rw [HXY.out.1] at l0 l1 l2;rw [HXY.out.2] at m0 m1 m2;simp only at l0 l1 l2 m0 m1 m2;go_simp<;>rfl)
  try simp only [zS]
  refine wpAnyH_take (i:=6) (oi:=(⟨ς 25,.binOp .eql 60 (δ 21) (δ 24) 60,4,"l5_replay.go:304",#[⟨2,φ⟩,⟨5,φ⟩],ν⟩:Oper)) (v:=β be) rfl (by kernel_rfl) (by kernel_rfl) (by kernel_rfl) (λ_ _ _ h=>h) (VV ⟨by rfl,λx jS=>(by obtain⟨hs1,hs2⟩:=jS;obtain⟨k0,k1,k2,-⟩:=AL hs2;obtain⟨_,_,ea,l0,l1,l2,-⟩:=hX.later hs1 0 (by omega);obtain⟨_,_,eb,m0,m1,m2,-⟩:=hX.later hs1 1 (by omega);obtain⟨rfl,rfl⟩:=(by simpa using ea);obtain⟨rfl,rfl⟩:=(by simpa using eb);simp only [Nat.zero_mul,Nat.one_mul,Vf] at l0 l1 l2 m0 m1 m2;rw [HXY.out.1] at l0 l1 l2;rw [HXY.out.2] at m0 m1 m2;simp only at l0 l1 l2 m0 m1 m2;go_simp;rw [←HBE.out];exact S9 xm ym xs ys (λb=>Result.ok (Next.value (Value.bool b)) x))⟩) jH ?_;try simp only [zS]
  refine rd 7 (λK hK=>?_);go_simp;refine(Eo _ _).mono ?_;rintro e w1 ⟨rfl,rfl⟩;refine hK.out _ _ (jH) (λjH=>?_);clear hK K;try simp only [zS]
  refine rd 8 (λK hK=>?_);go_simp;refine(Ca _ _).mono ?_;rintro e w6 ⟨rfl,hb6⟩;replace hrr:=AC hrr hb6;refine hK.out _ _ (⟨AA jH.1 hb6,AC jH.2 hb6⟩) (λjH=>?_);clear hK K;try simp only [zS]
  refine rd 9 (λK hK=>?_);obtain⟨g0_,g1_,g2_,gf0,gf1,gf2⟩:=AL hrr;go_simp;refine hK.out _ _ (⟨BM jH.1 (by omega) _ _ _,Af (Af (Af jH.2 (by omega)) (by omega)) (by omega)⟩) (λjH=>?_);clear hK K;try simp only [zS]
  refine VP (by kernel_rfl) ?_ _;go_wp2;refine VE (v:=χ #[ι κ 1,ι κ (Db be),τ ⟨#[]⟩]) (VW Tryz.results120 _ _ (w.heap.size+1) 60 _ (0,0) _ rfl (DM hrr _ _ _) Tryz.underlying60 rfl (by kernel_rfl)) rfl ⟨by rw [HT.out],jH.1⟩
 have ha2:AW o=2:=by unfold AW;rw [if_neg (by omega),if_neg (by omega)]
 have ha:2<=m:=by omega
 have n1:(o == 1)=false:=by simpa using e1
 have n2:(o == 2)=false:=by simpa using e2
 have n7:(o == 7)=false:=by simpa using e7
 have n8:(o == 8)=false:=by simpa using e8
 have n11:(o == 11)=false:=by simpa using e11
 have n12:(o == 12)=false:=by simpa using e12
 have n13:(o == 13)=false:=by simpa using e13
 have hbU:υ w.heap.size w ((w.alloc (γ #[ι κ o,ι κ mm,τ s] 42)).alloc (γ #[ι κ 0,ι κ 0,τ ⟨#[]⟩] 60)):=AA (AD _ _) (AD _ _);have hrr:((w.alloc (γ #[ι κ o,ι κ mm,τ s] 42)).alloc (γ #[ι κ 0,ι κ 0,τ ⟨#[]⟩] 60)).heap[w.heap.size+1]?=ς (γ #[ι κ 0,ι κ 0,τ ⟨#[]⟩] 60 (0,0)):=by
  have q:=η (w.alloc (γ #[ι κ o,ι κ mm,τ s] 42)) (γ #[ι κ 0,ι κ 0,τ ⟨#[]⟩] 60);rw [ω] at q;exact q
 have hri:((w.alloc (γ #[ι κ o,ι κ mm,τ s] 42)).alloc (γ #[ι κ 0,ι κ 0,τ ⟨#[]⟩] 60)).heap[w.heap.size]?=ς (γ #[ι κ o,ι κ mm,τ s] 42 (0,0)):=AC (η w _) (AD _ _);obtain⟨b,off,rfl,x0,x1,x2,-⟩:=hX.later hbU 0 (by omega);simp only [Nat.zero_mul,Vf] at x0 x1 x2
 have Dl:(0:Int)<m:=by omega
 have in0_:0<m:=by omega
 have hz0:=hsz 0 (by omega);obtain⟨b9,off9,e9,y0,y1,y2,-⟩:=hX.later hbU 1 (by omega);obtain⟨rfl,rfl⟩:b=b9/\off=off9:=by simpa using e9
 clear e9;simp only [Nat.one_mul] at y0 y1 y2
 have i1_:(1:Int)<m:=by omega
 have in1_:1<m:=by omega
 have hz1:=hsz 1 (by omega);obtain⟨xo,xm,xs,hx⟩:∃ xo xm xs,X 0=⟨xo,xm,xs⟩:=⟨_,_,_,rfl⟩;rw [hx] at x0 x1 x2 hz0;simp only at x0 x1 x2 hz0
 obtain⟨yo,ym,ys,hy⟩:∃ yo ym ys,X 1=⟨yo,ym,ys⟩:=⟨_,_,_,rfl⟩;rw [hy] at y0 y1 y2 hz1;simp only at y0 y1 y2 hz1
 have HXY:Hid (X 0=⟨xo,xm,xs⟩/\X 1=⟨yo,ym,ys⟩):=⟨hx,hy⟩;have HT:Hid (H9 ⟨o,mm,s⟩ (X 0) (X 1)=⟨1,Ow o xm ym,⟨#[]⟩⟩):=by
  show _=_
  have h5:o=4∨o=5∨o=6∨o=9∨o=10:=by omega
  rw [hx,hy];rcases h5 with rfl | rfl | rfl | rfl | rfl <;> simp [H9,C8,Ow,Kf]
 clear hx hy e1 e2 e7 e8 e11 e12 e13 ha2;go_enter Tryz.func120,Tryz.ntmps120
 go_upto_region 16 with (fail)
 replace hrr:((w.alloc (γ #[ι κ o,ι κ mm,τ s] 42)).alloc (γ #[ι κ 0,ι κ 0,τ ⟨#[]⟩] 60)).drew.heap[w.heap.size+1]?=ς (γ #[ι κ 0,ι κ 0,τ ⟨#[]⟩] 60 (0,0)):=hrr;refine VH (S:=λx=>υ w.heap.size w x/\x.heap[w.heap.size]?=ς (γ #[ι κ o,ι κ mm,τ s] 42 (0,0))) (by kernel_rfl) (⟨AA hbU (CU _),hri⟩) (λjH=>?_);refine tk 0 jH ?_;try simp only [zS];refine tk 1 jH ?_ (hy:=λx jS=>by obtain⟨hs1,hs2⟩:=jS;obtain⟨k0,k1,k2,-⟩:=AL hs2;obtain⟨_,_,ea,l0,l1,l2,-⟩:=hX.later hs1 0 (by omega);obtain⟨_,_,eb,m0,m1,m2,-⟩:=hX.later hs1 1 (by omega);obtain⟨rfl,rfl⟩:=(by simpa using ea);obtain⟨rfl,rfl⟩:=(by simpa using eb);simp only [Nat.zero_mul,Nat.one_mul,Vf] at l0 l1 l2 m0 m1 m2;rw [HXY.out.1] at l0 l1 l2;rw [HXY.out.2] at m0 m1 m2;simp only at l0 l1 l2 m0 m1 m2;go_simp<;>rfl)
 try simp only [zS]
 refine tk 2 jH ?_;try simp only [zS];refine tk 3 jH ?_;refine tk 4 jH ?_;try simp only [zS];refine tk 5 jH ?_ (hy:=λx jS=>by obtain⟨hs1,hs2⟩:=jS;obtain⟨k0,k1,k2,-⟩:=AL hs2;obtain⟨_,_,ea,l0,l1,l2,-⟩:=hX.later hs1 0 (by omega);obtain⟨_,_,eb,m0,m1,m2,-⟩:=hX.later hs1 1 (by omega);obtain⟨rfl,rfl⟩:=(by simpa using ea);obtain⟨rfl,rfl⟩:=(by simpa using eb);simp only [Nat.zero_mul,Nat.one_mul,Vf] at l0 l1 l2 m0 m1 m2;rw [HXY.out.1] at l0 l1 l2;rw [HXY.out.2] at m0 m1 m2;simp only at l0 l1 l2 m0 m1 m2;go_simp<;>rfl)
 try simp only [zS]
 refine tk 6 jH ?_;try simp only [zS];refine tk 7 jH ?_;try simp only [zS];refine tk 8 jH ?_;refine tk 9 jH ?_ (hy:=λx jS=>by obtain⟨hs1,hs2⟩:=jS;obtain⟨k0,k1,k2,-⟩:=AL hs2;obtain⟨_,_,ea,l0,l1,l2,-⟩:=hX.later hs1 0 (by omega);obtain⟨_,_,eb,m0,m1,m2,-⟩:=hX.later hs1 1 (by omega);obtain⟨rfl,rfl⟩:=(by simpa using ea);obtain⟨rfl,rfl⟩:=(by simpa using eb);simp only [Nat.zero_mul,Nat.one_mul,Vf] at l0 l1 l2 m0 m1 m2;rw [HXY.out.1] at l0 l1 l2;rw [HXY.out.2] at m0 m1 m2;simp only at l0 l1 l2 m0 m1 m2;go_simp<;>rfl)
 try simp only [zS]
 refine rd 10 (λK hK=>?_);go_simp;refine(TY o xm ym _).mono ?_;rintro e w1 ⟨rfl,rfl⟩;refine hK.out _ _ (jH) (λjH=>?_);clear hK K;try simp only [zS]
 refine rd 11 (λK hK=>?_);go_simp;refine(Ca _ _).mono ?_;rintro e w6 ⟨rfl,hb6⟩;replace hrr:=AC hrr hb6;refine hK.out _ _ (⟨AA jH.1 hb6,AC jH.2 hb6⟩) (λjH=>?_);clear hK K;try simp only [zS]
 refine rd 12 (λK hK=>?_);obtain⟨g0_,g1_,g2_,gf0,gf1,gf2⟩:=AL hrr;go_simp;refine hK.out _ _ (⟨BM jH.1 (by omega) _ _ _,Af (Af (Af jH.2 (by omega)) (by omega)) (by omega)⟩) (λjH=>?_);clear hK K;try simp only [zS]
 refine VP (by kernel_rfl) ?_ _;go_wp2;refine VE (v:=χ #[ι κ 1,ι κ (Ow o xm ym),τ ⟨#[]⟩]) (VW Tryz.results120 _ _ (w.heap.size+1) 60 _ (0,0) _ rfl (DM hrr _ _ _) Tryz.underlying60 rfl (by kernel_rfl)) rfl ⟨by rw [HT.out],jH.1⟩
theorem RZ{C:Nat->Clm}{n:Nat}{R:Nat->Itm}{t:Itm}{a:List Itm}{tl:List Int}(hR:∀ j,j<n->Bu (R j)/\(R j).o=(C j).t)(ho:1<=t.o/\t.o<=13)(h:(B7 C n t tl).2=0):(FC C n R t a).o=(B7 C n t tl).1/\Bu (FC C n R t a):=by
 by_cases h1:t.o=1
 ·
  have e1:FC C n R t a=⟨1,t.m,⟨#[]⟩⟩:=by unfold FC;rw [if_pos h1]
  unfold B7 at h ⊢;rw [if_neg (by omega),if_neg (by omega),if_neg (by omega),if_neg (by omega),if_neg (by omega)] at h ⊢;rw [e1];split at h
  ·
   rename_i hh
   rw [if_pos hh];exact⟨rfl,VV ⟨rfl,rfl⟩⟩
  · exact absurd h (by simp)
 by_cases h2:t.o=2
 ·
  have e1:FC C n R t a=⟨2,0,t.s⟩:=by unfold FC;rw [if_neg h1,if_pos h2]
  rw [e1];unfold B7;rw [if_pos h2];exact⟨rfl,Vb ⟨rfl,rfl⟩⟩
 by_cases h3:t.o=3
 ·
  unfold B7 at h ⊢;unfold FC;rw [if_neg h2,if_pos h3] at h ⊢;rw [if_neg h1,if_neg h2,if_pos h3];rcases hc:BF C t.s n with _ | j
  · rw [hc] at h;simp at h
  · exact⟨(hR j (Bz hc).1).2,(hR j (Bz hc).1).1⟩
 have e1:FC C n R t a=C8 t.o (a.getD 0 d0) (a.getD 1 d0):=by unfold FC;rw [if_neg h1,if_neg h2,if_neg h3]
 rw [e1];unfold B7 at h ⊢;rw [if_neg h2,if_neg h3] at h ⊢;by_cases h12:t.o=12
 ·
  rw [if_neg (by omega),if_pos h12] at h ⊢;have e2:C8 t.o (a.getD 0 d0) (a.getD 1 d0)=⟨2,0,(a.getD 0 d0).s ++ (a.getD 1 d0).s⟩:=by rw [h12];simp [C8]
  rw [e2];split at h
  · rename_i hh;rw [if_pos hh];exact⟨rfl,Vb ⟨rfl,rfl⟩⟩
  · exact absurd h (by simp)
 have e2:(C8 t.o (a.getD 0 d0) (a.getD 1 d0)).o=1/\(C8 t.o (a.getD 0 d0) (a.getD 1 d0)).s=⟨#[]⟩:=by
  have:t.o=4∨t.o=5∨t.o=6∨t.o=7∨t.o=8∨t.o=9∨t.o=10∨t.o=11∨t.o=13:=by omega
  rcases this with e | e | e | e | e | e | e | e | e <;> rw [e] <;> exact⟨rfl,rfl⟩
 refine⟨?_,VV e2⟩;rw [e2.1];by_cases h7:t.o=7∨t.o=8
 ·
  rw [if_pos h7] at h ⊢;split at h
  · rename_i hh;rw [if_pos hh]
  · exact absurd h (by simp)
 rw [if_neg h7,if_neg h12] at h ⊢;by_cases h13:t.o=13
 ·
  rw [if_pos h13] at h ⊢;split at h
  · rename_i hh;rw [if_pos hh]
  · exact absurd h (by simp)
 rw [if_neg h13] at h ⊢;split at h
 · rename_i hh;rw [if_pos hh]
 · exact absurd h (by simp)
def QI(L:List Itm)(tl:List Int):Prop:=L.length=tl.length/\∀ i,i<L.length->(L.getD i d0).o=tl.getD i 0/\Bu (L.getD i d0)
theorem MD{C:Nat->Clm}{n:Nat}{I:Nat->Itm}{m k:Nat}(h:(ck C n I m).2=0)(hk:k<=m):(ck C n I k).2=0:=by
 rcases Classical.em ((ck C n I k).2=0) with e | e
 · exact e
 · have:=E6 (C:=C) (n:=n) (I:=I) e m hk;rw [this] at h;exact h
theorem MC{C:Nat->Clm}{n:Nat}{I:Nat->Itm}{k:Nat}(h:(ck C n I (k+1)).2=0)(h0:(ck C n I k).2=0):(MS C n (I k) (ck C n I k).1).2=0/\(ck C n I (k+1)).1=(ck C n I k).1.take ((ck C n I k).1.length - DZ (I k).o) ++ [(MS C n (I k) (ck C n I k).1).1]:=by
 rw [ck,if_neg (by simp [h0])] at h ⊢;by_cases e:(MS C n (I k) (ck C n I k).1).2=0
 · rw [if_neg (by simp [e])];exact⟨e,rfl⟩
 · rw [if_pos e] at h;exact absurd h e
theorem IM{α:Type}(L:List α)(j i:Nat)(y:α)(h:i<j):(L.take j).getD i y=L.getD i y:=by
 simp [h]
theorem Tn{α:Type}(A B:List α)(i:Nat)(y:α)(h:i<A.length):(A ++ B).getD i y=A.getD i y:=by simp [List.getElem?_append_left h]
theorem Tm{α:Type}(A B:List α)(i:Nat)(y:α)(h:A.length<=i):(A ++ B).getD i y=B.getD (i - A.length) y:=by simp [List.getElem?_append_right h]
theorem QH{C:Nat->Clm}{n:Nat}{R I:Nat->Itm}{m:Nat}{x:Int}(hR:∀ j,j<n->Bu (R j)/\(R j).o=(C j).t)(hx:ex I m=ς x)(hck:(ck C n I m).2=0):∀ k,k<=m->QI (vl C n R I k) (ck C n I k).1:=by
 intro k;induction k with
 | zero=>intro _;exact⟨rfl,λi hi=>by simp [vl] at hi⟩
 | succ k ih=>
  intro hk;obtain⟨hl,ht⟩:=ih (by omega);obtain⟨d,hd,hok,had⟩:=GT hx (show k<m by omega);obtain⟨h1,h2⟩:=MC (MD hck hk) (MD hck (show k<=m by omega));rw [h2,vl];obtain⟨h3,h4⟩:=RZ (R:=R) (a:=(vl C n R I k).drop ((vl C n R I k).length - DZ (I k).o)) hR (Du hok) h1;rw [hl];refine⟨by simp [hl],λi hi=>?_⟩;simp only [VJ,VY,List.length_cons,List.length_nil] at hi
  by_cases e:i<(ck C n I k).1.length - DZ (I k).o
  · rw [Tn _ _ _ _ (by rw [VY];omega),Tn _ _ _ _ (by rw [VY];omega),IM _ _ _ _ e,IM _ _ _ _ e];exact ht i (by omega)
  ·
   have e2:i=(ck C n I k).1.length - DZ (I k).o:=by omega
   subst e2;rw [Tm _ _ _ _ (by rw [VY];omega),Tm _ _ _ _ (by rw [VY];omega)];simp only [VY]
   rw [show (ck C n I k).1.length - DZ (I k).o - min ((ck C n I k).1.length - DZ (I k).o) (vl C n R I k).length=0 from by omega,show (ck C n I k).1.length - DZ (I k).o - min ((ck C n I k).1.length - DZ (I k).o) (ck C n I k).1.length=0 from by omega]
   rw [hl] at h3 h4;exact⟨h3,h4⟩
theorem TB(n:Nat)(C:Nat->Clm)(mb:Nat)(ar:Option Addr)(cr:Nat)(R:Nat->Itm)(p5 p3:Nat)(o mm:Int)(s:ByteArray)(a:Option Addr)(c:Nat)(A:List Itm)(w:ο)(hP:PlAt w mb n C)(hdp:∀ k,k<n->AR C (C k).s k=false)(hR:IL w ar n R)(h5:w.cell? ⟨p5,0,ν⟩=ς (.slice ar n cr))(h31:w.cell? ⟨p3,1,ν⟩=ς (.map (ς mb)))
 (hA:IL w a A.length (λi=>A.getD i d0)) (hm:AW o<=A.length) (hm2:A.length<=1048576) (ho:1<=o/\o<=13) (hcol:o=3->∃ q,BF C s n=ς q) (hgo:(o=7∨o=8)->Bu (A.getD 0 d0)/\Bu (A.getD 1 d0)/\(A.getD 0 d0).o=(A.getD 1 d0).o) (hsz:∀ i,i<A.length->(A.getD i d0).s.size<=1000000) (hs:s.size<=1048576) :
 VK μ 119 #[.agg #[.int .i64 o,.int .i64 mm,.string s],.slice a A.length c,.pointer (ς ⟨p5,0,ν⟩),.pointer (ς ⟨p3,0,ν⟩)] w λe w'=>e=.returned (.tuple #[.agg #[.int .i64 (FC C n R ⟨o,mm,s⟩ A).o,.int .i64 (FC C n R ⟨o,mm,s⟩ A).m,.string (FC C n R ⟨o,mm,s⟩ A).s],.int .i64 0])/\υ w.heap.size w w':=by
 obtain⟨x,hx⟩:∃ x,FC C n R ⟨o,mm,s⟩ A=x:=⟨_,rfl⟩;rw [hx];have hbU:υ w.heap.size w ((w.alloc (.cells #[.int .i64 o,.int .i64 mm,.string s] 42)).alloc (.cells #[.int .i64 0,.int .i64 0,.string ⟨#[]⟩] 60)):=AA (AD _ _) (AD _ _);have hrr:((w.alloc (.cells #[.int .i64 o,.int .i64 mm,.string s] 42)).alloc (.cells #[.int .i64 0,.int .i64 0,.string ⟨#[]⟩] 60)).heap[w.heap.size+1]?=ς (.cells #[.int .i64 0,.int .i64 0,.string ⟨#[]⟩] 60 (0,0)):=by
  have q:=η (w.alloc (.cells #[.int .i64 o,.int .i64 mm,.string s] 42)) (.cells #[.int .i64 0,.int .i64 0,.string ⟨#[]⟩] 60);rw [ω] at q;exact q
 have g5:=AB hbU h5;have g3:=AB hbU h31;by_cases h3:o=3
 ·
  subst h3;obtain⟨q,hq⟩:=hcol rfl;have hxR:R q=x:=by rw [←hx];simp [FC,hq]
  have hqn:=(Bz hq).1;have HAT:Hid ((pl C n).atKey (CQ s) (.lit (.int .i64 0))=.lit (.int .i64 q)):=Jn hdp hq _;have hkey:keyOf μ 9 (.string s)=ς (CQ s):=keyOf_string_mk Tryz.underlying9 (by unfold maxLen;omega);have hP3:=hP.later hbU;obtain⟨br,offr,rfl,y0,y1,y2,-⟩:=hR.later hbU q hqn;rw [hxR] at y0 y1 y2;have hq0:(0:Int)<=q:=by omega
  have hqn2:(q:Int)<n:=by omega
  obtain⟨r0_,r1_,r2_,f0,f1,f2⟩:=AL hrr;obtain⟨xo,xm,xs⟩:=x;have HRX:Hid (((w.alloc (.cells #[.int .i64 3,.int .i64 mm,.string s] 42)).alloc (.cells #[.int .i64 xo,.int .i64 xm,.string xs] 60)).heap[w.heap.size+1]?=ς (.cells #[.int .i64 xo,.int .i64 xm,.string xs] 60 (0,0))):=by
   have q:=η (w.alloc (.cells #[.int .i64 3,.int .i64 mm,.string s] 42)) (.cells #[.int .i64 xo,.int .i64 xm,.string xs] 60);rw [ω] at q;exact q
  clear hx hxR hq hgo hcol;go_enter Tryz.func119,Tryz.ntmps119
  go_wp2_with (at_lookup;refine wpList_lookup_own_int _ rfl _ _ 75 rfl 9 3 .i64 Fk Tryz.underlying75 Tryz.underlying3 (IG _) mb n (pl C n) rfl hP3 _ _ rfl hkey ?_;intro cv hat hwc;rw [HAT.out] at hat;obtain rfl:(q:Int)=cv:=(by simpa using hat);clear hat hwc)
  refine VE (AE Tryz.results119 _ _ (w.heap.size+1) 60 _ (0,0) _ rfl HRX.out Tryz.underlying60 rfl (by kernel_rfl)) rfl ?_;exact⟨rfl,AA (AD _ _) (AD _ _)⟩
 ·
  have n3:(o == 3)=false:=by simpa using h3
  have hxW:H9 ⟨o,mm,s⟩ (A.getD 0 d0) (A.getD 1 d0)=x:=by
   rw [←hx];unfold H9 FC;simp only
   rw [if_neg h3]
  have HRV:=TM o mm s a A.length c (λi=>A.getD i d0) _ (hA.later hbU) hm hm2 ho h3 hgo hsz;simp only [hxW] at HRV
  clear hx hxW hgo hcol h3;obtain⟨xo,xm,xs⟩:=x;simp only at HRV
  go_enter Tryz.func119,Tryz.ntmps119
  go_wp2_with (go_at_call 120;refine HRV.mono ?_;rintro e w2 ⟨rfl,hb2⟩;have hr2:=AC hrr hb2;obtain⟨r0_,r1_,r2_,f0,f1,f2⟩:=AL hr2)
  refine VE (AE Tryz.results119 _ _ (w.heap.size+1) 60 _ (0,0) _ rfl (DM hr2 _ _ _) Tryz.underlying60 rfl (by kernel_rfl)) rfl ?_;exact⟨rfl,BM (AA hbU hb2) (by omega) _ _ _⟩
set_option maxHeartbeats 16000000
abbrev Sc:Oper:=⟨ς 33,.call ⟨.value (δ 28),#[δ 29,δ 32],#[42,30]⟩,156,"l5_replay.go:245",#[⟨0,φ⟩,⟨1,φ⟩,⟨4,φ⟩],ν⟩
abbrev Sb:Oper:=⟨ς 11,.alloc 60,0,"l5_replay.go:245",#[],ν⟩
theorem Ey{w:ο}{base g cap j:Nat}{L:List Itm}(h:Sv w base g cap L)(hj:j<=L.length):w.ownsRow base 60 3 (σ (ς ⟨g,0,ν⟩) j cap) j (BK (L.take j)):=by
 obtain⟨hl,hh⟩:=h;refine⟨by rw [BQ,VY];omega,?_⟩;rcases hh with ⟨hh,_⟩ | ⟨gg,cap',cur,e1,e2,e3,e4,e5,e6,e7⟩
 · simp at hh
 ·
  simp only [Value.slice.injEq,Option.some.injEq,Addr.mk.injEq,and_true,true_and] at e1
  obtain⟨rfl,rfl⟩:=e1;refine Vb ⟨g,cap,cur,rfl,e2,e3,by omega,e5,e6,?_⟩;obtain⟨r,hr⟩:=II L j;have h1:(BK L).take (j * 3)=BK (L.take j):=by
   rw [←hr,List.take_append_of_le_length (by rw [BQ,VY];omega),List.take_of_length_le (by rw [BQ,VY];omega)]
  rw [←h1,←e7,List.take_take,Nat.min_eq_left (by omega)]
theorem Ub{L:List Itm}(h:L.length=1):∃ x,L=[x]:=List.length_eq_one_iff.1 h
theorem EQ(L:List Itm)(j q:Nat):(L.drop j).getD q d0=L.getD (j+q) d0:=by simp
theorem Sv.ilA{w:ο}{base g cap:Nat}{L:List Itm}(h:Sv w base g cap L)(hs:C5 L<=1048576)(j:Nat):IL w (ς ⟨g,j * 3,ν⟩) (L.length - j) (λi=>(L.drop j).getD i d0):=λk hk=>by
 have:=h.il hs j k hk;simpa [EQ] using this
theorem Rb(n:Nat)(C:Nat->Clm)(mb:Nat)(ar:Option Addr)(cr:Nat)(R:Nat->Itm)(p5 p3:Nat)(a:Option Addr)(m c:Nat)(I:Nat->Itm)(w:ο)(hP:PlAt w mb n C)(hdp:∀ k,k<n->AR C (C k).s k=false)(hR:IL w ar n R)(h5:w.cell? ⟨p5,0,ν⟩=ς (σ ar n cr))(h31:w.cell? ⟨p3,1,ν⟩=ς (.map (ς mb)))(hI:IL w a m I)(hm:m<=100)(hx:ex I m=ς 1)(hk0:(ck C n I m).2=0)(hz:∀ j,j<n->(R j).s.size<=200)(hgR:∀ j,j<n->Bu (R j)/\(R j).o=(C j).t) :
 VK μ 118 #[σ a m c,.func (.func 119) #[] #[ψ (ς ⟨p5,0,ν⟩),ψ (ς ⟨p3,0,ν⟩)]] w λe w'=>e=ρ (θ #[χ #[ι κ (Bv C n R I m).o,ι κ (Bv C n R I m).m,τ (Bv C n R I m).s],ι κ 0])/\υ w.heap.size w w':=by
 have HX:Hid (ex I m=ς 1):=hx;have HK0:Hid ((ck C n I m).2=0):=hk0;have HSZ:Hid (∀ k,k<=m->C5 (vl C n R I k)<=200 * k):=Ii hz hx;have HTY:Hid (∀ k,k<=m->QI (vl C n R I k) (ck C n I k).1):=QH hgR hx hk0;have HDP:Hid (∀ k,k<n->AR C (C k).s k=false):=hdp;clear hx hk0 hz hgR hdp;obtain⟨j3,hi3,hz30,hz31,hz32⟩:=info_parts Tryz.infoVal;have HI3:Hid (Tryz.prog.info? 60=ς j3):=hi3;clear hi3;have hsU:((w.alloc (γ #[ι κ 0,ι κ 0,τ ⟨#[]⟩] 60)).alloc (γ #[ι κ 0,ι κ 0,τ ⟨#[]⟩] 60)).heap.size=w.heap.size+2:=by rw [ω,ω]
 have hmk:=Fi Tryz.underlying30 Tryz.infoVal m (by omega) (by omega) ((w.alloc (γ #[ι κ 0,ι κ 0,τ ⟨#[]⟩] 60)).alloc (γ #[ι κ 0,ι κ 0,τ ⟨#[]⟩] 60));have hO0:Sv (((w.alloc (γ #[ι κ 0,ι κ 0,τ ⟨#[]⟩] 60)).alloc (γ #[ι κ 0,ι κ 0,τ ⟨#[]⟩] 60)).alloc (γ (madeCells (χ #[ι κ 0,ι κ 0,τ VG]).cells (m * 3)) 60)) (w.heap.size+2) ((w.alloc (γ #[ι κ 0,ι κ 0,τ ⟨#[]⟩] 60)).alloc (γ #[ι κ 0,ι κ 0,τ ⟨#[]⟩] 60)).heap.size m []:=VU ((w.alloc (γ #[ι κ 0,ι κ 0,τ ⟨#[]⟩] 60)).alloc (γ #[ι κ 0,ι κ 0,τ ⟨#[]⟩] 60)) _ m (by rw [hsU];exact VD _) (by unfold maxLen;omega) (CH _ _);rw [hsU] at hO0;have hb0:υ w.heap.size w (((w.alloc (γ #[ι κ 0,ι κ 0,τ ⟨#[]⟩] 60)).alloc (γ #[ι κ 0,ι κ 0,τ ⟨#[]⟩] 60)).alloc (γ (madeCells (χ #[ι κ 0,ι κ 0,τ VG]).cells (m * 3)) 60)):=AA (AA (AD _ _) (AD _ _)) (AD _ _);have hq0:(((w.alloc (γ #[ι κ 0,ι κ 0,τ ⟨#[]⟩] 60)).alloc (γ #[ι κ 0,ι κ 0,τ ⟨#[]⟩] 60)).alloc (γ (madeCells (χ #[ι κ 0,ι κ 0,τ VG]).cells (m * 3)) 60)).heap[w.heap.size]?=ς (γ #[ι κ 0,ι κ 0,τ ⟨#[]⟩] 60 (0,0)):=AC (AC (η w _) (AD _ _)) (AD _ _);have hq1:(((w.alloc (γ #[ι κ 0,ι κ 0,τ ⟨#[]⟩] 60)).alloc (γ #[ι κ 0,ι κ 0,τ ⟨#[]⟩] 60)).alloc (γ (madeCells (χ #[ι κ 0,ι κ 0,τ VG]).cells (m * 3)) 60)).heap[w.heap.size+1]?=ς (γ #[ι κ 0,ι κ 0,τ ⟨#[]⟩] 60 (0,0)):=by
  have q:=η (w.alloc (γ #[ι κ 0,ι κ 0,τ ⟨#[]⟩] 60)) (γ #[ι κ 0,ι κ 0,τ ⟨#[]⟩] 60);rw [ω] at q;exact AC q (AD _ _)
 have hs0:w.heap.size+2<=(((w.alloc (γ #[ι κ 0,ι κ 0,τ ⟨#[]⟩] 60)).alloc (γ #[ι κ 0,ι κ 0,τ ⟨#[]⟩] 60)).alloc (γ (madeCells (χ #[ι κ 0,ι κ 0,τ VG]).cells (m * 3)) 60)).heap.size:=by rw [ω,hsU];omega
 rw [hsU] at hmk;generalize ((w.alloc (γ #[ι κ 0,ι κ 0,τ ⟨#[]⟩] 60)).alloc (γ #[ι κ 0,ι κ 0,τ ⟨#[]⟩] 60)).alloc (γ (madeCells (χ #[ι κ 0,ι κ 0,τ VG]).cells (m * 3)) 60)=w0 at hmk hO0 hb0 hq0 hq1 hs0;go_enter Tryz.func118,Tryz.ntmps118
 go_wp2;clear hmk;go_loopw [7,9,10,11,12,18] (λv7 _ _ _ _ i wr=>∃ (k g cap:Nat) (L:List Itm) (lst:Itm),k<=m/\i=ι κ k/\v7=σ (ς ⟨g,0,ν⟩) L.length cap/\vl C n R I k=L/\Sv wr (w.heap.size+2) g cap L/\(0<k->L.getLast?=ς lst)/\wr.heap[w.heap.size]?=ς (γ #[ι κ 0,ι κ 0,τ ⟨#[]⟩] 60 (0,0))/\wr.heap[w.heap.size+1]?=ς (γ #[ι κ lst.o,ι κ lst.m,τ lst.s] 60 (0,0))/\υ w.heap.size w wr/\w.heap.size+2<=wr.heap.size) (λ_ _ _ _ _ i _=>m - (VQ i).toNat)
 case atStart=>exact⟨0,w.heap.size+2,m,[],d0,by omega,rfl,rfl,rfl,hO0,λh=>by omega,hq0,hq1,hb0,hs0⟩
 case round=>
  obtain⟨k,g,cap,L,lst,hk,rfl,rfl,hvl,hO,hlst,hr0,hr1,hb,hsz⟩:=hrel;have HVL:Hid (vl C n R I k=L/\(0<k->L.getLast?=ς lst)):=⟨hvl,hlst⟩;clear hvl hlst;obtain⟨lo,lm,ls⟩:=lst;by_cases hlt:k<m
  rotate_left
  ·
   obtain rfl:k=m:=by omega
   have e:Hid (Bv C n R I k=⟨lo,lm,ls⟩):=by
    show _=_
    have hl1:=EE (C:=C) (n:=n) (R:=R) HX.out;rw [HVL.out.1] at hl1;have hk1:0<k:=by
     have:=Hg HX.out;omega
    have h3:=HVL.out.2 hk1;obtain⟨x,rfl⟩:=Ub (L:=L) (by omega);simp at h3
    unfold Bv;rw [HVL.out.1,h3];rfl
   obtain⟨a0,a1,a2,af0,af1,af2⟩:=AL hr0;obtain⟨b0,b1,b2,-⟩:=AL hr1;go_wp2;refine VE (AE Tryz.results118 _ _ w.heap.size 60 _ (0,0) _ rfl (DM hr0 _ _ _) Tryz.underlying60 rfl (by kernel_rfl)) rfl ?_;exact⟨by rw [e.out];rfl,BM hb (VD _) _ _ _⟩
  obtain⟨d,hd,hok,had⟩:=GT HX.out hlt;have hlen:((L.length:Nat):Int)=d:=by
   have:=EE (C:=C) (n:=n) (R:=R) hd;rwa [HVL.out.1] at this
  have hll:=Hg hd;have hsum:C5 L<=200 * k:=by
   have:=HSZ.out k (by omega);rwa [HVL.out.1] at this
  have hst:vl C n R I (k+1)=L.take (L.length - DZ (I k).o) ++ [FC C n R (I k) (L.drop (L.length - DZ (I k).o))]:=by
   rw [vl,HVL.out.1]
  have hcol:(I k).o=3->∃ j,BF C (I k).s n=ς j:=λho=>Oq hlt HK0.out ho;have htyk:=HTY.out k (by omega);rw [HVL.out.1] at htyk;have hstp:=(MC (MD HK0.out (show k+1<=m by omega)) (MD HK0.out (show k<=m by omega))).1;obtain⟨b,off,rfl,c0,c1,c2,hs⟩:=hI.later hb k hlt;obtain⟨o,mm,s,hIk⟩:∃ o mm s,I k=⟨o,mm,s⟩:=⟨_,_,_,rfl⟩;unfold MS at hstp;rw [hIk] at hok had hst c0 c1 c2 hs hcol hstp;simp only at hok had hst c0 c1 c2 hs hcol hstp
  have hop:=Du hok;have HOPN:Hid (EC o mm s=AW o):=Nq hok;have ha:=FP o;have hal:=CV o;obtain⟨j,hj⟩:∃ j:Nat,L.length - DZ o=j:=⟨_,rfl⟩;rw [←htyk.1,hj] at hstp;rw [hj] at hst;have hgood:(o=7∨o=8)->Bu ((L.drop j).getD 0 d0)/\Bu ((L.drop j).getD 1 d0)/\((L.drop j).getD 0 d0).o=((L.drop j).getD 1 d0).o:=λh78=>by
   have h2:AW o=2:=by rcases h78 with rfl | rfl <;> rfl
   rw [EQ,EQ];have t0:=htyk.2 (j+0) (by omega);have t1:=htyk.2 (j+1) (by omega);refine⟨t0.2,t1.2,?_⟩;rw [t0.1,t1.1];unfold B7 at hstp;simp only at hstp
   rw [if_neg (by omega),if_neg (by omega),if_pos h78] at hstp;by_cases e:((ck C n I k).1.drop j).getD 0 0=((ck C n I k).1.drop j).getD 1 0
   · rwa [B9,B9] at e
   · rw [if_neg e] at hstp;simp at hstp
  have hj1:((L.length:Nat):Int) - AW o=(j:Nat):=by omega
  have hjl:j<=L.length:=by omega
  have hcp:=Jp hO;have hjj:(j:Int)<=L.length:=by omega
  have hjc:(j:Int)<=cap:=by omega
  have hjc2:j<=cap:=by omega
  have hj0:(0:Int)<=j:=by omega
  have hj100:j<=100:=by omega
  obtain⟨x,hx⟩:∃ x,FC C n R ⟨o,mm,s⟩ (L.drop j)=x:=⟨_,rfl⟩;have hszd:∀ i,i<(L.drop j).length->((L.drop j).getD i d0).s.size<=1000000:=λi hi=>by
   rw [List.length_drop] at hi;rw [EQ];have:=AaA (L:=L) (k:=j+i) (by omega);omega
  have HV0:∀ (ad:Option Addr) (cx:Nat) W',υ w.heap.size w W'->IL W' ad (L.length - j) (λi=>(L.drop j).getD i d0)->VK μ 119 #[χ #[ι κ o,ι κ mm,τ s],σ ad (L.length - j) cx,ψ (ς ⟨p5,0,ν⟩),ψ (ς ⟨p3,0,ν⟩)] W' (λe w'=>e=ρ (θ #[χ #[ι κ x.o,ι κ x.m,τ x.s],ι κ 0])/\υ W'.heap.size W' w'):=λad cx W' hW hIA=>by
   have hln:(L.drop j).length=L.length - j:=List.length_drop;have:=TB n C mb ar cr R p5 p3 o mm s ad cx (L.drop j) W' (hP.later hW) HDP.out (hR.later hW) (AB hW h5) (AB hW h31) (by rw [hln];exact hIA) (by rw [hln];omega) (by rw [hln];omega) hop hcol hgood hszd hs;rwa [hx,hln] at this
  have HV:Hid (∀ (ad:Option Addr) (cx:Nat) W',υ w.heap.size w W'->IL W' ad (L.length - j) (λi=>(L.drop j).getD i d0)->VK μ 119 #[χ #[ι κ o,ι κ mm,τ s],σ ad (L.length - j) cx,ψ (ς ⟨p5,0,ν⟩),ψ (ς ⟨p3,0,ν⟩)] W' (λe w'=>e=ρ (θ #[χ #[ι κ x.o,ι κ x.m,τ x.s],ι κ 0])/\υ W'.heap.size W' w')):=HV0;have HST:Hid (vl C n R I (k+1)=L.take j ++ [x]):=by show _=_;rw [hst,hx]
  have HLE:Hid (((L.length:Nat):Int)=d/\L.length - DZ o=j/\L.length<=100):=⟨hlen,hj,by omega⟩;have hsumL:C5 L<=1048576:=by omega
  have HIL1:Hid (∀ W',υ wr.heap.size wr W'->IL W' (ς ⟨g,j * 3,ν⟩) (L.length - j) (λi=>(L.drop j).getD i d0)):=λW' hW=>Sv.ilA (AF hO hW) hsumL j;have HIL0:Hid (cap=j->∀ W',IL W' (ς ⟨g,0,ν⟩) (L.length - j) (λi=>(L.drop j).getD i d0)):=λhc W' q hq=>by omega
  clear hst hIk hj ha had hd hok hlen hx HV0 hgood hstp htyk hcol hszd;have hB1:υ wr.heap.size wr (wr.alloc (γ #[ι κ o,ι κ mm,τ s] 42)):=AD _ _;obtain⟨y0,y1,y2,-⟩:=AL (η wr (γ #[ι κ o,ι κ mm,τ s] 42));by_cases hcj:cap=j
  ·
   have hOj:Sv wr (w.heap.size+2) g j L:=by rw [←hcj];exact hO
   go_upto_region 7 with (go_at_call 133;refine(DL o mm s _).mono ?_;rintro e w3 ⟨rfl,hb3⟩;rw [HOPN.out];have y0_:=AB hb3 y0;have y1_:=AB hb3 y1;have y2_:=AB hb3 y2)
   have hb03:=AA hB1 hb3;have hs03:=hb03.size;refine VH (S:=λx_=>υ w3.heap.size w3 x_) (by kernel_rfl) (CU _) (λjH=>?_);generalize w3.drew=v at jH ⊢;refine tk 0 jH ?_;refine tk 1 jH ?_ (hy:=λx jS=>by have k0:=AB jS y0_;have k1:=AB jS y1_;have k2:=AB jS y2_;go_simp<;>rfl)
   try simp only [zS]
   refine tk 2 jH ?_;try simp only [zS];refine tk 3 jH ?_;try simp only [zS];refine tk 4 jH ?_
   try simp only [zS]
   refine wpAnyH_ready (rs:=[5,9]) (by kernel_rfl) (by simp) ?_;refine(AllReadyH.cons (o:=Sc) rfl (λK hK=>?w1_c2) (AllReadyH.cons (o:=Sb) rfl (λK hK=>?w1_c1) AllReadyH.nil));case' w1_c2=>
    go_simp;refine(HV.out (ς ⟨g,0,ν⟩) 0 _ (AA hb (AA hb03 jH)) (HIL0.out hcj _)).mono ?_;rintro e v ⟨rfl,hb5⟩;refine hK.out _ _ (AA jH hb5) (λjH=>?_);clear hK K;try simp only [zS]
    clear hb5;refine tk 6 jH ?_;try simp only [zS];refine tk 7 jH ?_;refine tk 8 jH ?_
    try simp only [zS]
    refine rd 9 (λK hK=>?_);have hqT:=η v (γ #[ι κ 0,ι κ 0,τ ⟨#[]⟩] 60);have hbT:=AD v (γ #[ι κ 0,ι κ 0,τ ⟨#[]⟩] 60);have hsT:=jH.size;go_simp;refine hK.out _ _ (AA jH (AD _ _)) (λjH=>?_);clear hK K;try simp only [zS]
    generalize v.heap.size=BT at hqT hsT ⊢;generalize v.alloc (γ #[ι κ 0,ι κ 0,τ ⟨#[]⟩] 60)=v at hqT hbT  jH ⊢;clear hbT;refine rd 10 (λK hK=>?_);obtain⟨s0_,s1_,s2_,sf0_,sf1_,sf2_⟩:=AL hqT;go_simp;refine hK.out _ _ (BM jH hsT _ _ _) (λjH=>?_);clear hK K s0_ s1_ s2_ sf0_ sf1_ sf2_;try simp only [zS]
    replace hqT:=FH hqT (ι κ x.o) (ι κ x.m) (τ x.s);refine tk 11 jH ?_
    try simp only [zS]
    refine VP (by kernel_rfl) ?_ _;generalize (((v.setCell ⟨BT,0,ν⟩ (ι κ x.o)).setCell ⟨BT,1,ν⟩ (ι κ x.m)).setCell ⟨BT,2,ν⟩ (τ x.s))=w6 at hqT jH ⊢;have hb6:=AA hb03 jH;have h6s:=hb6.size;clear jH;have q1:=AC hr1 hb6;obtain⟨l0_,l1_,l2_,lf0,lf1,lf2⟩:=AL q1;obtain⟨u0_,u1_,u2_,-⟩:=AL hqT;go_upto_region 11 with (fail)
    have p1:(((w6.setCell ⟨w.heap.size+1,0,ν⟩ (ι κ x.o)).setCell ⟨w.heap.size+1,1,ν⟩ (ι κ x.m)).setCell ⟨w.heap.size+1,2,ν⟩ (τ x.s)).heap[w.heap.size+1]?=ς (γ #[ι κ x.o,ι κ x.m,τ x.s] 60 (0,0)):=FH q1 _ _ _;have p0:(((w6.setCell ⟨w.heap.size+1,0,ν⟩ (ι κ x.o)).setCell ⟨w.heap.size+1,1,ν⟩ (ι κ x.m)).setCell ⟨w.heap.size+1,2,ν⟩ (τ x.s)).heap[w.heap.size]?=ς (γ #[ι κ 0,ι κ 0,τ ⟨#[]⟩] 60 (0,0)):=Af (Af (Af (AC hr0 hb6) (by omega)) (by omega)) (by omega);have pT:(((w6.setCell ⟨w.heap.size+1,0,ν⟩ (ι κ x.o)).setCell ⟨w.heap.size+1,1,ν⟩ (ι κ x.m)).setCell ⟨w.heap.size+1,2,ν⟩ (τ x.s)).heap[BT]?=ς (γ #[ι κ x.o,ι κ x.m,τ x.s] 60 (0,0)):=Af (Af (Af hqT (by omega)) (by omega)) (by omega);have hO7:Sv (((w6.setCell ⟨w.heap.size+1,0,ν⟩ (ι κ x.o)).setCell ⟨w.heap.size+1,1,ν⟩ (ι κ x.m)).setCell ⟨w.heap.size+1,2,ν⟩ (τ x.s)) (w.heap.size+2) g j L:=CC (CC (CC (AF hOj hb6) (by omega)) (by omega)) (by omega);have hb7:υ w.heap.size w (((w6.setCell ⟨w.heap.size+1,0,ν⟩ (ι κ x.o)).setCell ⟨w.heap.size+1,1,ν⟩ (ι κ x.m)).setCell ⟨w.heap.size+1,2,ν⟩ (τ x.s)):=BM (AA hb hb6) (by omega) _ _ _;have hs7:wr.heap.size<=(((w6.setCell ⟨w.heap.size+1,0,ν⟩ (ι κ x.o)).setCell ⟨w.heap.size+1,1,ν⟩ (ι κ x.m)).setCell ⟨w.heap.size+1,2,ν⟩ (τ x.s)).heap.size:=by rw [Ve,Ve,Ve];exact h6s
    generalize (((w6.setCell ⟨w.heap.size+1,0,ν⟩ (ι κ x.o)).setCell ⟨w.heap.size+1,1,ν⟩ (ι κ x.m)).setCell ⟨w.heap.size+1,2,ν⟩ (τ x.s))=w7 at p1 p0 pT hO7 hb7 hs7 ⊢;clear l0_ l1_ l2_ lf0 lf1 lf2 u0_ u1_ u2_ q1 hqT;have hTg:BT≠g:=by have:=(hO.lt g rfl).2;omega
    refine VH (S:=λx_=>x_.heap[BT]?=ς (γ #[ι κ x.o,ι κ x.m,τ x.s] 60 (0,0))) (by kernel_rfl) (pT) (λjH=>?_);replace p0:w7.drew.heap[w.heap.size]?=_:=p0;replace p1:w7.drew.heap[w.heap.size+1]?=_:=p1;replace hO7:Sv w7.drew (w.heap.size+2) g j L:=hO7;replace hb7:υ w.heap.size w w7.drew:=AA hb7 (CU _);replace hs7:wr.heap.size<=w7.drew.heap.size:=hs7;generalize w7.drew=v at jH p0 p1 hO7 hb7 hs7 ⊢;refine tk 0 jH ?_;try simp only [zS];refine tk 1 jH ?_;try simp only [zS];refine tk 2 jH ?_;try simp only [zS];refine tk 3 jH ?_ (hy:=λx jS=>by obtain⟨k0_,k1_,k2_,-⟩:=AL jS;go_simp<;>rfl)
    try simp only [zS]
    refine rd 4 (λK hK=>?_);have hqN:=η v (γ #[ι κ x.o,ι κ x.m,τ x.s] 60);have hbN:=AD v (γ #[ι κ x.o,ι κ x.m,τ x.s] 60);go_simp;refine hK.out _ _ (AC jH hbN) (λjH=>?_);clear hK K;try simp only [zS]
    replace p0:=AC p0 hbN;replace p1:=AC p1 hbN;replace hO7:Sv _ (w.heap.size+2) g j L:=AF hO7 hbN;replace hb7:=AA hb7 hbN;replace hs7:=VX hs7 hbN.size;generalize v.heap.size=BN at hqN ⊢;generalize v.alloc (γ #[ι κ x.o,ι κ x.m,τ x.s] 60)=v at hqN jH p0 p1 hO7 hb7 hs7 hbN ⊢;clear hbN;refine rd 5 (λK hK=>?_);rw [if_pos (by kernel_rfl)];refine wp_append_lies _ _ _ _ rfl (w.heap.size+2) 60 j3 (χ #[ι κ 0,ι κ 0,τ VG]) 3 32 Tryz.underlying30 HI3.out hz30 hz31 hz32 rfl (by omega) (σ (ς ⟨g,0,ν⟩) j j) j (BK (L.take j)) rfl (Ey hO7 hjl) ⟨BN,0,ν⟩ 1 1 (v3 x) rfl rfl (VI hqN) (Al [x]) (by omega) (by unfold maxLen;omega) (by omega) (by omega) _ rfl ?_;intro g8 cap8 v hO8 hgr8 hat8 hlt8;have hgl:=(hO7.lt g rfl).1;have hgb:∀ b,b<w.heap.size+2->ς b≠(σ (ς ⟨g,0,ν⟩) j j).ownBlock:=λb hb e=>by have e3:b=g:=VF e;omega
    have hTne:ς BT≠(σ (ς ⟨g,0,ν⟩) j j).ownBlock:=λe=>hTg (VF e);refine hK.out _ _ (Bl jH hgr8 hTne) (λjH=>?_);clear hK K hat8;try simp only [zS]
    replace p0:=Bl p0 hgr8 (hgb _ (by omega));replace p1:=Bl p1 hgr8 (hgb _ (by omega));replace hb7:=JI hb7 hgr8 (λy hy=>hgb _ (by omega));replace hs7:=VX hs7 hgr8.size;clear hgr8;refine tk 6 jH ?_
    try simp only [zS]
    refine VP (by kernel_rfl) ?_ _;obtain⟨e1_,e2_⟩:=Ee (r:=x) hjl hO8;go_wp2;go_roundw
    case rel=>exact⟨k+1,g8,cap8,L.take j ++ [x],x,by omega,by go_num,by rw [e1_],HST.out,e2_,λ_=>by simp,p0,p1,hb7,by omega⟩
    case measure=>simp [VQ];omega
   case' w1_c1=>
    have hqT:=η v (γ #[ι κ 0,ι κ 0,τ ⟨#[]⟩] 60);have hbT:=AD v (γ #[ι κ 0,ι κ 0,τ ⟨#[]⟩] 60);have hsT:=jH.size;go_simp;refine hK.out _ _ (AA jH (AD _ _)) (λjH=>?_);clear hK K;try simp only [zS]
    generalize v.heap.size=BT at hqT hsT ⊢;generalize v.alloc (γ #[ι κ 0,ι κ 0,τ ⟨#[]⟩] 60)=v at hqT hbT  jH ⊢;clear hbT;refine rd 5 (λK hK=>?_);go_simp;refine(HV.out (ς ⟨g,0,ν⟩) 0 _ (AA hb (AA hb03 jH)) (HIL0.out hcj _)).mono ?_;rintro e v ⟨rfl,hb5⟩;refine hK.out _ _ (AA jH hb5) (λjH=>?_);clear hK K;try simp only [zS]
    replace hqT:=AC hqT hb5;clear hb5;refine tk 6 jH ?_;refine tk 7 jH ?_;try simp only [zS];refine tk 8 jH ?_
    try simp only [zS]
    refine rd 10 (λK hK=>?_);obtain⟨s0_,s1_,s2_,sf0_,sf1_,sf2_⟩:=AL hqT;go_simp;refine hK.out _ _ (BM jH hsT _ _ _) (λjH=>?_);clear hK K s0_ s1_ s2_ sf0_ sf1_ sf2_;try simp only [zS]
    replace hqT:=FH hqT (ι κ x.o) (ι κ x.m) (τ x.s);refine tk 11 jH ?_
    try simp only [zS]
    refine VP (by kernel_rfl) ?_ _;generalize (((v.setCell ⟨BT,0,ν⟩ (ι κ x.o)).setCell ⟨BT,1,ν⟩ (ι κ x.m)).setCell ⟨BT,2,ν⟩ (τ x.s))=w6 at hqT jH ⊢;have hb6:=AA hb03 jH;have h6s:=hb6.size;clear jH;have q1:=AC hr1 hb6;obtain⟨l0_,l1_,l2_,lf0,lf1,lf2⟩:=AL q1;obtain⟨u0_,u1_,u2_,-⟩:=AL hqT;go_upto_region 11 with (fail)
    have p1:(((w6.setCell ⟨w.heap.size+1,0,ν⟩ (ι κ x.o)).setCell ⟨w.heap.size+1,1,ν⟩ (ι κ x.m)).setCell ⟨w.heap.size+1,2,ν⟩ (τ x.s)).heap[w.heap.size+1]?=ς (γ #[ι κ x.o,ι κ x.m,τ x.s] 60 (0,0)):=FH q1 _ _ _;have p0:(((w6.setCell ⟨w.heap.size+1,0,ν⟩ (ι κ x.o)).setCell ⟨w.heap.size+1,1,ν⟩ (ι κ x.m)).setCell ⟨w.heap.size+1,2,ν⟩ (τ x.s)).heap[w.heap.size]?=ς (γ #[ι κ 0,ι κ 0,τ ⟨#[]⟩] 60 (0,0)):=Af (Af (Af (AC hr0 hb6) (by omega)) (by omega)) (by omega);have pT:(((w6.setCell ⟨w.heap.size+1,0,ν⟩ (ι κ x.o)).setCell ⟨w.heap.size+1,1,ν⟩ (ι κ x.m)).setCell ⟨w.heap.size+1,2,ν⟩ (τ x.s)).heap[BT]?=ς (γ #[ι κ x.o,ι κ x.m,τ x.s] 60 (0,0)):=Af (Af (Af hqT (by omega)) (by omega)) (by omega);have hO7:Sv (((w6.setCell ⟨w.heap.size+1,0,ν⟩ (ι κ x.o)).setCell ⟨w.heap.size+1,1,ν⟩ (ι κ x.m)).setCell ⟨w.heap.size+1,2,ν⟩ (τ x.s)) (w.heap.size+2) g j L:=CC (CC (CC (AF hOj hb6) (by omega)) (by omega)) (by omega);have hb7:υ w.heap.size w (((w6.setCell ⟨w.heap.size+1,0,ν⟩ (ι κ x.o)).setCell ⟨w.heap.size+1,1,ν⟩ (ι κ x.m)).setCell ⟨w.heap.size+1,2,ν⟩ (τ x.s)):=BM (AA hb hb6) (by omega) _ _ _;have hs7:wr.heap.size<=(((w6.setCell ⟨w.heap.size+1,0,ν⟩ (ι κ x.o)).setCell ⟨w.heap.size+1,1,ν⟩ (ι κ x.m)).setCell ⟨w.heap.size+1,2,ν⟩ (τ x.s)).heap.size:=by rw [Ve,Ve,Ve];exact h6s
    generalize (((w6.setCell ⟨w.heap.size+1,0,ν⟩ (ι κ x.o)).setCell ⟨w.heap.size+1,1,ν⟩ (ι κ x.m)).setCell ⟨w.heap.size+1,2,ν⟩ (τ x.s))=w7 at p1 p0 pT hO7 hb7 hs7 ⊢;clear l0_ l1_ l2_ lf0 lf1 lf2 u0_ u1_ u2_ q1 hqT;have hTg:BT≠g:=by have:=(hO.lt g rfl).2;omega
    refine VH (S:=λx_=>x_.heap[BT]?=ς (γ #[ι κ x.o,ι κ x.m,τ x.s] 60 (0,0))) (by kernel_rfl) (pT) (λjH=>?_);replace p0:w7.drew.heap[w.heap.size]?=_:=p0;replace p1:w7.drew.heap[w.heap.size+1]?=_:=p1;replace hO7:Sv w7.drew (w.heap.size+2) g j L:=hO7;replace hb7:υ w.heap.size w w7.drew:=AA hb7 (CU _);replace hs7:wr.heap.size<=w7.drew.heap.size:=hs7;generalize w7.drew=v at jH p0 p1 hO7 hb7 hs7 ⊢;refine tk 0 jH ?_;try simp only [zS];refine tk 1 jH ?_;try simp only [zS];refine tk 2 jH ?_;refine tk 3 jH ?_ (hy:=λx jS=>by obtain⟨k0_,k1_,k2_,-⟩:=AL jS;go_simp<;>rfl)
    try simp only [zS]
    refine rd 4 (λK hK=>?_);have hqN:=η v (γ #[ι κ x.o,ι κ x.m,τ x.s] 60);have hbN:=AD v (γ #[ι κ x.o,ι κ x.m,τ x.s] 60);go_simp;refine hK.out _ _ (AC jH hbN) (λjH=>?_);clear hK K;try simp only [zS]
    replace p0:=AC p0 hbN;replace p1:=AC p1 hbN;replace hO7:Sv _ (w.heap.size+2) g j L:=AF hO7 hbN;replace hb7:=AA hb7 hbN;replace hs7:=VX hs7 hbN.size;generalize v.heap.size=BN at hqN ⊢;generalize v.alloc (γ #[ι κ x.o,ι κ x.m,τ x.s] 60)=v at hqN jH p0 p1 hO7 hb7 hs7 hbN ⊢;clear hbN;refine rd 5 (λK hK=>?_);rw [if_pos (by kernel_rfl)];refine wp_append_lies _ _ _ _ rfl (w.heap.size+2) 60 j3 (χ #[ι κ 0,ι κ 0,τ VG]) 3 32 Tryz.underlying30 HI3.out hz30 hz31 hz32 rfl (by omega) (σ (ς ⟨g,0,ν⟩) j j) j (BK (L.take j)) rfl (Ey hO7 hjl) ⟨BN,0,ν⟩ 1 1 (v3 x) rfl rfl (VI hqN) (Al [x]) (by omega) (by unfold maxLen;omega) (by omega) (by omega) _ rfl ?_;intro g8 cap8 v hO8 hgr8 hat8 hlt8;have hgl:=(hO7.lt g rfl).1;have hgb:∀ b,b<w.heap.size+2->ς b≠(σ (ς ⟨g,0,ν⟩) j j).ownBlock:=λb hb e=>by have e3:b=g:=VF e;omega
    have hTne:ς BT≠(σ (ς ⟨g,0,ν⟩) j j).ownBlock:=λe=>hTg (VF e);refine hK.out _ _ (Bl jH hgr8 hTne) (λjH=>?_);clear hK K hat8;try simp only [zS]
    replace p0:=Bl p0 hgr8 (hgb _ (by omega));replace p1:=Bl p1 hgr8 (hgb _ (by omega));replace hb7:=JI hb7 hgr8 (λy hy=>hgb _ (by omega));replace hs7:=VX hs7 hgr8.size;clear hgr8;refine tk 6 jH ?_
    try simp only [zS]
    refine VP (by kernel_rfl) ?_ _;obtain⟨e1_,e2_⟩:=Ee (r:=x) hjl hO8;go_wp2;go_roundw
    case rel=>exact⟨k+1,g8,cap8,L.take j ++ [x],x,by omega,by go_num,by rw [e1_],HST.out,e2_,λ_=>by simp,p0,p1,hb7,by omega⟩
    case measure=>simp [VQ];omega
  ·
   have hOj:Sv wr (w.heap.size+2) g cap L:=hO;go_upto_region 7 with (go_at_call 133;refine(DL o mm s _).mono ?_;rintro e w3 ⟨rfl,hb3⟩;rw [HOPN.out];have y0_:=AB hb3 y0;have y1_:=AB hb3 y1;have y2_:=AB hb3 y2)
   have hb03:=AA hB1 hb3;have hs03:=hb03.size;refine VH (S:=λx_=>υ w3.heap.size w3 x_) (by kernel_rfl) (CU _) (λjH=>?_);generalize w3.drew=v at jH ⊢;refine tk 0 jH ?_;try simp only [zS];refine tk 1 jH ?_ (hy:=λx jS=>by have k0:=AB jS y0_;have k1:=AB jS y1_;have k2:=AB jS y2_;go_simp<;>rfl)
   try simp only [zS]
   refine tk 2 jH ?_;try simp only [zS];refine tk 3 jH ?_;try simp only [zS];refine tk 4 jH ?_
   try simp only [zS]
   refine wpAnyH_ready (rs:=[5,9]) (by kernel_rfl) (by simp) ?_;refine(AllReadyH.cons (o:=Sc) rfl (λK hK=>?w4_c2) (AllReadyH.cons (o:=Sb) rfl (λK hK=>?w4_c1) AllReadyH.nil));case' w4_c2=>
    go_simp;refine(HV.out (ς ⟨g,j * 3,ν⟩) (cap - j) _ (AA hb (AA hb03 jH)) (HIL1.out _ (AA hb03 jH))).mono ?_;rintro e v ⟨rfl,hb5⟩;refine hK.out _ _ (AA jH hb5) (λjH=>?_);clear hK K;try simp only [zS]
    clear hb5;refine tk 6 jH ?_;refine tk 7 jH ?_;try simp only [zS];refine tk 8 jH ?_
    try simp only [zS]
    refine rd 9 (λK hK=>?_);have hqT:=η v (γ #[ι κ 0,ι κ 0,τ ⟨#[]⟩] 60);have hbT:=AD v (γ #[ι κ 0,ι κ 0,τ ⟨#[]⟩] 60);have hsT:=jH.size;go_simp;refine hK.out _ _ (AA jH (AD _ _)) (λjH=>?_);clear hK K;try simp only [zS]
    generalize v.heap.size=BT at hqT hsT ⊢;generalize v.alloc (γ #[ι κ 0,ι κ 0,τ ⟨#[]⟩] 60)=v at hqT hbT  jH ⊢;clear hbT;refine rd 10 (λK hK=>?_);obtain⟨s0_,s1_,s2_,sf0_,sf1_,sf2_⟩:=AL hqT;go_simp;refine hK.out _ _ (BM jH hsT _ _ _) (λjH=>?_);clear hK K s0_ s1_ s2_ sf0_ sf1_ sf2_;try simp only [zS]
    replace hqT:=FH hqT (ι κ x.o) (ι κ x.m) (τ x.s);refine tk 11 jH ?_
    try simp only [zS]
    refine VP (by kernel_rfl) ?_ _;generalize (((v.setCell ⟨BT,0,ν⟩ (ι κ x.o)).setCell ⟨BT,1,ν⟩ (ι κ x.m)).setCell ⟨BT,2,ν⟩ (τ x.s))=w6 at hqT jH ⊢;have hb6:=AA hb03 jH;have h6s:=hb6.size;clear jH;have q1:=AC hr1 hb6;obtain⟨l0_,l1_,l2_,lf0,lf1,lf2⟩:=AL q1;obtain⟨u0_,u1_,u2_,-⟩:=AL hqT;go_upto_region 11 with (fail)
    have p1:(((w6.setCell ⟨w.heap.size+1,0,ν⟩ (ι κ x.o)).setCell ⟨w.heap.size+1,1,ν⟩ (ι κ x.m)).setCell ⟨w.heap.size+1,2,ν⟩ (τ x.s)).heap[w.heap.size+1]?=ς (γ #[ι κ x.o,ι κ x.m,τ x.s] 60 (0,0)):=FH q1 _ _ _;have p0:(((w6.setCell ⟨w.heap.size+1,0,ν⟩ (ι κ x.o)).setCell ⟨w.heap.size+1,1,ν⟩ (ι κ x.m)).setCell ⟨w.heap.size+1,2,ν⟩ (τ x.s)).heap[w.heap.size]?=ς (γ #[ι κ 0,ι κ 0,τ ⟨#[]⟩] 60 (0,0)):=Af (Af (Af (AC hr0 hb6) (by omega)) (by omega)) (by omega);have pT:(((w6.setCell ⟨w.heap.size+1,0,ν⟩ (ι κ x.o)).setCell ⟨w.heap.size+1,1,ν⟩ (ι κ x.m)).setCell ⟨w.heap.size+1,2,ν⟩ (τ x.s)).heap[BT]?=ς (γ #[ι κ x.o,ι κ x.m,τ x.s] 60 (0,0)):=Af (Af (Af hqT (by omega)) (by omega)) (by omega);have hO7:Sv (((w6.setCell ⟨w.heap.size+1,0,ν⟩ (ι κ x.o)).setCell ⟨w.heap.size+1,1,ν⟩ (ι κ x.m)).setCell ⟨w.heap.size+1,2,ν⟩ (τ x.s)) (w.heap.size+2) g cap L:=CC (CC (CC (AF hOj hb6) (by omega)) (by omega)) (by omega);have hb7:υ w.heap.size w (((w6.setCell ⟨w.heap.size+1,0,ν⟩ (ι κ x.o)).setCell ⟨w.heap.size+1,1,ν⟩ (ι κ x.m)).setCell ⟨w.heap.size+1,2,ν⟩ (τ x.s)):=BM (AA hb hb6) (by omega) _ _ _;have hs7:wr.heap.size<=(((w6.setCell ⟨w.heap.size+1,0,ν⟩ (ι κ x.o)).setCell ⟨w.heap.size+1,1,ν⟩ (ι κ x.m)).setCell ⟨w.heap.size+1,2,ν⟩ (τ x.s)).heap.size:=by rw [Ve,Ve,Ve];exact h6s
    generalize (((w6.setCell ⟨w.heap.size+1,0,ν⟩ (ι κ x.o)).setCell ⟨w.heap.size+1,1,ν⟩ (ι κ x.m)).setCell ⟨w.heap.size+1,2,ν⟩ (τ x.s))=w7 at p1 p0 pT hO7 hb7 hs7 ⊢;clear l0_ l1_ l2_ lf0 lf1 lf2 u0_ u1_ u2_ q1 hqT;have hTg:BT≠g:=by have:=(hO.lt g rfl).2;omega
    refine VH (S:=λx_=>x_.heap[BT]?=ς (γ #[ι κ x.o,ι κ x.m,τ x.s] 60 (0,0))) (by kernel_rfl) (pT) (λjH=>?_);replace p0:w7.drew.heap[w.heap.size]?=_:=p0;replace p1:w7.drew.heap[w.heap.size+1]?=_:=p1;replace hO7:Sv w7.drew (w.heap.size+2) g cap L:=hO7;replace hb7:υ w.heap.size w w7.drew:=AA hb7 (CU _);replace hs7:wr.heap.size<=w7.drew.heap.size:=hs7;generalize w7.drew=v at jH p0 p1 hO7 hb7 hs7 ⊢;refine tk 0 jH ?_;try simp only [zS];refine tk 1 jH ?_;try simp only [zS];refine tk 2 jH ?_;refine tk 3 jH ?_ (hy:=λx jS=>by obtain⟨k0_,k1_,k2_,-⟩:=AL jS;go_simp<;>rfl)
    try simp only [zS]
    refine rd 4 (λK hK=>?_);have hqN:=η v (γ #[ι κ x.o,ι κ x.m,τ x.s] 60);have hbN:=AD v (γ #[ι κ x.o,ι κ x.m,τ x.s] 60);go_simp;refine hK.out _ _ (AC jH hbN) (λjH=>?_);clear hK K;try simp only [zS]
    replace p0:=AC p0 hbN;replace p1:=AC p1 hbN;replace hO7:Sv _ (w.heap.size+2) g cap L:=AF hO7 hbN;replace hb7:=AA hb7 hbN;replace hs7:=VX hs7 hbN.size;generalize v.heap.size=BN at hqN ⊢;generalize v.alloc (γ #[ι κ x.o,ι κ x.m,τ x.s] 60)=v at hqN jH p0 p1 hO7 hb7 hs7 hbN ⊢;clear hbN;refine rd 5 (λK hK=>?_);rw [if_pos (by kernel_rfl)];refine wp_append_lies _ _ _ _ rfl (w.heap.size+2) 60 j3 (χ #[ι κ 0,ι κ 0,τ VG]) 3 32 Tryz.underlying30 HI3.out hz30 hz31 hz32 rfl (by omega) (σ (ς ⟨g,0,ν⟩) j cap) j (BK (L.take j)) rfl (Ey hO7 hjl) ⟨BN,0,ν⟩ 1 1 (v3 x) rfl rfl (VI hqN) (Al [x]) (by omega) (by unfold maxLen;omega) (by omega) (by omega) _ rfl ?_;intro g8 cap8 v hO8 hgr8 hat8 hlt8;have hgl:=(hO7.lt g rfl).1;have hgb:∀ b,b<w.heap.size+2->ς b≠(σ (ς ⟨g,0,ν⟩) j cap).ownBlock:=λb hb e=>by have e3:b=g:=VF e;omega
    have hTne:ς BT≠(σ (ς ⟨g,0,ν⟩) j cap).ownBlock:=λe=>hTg (VF e);refine hK.out _ _ (Bl jH hgr8 hTne) (λjH=>?_);clear hK K hat8;try simp only [zS]
    replace p0:=Bl p0 hgr8 (hgb _ (by omega));replace p1:=Bl p1 hgr8 (hgb _ (by omega));replace hb7:=JI hb7 hgr8 (λy hy=>hgb _ (by omega));replace hs7:=VX hs7 hgr8.size;clear hgr8;refine tk 6 jH ?_
    try simp only [zS]
    refine VP (by kernel_rfl) ?_ _;obtain⟨e1_,e2_⟩:=Ee (r:=x) hjl hO8;go_wp2;go_roundw
    case rel=>exact⟨k+1,g8,cap8,L.take j ++ [x],x,by omega,by go_num,by rw [e1_],HST.out,e2_,λ_=>by simp,p0,p1,hb7,by omega⟩
    case measure=>simp [VQ];omega
   case' w4_c1=>
    have hqT:=η v (γ #[ι κ 0,ι κ 0,τ ⟨#[]⟩] 60);have hbT:=AD v (γ #[ι κ 0,ι κ 0,τ ⟨#[]⟩] 60);have hsT:=jH.size;go_simp;refine hK.out _ _ (AA jH (AD _ _)) (λjH=>?_);clear hK K;try simp only [zS]
    generalize v.heap.size=BT at hqT hsT ⊢;generalize v.alloc (γ #[ι κ 0,ι κ 0,τ ⟨#[]⟩] 60)=v at hqT hbT  jH ⊢;clear hbT;refine rd 5 (λK hK=>?_);go_simp;refine(HV.out (ς ⟨g,j * 3,ν⟩) (cap - j) _ (AA hb (AA hb03 jH)) (HIL1.out _ (AA hb03 jH))).mono ?_;rintro e v ⟨rfl,hb5⟩;refine hK.out _ _ (AA jH hb5) (λjH=>?_);clear hK K;try simp only [zS]
    replace hqT:=AC hqT hb5;clear hb5;refine tk 6 jH ?_;try simp only [zS];refine tk 7 jH ?_;try simp only [zS];refine tk 8 jH ?_
    try simp only [zS]
    refine rd 10 (λK hK=>?_);obtain⟨s0_,s1_,s2_,sf0_,sf1_,sf2_⟩:=AL hqT;go_simp;refine hK.out _ _ (BM jH hsT _ _ _) (λjH=>?_);clear hK K s0_ s1_ s2_ sf0_ sf1_ sf2_;try simp only [zS]
    replace hqT:=FH hqT (ι κ x.o) (ι κ x.m) (τ x.s);refine tk 11 jH ?_
    try simp only [zS]
    refine VP (by kernel_rfl) ?_ _;generalize (((v.setCell ⟨BT,0,ν⟩ (ι κ x.o)).setCell ⟨BT,1,ν⟩ (ι κ x.m)).setCell ⟨BT,2,ν⟩ (τ x.s))=w6 at hqT jH ⊢;have hb6:=AA hb03 jH;have h6s:=hb6.size;clear jH;have q1:=AC hr1 hb6;obtain⟨l0_,l1_,l2_,lf0,lf1,lf2⟩:=AL q1;obtain⟨u0_,u1_,u2_,-⟩:=AL hqT;go_upto_region 11 with (fail)
    have p1:(((w6.setCell ⟨w.heap.size+1,0,ν⟩ (ι κ x.o)).setCell ⟨w.heap.size+1,1,ν⟩ (ι κ x.m)).setCell ⟨w.heap.size+1,2,ν⟩ (τ x.s)).heap[w.heap.size+1]?=ς (γ #[ι κ x.o,ι κ x.m,τ x.s] 60 (0,0)):=FH q1 _ _ _;have p0:(((w6.setCell ⟨w.heap.size+1,0,ν⟩ (ι κ x.o)).setCell ⟨w.heap.size+1,1,ν⟩ (ι κ x.m)).setCell ⟨w.heap.size+1,2,ν⟩ (τ x.s)).heap[w.heap.size]?=ς (γ #[ι κ 0,ι κ 0,τ ⟨#[]⟩] 60 (0,0)):=Af (Af (Af (AC hr0 hb6) (by omega)) (by omega)) (by omega);have pT:(((w6.setCell ⟨w.heap.size+1,0,ν⟩ (ι κ x.o)).setCell ⟨w.heap.size+1,1,ν⟩ (ι κ x.m)).setCell ⟨w.heap.size+1,2,ν⟩ (τ x.s)).heap[BT]?=ς (γ #[ι κ x.o,ι κ x.m,τ x.s] 60 (0,0)):=Af (Af (Af hqT (by omega)) (by omega)) (by omega);have hO7:Sv (((w6.setCell ⟨w.heap.size+1,0,ν⟩ (ι κ x.o)).setCell ⟨w.heap.size+1,1,ν⟩ (ι κ x.m)).setCell ⟨w.heap.size+1,2,ν⟩ (τ x.s)) (w.heap.size+2) g cap L:=CC (CC (CC (AF hOj hb6) (by omega)) (by omega)) (by omega);have hb7:υ w.heap.size w (((w6.setCell ⟨w.heap.size+1,0,ν⟩ (ι κ x.o)).setCell ⟨w.heap.size+1,1,ν⟩ (ι κ x.m)).setCell ⟨w.heap.size+1,2,ν⟩ (τ x.s)):=BM (AA hb hb6) (by omega) _ _ _;have hs7:wr.heap.size<=(((w6.setCell ⟨w.heap.size+1,0,ν⟩ (ι κ x.o)).setCell ⟨w.heap.size+1,1,ν⟩ (ι κ x.m)).setCell ⟨w.heap.size+1,2,ν⟩ (τ x.s)).heap.size:=by rw [Ve,Ve,Ve];exact h6s
    generalize (((w6.setCell ⟨w.heap.size+1,0,ν⟩ (ι κ x.o)).setCell ⟨w.heap.size+1,1,ν⟩ (ι κ x.m)).setCell ⟨w.heap.size+1,2,ν⟩ (τ x.s))=w7 at p1 p0 pT hO7 hb7 hs7 ⊢;clear l0_ l1_ l2_ lf0 lf1 lf2 u0_ u1_ u2_ q1 hqT;have hTg:BT≠g:=by have:=(hO.lt g rfl).2;omega
    refine VH (S:=λx_=>x_.heap[BT]?=ς (γ #[ι κ x.o,ι κ x.m,τ x.s] 60 (0,0))) (by kernel_rfl) (pT) (λjH=>?_);replace p0:w7.drew.heap[w.heap.size]?=_:=p0;replace p1:w7.drew.heap[w.heap.size+1]?=_:=p1;replace hO7:Sv w7.drew (w.heap.size+2) g cap L:=hO7;replace hb7:υ w.heap.size w w7.drew:=AA hb7 (CU _);replace hs7:wr.heap.size<=w7.drew.heap.size:=hs7;generalize w7.drew=v at jH p0 p1 hO7 hb7 hs7 ⊢;refine tk 0 jH ?_;try simp only [zS];refine tk 1 jH ?_;refine tk 2 jH ?_;try simp only [zS];refine tk 3 jH ?_ (hy:=λx jS=>by obtain⟨k0_,k1_,k2_,-⟩:=AL jS;go_simp<;>rfl)
    try simp only [zS]
    refine rd 4 (λK hK=>?_);have hqN:=η v (γ #[ι κ x.o,ι κ x.m,τ x.s] 60);have hbN:=AD v (γ #[ι κ x.o,ι κ x.m,τ x.s] 60);go_simp;refine hK.out _ _ (AC jH hbN) (λjH=>?_);clear hK K;try simp only [zS]
    replace p0:=AC p0 hbN;replace p1:=AC p1 hbN;replace hO7:Sv _ (w.heap.size+2) g cap L:=AF hO7 hbN;replace hb7:=AA hb7 hbN;replace hs7:=VX hs7 hbN.size;generalize v.heap.size=BN at hqN ⊢;generalize v.alloc (γ #[ι κ x.o,ι κ x.m,τ x.s] 60)=v at hqN jH p0 p1 hO7 hb7 hs7 hbN ⊢;clear hbN;refine rd 5 (λK hK=>?_);rw [if_pos (by kernel_rfl)];refine wp_append_lies _ _ _ _ rfl (w.heap.size+2) 60 j3 (χ #[ι κ 0,ι κ 0,τ VG]) 3 32 Tryz.underlying30 HI3.out hz30 hz31 hz32 rfl (by omega) (σ (ς ⟨g,0,ν⟩) j cap) j (BK (L.take j)) rfl (Ey hO7 hjl) ⟨BN,0,ν⟩ 1 1 (v3 x) rfl rfl (VI hqN) (Al [x]) (by omega) (by unfold maxLen;omega) (by omega) (by omega) _ rfl ?_;intro g8 cap8 v hO8 hgr8 hat8 hlt8;have hgl:=(hO7.lt g rfl).1;have hgb:∀ b,b<w.heap.size+2->ς b≠(σ (ς ⟨g,0,ν⟩) j cap).ownBlock:=λb hb e=>by have e3:b=g:=VF e;omega
    have hTne:ς BT≠(σ (ς ⟨g,0,ν⟩) j cap).ownBlock:=λe=>hTg (VF e);refine hK.out _ _ (Bl jH hgr8 hTne) (λjH=>?_);clear hK K hat8;try simp only [zS]
    replace p0:=Bl p0 hgr8 (hgb _ (by omega));replace p1:=Bl p1 hgr8 (hgb _ (by omega));replace hb7:=JI hb7 hgr8 (λy hy=>hgb _ (by omega));replace hs7:=VX hs7 hgr8.size;clear hgr8;refine tk 6 jH ?_
    try simp only [zS]
    refine VP (by kernel_rfl) ?_ _;obtain⟨e1_,e2_⟩:=Ee (r:=x) hjl hO8;go_wp2;go_roundw
    case rel=>exact⟨k+1,g8,cap8,L.take j ++ [x],x,by omega,by go_num,by rw [e1_],HST.out,e2_,λ_=>by simp,p0,p1,hb7,by omega⟩
    case measure=>simp [VQ];omega
