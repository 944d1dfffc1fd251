import Derived.Test.YtoeencbghldmdaaGreatDoorXi
import Derived.Laws.CopyOwn
import Derived.Deep.RegionLaw
import Derived.Shelf.RegionOpenPlain
import Derived.Lib.AppendZerosOnto
import Derived.Lib.Overlaps
import Derived.Laws.NewBlocks
import Derived.ArgAppend
open Array renaming getElem?_eq_some_iff → VL
open ByteArray renaming empty → VG
open Go renaming Calls → VK, World → ο, bodyPost_ret → VE, heap_alloc_new → η, results_tmp2 → VZ, wpAnyH_done → VP, wp_region_held_drew → VH, Value → VN, cell_of_row → ε, frozen_of_row → ζ, heap_setCell_same → π, results_cell_row → VW
open Go.Ending renaming returned → ρ
open Go.Ground renaming data → φ
open Go.IntKind renaming i64 → κ
open Go.Obj renaming cells → γ
open Go.Op renaming bytesLess → Va
open Go.Operand renaming tmp → δ
open Go.Proofs.Tryz renaming prog → μ
open Go.RowKit renaming Below → υ, intOf → VQ
open Go.Value renaming agg → χ, int → ι, slice → σ, string → τ, tuple → θ
open Go.World renaming size_alloc → ω, size_setCell → Ve
open List renaming length_append → VJ, length_take → VY
open Nat renaming le_refl → VD, le_trans → VX, add_zero → Vf, zero_add → VM
open Option renaming none → ν, some → ς
open Option.some renaming inj → VF
open Or renaming inl → VV, inr → Vb
namespace Go.Proofs.YtoeencbghldmdaaGreatDoor
open Go.RowKit Go.Maps Go.WideMaps
set_option maxRecDepth 20000
set_option maxHeartbeats 16000000
def LK(C:Nat->Clm)(n:Nat)(col:ByteArray)(I:Nat->Itm)(m:Nat):Int:=match BF C col n with
 | none=>3
 | some q=>Om C n I m (C q).t
theorem Mp(ac:Option Addr)(n cc:Nat)(C:Nat->Clm)(mb:Nat)(col:ByteArray)(a:Option Addr)(m c:Nat)(I:Nat->Itm)(w:ο)(hC:CL w ac n C)(hP:PlAt w mb n C)(hdp:∀ k,k<n->AR C (C k).s k=false)(hI:IL w a m I)(hm:m<=100)(hx:ex I m=ς 1)(hcs:col.size<=1048576) :
 VK μ 115 #[.agg #[.slice ac n cc,.map (ς mb)],.string col,.slice a m c] w λe w'=>e=.returned (.int .i64 (LK C n col I m))/\υ w.heap.size w w':=by
 have hb0:=AD w (.cells #[.slice ac n cc,.map (ς mb)] 77);have hq0:=η w (.cells #[.slice ac n cc,.map (ς mb)] 77);obtain⟨m0,m1⟩:=Ag hq0;have hkey:keyOf μ 9 (.string col)=ς (CQ col):=keyOf_string_mk Tryz.underlying9 (by unfold maxLen;omega);have hP1:=hP.later hb0;rcases hq:BF C col n with _ | q
 ·
  have HE:Hid (LK C n col I m=3):=by show _=_;unfold LK;rw [hq]
  have hh:Maps.has (pl C n) (CQ col)=false:=by rw [Hd,Ev,hq];rfl
  go_enter Tryz.func115,Tryz.ntmps115
  go_wp2_with (at_lookup;refine wpList_lookup_own_ok_int _ rfl _ _ 75 rfl 9 3 .i64 Fk Tryz.underlying75 Tryz.underlying3 (IG _) mb n (pl C n) rfl hP1 _ _ rfl hkey ?_;intro cv hat hwc;rw [hh];clear hat hwc)
  go_ret
  exact⟨by rw [HE.out];rfl,hb0⟩
 ·
  have hqn:=(Bz hq).1;have HE:Hid (LK C n col I m=Om C n I m (C q).t):=by show _=_;unfold LK;rw [hq]
  have hh:Maps.has (pl C n) (CQ col)=true:=by rw [Hd,Ev,hq];rfl
  have HAT:Hid ((pl C n).atKey (CQ col) (.lit (.int .i64 0))=.lit (.int .i64 q)):=Jn hdp hq _;have HCT:Hid (∀ v,υ w.heap.size w v->VK μ 149 #[.agg #[.slice ac n cc,.map (ς mb)],.slice a m c,.int .i64 (C q).t] v λe w'=>e=.returned (.int .i64 (Om C n I m (C q).t))/\υ v.heap.size v w'):=λv hv=>Ly ac n cc C mb a m c I (C q).t v (hC.later hv) (hP.later hv) hdp (hI.later hv) hm hx;obtain⟨b,off,rfl,d0,d1,hs⟩:=hC.later hb0 q hqn;have hq0':(0:Int)<=(q:Int):=by omega
  have hqi:(q:Int)<(n:Int):=by omega
  generalize Om C n I m (C q).t=ctv at HE HCT;generalize (C q).t=ctt at d1 HCT;go_enter Tryz.func115,Tryz.ntmps115
  go_upto_region 4 with (at_lookup;refine wpList_lookup_own_ok_int _ rfl _ _ 75 rfl 9 3 .i64 Fk Tryz.underlying75 Tryz.underlying3 (IG _) mb n (pl C n) rfl hP1 _ _ rfl hkey ?_;intro cv hat hwc;rw [hh];rw [HAT.out] at hat;obtain rfl:(q:Int)=cv:=(by simpa using hat);clear hat hwc)
  refine VH (S:=λx=>υ (w.alloc (.cells #[.slice (ς ⟨b,off,ν⟩) n cc,.map (ς mb)] 77)).heap.size (w.alloc (.cells #[.slice (ς ⟨b,off,ν⟩) n cc,.map (ς mb)] 77)) x) (by kernel_rfl) (CU _) (λjH=>?_);refine tk 0 jH ?_ (hy:=λx jS=>by obtain⟨k0,k1⟩:=Ag (AC hq0 jS);have k2:=AB jS d1;go_simp<;>rfl)
  try simp only [zS]
  refine tk 1 jH ?_;refine tk 2 jH ?_;try simp only [zS];refine tk 3 jH ?_ (hy:=λx jS=>by obtain⟨k0,k1⟩:=Ag (AC hq0 jS);have k2:=AB jS d1;go_simp<;>rfl)
  try simp only [zS]
  refine tk 4 jH ?_;try simp only [zS];refine tk 5 jH ?_;try simp only [zS];refine tk 6 jH ?_;refine tk 7 jH ?_ (hy:=λx jS=>by obtain⟨k0,k1⟩:=Ag (AC hq0 jS);have k2:=AB jS d1;go_simp<;>rfl)
  try simp only [zS]
  refine rd 8 (λK hK=>?_);go_simp;refine(HCT.out _ (AA hb0 jH)).mono ?_;rintro e w3 ⟨rfl,hb3⟩;refine hK.out _ _ (AA jH hb3) (λjH=>?_);clear hK K;try simp only [zS]
  refine tk 9 jH ?_
  try simp only [zS]
  refine VP (by kernel_rfl) ?_ _;go_wp2;go_ret
  exact⟨by rw [HE.out];rfl,AA hb0 jH⟩
theorem OP(ac:Option Addr)(n cc:Nat)(C:Nat->Clm)(mb:Nat)(tb:ByteArray)(a2:Option Addr)(n2 c2:Nat)(a3:Option Addr)(n3 c3:Nat)(col:ByteArray)(a5:Option Addr)(n5 c5:Nat)(a6:Option Addr)(n6 c6:Nat)(a7:Option Addr)(n7 c7:Nat)(V W:Nat->Itm)(w:ο)(hC:CL w ac n C)(hP:PlAt w mb n C)(hdp:∀ k,k<n->AR C (C k).s k=false)(hW:IL w a6 n6 W)(hok:AI W n6=true)(hV:IL w a3 n3 V)(hn:n<=1048576)(hn3:n3<=1048576) :
 VK μ 79 #[χ #[σ ac n cc,.map (ς mb)],χ #[ι κ 2,τ tb,σ a2 n2 c2,σ a3 n3 c3,τ col,σ a5 n5 c5,σ a6 n6 c6,σ a7 n7 c7]] w λe w'=>e=ρ (ι κ (if BA n3 n V C=false then 4 else CM C n W n6))/\υ w.heap.size w w':=by
 have hbU:υ w.heap.size w ((w.alloc (γ #[σ ac n cc,.map (ς mb)] 77)).alloc (γ #[ι κ 2,τ tb,σ a2 n2 c2,σ a3 n3 c3,τ col,σ a5 n5 c5,σ a6 n6 c6,σ a7 n7 c7] 34)):=AA (AD _ _) (AD _ _);have hq0:((w.alloc (γ #[σ ac n cc,.map (ς mb)] 77)).alloc (γ #[ι κ 2,τ tb,σ a2 n2 c2,σ a3 n3 c3,τ col,σ a5 n5 c5,σ a6 n6 c6,σ a7 n7 c7] 34)).heap[w.heap.size]?=ς (γ #[σ ac n cc,.map (ς mb)] 77 (0,0)):=AC (η w _) (AD _ _);have hq1:((w.alloc (γ #[σ ac n cc,.map (ς mb)] 77)).alloc (γ #[ι κ 2,τ tb,σ a2 n2 c2,σ a3 n3 c3,τ col,σ a5 n5 c5,σ a6 n6 c6,σ a7 n7 c7] 34)).heap[w.heap.size+1]?=ς (γ #[ι κ 2,τ tb,σ a2 n2 c2,σ a3 n3 c3,τ col,σ a5 n5 c5,σ a6 n6 c6,σ a7 n7 c7] 34 (0,0)):=by
  have q:=η (w.alloc (γ #[σ ac n cc,.map (ς mb)] 77)) (γ #[ι κ 2,τ tb,σ a2 n2 c2,σ a3 n3 c3,τ col,σ a5 n5 c5,σ a6 n6 c6,σ a7 n7 c7] 34);rw [ω] at q;exact q
 have HWH:Hid (∀ v,υ w.heap.size w v->VK μ 117 #[χ #[σ ac n cc,.map (ς mb)],σ a6 n6 c6] v λe w'=>e=ρ (ι κ (CM C n W n6))/\υ v.heap.size v w'):=λv hv=>Fo ac n cc C mb a6 n6 c6 W v (hC.later hv) (hP.later hv) hdp (hW.later hv) hok;generalize CM C n W n6=cw at HWH ⊢;obtain⟨s0,s1⟩:=Ag hq0;obtain⟨x0,-,-,x3,x4,x5,x6,-⟩:=AJ hq1;have HT:=Hb a3 n3 c3 V ac n cc C ((w.alloc (γ #[σ ac n cc,.map (ς mb)] 77)).alloc (γ #[ι κ 2,τ tb,σ a2 n2 c2,σ a3 n3 c3,τ col,σ a5 n5 c5,σ a6 n6 c6,σ a7 n7 c7] 34)) (hV.later hbU) (hC.later hbU) hn3 hn;rcases ht:BA n3 n V C
 ·
  rw [ht] at HT;go_enter Tryz.func79,Tryz.ntmps79
  go_wp2_with (first | (go_at_call 114;refine HT.mono ?_;rintro e w1 ⟨rfl,hb1⟩) | go_in)
  go_ret
  exact⟨rfl,AA hbU hb1⟩
 ·
  rw [ht] at HT;go_enter Tryz.func79,Tryz.ntmps79
  go_wp2_with (first | (go_at_call 114;refine HT.mono ?_;rintro e w1 ⟨rfl,hb1⟩;obtain⟨t0_,t1_⟩:=Ag (AC hq0 hb1);obtain⟨-,-,-,-,-,-,u6,-⟩:=AJ (AC hq1 hb1)) | (go_at_call 117;refine(HWH.out _ (AA hbU hb1)).mono ?_;rintro e w9 ⟨rfl,hb9⟩) | go_in)
  go_ret
  exact⟨rfl,AA (AA hbU hb1) hb9⟩
theorem OO(ac:Option Addr)(n cc:Nat)(C:Nat->Clm)(mb:Nat)(tb:ByteArray)(a2:Option Addr)(n2 c2:Nat)(a3:Option Addr)(n3 c3:Nat)(col:ByteArray)(a5:Option Addr)(n5 c5:Nat)(a6:Option Addr)(n6 c6:Nat)(a7:Option Addr)(n7 c7:Nat)(E W:Nat->Itm)(w:ο)(hC:CL w ac n C)(hP:PlAt w mb n C)(hdp:∀ k,k<n->AR C (C k).s k=false)(hW:IL w a6 n6 W)(hok:AI W n6=true)(hE:IL w a5 n5 E)(hm:n5<=100)(hx:ex E n5=ς 1)(hcs:col.size<=1048576) :
 VK μ 79 #[χ #[σ ac n cc,.map (ς mb)],χ #[ι κ 3,τ tb,σ a2 n2 c2,σ a3 n3 c3,τ col,σ a5 n5 c5,σ a6 n6 c6,σ a7 n7 c7]] w λe w'=>e=ρ (ι κ (if LK C n col E n5=0 then CM C n W n6 else LK C n col E n5))/\υ w.heap.size w w':=by
 have hbU:υ w.heap.size w ((w.alloc (γ #[σ ac n cc,.map (ς mb)] 77)).alloc (γ #[ι κ 3,τ tb,σ a2 n2 c2,σ a3 n3 c3,τ col,σ a5 n5 c5,σ a6 n6 c6,σ a7 n7 c7] 34)):=AA (AD _ _) (AD _ _);have hq0:((w.alloc (γ #[σ ac n cc,.map (ς mb)] 77)).alloc (γ #[ι κ 3,τ tb,σ a2 n2 c2,σ a3 n3 c3,τ col,σ a5 n5 c5,σ a6 n6 c6,σ a7 n7 c7] 34)).heap[w.heap.size]?=ς (γ #[σ ac n cc,.map (ς mb)] 77 (0,0)):=AC (η w _) (AD _ _);have hq1:((w.alloc (γ #[σ ac n cc,.map (ς mb)] 77)).alloc (γ #[ι κ 3,τ tb,σ a2 n2 c2,σ a3 n3 c3,τ col,σ a5 n5 c5,σ a6 n6 c6,σ a7 n7 c7] 34)).heap[w.heap.size+1]?=ς (γ #[ι κ 3,τ tb,σ a2 n2 c2,σ a3 n3 c3,τ col,σ a5 n5 c5,σ a6 n6 c6,σ a7 n7 c7] 34 (0,0)):=by
  have q:=η (w.alloc (γ #[σ ac n cc,.map (ς mb)] 77)) (γ #[ι κ 3,τ tb,σ a2 n2 c2,σ a3 n3 c3,τ col,σ a5 n5 c5,σ a6 n6 c6,σ a7 n7 c7] 34);rw [ω] at q;exact q
 have HWH:Hid (∀ v,υ w.heap.size w v->VK μ 117 #[χ #[σ ac n cc,.map (ς mb)],σ a6 n6 c6] v λe w'=>e=ρ (ι κ (CM C n W n6))/\υ v.heap.size v w'):=λv hv=>Fo ac n cc C mb a6 n6 c6 W v (hC.later hv) (hP.later hv) hdp (hW.later hv) hok;generalize CM C n W n6=cw at HWH ⊢;obtain⟨s0,s1⟩:=Ag hq0;obtain⟨x0,-,-,x3,x4,x5,x6,-⟩:=AJ hq1;have HT:=Mp ac n cc C mb col a5 n5 c5 E ((w.alloc (γ #[σ ac n cc,.map (ς mb)] 77)).alloc (γ #[ι κ 3,τ tb,σ a2 n2 c2,σ a3 n3 c3,τ col,σ a5 n5 c5,σ a6 n6 c6,σ a7 n7 c7] 34)) (hC.later hbU) (hP.later hbU) hdp (hE.later hbU) hm hx hcs;generalize LK C n col E n5=cs at HT ⊢;by_cases hc:cs=0
 ·
  subst hc;go_enter Tryz.func79,Tryz.ntmps79
  go_wp2_with (first | (go_at_call 115;refine HT.mono ?_;rintro e w1 ⟨rfl,hb1⟩;obtain⟨t0_,t1_⟩:=Ag (AC hq0 hb1);obtain⟨-,-,-,-,-,-,u6,-⟩:=AJ (AC hq1 hb1)) | (go_at_call 117;refine(HWH.out _ (AA hbU hb1)).mono ?_;rintro e w9 ⟨rfl,hb9⟩) | go_in)
  go_ret
  exact⟨rfl,AA (AA hbU hb1) hb9⟩
 ·
  have n0:(cs != 0)=true:=by simpa using hc
  go_enter Tryz.func79,Tryz.ntmps79
  go_wp2_with (first | (go_at_call 115;refine HT.mono ?_;rintro e w1 ⟨rfl,hb1⟩) | go_in)
  go_ret
  exact⟨rfl,AA hbU hb1⟩
theorem ON(ac:Option Addr)(n cc:Nat)(C:Nat->Clm)(mb:Nat)(tb:ByteArray)(a2:Option Addr)(n2 c2:Nat)(a3:Option Addr)(n3 c3:Nat)(col:ByteArray)(a5:Option Addr)(n5 c5:Nat)(a6:Option Addr)(n6 c6:Nat)(a7:Option Addr)(n7 c7:Nat)(W:Nat->Itm)(w:ο)(hC:CL w ac n C)(hP:PlAt w mb n C)(hdp:∀ k,k<n->AR C (C k).s k=false)(hW:IL w a6 n6 W)(hok:AI W n6=true)  :
 VK μ 79 #[χ #[σ ac n cc,.map (ς mb)],χ #[ι κ 4,τ tb,σ a2 n2 c2,σ a3 n3 c3,τ col,σ a5 n5 c5,σ a6 n6 c6,σ a7 n7 c7]] w λe w'=>e=ρ (ι κ (CM C n W n6))/\υ w.heap.size w w':=by
 have hbU:υ w.heap.size w ((w.alloc (γ #[σ ac n cc,.map (ς mb)] 77)).alloc (γ #[ι κ 4,τ tb,σ a2 n2 c2,σ a3 n3 c3,τ col,σ a5 n5 c5,σ a6 n6 c6,σ a7 n7 c7] 34)):=AA (AD _ _) (AD _ _);have hq0:((w.alloc (γ #[σ ac n cc,.map (ς mb)] 77)).alloc (γ #[ι κ 4,τ tb,σ a2 n2 c2,σ a3 n3 c3,τ col,σ a5 n5 c5,σ a6 n6 c6,σ a7 n7 c7] 34)).heap[w.heap.size]?=ς (γ #[σ ac n cc,.map (ς mb)] 77 (0,0)):=AC (η w _) (AD _ _);have hq1:((w.alloc (γ #[σ ac n cc,.map (ς mb)] 77)).alloc (γ #[ι κ 4,τ tb,σ a2 n2 c2,σ a3 n3 c3,τ col,σ a5 n5 c5,σ a6 n6 c6,σ a7 n7 c7] 34)).heap[w.heap.size+1]?=ς (γ #[ι κ 4,τ tb,σ a2 n2 c2,σ a3 n3 c3,τ col,σ a5 n5 c5,σ a6 n6 c6,σ a7 n7 c7] 34 (0,0)):=by
  have q:=η (w.alloc (γ #[σ ac n cc,.map (ς mb)] 77)) (γ #[ι κ 4,τ tb,σ a2 n2 c2,σ a3 n3 c3,τ col,σ a5 n5 c5,σ a6 n6 c6,σ a7 n7 c7] 34);rw [ω] at q;exact q
 have HWH:Hid (∀ v,υ w.heap.size w v->VK μ 117 #[χ #[σ ac n cc,.map (ς mb)],σ a6 n6 c6] v λe w'=>e=ρ (ι κ (CM C n W n6))/\υ v.heap.size v w'):=λv hv=>Fo ac n cc C mb a6 n6 c6 W v (hC.later hv) (hP.later hv) hdp (hW.later hv) hok;generalize CM C n W n6=cw at HWH ⊢;obtain⟨s0,s1⟩:=Ag hq0;obtain⟨x0,-,-,x3,x4,x5,x6,-⟩:=AJ hq1;go_enter Tryz.func79,Tryz.ntmps79
 go_wp2_with (go_at_call 117;refine(HWH.out _ hbU).mono ?_;rintro e w9 ⟨rfl,hb9⟩)
 go_ret
 exact⟨rfl,AA hbU hb9⟩
def PD(n:Nat)(T:Nat->Td)(tb:ByteArray)(code:Nat->Int):Int×Int:=match An T tb n with
 | none=>(0,1)
 | some j=>((j:Int),code j)
theorem Mn(a:Option Addr)(n c:Nat)(T:Nat->Td)(k0:Int)(tb:ByteArray)(a2:Option Addr)(n2 c2:Nat)(a3:Option Addr)(n3 c3:Nat)(col:ByteArray)(a5:Option Addr)(n5 c5:Nat)(a6:Option Addr)(n6 c6:Nat)(a7:Option Addr)(n7 c7:Nat)(code:Nat->Int)(w:ο)(hT:TL w a n T)(hn:n<=1048576)(hok:A2 n T=true)
 (hcs:∀ j,An T tb n=ς j->∀ (v:ο) (ac:Option Addr) (cc pb:Nat),υ w.heap.size w v->CL v ac (T j).n (T j).C->PlAt v pb (T j).n (T j).C->(∀ k,k<(T j).n->AR (T j).C ((T j).C k).s k=false)->VK μ 79 #[χ #[σ ac (T j).n cc,.map (ς pb)],χ #[ι κ k0,τ tb,σ a2 n2 c2,σ a3 n3 c3,τ col,σ a5 n5 c5,σ a6 n6 c6,σ a7 n7 c7]] v λe w'=>e=ρ (ι κ (code j))/\υ v.heap.size v w') :
 VK μ 33 #[χ #[σ a n c],χ #[ι κ k0,τ tb,σ a2 n2 c2,σ a3 n3 c3,τ col,σ a5 n5 c5,σ a6 n6 c6,σ a7 n7 c7]] w λe w'=>e=ρ (θ #[ι κ (PD n T tb code).1,ι κ (PD n T tb code).2])/\υ w.heap.size w w':=by
 have HOK:Hid (A2 n T=true):=hok;clear hok;have hbU:υ w.heap.size w ((w.alloc (γ #[σ a n c] 28)).alloc (γ #[ι κ k0,τ tb,σ a2 n2 c2,σ a3 n3 c3,τ col,σ a5 n5 c5,σ a6 n6 c6,σ a7 n7 c7] 34)):=AA (AD _ _) (AD _ _);have hq0:((w.alloc (γ #[σ a n c] 28)).alloc (γ #[ι κ k0,τ tb,σ a2 n2 c2,σ a3 n3 c3,τ col,σ a5 n5 c5,σ a6 n6 c6,σ a7 n7 c7] 34)).heap[w.heap.size]?=ς (γ #[σ a n c] 28 (0,0)):=AC (η w _) (AD _ _);have hq1:((w.alloc (γ #[σ a n c] 28)).alloc (γ #[ι κ k0,τ tb,σ a2 n2 c2,σ a3 n3 c3,τ col,σ a5 n5 c5,σ a6 n6 c6,σ a7 n7 c7] 34)).heap[w.heap.size+1]?=ς (γ #[ι κ k0,τ tb,σ a2 n2 c2,σ a3 n3 c3,τ col,σ a5 n5 c5,σ a6 n6 c6,σ a7 n7 c7] 34 (0,0)):=by
  have q:=η (w.alloc (γ #[σ a n c] 28)) (γ #[ι κ k0,τ tb,σ a2 n2 c2,σ a3 n3 c3,τ col,σ a5 n5 c5,σ a6 n6 c6,σ a7 n7 c7] 34);rw [ω] at q;exact q
 obtain⟨p0,-⟩:=AG hq0;obtain⟨-,p1,-⟩:=AJ hq1;have HF:=OH a n c T tb ((w.alloc (γ #[σ a n c] 28)).alloc (γ #[ι κ k0,τ tb,σ a2 n2 c2,σ a3 n3 c3,τ col,σ a5 n5 c5,σ a6 n6 c6,σ a7 n7 c7] 34)) (hT.later hbU) hn HOK.out;rcases ht:An T tb n with _ | j
 ·
  have HA:Hid (PD n T tb code=(0,1)):=by show _=_;unfold PD;rw [ht]
  rw [ht] at HF;simp only [Option.isSome] at HF
  clear ht hcs;go_enter Tryz.func33,Tryz.ntmps33
  go_wp2_with (go_at_call 78;refine HF.mono ?_;rintro e w1 ⟨i,rfl,-,-,hb1⟩)
  refine VE (VZ rfl _ _ _) rfl ⟨by rw [HA.out];rfl,AA hbU hb1⟩
 ·
  have hj:=(A4 ht).1;have hdj:=Fb ((Ax HOK.out).2 j hj);have hNj:=Bi ((Ax HOK.out).2 j hj);have HA:Hid (PD n T tb code=((j:Int),code j)):=by show _=_;unfold PD;rw [ht]
  have HCS:=hcs j ht;rw [ht] at HF;simp only [Option.isSome] at HF
  clear ht hcs;obtain⟨dn,hdn⟩:∃ x,(T j).n=x:=⟨_,rfl⟩;obtain⟨dC,hdC⟩:∃ x,(T j).C=x:=⟨_,rfl⟩;obtain⟨cj,hcj⟩:∃ x,code j=x:=⟨_,rfl⟩;have hn1:=hNj.n1;have hn0:=hNj.n0;rw [hdn] at hn1 hn0 hdj;rw [hdC] at hdj;rw [hdn,hdC,hcj] at HCS;rw [hcj] at HA;have HDN:Hid ((T j).n=dn/\(T j).C=dC):=⟨hdn,hdC⟩;have HCS2:Hid (∀ (v:ο) (ac:Option Addr) (cc pb:Nat),υ w.heap.size w v->CL v ac dn dC->PlAt v pb dn dC->VK μ 79 #[χ #[σ ac dn cc,.map (ς pb)],χ #[ι κ k0,τ tb,σ a2 n2 c2,σ a3 n3 c3,τ col,σ a5 n5 c5,σ a6 n6 c6,σ a7 n7 c7]] v λe w'=>e=ρ (ι κ cj)/\υ v.heap.size v w'):=λv ac cc pb h1 h2 h3=>HCS v ac cc pb h1 h2 h3 hdj;clear hdn hdC hcj hdj hNj HCS;have hjn:(j:Int)<n:=by omega
  have hj0:(0:Int)<=j:=by omega
  go_enter Tryz.func33,Tryz.ntmps33
  go_upto_region 4 with (go_at_call 78;refine HF.mono ?_;rintro e w1 ⟨i,rfl,-,hij,hb1⟩;obtain rfl:=hij j rfl)
  have hb10:=AA hbU hb1;have r0_:=AC hq0 hb1;have r1_:=AC hq1 hb1;obtain⟨bt,offt,ac,cc,ar,cr,rfl,-,e1,-,hC,-,-⟩:=hT.later hb10 i hj;rw [HDN.out.1] at e1 hC;rw [HDN.out.2] at hC;refine VH (S:=λx=>υ w1.heap.size w1 x) (by kernel_rfl) (CU _) (λjH=>?_);refine tk 0 jH ?_;try simp only [zS];refine tk 1 jH ?_;try simp only [zS];refine tk 2 jH ?_ (hy:=λx jS=>by obtain⟨k0_,-⟩:=AG (AC r0_ jS);have k1:=AB jS e1;obtain⟨j0_,j1_,j2_,j3_,j4_,j5_,j6_,j7_⟩:=AJ (AC r1_ jS);go_simp<;>rfl)
  try simp only [zS]
  refine tk 3 jH ?_;try simp only [zS];refine tk 4 jH ?_;refine tk 5 jH ?_;try simp only [zS];refine tk 6 jH ?_ (hy:=λx jS=>by obtain⟨k0_,-⟩:=AG (AC r0_ jS);have k1:=AB jS e1;obtain⟨j0_,j1_,j2_,j3_,j4_,j5_,j6_,j7_⟩:=AJ (AC r1_ jS);go_simp<;>rfl)
  try simp only [zS]
  refine tk 8 jH ?_ (hy:=λx jS=>by obtain⟨k0_,-⟩:=AG (AC r0_ jS);have k1:=AB jS e1;obtain⟨j0_,j1_,j2_,j3_,j4_,j5_,j6_,j7_⟩:=AJ (AC r1_ jS);go_simp<;>rfl)
  try simp only [zS]
  refine rd 7 (λK hK=>?_);go_simp;refine(Ep ac dn cc dC _ (hC.later jH) hn1).mono ?_;rintro e w2 ⟨rfl,hP2,hb2⟩;have hH2:=AA jH hb2;refine hK.out _ _ (hH2) (λjH=>?_);clear hK K;try simp only [zS]
  refine rd 9 (λK hK=>?_);go_simp;refine(HCS2.out _ ac cc _ (AA hb10 jH) (hC.later jH) hP2).mono ?_;rintro e w3 ⟨rfl,hb3⟩;refine hK.out _ _ (AA jH hb3) (λjH=>?_);clear hK K;try simp only [zS]
  refine tk 10 jH ?_;try simp only [zS];refine tk 11 jH ?_
  try simp only [zS]
  refine VP (by kernel_rfl) ?_ _;go_wp2;refine VE (VZ rfl _ _ _) rfl ⟨by rw [HA.out];rfl,AA hb10 jH⟩
structure Tb where
 s:ByteArray
 n:Nat
 C:Nat->Clm
 bc:Nat
 cc:Nat
 br:Option Nat
 cr:Nat
 L:List Ro
def b0:Tb:=⟨⟨#[]⟩,0,λ_=>⟨⟨#[]⟩,0⟩,0,0,ν,0,[]⟩
def Tb.ar(t:Tb):Option Addr:=t.br.map λb=>⟨b,0,ν⟩
def Tb.bl(t:Tb):List Nat:=t.bc :: (t.br.toList ++ t.L.map Ro.b)
structure TbAt(w:ο)(t:Tb):Prop where
 col:∃ cur,w.heap[t.bc]?=ς (γ cur 58 (0,0))/\t.n * 2<=cur.size/\t.n<=t.cc
 cl:CL w (ς ⟨t.bc,0,ν⟩) t.n t.C
 ros:∀ r∈t.L,RoAt w r
 row:t.L.length=0∨∃ b cur,t.br=ς b/\w.heap[b]?=ς (γ cur 30 (0,0))/\∀ j,j<t.L.length->cur[j]?=ς (t.L.getD j o0).v
structure TbOf(t:Tb)(d:Td):Prop where
 s:t.s=d.s
 n:t.n=d.n
 C:t.C=d.C
 L:t.L.map Ro.x=(List.range d.r).map (λi=>(d.m i,d.R i))
def DbAt(w:ο)(g:Nat)(A:List Tb):Prop:=
 (∃ cur,w.heap[g]?=ς (γ cur 67 (0,0))/\A.length * 3<=cur.size/\∀ i,i<A.length->cur[i * 3]?=ς (τ (A.getD i b0).s)/\cur[i * 3+1]?=ς (σ (ς ⟨(A.getD i b0).bc,0,ν⟩) (A.getD i b0).n (A.getD i b0).cc)/\cur[i * 3+2]?=ς (σ (A.getD i b0).ar (A.getD i b0).L.length (A.getD i b0).cr))/\(∀ t∈A,TbAt w t)/\(g :: A.flatMap Tb.bl).Nodup
theorem CL.blk{w w':ο}{b n:Nat}{C:Nat->Clm}{cur:Array VN}{t:TypeId}{f:Nat×Nat}(h:CL w (ς ⟨b,0,ν⟩) n C)(h1:w.heap[b]?=ς (γ cur t f))(h2:w'.heap[b]?=ς (γ cur t f)):CL w' (ς ⟨b,0,ν⟩) n C:=λj hj=>by
 obtain⟨b',off,e,c0,c1,hs⟩:=h j hj;injection e with e;injection e with e1 e2 e3;subst e1 e2;have hh:w'.heap[b]?=w.heap[b]?:=h2.trans h1.symm;exact⟨b,0,rfl,(World.cell?_of_block hh).trans c0,(World.cell?_of_block hh).trans c1,hs⟩
theorem TbAt.all{w w':ο}{t:Tb}(h:TbAt w t)(k:BlkC w w'):TbAt w' t:=by
 obtain⟨⟨cur,h1,h2⟩,h3,h4,h5⟩:=h;refine⟨⟨cur,k.2 _ _ _ _ h1,h2⟩,h3.blk h1 (k.2 _ _ _ _ h1),λr hr=>(h4 r hr).all k,?_⟩;rcases h5 with h5 | ⟨b,cur2,h6,h7,h8⟩
 · exact VV h5
 · exact Vb ⟨b,cur2,h6,k.2 _ _ _ _ h7,h8⟩
def BlkX(g:Nat)(w w':ο):Prop:=w.heap.size<=w'.heap.size/\∀ (b:Nat) cur t f,b≠g->w.heap[b]?=ς (Obj.cells cur t f)->w'.heap[b]?=ς (Obj.cells cur t f)
theorem BlkX.of{g:Nat}{w w':ο}(h:BlkC w w'):BlkX g w w':=⟨h.1,λb cur t f _ hb=>h.2 b cur t f hb⟩
theorem BlkX.trans{g:Nat}{a b c:ο}(h:BlkX g a b)(k:BlkX g b c):BlkX g a c:=⟨VX h.1 k.1,λx cur t f hx hb=>k.2 x cur t f hx (h.2 x cur t f hx hb)⟩
theorem BlkX.set(g i:Nat)(w:ο)(v:VN):BlkX g w (w.setCell ⟨g,i,ν⟩ v):=⟨by rw [Ve];exact VD _,λ_ _ _ _ hne hb=>Af hb hne⟩
theorem RoAt.allX{g:Nat}{w w':ο}{r:Ro}(h:RoAt w r)(k:BlkX g w w')(hg:r.b≠g):RoAt w' r:=by
 obtain⟨⟨cur,h1,h2⟩,h3⟩:=h;refine⟨⟨cur,k.2 _ _ _ _ hg h1,h2⟩,λj hj=>?_⟩;obtain⟨b,off,e,c0,c1,c2,hs⟩:=h3 j hj;injection e with e;injection e with e1 e2 e3;subst e1 e2;have hb:w'.heap[r.b]?=w.heap[r.b]?:=(k.2 _ _ _ _ hg h1).trans h1.symm;exact⟨r.b,0,rfl,(World.cell?_of_block hb).trans c0,(World.cell?_of_block hb).trans c1,(World.cell?_of_block hb).trans c2,hs⟩
theorem TbAt.allX{g:Nat}{w w':ο}{t:Tb}(h:TbAt w t)(k:BlkX g w w')(hg:g ∉ t.bl):TbAt w' t:=by
 obtain⟨⟨cur,h1,h2⟩,h3,h4,h5⟩:=h;have e1:t.bc≠g:=λe=>hg (by unfold Tb.bl;rw [e];exact List.mem_cons_self);refine⟨⟨cur,k.2 _ _ _ _ e1 h1,h2⟩,h3.blk h1 (k.2 _ _ _ _ e1 h1),λr hr=>(h4 r hr).allX k (λe=>hg ?_),?_⟩
 · unfold Tb.bl;rw [←e];exact List.mem_cons_of_mem _ (List.mem_append_right _ (List.mem_map_of_mem hr))
 rcases h5 with h5 | ⟨b,cur2,h6,h7,h8⟩
 · exact VV h5
 · refine Vb ⟨b,cur2,h6,k.2 _ _ _ _ (λe=>hg ?_) h7,h8⟩;unfold Tb.bl;rw [h6,←e];exact List.mem_cons_of_mem _ (List.mem_append_left _ (by simp))
def H7(cur:Array VN)(k:Nat)(x y z:VN):Array VN:=((cur.setIfInBounds (k * 3) x).setIfInBounds (k * 3+1) y).setIfInBounds (k * 3+2) z
theorem MV(cur:Array VN)(k:Nat)(x y z:VN):(H7 cur k x y z).size=cur.size:=by simp [H7]
theorem Gx{cur:Array VN}{k i e:Nat}{x y z:VN}(h:i<k)(he:e<3):(H7 cur k x y z)[i * 3+e]?=cur[i * 3+e]?:=by
 unfold H7;rw [Array.getElem?_setIfInBounds_ne (by omega),Array.getElem?_setIfInBounds_ne (by omega),Array.getElem?_setIfInBounds_ne (by omega)]
theorem NR{cur:Array VN}{k:Nat}{x y z:VN}(h:k * 3+2<cur.size):(H7 cur k x y z)[k * 3]?=ς x/\(H7 cur k x y z)[k * 3+1]?=ς y/\(H7 cur k x y z)[k * 3+2]?=ς z:=by
 unfold H7;refine⟨?_,?_,?_⟩
 · rw [Array.getElem?_setIfInBounds_ne (by omega),Array.getElem?_setIfInBounds_ne (by omega)];simp [show k * 3<cur.size by omega]
 · rw [Array.getElem?_setIfInBounds_ne (by omega)];simp [show k * 3+1<cur.size by omega]
 · simp [show k * 3+2<cur.size by omega]
theorem Nb{w:ο}{g k:Nat}{cur:Array VN}{t:TypeId}{x y z:VN}(h:w.heap[g]?=ς (γ cur t (0,0))):(((w.setCell ⟨g,k * 3,ν⟩ x).setCell ⟨g,k * 3+1,ν⟩ y).setCell ⟨g,k * 3+2,ν⟩ z).heap[g]?=ς (γ (H7 cur k x y z) t (0,0)):=
 π _ _ _ _ _ _ (π _ _ _ _ _ _ (π _ _ _ _ _ _ h))
theorem Oy(w:ο)(g k:Nat)(x y z:VN):BlkX g w (((w.setCell ⟨g,k * 3,ν⟩ x).setCell ⟨g,k * 3+1,ν⟩ y).setCell ⟨g,k * 3+2,ν⟩ z):=((BlkX.set _ _ _ _).trans (BlkX.set _ _ _ _)).trans (BlkX.set _ _ _ _)
theorem Jt{w:ο}{G g cap n:Nat}{xs:List VN}(h:w.ownsRow G 58 2 (σ (ς ⟨g,0,ν⟩) n cap) n xs):∃ cur,w.heap[g]?=ς (γ cur 58 (0,0))/\n * 2<=cur.size:=by
 obtain⟨-,h | ⟨g',cap',cur,e,-,h1,h2,-,h3,-⟩⟩:=h
 · cases h.1
 ·
  obtain⟨rfl,rfl⟩:g=g'/\cap=cap':=by simpa using e
  exact⟨cur,h1,by rw [h3];exact Nat.mul_le_mul_right 2 h2⟩
theorem KI{A:List Tb}{t:Tb}{k:Nat}(h:A.length=k):(A ++ [t]).getD k b0=t:=by subst h;simp
theorem KJ{A:List Tb}{t:Tb}{j:Nat}(h:j<A.length):(A ++ [t]).getD j b0=A.getD j b0:=by simp [List.getElem?_append_left h]
def VC(w:ο)(n:Nat)(T:Nat->Td)(e:Ending)(w':ο):Prop:=∃ g A,e=ρ (χ #[σ (ς ⟨g,0,ν⟩) n n])/\DbAt w' g A/\A.length=n/\(∀ i,i<n->TbOf (A.getD i b0) (T i))/\(∀ b∈g :: A.flatMap Tb.bl,w.heap.size<=b/\b<w'.heap.size)/\(∀ cur,w'.heap[g]?=ς (γ cur 67 (0,0))->cur.size=n * 3)/\υ w.heap.size w w'
theorem TT(a:Option Addr)(n c:Nat)(T:Nat->Td)(w:ο)(hT:TL w a n T)(hn:n<=100000)(hN:∀ k,k<n->0<(T k).n/\∀ i,i<(T k).r->0<(T k).m i) :
 VK μ 30 #[χ #[σ a n c]] w (VC w n T):=by
 have HNN:Hid (∀ k,k<n->0<(T k).n/\∀ i,i<(T k).r->0<(T k).m i):=hN;have hmk:∀ w:ο,(Instr.makeSlice 26 (ι κ (n:Int)) (ι κ (n:Int))).run μ w=.ok (σ (ς ⟨w.heap.size,0,ν⟩) n n) (w.alloc (γ (madeCells #[τ VG,σ ν 0 0,σ ν 0 0] (n * 3)) 67)):=λw=>Ej (t:=26) Tryz.underlying26 Tryz.infoTab n (by omega) (by omega) w;have hs1:(w.alloc (γ #[σ a n c] 28)).heap.size=w.heap.size+1:=ω _ _;have hs2:((w.alloc (γ #[σ a n c] 28)).alloc (γ #[σ ν 0 0] 28)).heap.size=w.heap.size+1+1:=by rw [ω,hs1]
 have hbW:υ w.heap.size w (((w.alloc (γ #[σ a n c] 28)).alloc (γ #[σ ν 0 0] 28)).alloc (γ (madeCells #[τ VG,σ ν 0 0,σ ν 0 0] (n * 3)) 67)):=Ay _ _ _ _;have hr0:(((w.alloc (γ #[σ a n c] 28)).alloc (γ #[σ ν 0 0] 28)).alloc (γ (madeCells #[τ VG,σ ν 0 0,σ ν 0 0] (n * 3)) 67)).heap[w.heap.size]?=ς (γ #[σ a n c] 28 (0,0)):=AC (AC (η w _) (AD _ _)) (AD _ _);have hr1:(((w.alloc (γ #[σ a n c] 28)).alloc (γ #[σ ν 0 0] 28)).alloc (γ (madeCells #[τ VG,σ ν 0 0,σ ν 0 0] (n * 3)) 67)).heap[w.heap.size+1]?=ς (γ #[σ ν 0 0] 28 (0,0)):=by
  have z:=AC (η (w.alloc (γ #[σ a n c] 28)) (γ #[σ ν 0 0] 28)) (AD _ (γ (madeCells #[τ VG,σ ν 0 0,σ ν 0 0] (n * 3)) 67));rw [hs1] at z;exact z
 have hr2:=η ((w.alloc (γ #[σ a n c] 28)).alloc (γ #[σ ν 0 0] 28)) (γ (madeCells #[τ VG,σ ν 0 0,σ ν 0 0] (n * 3)) 67);rw [hs2] at hr2;have hs3:(((w.alloc (γ #[σ a n c] 28)).alloc (γ #[σ ν 0 0] 28)).alloc (γ (madeCells #[τ VG,σ ν 0 0,σ ν 0 0] (n * 3)) 67)).heap.size=w.heap.size+1+1+1:=by rw [ω,hs2]
 obtain⟨x0_,-⟩:=AG hr0;go_enter Tryz.func30,Tryz.ntmps30
 go_wp2;clear hmk;go_loopw [4,5,6,7,8,16] (λ_ _ _ _ _ i wr=>∃ (k:Nat) (A:List Tb) (cur:Array VN),k<=n/\i=ι κ k/\A.length=k/\(∀ i,i<k->TbOf (A.getD i b0) (T i))/\(∀ t∈A,TbAt wr t)/\(A.flatMap Tb.bl).Nodup/\(∀ b∈A.flatMap Tb.bl,w.heap.size+1+1<b/\b<wr.heap.size)/\wr.heap[w.heap.size+1+1]?=ς (γ cur 67 (0,0))/\cur.size=n * 3/\(∀ i,i<k->cur[i * 3]?=ς (τ (A.getD i b0).s)/\cur[i * 3+1]?=ς (σ (ς ⟨(A.getD i b0).bc,0,ν⟩) (A.getD i b0).n (A.getD i b0).cc)/\cur[i * 3+2]?=ς (σ (A.getD i b0).ar (A.getD i b0).L.length (A.getD i b0).cr))/\wr.heap[w.heap.size+1]?=ς (γ #[σ ν 0 0] 28 (0,0))/\υ w.heap.size w wr/\w.heap.size+1+1<wr.heap.size) (λ_ _ _ _ _ i _=>n - (VQ i).toNat)
 case atStart=>exact⟨0,[],_,by omega,rfl,rfl,λi hi=>by omega,by simp,by simp,by simp,hr2,CH _ _,λi hi=>by omega,hr1,hbW,by rw [hs3];omega⟩
 case round=>
  obtain⟨k,A,cur,hk,rfl,hAl,hAT,hAA,hnd,hbl,hBT,hcz,hcc,hRes,hb,hsr⟩:=hrel;have HAT:Hid (∀ i,i<k->TbOf (A.getD i b0) (T i)):=hAT;have HND:Hid ((A.flatMap Tb.bl).Nodup):=hnd;have HBL:Hid (∀ b∈A.flatMap Tb.bl,w.heap.size+1+1<b/\b<wr.heap.size):=hbl;have HCC:Hid (∀ i,i<k->cur[i * 3]?=ς (τ (A.getD i b0).s)/\cur[i * 3+1]?=ς (σ (ς ⟨(A.getD i b0).bc,0,ν⟩) (A.getD i b0).n (A.getD i b0).cc)/\cur[i * 3+2]?=ς (σ (A.getD i b0).ar (A.getD i b0).L.length (A.getD i b0).cr)):=hcc;clear hAT hnd hbl hcc hr0 hr1 hr2 hbW hs1 hs2 hs3 x0_;by_cases hlt:k<n
  rotate_left
  ·
   obtain rfl:k=n:=by omega
   obtain⟨y0_,g0_⟩:=AG hRes;go_wp2;refine VE (VW Tryz.results30 _ _ (w.heap.size+1) 28 _ (0,0) _ rfl (BW hRes _) Tryz.underlying28 rfl (by kernel_rfl)) rfl ?_;have hbc:BlkX (w.heap.size+1) wr (wr.setCell ⟨w.heap.size+1,0,ν⟩ (σ (ς ⟨w.heap.size+1+1,0,ν⟩) k k)):=BlkX.set _ _ _ _;refine⟨w.heap.size+1+1,A,rfl,⟨⟨cur,Af hBT (by omega),by rw [hAl,hcz];exact VD _,λi hi=>HCC.out i (by omega)⟩,λt ht=>(hAA t ht).allX hbc (λhm=>?_),?_⟩,hAl,HAT.out,?_,λcu hcu=>?_,Bg hb (by omega)⟩
   · have:=(HBL.out _ (List.mem_flatMap.2 ⟨t,ht,hm⟩)).1;omega
   · rw [List.nodup_cons];refine⟨λhm=>?_,HND.out⟩;have:=(HBL.out _ hm).1;omega
   ·
    intro b hm;rw [Ve];rcases List.mem_cons.1 hm with h | h
    · omega
    · have:=HBL.out _ h;omega
   · have hz:=(Af hBT (by omega):(wr.setCell ⟨w.heap.size+1,0,ν⟩ (σ (ς ⟨w.heap.size+1+1,0,ν⟩) k k)).heap[w.heap.size+1+1]?=_);rw [hz] at hcu;injection hcu with hcu;injection hcu with hcu;rw [←hcu,hcz]
  ·
   have hpos:=HNN.out k hlt;have HTK:Hid (∀ t,TbOf t (T k)->∀ i,i<k+1->TbOf ((A ++ [t]).getD i b0) (T i)):=λt ht i hi=>by
    by_cases e:i=k
    · subst e;rw [KI hAl];exact ht
    · rw [KJ (by omega)];exact HAT.out i (by omega)
   obtain⟨bt,offt,ac,cc,ar,cr,rfl,c0,c1,c2,hC,hR,hsm⟩:=hT.later hb k hlt;generalize T k=d at c0 c1 c2 hC hR hsm hpos HTK;obtain⟨hdn0,hpm⟩:=hpos;have HPM:Hid (∀ i,i<d.r->0<d.m i):=hpm;clear hpm;have hkn:(k:Int)<n:=by omega
   have hdn1:=hsm.co.1;have hdr:=hsm.ro.1;have HSM:Hid (Sm3 d):=hsm;clear hsm;have hmk:∀ w:ο,(Instr.makeSlice 43 (ι κ (d.r:Int)) (ι κ (d.r:Int))).run μ w=.ok (σ (ς ⟨w.heap.size,0,ν⟩) d.r d.r) (w.alloc (γ (madeCells #[σ ν 0 0] d.r) 30)):=λw=>by
    have z:=Ej (t:=43) Tryz.underlying43 Tryz.infoRow d.r (by omega) (by omega) w;rw [Nat.mul_one] at z;exact z
   obtain⟨wo,hwo⟩:∃ x,x=wr:=⟨_,rfl⟩;subst hwo;have hx1:(wo.alloc (γ #[τ d.s,σ ac d.n cc,σ ar d.r cr] 67)).heap.size=wo.heap.size+1:=ω _ _;have hx2:((wo.alloc (γ #[τ d.s,σ ac d.n cc,σ ar d.r cr] 67)).alloc (γ (madeCells #[σ ν 0 0] d.r) 30)).heap.size=wo.heap.size+1+1:=by rw [ω,hx1]
   have hbx0:=AC (η wo (γ #[τ d.s,σ ac d.n cc,σ ar d.r cr] 67)) (AD _ (γ (madeCells #[σ ν 0 0] d.r) 30));have hbr0:=η (wo.alloc (γ #[τ d.s,σ ac d.n cc,σ ar d.r cr] 67)) (γ (madeCells #[σ ν 0 0] d.r) 30);rw [hx1] at hbr0;have hbX:υ wo.heap.size wo ((wo.alloc (γ #[τ d.s,σ ac d.n cc,σ ar d.r cr] 67)).alloc (γ (madeCells #[σ ν 0 0] d.r) 30)):=AA (AD _ _) (AD _ _);go_wp2;clear hmk;go_loopw [7,8,28] (λ_ _ i wr=>∃ (j:Nat) (L:List Ro) (cr2:Array VN),j<=d.r/\i=ι κ j/\L.map Ro.x=(List.range j).map (λi=>(d.m i,d.R i))/\L.length=j/\(∀ r∈L,RoAt wr r/\wo.heap.size+1<r.b/\r.b<wr.heap.size)/\(L.map Ro.b).Nodup/\wr.heap[wo.heap.size+1]?=ς (γ cr2 30 (0,0))/\cr2.size=d.r/\(∀ i,i<j->cr2[i]?=ς (L.getD i o0).v)/\wr.heap[wo.heap.size]?=ς (γ #[τ d.s,σ ac d.n cc,σ ar d.r cr] 67 (0,0))/\υ wo.heap.size wo wr/\wo.heap.size+1<wr.heap.size) (λ_ _ i _=>d.r - (VQ i).toNat)
   case atStart=>exact⟨0,[],_,by omega,rfl,by simp,rfl,by simp,by simp,hbr0,CH _ _,λi hi=>by omega,hbx0,hbX,by rw [hx2];omega⟩
   case round=>
    obtain⟨j,L,cr2,hj,rfl,hLx,hLl,hLA,hLn,hBR,hrz,hrc,hbx,hbi,hsi⟩:=hrel;have HLX:Hid (L.map Ro.x=(List.range j).map (λi=>(d.m i,d.R i))):=hLx;have HLN:Hid ((L.map Ro.b).Nodup):=hLn;have HRC:Hid (∀ i,i<j->cr2[i]?=ς (L.getD i o0).v):=hrc;clear hLx hLn hrc hbx0 hbr0 hbX hx1 hx2;by_cases hjl:j<d.r
    ·
     obtain⟨b,off,ai,ci,rfl,d0,hI,hsz⟩:=hR.later hbi j hjl;have hm0:=HPM.out j hjl;have hjd:(j:Int)<d.r:=by omega
     obtain⟨old,hold⟩:∃ old,cr2[j]?=ς old:=⟨cr2[j]'(by omega),by simp [hrz,hjl]⟩;have d1:=(ε _ _ j _ _ _ hBR).trans hold;have hxs:∀ i,i<d.m j->(d.R j i).s.size<=1048576:=λi hi=>(HSM.out.ro.2 j hjl).2 i hi;have HRJ:Hid ((List.range (j+1)).map (λi=>(d.m i,d.R i))=(List.range j).map (λi=>(d.m i,d.R i)) ++ [(d.m j,d.R j)]):=by show _=_;rw [List.range_succ,List.map_append];rfl
     generalize d.m j=mj at d0 hI hsz hm0 hxs HRJ;generalize d.R j=Rj at hI hxs HRJ;go_wp2_with (go_at_call 73;refine(EO ai mj ci Rj wr hI hm0 hsz).mono ?_;rintro e v1 ⟨g,cap,rfl,hOg,hb1⟩;have d2:=AB hb1 d1;have f2:=ζ _ _ j _ _ (AC hBR hb1))
     have hgl:=hOg.lt g rfl;have hRo:=RoAt.own hOg hxs;have hset:BlkX (wo.heap.size+1) v1 (v1.setCell ⟨wo.heap.size+1,j,ν⟩ (σ (ς ⟨g,0,ν⟩) mj cap)):=BlkX.set _ _ _ _;have hs1:=hb1.size;go_roundw
     case rel=>exact⟨j+1,L ++ [⟨g,cap,(mj,Rj)⟩],_,by omega,by go_num,by rw [List.map_append,HLX.out,HRJ.out];rfl,by simp [hLl],λr hr=>by
      rcases List.mem_append.1 hr with h | h
      · obtain⟨h1,h2,h3⟩:=hLA r h;exact⟨(h1.all (BlkC.below hb1)).allX hset (by omega),h2,by rw [Ve];omega⟩
      · rw [List.mem_singleton] at h;subst h;exact⟨hRo.allX hset (by show g≠_;omega),by show _<g;omega,by rw [Ve];exact hgl.2⟩,by
      rw [List.map_append,List.nodup_append];refine⟨HLN.out,by simp,λa ha b hb=>?_⟩;obtain⟨r,hr,rfl⟩:=List.mem_map.1 ha;have h1:=(hLA r hr).2.2;have h2:b=g:=by simpa using hb
      omega,π v1 _ j _ _ _ (AC hBR hb1),by simp [hrz],λi hi=>by
      by_cases e:i=j
      · subst e;rw [F7 hLl];simp [hrz,hjl,Ro.v]
      · rw [Array.getElem?_setIfInBounds_ne (by omega),F8 (by omega)];exact HRC.out i (by omega),Af (AC hbx hb1) (by omega),Bg (AA hbi hb1) (by omega),by rw [Ve];omega⟩
     case measure=>simp [VQ];omega
    ·
     obtain rfl:j=d.r:=by omega
     have hBTi:=AC hBT hbi;have hbv0:υ w.heap.size w wr:=AA hb hbi;have hvX0:BlkX (w.heap.size+1+1) wr wr:=BlkX.of ⟨VD _,λ_ _ _ _ h=>h⟩;go_wp2;refine VH (S:=λx_=>x_.heap[wo.heap.size]?=ς (γ #[τ d.s,σ ac d.n cc,σ ar d.r cr] 67 (0,0))) (by kernel_rfl) (hbx) (λjH=>?_);have hbv2:υ wo.heap.size wo wr.drew:=AA hbi (Ar _);have hvX:BlkC wr wr.drew:=⟨VD _,λ_ _ _ _ h=>h⟩;have hBTv:wr.drew.heap[w.heap.size+1+1]?=ς (γ cur 67 (0,0)):=hBTi;have hsw:wr.drew.heap.size=wr.heap.size:=rfl;generalize wr.drew=v at jH hbv2 hvX hBTv hsw ⊢;refine tk 0 jH ?_;refine tk 1 jH ?_;try simp only [zS];refine tk 2 jH ?_;try simp only [zS];refine tk 3 jH ?_ (hy:=λx jS=>by obtain⟨Dl,i1_,i2_,-,-,-⟩:=AL jS;go_simp<;>rfl)
     try simp only [zS]
     refine tk 4 jH ?_;try simp only [zS];refine tk 5 jH ?_ (hy:=λx jS=>by obtain⟨Dl,i1_,i2_,-,-,-⟩:=AL jS;go_simp<;>rfl)
     try simp only [zS]
     refine tk 7 jH ?_
     try simp only [zS]
     refine rd 6 (λK hK=>?_);go_simp;refine(JH ac d.n cc d.C v (hC.later hbv2) hdn0 hdn1).mono ?_;rintro e v1 ⟨gc,capc,rfl,hOc,hb1⟩;have hgc:=hOc.lt gc rfl;refine hK.out _ _ (AC jH hb1) (λjH=>?_);clear hK K;try simp only [zS]
     replace hbv2:=AA hbv2 hb1;replace hvX:=hvX.trans (BlkC.below hb1);replace hBTv:=AC hBTv hb1;have hsv1:=hb1.size;refine tk 8 jH ?_;refine tk 9 jH ?_
     try simp only [zS]
     refine rd 10 (λK hK=>?_);obtain⟨q0_,hq0_⟩:∃ v,cur[k * 3]?=ς v:=⟨cur[k * 3]'(by omega),by simp [show k * 3<cur.size by omega]⟩;obtain⟨q1_,hq1_⟩:∃ v,cur[k * 3+1]?=ς v:=⟨cur[k * 3+1]'(by omega),by simp [show k * 3+1<cur.size by omega]⟩;obtain⟨q2_,hq2_⟩:∃ v,cur[k * 3+2]?=ς v:=⟨cur[k * 3+2]'(by omega),by simp [show k * 3+2<cur.size by omega]⟩;have e0_:=(ε _ _ (k * 3) _ _ _ hBTv).trans hq0_;have e1_:=(ε _ _ (k * 3+1) _ _ _ hBTv).trans hq1_;have e2_:=(ε _ _ (k * 3+2) _ _ _ hBTv).trans hq2_;have f0_:=ζ _ _ (k * 3) _ _ hBTv;have f1_:=ζ _ _ (k * 3+1) _ _ hBTv;have f2_:=ζ _ _ (k * 3+2) _ _ hBTv;have hBT9:(((v1.setCell ⟨w.heap.size+1+1,k * 3,ν⟩ (τ d.s)).setCell ⟨w.heap.size+1+1,k * 3+1,ν⟩ (σ (ς ⟨gc,0,ν⟩) d.n capc)).setCell ⟨w.heap.size+1+1,k * 3+2,ν⟩ (σ (ς ⟨wo.heap.size+1,0,ν⟩) d.r d.r)).heap[w.heap.size+1+1]?=ς (γ (H7 cur k (τ d.s) (σ (ς ⟨gc,0,ν⟩) d.n capc) (σ (ς ⟨wo.heap.size+1,0,ν⟩) d.r d.r)) 67 (0,0)):=Nb hBTv;go_simp;refine hK.out _ _ (Af (Af (Af jH (by omega)) (by omega)) (by omega)) (λjH=>?_);clear hK K;try simp only [Act.put]
     refine VP (by kernel_rfl) ?_ _;have hst:=Oy v1 (w.heap.size+1+1) k (τ d.s) (σ (ς ⟨gc,0,ν⟩) d.n capc) (σ (ς ⟨wo.heap.size+1,0,ν⟩) d.r d.r);have hssz:(((v1.setCell ⟨w.heap.size+1+1,k * 3,ν⟩ (τ d.s)).setCell ⟨w.heap.size+1+1,k * 3+1,ν⟩ (σ (ς ⟨gc,0,ν⟩) d.n capc)).setCell ⟨w.heap.size+1+1,k * 3+2,ν⟩ (σ (ς ⟨wo.heap.size+1,0,ν⟩) d.r d.r)).heap.size=v1.heap.size:=by rw [Ve,Ve,Ve]
     have hbW9:υ w.heap.size w (((v1.setCell ⟨w.heap.size+1+1,k * 3,ν⟩ (τ d.s)).setCell ⟨w.heap.size+1+1,k * 3+1,ν⟩ (σ (ς ⟨gc,0,ν⟩) d.n capc)).setCell ⟨w.heap.size+1+1,k * 3+2,ν⟩ (σ (ς ⟨wo.heap.size+1,0,ν⟩) d.r d.r)):=Bg (Bg (Bg (AA hb hbv2) (by omega)) (by omega)) (by omega);have hRes9:(((v1.setCell ⟨w.heap.size+1+1,k * 3,ν⟩ (τ d.s)).setCell ⟨w.heap.size+1+1,k * 3+1,ν⟩ (σ (ς ⟨gc,0,ν⟩) d.n capc)).setCell ⟨w.heap.size+1+1,k * 3+2,ν⟩ (σ (ς ⟨wo.heap.size+1,0,ν⟩) d.r d.r)).heap[w.heap.size+1]?=ς (γ #[σ ν 0 0] 28 (0,0)):=Af (Af (Af (AC hRes hbv2) (by omega)) (by omega)) (by omega);generalize (((v1.setCell ⟨w.heap.size+1+1,k * 3,ν⟩ (τ d.s)).setCell ⟨w.heap.size+1+1,k * 3+1,ν⟩ (σ (ς ⟨gc,0,ν⟩) d.n capc)).setCell ⟨w.heap.size+1+1,k * 3+2,ν⟩ (σ (ς ⟨wo.heap.size+1,0,ν⟩) d.r d.r))=w9 at hBT9 hst hssz jH hbW9 hRes9 ⊢;have hTA:TbAt w9 ⟨d.s,d.n,d.C,gc,capc,ς (wo.heap.size+1),d.r,L⟩:=by
      obtain⟨curc,hcc1,hcc2⟩:=Jt hOc;have hg9:gc≠w.heap.size+1+1:=by omega
      refine⟨⟨curc,hst.2 _ _ _ _ hg9 hcc1,hcc2,FZ hOc⟩,(I0 hOc HSM.out.co.2).blk hcc1 (hst.2 _ _ _ _ hg9 hcc1),λr hr=>((hLA r hr).1.all hvX).allX hst (by have:=(hLA r hr).2.1;omega),Vb ⟨wo.heap.size+1,cr2,rfl,hst.2 _ _ _ _ (by omega) (hvX.2 _ _ _ _ hBR),λi hi=>HRC.out i (by rw [←hLl];exact hi)⟩⟩
     have hTO:TbOf ⟨d.s,d.n,d.C,gc,capc,ς (wo.heap.size+1),d.r,L⟩ d:=⟨rfl,rfl,rfl,HLX.out⟩;have HBN:Hid (∀ b∈Tb.bl ⟨d.s,d.n,d.C,gc,capc,ς (wo.heap.size+1),d.r,L⟩,wo.heap.size<b/\b<w9.heap.size):=by
      intro b hm;rcases List.mem_cons.1 hm with h | h
      · have h':b=gc:=h;omega
      ·
       rcases List.mem_append.1 h with h | h
       ·
        have h':b=wo.heap.size+1:=by simpa using h
        omega
       · obtain⟨r,hr,rfl⟩:=List.mem_map.1 h;have:=(hLA r hr).2;have:=hvX.1;omega
     have HNN2:Hid ((Tb.bl ⟨d.s,d.n,d.C,gc,capc,ς (wo.heap.size+1),d.r,L⟩).Nodup):=by
      show (gc :: ([wo.heap.size+1] ++ L.map Ro.b)).Nodup
      rw [List.nodup_cons,List.singleton_append,List.nodup_cons];refine⟨λhm=>?_,λhm=>?_,HLN.out⟩
      ·
       rcases List.mem_cons.1 hm with h | h
       · omega
       · obtain⟨r,hr,e⟩:=List.mem_map.1 h;have:=(hLA r hr).2.2;omega
      · obtain⟨r,hr,e⟩:=List.mem_map.1 hm;have:=(hLA r hr).2.1;omega
     have hsw9:wo.heap.size<w9.heap.size:=by omega
     have hal9:∀ t∈A,TbAt w9 t:=λt ht=>(((hAA t ht).all (BlkC.below hbi)).all hvX).allX hst (λhm=>by have:=(HBL.out _ (List.mem_flatMap.2 ⟨t,ht,hm⟩)).1;omega);go_wp2;go_roundw
     case rel=>exact⟨k+1,A ++ [⟨d.s,d.n,d.C,gc,capc,ς (wo.heap.size+1),d.r,L⟩],_,by omega,by go_num,by simp [hAl],HTK.out _ hTO,λt ht=>by
      rcases List.mem_append.1 ht with h | h
      · exact hal9 t h
      · rw [List.mem_singleton] at h;subst h;exact hTA,by
      rw [List.flatMap_append,List.nodup_append];refine⟨HND.out,by simpa using HNN2.out,λa ha b hb=>?_⟩;have h1:=(HBL.out a ha).2;have h2:=(HBN.out b (by simpa using hb)).1;omega,λb hm=>by
      rw [List.flatMap_append] at hm;rcases List.mem_append.1 hm with h | h
      · have:=HBL.out b h;omega
      · have:=HBN.out b (by simpa using h);omega,hBT9,by rw [MV,hcz],λi hi=>by
      by_cases e:i=k
      ·
       subst e;rw [KI hAl];have z:=NR (cur:=cur) (k:=i) (x:=τ d.s) (y:=σ (ς ⟨gc,0,ν⟩) d.n capc) (z:=σ (ς ⟨wo.heap.size+1,0,ν⟩) d.r d.r) (by omega);refine⟨z.1,z.2.1,?_⟩;rw [z.2.2];show _=ς (σ (ς ⟨wo.heap.size+1,0,ν⟩) L.length d.r)
       rw [hLl]
      · rw [KJ (by omega)];have z:=HCC.out i (by omega);exact⟨(Gx (e:=0) (by omega) (by omega)).trans z.1,(Gx (by omega) (by omega)).trans z.2.1,(Gx (by omega) (by omega)).trans z.2.2⟩,hRes9,hbW9,by omega⟩
     case measure=>simp [VQ];omega
end Go.Proofs.YtoeencbghldmdaaGreatDoor
namespace Go.Proofs.YtoeencbghldmdaaGreatDoor
open Go.RowKit
set_option maxRecDepth 20000
set_option maxHeartbeats 4000000
def Ac(t:Tb):List VN:=[τ t.s,σ (ς ⟨t.bc,0,ν⟩) t.n t.cc,σ t.ar t.L.length t.cr]
def OwnT(w:ο)(B:Nat)(v:VN)(L:List Tb):Prop:=w.ownsRow B 67 3 v L.length ((L.map Ac).flatten)
theorem FV{α:Type}(L cs:List α)(o:Nat)(h:o<=L.length):(splice L o cs).take (o+cs.length)=L.take o ++ cs:=by
 unfold splice;rw [←List.append_assoc,List.take_append_of_le_length (by simp;omega),List.take_of_length_le (by simp;omega)]
theorem CJ(M:List Tb):((M.map Ac).flatten).length=M.length * 3:=by
 induction M with
 | nil=>rfl
 | cons f M ih=>rw [List.map_cons,List.flatten_cons,VJ,ih,List.length_cons];simp [Ac];omega
theorem Mv(M:List Tb):∀ u∈(M.map Ac).flatten,u.oneCell'=true:=by
 intro u hu;simp only [List.mem_flatten,List.mem_map] at hu
 obtain⟨l,⟨f,_,rfl⟩,hu⟩:=hu;simp only [Ac,List.mem_cons,List.not_mem_nil,or_false] at hu
 rcases hu with rfl | rfl | rfl <;> rfl
theorem GU(L:List Tb)(i:Nat):(L.map Ac).flatten=((L.take i).map Ac).flatten ++ ((L.drop i).map Ac).flatten:=by rw [←List.flatten_append,←List.map_append,List.take_append_drop]
theorem LO{cur:List VN}{L:List Tb}(h:cur.take (L.length * 3)=(L.map Ac).flatten)(i:Nat)(hi:i<=L.length){t:Nat}{u:VN}(ht:(((L.drop i).map Ac).flatten)[t]?=ς u):cur[i * 3+t]?=ς u:=by
 have h1:((L.map Ac).flatten)[i * 3+t]?=ς u:=by
  rw [GU L i,List.getElem?_append_right (by rw [CJ,VY];omega),CJ,VY,Nat.min_eq_left hi,Nat.add_sub_cancel_left];exact ht
 rw [←h,List.getElem?_take] at h1;split at h1
 · exact h1
 · cases h1
theorem IQ(w:ο)(ty:TypeId)(g o dLen dCap:Nat)(a:Addr)(sLen sCap:Nat)(cur:Array VN)(cs:List VN)(m:Nat)(hm:Nat.min sLen dLen=m)(hg:w.heap[g]?=ς (γ cur 67 (0,0)))(hn:cs.length=m * 3)(hsrc:∀ j v,cs[j]?=ς v->w.cell? (a.add j)=ς v)(hfit:o+cs.length<=cur.size)(h1:∀ v∈cs,v.oneCell'=true) :
 (Builtin.copy_ #[26,26] ty #[σ (ς ⟨g,o,ν⟩) dLen dCap,σ (ς a) sLen sCap]).run μ w=.ok (goInt m) (w.setRow g (splice cur.toList o cs).toArray):=by
 obtain⟨i0,hi,hz0,hz1,hz2⟩:=info_parts Tryz.infoTab;have hf:=run_firstCells_some (P:=μ) w 3 m a sLen sCap cs hn hsrc;have hst:=run_storeCells_at μ g o 67 cs 0 cur w hg (by simpa using hfit) h1;simp only [Vf,List.append_assoc] at hst
 unfold splice;simp [Builtin.copy_,run_underlying Tryz.underlying26,Builtin.lenOf,sizeOf,typeInfo,hi,hz1,hm,hf,hst]
theorem GH{P:Program}(w:ο){o:Oper}{a:Act}{K:Act->ο->Prop}{Q:Exit->Act->ο->Prop}(d s:Operand)(t t':TypeId)
 (ho:o.op=.call { callee:=.builtin .copy,args:=#[d,s],argTypes:=#[t,t'] }) (v u:VN) (hd:a.eval d=v) (hs:a.eval s=u) {v':VN} {w':ο}
 (hr:(Builtin.copy_ #[t,t'] o.type #[v,u]).run P w=.ok v' w') (h:K (a.put o.dst v') w'):o.wp P a w K Q:=by
 unfold Oper.wp execOp;simp only [ho,resolve,invoke,builtin,Sem.run_bind,Sem.run_pure,Result.andThen_ok,List.map_toArray,List.map_cons,List.map_nil,hd,hs,hr]
 exact h
theorem GX{P:Program}(w:ο){ops:Array Oper}{rest:List Oper}{o:Oper}{a:Act}{Q:Exit->Act->ο->Prop}(hgd:o.guard=ν)(d s:Operand)(t t':TypeId)
 (ho:o.op=.call { callee:=.builtin .copy,args:=#[d,s],argTypes:=#[t,t'] }) (v u:VN) (hd:a.eval d=v) (hs:a.eval s=u) {v':VN} {w':ο}
 (hr:(Builtin.copy_ #[t,t'] o.type #[v,u]).run P w=.ok v' w') (h:wpList P ops Q rest (a.put o.dst v') w'):wpList P ops Q (o :: rest) a w:=
 wpList_plain hgd λ_ hK=>GH w d s t t' ho v u hd hs hr (hK _ _ h)
theorem Hy{P:Program}{ops:Array Oper}{o:Oper}{a:Act}{w:ο}{K:Act->ο->Prop}{Q:Exit->Act->ο->Prop}{E:Prop}
 (hg:o.guard=ν) (d x:Operand) (dT sT:TypeId) (hop:o.op=Op.call { callee:=Callee.builtin Builtin.copy,args:=#[d,x],argTypes:=#[dT,sT] })
 (v u:VN) (hd:a.eval d=v) (hx:a.eval x=u) {v':VN} {w':ο} (hr:(Builtin.copy_ #[dT,sT] o.type #[v,u]).run P w=.ok v' w') (hK:K (a.put o.dst v') w') :
 if Region.wanted o (yielded ops a.tmps)=true then Oper.wp P o a w K Q else E:=by
 have hw:Region.wanted o (yielded ops a.tmps)=true:=by simp [Region.wanted,hg]
 rw [if_pos hw];exact GH w d x dT sT hop v u hd hx hr hK
theorem OwnT.put{w':ο}{B g cap:Nat}{L:List Tb}(f:Tb)(i:Nat)(hi:i<=L.length){row:Array VN}(hg:w'.heap[g]?=ς (γ row 67 (0,0)))(hB:B<=g)(hcap:L.length+1<=cap)(hm:cap<=maxLen)(hs:row.size=cap * 3)
 (hrow:row.toList.take ((L.length+1) * 3)=((L.take i).map Ac).flatten ++ (Ac f ++ ((L.drop i).map Ac).flatten)):OwnT w' B (σ (ς ⟨g,0,ν⟩) (L.length+1) cap) (L.take i ++ f :: L.drop i):=by
 have hl:(L.take i ++ f :: L.drop i).length=L.length+1:=by simp;omega
 refine⟨CJ _,Vb ⟨g,cap,row,by rw [hl],hB,hg,by rw [hl];exact hcap,hm,hs,?_⟩⟩;rw [hl,hrow];simp
theorem Pt(L:List Tb)(f:Tb)(g B vb:Nat)(w:ο)(h:OwnT w B (σ (ς ⟨g,0,ν⟩) L.length L.length) L)(hv:w.heap[vb]?=ς (γ (Ac f).toArray 67 (0,0)))(hn:L.length<=1048576) :
 VK μ 108 #[σ (ς ⟨g,0,ν⟩) L.length L.length,ι κ (L.length:Int),σ (ς ⟨vb,0,ν⟩) 1 1] w λe w'=>∃ g' cap',e=ρ (σ (ς ⟨g',0,ν⟩) (L.length+1) cap')/\OwnT w' w.heap.size (σ (ς ⟨g',0,ν⟩) (L.length+1) cap') (L ++ [f])/\w.grownBy w' ν:=by
 obtain⟨i0,hi,hz0,hz1,hz2⟩:=info_parts Tryz.infoTab;have HI:Hid (Tryz.prog.info? 67=ς i0):=hi;clear hi;have hsrc:∀ j u,(Ac f)[j]?=ς u->w.cell? ((⟨vb,0,ν⟩:Addr).add j)=ς u:=λj u hj=>by
  rw [Addr.add_lit,VM];simp only [World.cell?,hv];simpa using hj
 have HN:Hid (∀ j u,(Ac f)[j]?=ς u->w.cell? ((⟨vb,0,ν⟩:Addr).add j)=ς u):=hsrc;clear hsrc hv;have hone:∀ u∈Ac f,u.oneCell'=true:=by simp [Ac,Value.oneCell']
 have hfl:((L ++ [f]).map Ac).flatten=(L.map Ac).flatten ++ Ac f:=by simp
 have hlo:((L.map Ac).flatten).length=L.length * 3:=CJ L;have hol:∀ b,ς (⟨g,0,ν⟩:Addr)=ς b->∀ j u,((L.map Ac).flatten)[j]?=ς u->w.cell? (b.add j)=ς u:=λb e j u hj=>by
  injection e with e;subst e;rw [Addr.add_lit,VM];have hj2:j<L.length * 3:=by rw [←hlo];exact(List.getElem?_eq_some_iff.1 hj).1
  exact(World.ownsRow.cellAt h j hj2).trans hj
 have HOL:Hid (∀ b,ς (⟨g,0,ν⟩:Addr)=ς b->∀ j u,((L.map Ac).flatten)[j]?=ς u->w.cell? (b.add j)=ς u):=hol;clear hol h;generalize (L.map Ac).flatten=xs at hfl hlo HOL;obtain⟨n,hnn⟩:∃ n,L.length=n:=⟨_,rfl⟩;rw [hnn] at hlo hn ⊢;go_enter Tryz.func108,Tryz.ntmps108
 go_wp2_with (at_builtin;refine wpList_append_grows _ rfl _ _ 26 rfl 67 i0 _ 3 64 Tryz.underlying26 HI.out hz0 hz1 hz2 rfl (by omega) (ς ⟨g,0,ν⟩) n n xs rfl (λe=>by cases e) hlo HOL.out ⟨vb,0,ν⟩ 1 1 (Ac f) rfl rfl HN.out hone (by omega) (by unfold maxLen;omega) (by omega) ?_;intro v' w1 hown1 hgrow)
 obtain⟨g',cap',rfl⟩:∃ g' cap',v'=σ (ς ⟨g',0,ν⟩) (n+1) cap':=by
  rcases hown1.2 with ⟨_,e⟩ | ⟨g',cap',_,e,_⟩
  · omega
  · exact⟨g',cap',e⟩
 go_wp2;go_ret
 refine⟨g',cap',rfl,?_,hgrow⟩;unfold OwnT;rw [hfl,VJ,hnn];exact hown1
theorem OG(L:List Tb)(f:Tb)(i g cap B B2 vb:Nat)(w:ο)(hi:i<L.length)(h:OwnT w B (σ (ς ⟨g,0,ν⟩) L.length cap) L)(hv:w.heap[vb]?=ς (γ (Ac f).toArray 67 (0,0)))(hBw:B2<=w.heap.size)(hn:L.length<=1048576)(hroom:cap<L.length+1) :
 VK μ 108 #[σ (ς ⟨g,0,ν⟩) L.length cap,ι κ (i:Int),σ (ς ⟨vb,0,ν⟩) 1 1] w λe w'=>∃ g' cap',e=ρ (σ (ς ⟨g',0,ν⟩) (L.length+1) cap')/\OwnT w' B2 (σ (ς ⟨g',0,ν⟩) (L.length+1) cap') (L.take i ++ f :: L.drop i)/\w.grownBy w' (ς g):=by
 obtain⟨hxl,h2⟩:=h;rcases h2 with ⟨e,_⟩ | ⟨g',cap',cur,e,hB,hg,hc1,hc2,hs,hcur⟩
 · cases e
 obtain⟨rfl,rfl⟩:g=g'/\cap=cap':=by simpa using e
 obtain⟨n,hnn⟩:∃ n,L.length=n:=⟨_,rfl⟩;obtain⟨C,hC⟩:∃ C,((L.drop i).map Ac).flatten=C:=⟨_,rfl⟩;obtain⟨X,hX⟩:∃ X,((L.take i).map Ac).flatten=X:=⟨_,rfl⟩;have hput:=λw' g cap row=>OwnT.put (w':=w') (B:=B2) (g:=g) (cap:=cap) (L:=L) f i (Nat.le_of_lt hi) (row:=row);have hfrom:=λt u=>LO (t:=t) (u:=u) hcur i (Nat.le_of_lt hi);have hCl:C.length=(n - i) * 3:=by rw [←hC,CJ,List.length_drop,hnn]
 have hCo:∀ u∈C,u.oneCell'=true:=by rw [←hC];exact Mv _
 have hXl:X.length=i * 3:=by rw [←hX,CJ,VY];omega
 have htk:cur.toList.take (i * 3)=X:=by
  have e2:=congrArg (List.take (i * 3)) hcur;rw [List.take_take,Nat.min_eq_left (by omega),GU L i,List.take_left' (by rw [CJ,VY];omega)] at e2;rw [e2,hX]
 rw [hnn,hC,hX] at hput;rw [hC] at hfrom;rw [hnn] at hi hn hc1 hcur hroom ⊢;have hVo:∀ u∈Ac f,u.oneCell'=true:=by simp [Ac,Value.oneCell']
 have hVl:(Ac f).length=1 * 3:=rfl;have hgw:g<w.heap.size:=(VL.1 hg).1;have hvw:vb<w.heap.size:=(VL.1 hv).1;obtain⟨i0,hi0,hz0,hz1,hz2⟩:=info_parts Tryz.infoTab;obtain⟨G,W1,ROW,hrz,hg1,hb1,hRs,hRt,hG1,hG2⟩:∃ (G:Nat) (W1:ο) (ROW:Array VN),(∀ ty,(Builtin.append_ #[26,3] ty #[σ (ς ⟨g,0,ν⟩) i cap,ι κ ((n:Int)+1 - (i:Int))]).run μ w=.ok (σ (ς ⟨w.heap.size,0,ν⟩) (n+1) G) W1)/\W1.heap[w.heap.size]?=ς (γ ROW 67 (0,0))/\υ w.heap.size w W1/\ROW.size=G * 3/\ROW.toList.take (i * 3)=X/\n+1<=G/\G<=maxLen:=by
  have hold:(Builtin.firstCells i0.size i (σ (ς ⟨g,0,ν⟩) i cap)).run μ w.drew=.ok X.toArray w.drew:=by
   rw [hz1];exact run_firstCells_some w.drew 3 i ⟨g,0,ν⟩ i cap X hXl (λj u hj=>by
    rw [Addr.add_lit,VM];show w.cell? _=_
    simp only [World.cell?,hg]
    rw [←htk,List.getElem?_take] at hj;split at hj
    · simpa using hj
    · cases hj)
  have hr:=λty=>Lib.run_append_grow_zeros w 26 3 ty 67 i0 _ κ κ Tryz.underlying26 Tryz.underlying3 hi0 hz0 (ς ⟨g,0,ν⟩) i cap X hold (n+1 - i) (by omega) (by omega) (by omega) (by omega) (by rw [hz2];omega) (by rw [hz2,show i+(n+1 - i)=n+1 by omega];exact growslice_fits hroom (by omega));rw [show i+(n+1 - i)=n+1 by omega] at hr;have hge:=grownCap_ge w (n+1) cap 67;have hle:=grownCap_le_maxLen w (n+1) cap 67 (by unfold maxLen;omega);obtain⟨G,hG⟩:∃ G,grownCap w (n+1) cap 67=G:=⟨_,rfl⟩;rw [hG] at hr hge hle;rw [show ((n+1 - i:Nat):Int)=(n:Int)+1 - (i:Int) by omega] at hr;refine⟨G,_,_,hr,η w.drew _,AA (Ar _) (AD _ _),?_,?_,hge,hle⟩
  ·
   simp only [Array.size_append,size_zeroCells,List.size_toArray,hXl,show (χ #[τ VG,σ ν 0 0,σ ν 0 0]).cells.size=3 from rfl]
   omega
  · rw [Array.append_assoc,Array.toList_append,List.take_append_of_le_length (by simp [hXl]),List.toList_toArray,List.take_of_length_le (by omega)]
 have hrz':Hid (∀ ty,(Builtin.append_ #[26,3] ty #[σ (ς ⟨g,0,ν⟩) i cap,ι κ ((n:Int)+1 - (i:Int))]).run μ w=.ok (σ (ς ⟨w.heap.size,0,ν⟩) (n+1) G) W1):=hrz;obtain⟨N,hN⟩:∃ N,w.heap.size=N:=⟨_,rfl⟩;rw [hN] at hrz' hg1 hb1 hgw hvw hBw;clear hrz;have hRl:ROW.toList.length=G * 3:=by simpa using hRs
 obtain⟨W2,hcpA,hg2,hb2⟩:∃ W2,(∀ ty dc,(Builtin.copy_ #[26,26] ty #[σ (ς ⟨N,i * 3,ν⟩) (n+1 - i) dc,σ (ς ⟨vb,0,ν⟩) 1 1]).run μ W1=.ok (goInt (1:Nat)) W2)/\W2.heap[N]?=ς (γ (splice ROW.toList (i * 3) (Ac f)).toArray 67 (0,0))/\υ N w W2:=
  ⟨_,λty dc=>IQ W1 ty N (i * 3) _ dc ⟨vb,0,ν⟩ 1 1 _ (Ac f) 1 (by simp only [Nat.min_def];split <;> omega) hg1 hVl (λj u hj=>by
   rw [Addr.add_lit,VM];simp only [World.cell?,hb1.block vb hvw,hv]
   simpa using hj) (by rw [hVl,hRs];omega) hVo,setRow_heap _ N _ _ _ _ hg1,below_setRow hb1 (VD _) _⟩
 have hl2:(splice ROW.toList (i * 3) (Ac f)).length=G * 3:=by rw [length_splice _ _ _ (by rw [hVl,hRl];omega),hRl]
 obtain⟨W3,hcpB,HO,HG⟩:∃ W3,(∀ ty dc sc,(Builtin.copy_ #[26,26] ty #[σ (ς ⟨N,(i+1) * 3,ν⟩) (n+1 - (i+1)) dc,σ (ς ⟨g,i * 3,ν⟩) (n - i) sc]).run μ W2.drew=.ok (goInt (n - i:Nat)) W3)/\Hid (OwnT W3 B2 (σ (ς ⟨N,0,ν⟩) (n+1) G) (L.take i ++ f :: L.drop i))/\Hid (w.grownBy W3 (ς g)):=by
  refine⟨_,λty dc sc=>IQ W2.drew ty N ((i+1) * 3) _ dc ⟨g,i * 3,ν⟩ _ sc _ C (n - i) (by simp only [Nat.min_def];split <;> omega) hg2 hCl (λj u hj=>by
   rw [Addr.add_lit];show W2.cell? _=_
   simp only [World.cell?,hb2.block g hgw,hg]
   simpa using hfrom j u hj) (by rw [hCl,List.size_toArray,hl2];omega) hCo,hput _ N G _ (setRow_heap W2.drew N _ _ _ _ hg2) hBw hG1 hG2 ?_ ?_,?_⟩
  · rw [List.size_toArray,length_splice _ _ _ (by rw [hCl,List.toList_toArray,hl2];omega),List.toList_toArray,hl2]
  · have e1:=FV (splice ROW.toList (i * 3) (Ac f)) C ((i+1) * 3) (by rw [hl2];omega);have e2:=FV ROW.toList (Ac f) (i * 3) (by rw [hRl];omega);rw [hVl,show i * 3+1 * 3=(i+1) * 3 by omega,hRt] at e2;rw [e2,hCl,show (i+1) * 3+(n - i) * 3=(n+1) * 3 by omega,List.append_assoc] at e1;simpa using e1
  · have h3:=below_setRow (hb2.trans ((Ar W2).mono (by have:=hb2.size;omega))) (VD N) (splice (splice ROW.toList (i * 3) (Ac f)).toArray.toList ((i+1) * 3) C).toArray;exact⟨h3.os,h3.tape,h3.output,h3.size,λk hk _=>h3.block k (by omega)⟩
 clear hput hfrom hCl hCo hXl htk hxl hg hs hcur hVo hVl e hv hC hX hg1 hg2 hb1 hb2 hRs hRl hRt hl2 hi0 hz0 hz1 hz2 hN;have a1:¬(i:Int)=(n:Int):=by omega
 have a2:¬cap=i:=by omega
 have a3:¬G=i+1:=by omega
 have a3':¬G=i:=by omega
 have a4:(cap:Int)<(n:Int)+1:=by omega
 have a5:IntKind.i64.wrap ((i:Int)+1)=(i:Int)+1:=by rw [IntKind.wrap_i64];omega
 have a6:(i:Int)<=(n:Int)+1:=by omega
 have a7:i<=n:=by omega
 have a8:IntKind.i64.wrap ((n:Int)+1)=(n:Int)+1:=by rw [IntKind.wrap_i64];omega
 have a9:((i:Int)+1).toNat=i+1:=by omega
 have a10:(0:Int)<=(i:Int)+1:=by omega
 have a12:i<=cap:=by omega
 have a13:IntKind.i64.wrap ((n:Int)+1 - (i:Int))=(n:Int)+1 - (i:Int):=by rw [IntKind.wrap_i64];omega
 have a14:G<=9223372036854775807:=by unfold maxLen at hG2;omega
 go_enter Tryz.func108,Tryz.ntmps108
 go_wp2_with (first
  | (at_builtin;refine Lib.wpList_append_run _ rfl _ _ _ _ rfl _ _ rfl rfl _ _ (hrz'.out _) ?_)
  | (at_builtin;refine GX _ rfl _ _ 26 26 rfl _ _ rfl rfl (hcpA _ _) ?_))
 go_region_law (refine Hy rfl _ _ 26 26 rfl _ _ (by simp [Act.eval,Act.put]) (by simp [Act.eval,Act.put]) (hcpB _ (G - (i+1)) (cap - i)) ?_)
 go_wp2;go_ret
 exact⟨N,G,rfl,HO.out,HG.out⟩
theorem OF(L:List Tb)(f:Tb)(i g B vb:Nat)(w:ο)(hi:i<=L.length)(h:OwnT w B (σ (ς ⟨g,0,ν⟩) L.length L.length) L)(hv:w.heap[vb]?=ς (γ (Ac f).toArray 67 (0,0)))(hn:L.length<=1048576) :
 VK μ 108 #[σ (ς ⟨g,0,ν⟩) L.length L.length,ι κ (i:Int),σ (ς ⟨vb,0,ν⟩) 1 1] w λe w'=>∃ g' cap',e=ρ (σ (ς ⟨g',0,ν⟩) (L.length+1) cap')/\OwnT w' w.heap.size (σ (ς ⟨g',0,ν⟩) (L.length+1) cap') (L.take i ++ f :: L.drop i)/\w.grownBy w' (ς g):=by
 by_cases e:i=L.length
 · subst e;refine(Pt L f g B vb w h hv hn).mono ?_;rintro e w' ⟨g',cap',h1,h2,h3⟩;refine⟨g',cap',h1,?_,⟨h3.os,h3.tape,h3.output,h3.size,λk hk _=>h3.block k hk (by simp)⟩⟩;rw [List.take_length,List.drop_length];exact h2
 · exact OG L f i g L.length B w.heap.size vb w (by omega) h hv (VD _) hn (by omega)
end Go.Proofs.YtoeencbghldmdaaGreatDoor
namespace Go.Proofs.YtoeencbghldmdaaGreatDoor
open Go.RowKit Go.Maps Go.WideMaps
theorem Jb(T:Nat->Td)(n:Nat):Ap T (n+1)=Ap T n ++ [T n]:=by unfold Ap;rw [List.range_succ,List.map_append];rfl
theorem Jc(T:Nat->Td){i n:Nat}(h:i<=n):(Ap T (n+1)).drop i=(Ap T n).drop i ++ [T n]:=by
 rw [Jb,List.drop_append_of_le_length (by rw [AY];exact h)]
theorem Gt(T:Nat->Td){i n:Nat}(h:i<=n):(Ap T n).take i=Ap T i:=by
 unfold Ap;rw [←List.map_take,List.take_range,Nat.min_eq_left h]
theorem JV{a b:ByteArray}(h:a≠b):(a.toList == b.toList)=false:=by
 rw [beq_eq_false_iff_ne];exact λe=>h (BD e)
theorem IY{a b:List UInt8}(h:Va a b=true):Va b a=false:=by
 rcases e:Va b a with _ | _
 · rfl
 · have z:=DP _ _ _ h e;rw [Ez] at z;cases z
theorem LU{T:Nat->Td}{d:Td}{i:Nat}(h:∀ k,k<i->Va (T k).s.toList d.s.toList=true):∀ k,k<=i->FR T d k=(Ap T k,false):=by
 intro k;induction k with
 | zero=>intro _;rfl
 | succ k ih=>
  intro hk;have hl:=h k (by omega);have hne:(T k).s≠d.s:=λe=>by rw [e,Ez] at hl;cases hl
  have hle:K6 d.s (T k).s=false:=by
   unfold K6;rw [IY hl,JV (Ne.symm hne)];rfl
  rw [FR,ih (by omega),hle,JV hne,Jb];simp [Eb]
theorem Gc{T:Nat->Td}{d:Td}{n i:Nat}(h:Rx T n d.s i)(hne:∀ k,k<n->(T k).s≠d.s):DB T d n=(Ap T n).take i ++ d :: (Ap T n).drop i:=by
 obtain⟨hi,h1,h2⟩:=h;have hup:∀ k,i<=k->k<n->K6 d.s (T k).s=true:=λk hk hkn=>by
  have z:=h2 k hk hkn;unfold K6;have:=Fj (T k).s.toList d.s.toList z (λe=>hne k hkn (BD e));rw [this];rfl
 have key:∀ m,i<=m->m<=n->DB T d m=(Ap T m).take i ++ d :: (Ap T m).drop i/\(i<m->(FR T d m).2=true):=by
  intro m;induction m with
  | zero=>
   intro h0 _;obtain rfl:i=0:=by omega
   exact⟨rfl,λh=>by omega⟩
  | succ m ih=>
   intro hm hn;by_cases e:i=m+1
   · subst e;refine⟨?_,λh=>by omega⟩;unfold DB;rw [LU h1 _ (VD _),List.take_of_length_le (by rw [AY];exact VD _),List.drop_of_length_le (by rw [AY];exact VD _)];simp [Eb]
   ·
    obtain⟨hA,hB⟩:=ih (by omega) (by omega);have hle:=hup m (by omega) (by omega);have hnq:=JV (hne m (by omega));refine⟨?_,λ_=>by rw [FR,hle];simp⟩;rw [Jc T (by omega),Gt T (by omega)];rw [Gt T (by omega)] at hA;have hq:(FR T d (m+1))=((DB T d m) ++ [T m],true):=by
     rw [FR,hle,hnq];unfold DB;simp [Eb]
    unfold DB;rw [hq,hA];simp [Eb]
 exact(key n hi (VD _)).1
theorem Gb{T:Nat->Td}{d:Td}{n j:Nat}(hj:j<n)(he:(T j).s=d.s)(hlt:∀ k j,k<n->j<k->Va (T j).s.toList (T k).s.toList=true):DB T d n=(Ap T n).take j ++ d :: (Ap T n).drop (j+1):=by
 have h1:∀ k,k<j->Va (T k).s.toList d.s.toList=true:=λk hk=>by rw [←he];exact hlt j k hj hk
 have key:∀ m,j+1<=m->m<=n->FR T d m=(Ap T j ++ d :: (Ap T m).drop (j+1),true):=by
  intro m;induction m with
  | zero=>intro h;omega
  | succ m ih=>
   intro hm hn;by_cases e:j=m
   ·
    subst e;have hle:K6 d.s (T j).s=true:=by unfold K6;rw [he];simp
    rw [FR,LU h1 _ (VD _),hle,he,List.drop_of_length_le (by rw [AY];exact VD _)];simp [Eb]
   ·
    have hl:=hlt m j (by omega) (by omega);rw [he] at hl;have hne:(T m).s≠d.s:=λe=>by rw [e,Ez] at hl;cases hl
    rw [FR,ih (by omega) (by omega),JV hne,Jc T (by omega)];simp [Eb]
 unfold DB;rw [key n (by omega) (VD _),Gt T (by omega)];simp [Eb]
def DbIn(lo:Nat)(w:ο)(g:Nat)(A:List Tb):Prop:=DbAt w g A/\∀ b∈g :: A.flatMap Tb.bl,lo<=b/\b<w.heap.size
theorem DbIn.allX{lo g x:Nat}{w w':ο}{A:List Tb}(h:DbIn lo w g A)(k:BlkX x w w')(hx:x<lo∨w.heap.size<=x):DbIn lo w' g A:=by
 obtain⟨⟨⟨cur,h1,h2,h3⟩,h4,h5⟩,h6⟩:=h;have hne:∀ b∈g :: A.flatMap Tb.bl,b≠x:=λb hb=>by have:=h6 b hb;omega
 refine⟨⟨⟨cur,k.2 _ _ _ _ (hne g List.mem_cons_self) h1,h2,h3⟩,λt ht=>(h4 t ht).allX k (λhm=>?_),h5⟩,λb hb=>⟨(h6 b hb).1,Nat.lt_of_lt_of_le (h6 b hb).2 k.1⟩⟩;exact hne x (List.mem_cons_of_mem _ (List.mem_flatMap.2 ⟨t,ht,hm⟩)) rfl
theorem DbIn.later{lo g:Nat}{w w':ο}{A:List Tb}(h:DbIn lo w g A)(hb:υ w.heap.size w w'):DbIn lo w' g A:=h.allX (x:=w.heap.size) (BlkX.of (BlkC.below hb)) (Vb (VD _))
theorem TbAt.ol{w:ο}{t:Tb}(h:TbAt w t){d:Td}(ho:TbOf t d)(hsm:Sm3 d):OL w t.ar d.r d.m d.R:=λk hk=>by
 have hl:t.L.length=d.r:=by have:=congrArg List.length ho.L;simpa using this
 rcases h.row with h0 | ⟨b,cur,e,hb,hc⟩
 · omega
 ·
  have hx:(t.L.getD k o0).x=(d.m k,d.R k):=by
   have z:=congrArg (λl=>l[k]?) ho.L;simp only [List.getElem?_map,List.getElem?_range hk,Option.map_some] at z
   have e2:t.L[k]?=ς (t.L.getD k o0):=by simp [hl,hk]
   rw [e2] at z;simpa using z
  have hr:=h.ros _ (E0 (by omega:k<t.L.length));have hv:=hc k (by omega);unfold Ro.v at hv;refine⟨b,0,ς ⟨(t.L.getD k o0).b,0,ν⟩,(t.L.getD k o0).c,by unfold Tb.ar;rw [e];rfl,?_,?_,(hsm.ro.2 k hk).1⟩
  ·
   rw [VM,show d.m k=(t.L.getD k o0).x.1 from by rw [hx]]
   exact(ε _ _ k _ _ _ hb).trans hv
  · have z:=hr.2;rw [hx] at z;exact z
theorem DbAt.tl{w:ο}{g n:Nat}{A:List Tb}{T:Nat->Td}(h:DbAt w g A)(hl:A.length=n)(ho:∀ i,i<n->TbOf (A.getD i b0) (T i))(hsm:∀ i,i<n->Sm3 (T i)):TL w (ς ⟨g,0,ν⟩) n T:=λk hk=>by
 obtain⟨⟨cur,h1,h2,h3⟩,h4,-⟩:=h;obtain⟨c0,c1,c2⟩:=h3 k (by omega);have ht:=h4 _ (Ae (y:=b0) (by omega:k<A.length));have hto:=ho k hk;have hle:(A.getD k b0).L.length=(T k).r:=by have:=congrArg List.length hto.L;simpa using this
 refine⟨g,0,ς ⟨(A.getD k b0).bc,0,ν⟩,(A.getD k b0).cc,(A.getD k b0).ar,(A.getD k b0).cr,rfl,?_,?_,?_,?_,ht.ol hto (hsm k hk),hsm k hk⟩
 · rw [VM,←hto.s];exact(ε _ _ _ _ _ _ h1).trans c0
 · rw [VM,←hto.n];exact(ε _ _ _ _ _ _ h1).trans c1
 · rw [VM,←hle];exact(ε _ _ _ _ _ _ h1).trans c2
 · rw [←hto.n,←hto.C];exact ht.cl
theorem Sm3.of{w:ο}{a:Option Addr}{n:Nat}{T:Nat->Td}(h:TL w a n T):∀ i,i<n->Sm3 (T i):=λi hi=>by
 obtain⟨_,_,_,_,_,_,-,-,-,-,-,-,hs⟩:=h i hi;exact hs
def AnP(lo:Nat)(w:ο)(Ad:List Td)(cd:Int)(e:Ending)(w':ο):Prop:=∃ g c B,e=ρ (θ #[χ #[σ (ς ⟨g,0,ν⟩) Ad.length c],ι κ cd])/\DbIn lo w' g B/\B.length=Ad.length/\(∀ i,i<Ad.length->TbOf (B.getD i b0) (Ad.getD i t0))/\υ lo w w'
theorem Hf:∀ (A:List Tb) (k:Nat),k<A.length->∀ e,e<3->((A.map Ac).flatten)[k * 3+e]?=(Ac (A.getD k b0))[e]?
 | [],k,h,_,_=>by simp at h
 | t :: A,0,_,e,he=>by
  rw [List.map_cons,List.flatten_cons,List.getElem?_append_left (by simp [Ac];omega)];simp
 | t :: A,k+1,h,e,he=>by
  rw [List.map_cons,List.flatten_cons,List.getElem?_append_right (by simp [Ac];omega)];have z:=Hf A k (by simpa using h) e he;rw [show (k+1) * 3+e - (Ac t).length=k * 3+e from by simp [Ac];omega]
  simpa using z
theorem DbAt.own{w:ο}{lo g n:Nat}{A:List Tb}(h:DbAt w g A)(hl:A.length=n)(hlo:lo<=g)(hz:∀ cur,w.heap[g]?=ς (γ cur 67 (0,0))->cur.size=n * 3)(hn:n<=1048576):OwnT w lo (σ (ς ⟨g,0,ν⟩) A.length n) A:=by
 obtain⟨⟨cur,h1,h2,h3⟩,-,-⟩:=h;have hcz:=hz cur h1;refine⟨CJ A,Vb ⟨g,n,cur,rfl,hlo,h1,by omega,by unfold maxLen;omega,hcz,?_⟩⟩;rw [List.take_of_length_le (by simp [hcz];omega)];apply List.ext_getElem?
 intro q;by_cases hq:q<A.length * 3
 ·
  have hk:q / 3<A.length:=by omega
  obtain⟨c0,c1,c2⟩:=h3 (q / 3) hk;have hfl:((A.map Ac).flatten)[q / 3 * 3+q % 3]?=(Ac (A.getD (q / 3) b0))[q % 3]?:=Hf A (q / 3) hk (q % 3) (by omega);rw [show q / 3 * 3+q % 3=q from by omega] at hfl
  rw [hfl,Array.getElem?_toList];rcases (by omega:q % 3=0∨q % 3=1∨q % 3=2) with e | e | e
  ·
   rw [e];rw [show q / 3 * 3=q from by omega] at c0
   exact c0
  ·
   rw [e];rw [show q / 3 * 3+1=q from by omega] at c1
   exact c1
  ·
   rw [e];rw [show q / 3 * 3+2=q from by omega] at c2
   exact c2
 · rw [List.getElem?_eq_none (by simp [hcz];omega),List.getElem?_eq_none (by rw [CJ];omega)]
set_option maxRecDepth 20000
set_option maxHeartbeats 16000000
abbrev SZ:Oper:=⟨ς 31,.load 26 (δ 30),26,"l5_replay.go:165",#[⟨0,φ⟩],ν⟩
abbrev UI:Oper:=⟨ς 37,.call ⟨.value (.func 74),#[δ 36],#[29]⟩,29,"l5_replay.go:165",#[⟨6,φ⟩],ν⟩
abbrev UH:Oper:=⟨ς 39,.buildSlice 26 1 #[(0,δ 38)],26,"l5_replay.go:165",#[⟨8,φ⟩],ν⟩
theorem O8{lo g n R:Nat}{w w1:ο}{A:List Tb}{T:Nat->Td}{v:VN}(h:DbIn lo w g A)(hl:A.length=n)(ho:∀ i,i<n->TbOf (A.getD i b0) (T i))(hb:υ w.heap.size w w1)(hR:w.heap.size<=R)(hlo:lo<=w.heap.size)(cd:Int):AnP lo w (Ap T n) cd (ρ (θ #[χ #[σ (ς ⟨g,0,ν⟩) n n],ι κ cd])) (w1.setCell ⟨R,0,ν⟩ v):=by
 have h2:=(h.allX (x:=R) ((BlkX.of (BlkC.below hb)).trans (BlkX.set R 0 w1 v)) (Vb hR));refine⟨g,n,A,by rw [AY],h2,by rw [AY];exact hl,λi hi=>?_,(hb.mono hlo).setCell (VX hlo hR) _⟩;rw [AY] at hi;rw [DC T hi];exact ho i hi
theorem DbIn.allN{lo g x:Nat}{w w':ο}{A:List Tb}(h:DbIn lo w g A)(k:BlkX x w w')(hx:x ∉ g :: A.flatMap Tb.bl):DbIn lo w' g A:=by
 obtain⟨⟨⟨cur,h1,h2,h3⟩,h4,h5⟩,h6⟩:=h;have hne:∀ b∈g :: A.flatMap Tb.bl,b≠x:=λb hb e=>hx (e ▸ hb);refine⟨⟨⟨cur,k.2 _ _ _ _ (hne g List.mem_cons_self) h1,h2,h3⟩,λt ht=>(h4 t ht).allX k (λhm=>?_),h5⟩,λb hb=>⟨(h6 b hb).1,Nat.lt_of_lt_of_le (h6 b hb).2 k.1⟩⟩;exact hne x (List.mem_cons_of_mem _ (List.mem_flatMap.2 ⟨t,ht,hm⟩)) rfl
def Un(lo g0:Nat)(A:List Tb)(w:ο)(Ad:List Td)(cd:Int)(e:Ending)(w':ο):Prop:=∃ g c B,e=ρ (θ #[χ #[σ (ς ⟨g,0,ν⟩) Ad.length c],ι κ cd])/\DbIn lo w' g B/\B.length=Ad.length/\(∀ i,i<Ad.length->TbOf (B.getD i b0) (Ad.getD i t0))/\υ lo w w'/\(∀ b∈g :: B.flatMap Tb.bl,b<w.heap.size->b∈g0 :: A.flatMap Tb.bl)/\∀ q,q<w.heap.size->q≠g0->w'.heap[q]?=w.heap[q]?
theorem M6{lo g n R:Nat}{w w1:ο}{A:List Tb}{T:Nat->Td}{v:VN}(h:DbIn lo w g A)(hl:A.length=n)(ho:∀ i,i<n->TbOf (A.getD i b0) (T i))(hb:υ w.heap.size w w1)(hR:w.heap.size<=R)(hlo:lo<=w.heap.size)(cd:Int):Un lo g A w (Ap T n) cd (ρ (θ #[χ #[σ (ς ⟨g,0,ν⟩) n n],ι κ cd])) (w1.setCell ⟨R,0,ν⟩ v):=by
 have h2:=(h.allX (x:=R) ((BlkX.of (BlkC.below hb)).trans (BlkX.set R 0 w1 v)) (Vb hR));refine⟨g,n,A,by rw [AY],h2,by rw [AY];exact hl,λi hi=>?_,(hb.mono hlo).setCell (VX hlo hR) _,λb hb _=>hb,λq hq _=>?_⟩
 · rw [AY] at hi;rw [DC T hi];exact ho i hi
 · rw [Below.heap_setCell _ _ _ _ (by show q≠R;omega)];exact hb.block q hq
theorem CW{α:Type}{A B:List α}{j:Nat}{y:α}(h:j<A.length):(A ++ B).getD j y=A.getD j y:=by simp [List.getElem?_append_left h]
theorem Dw{α:Type}{A:List α}{i j:Nat}{y:α}(h:j<i):(A.take i).getD j y=A.getD j y:=by simp [h]
theorem DV{α:Type}{A B:List α}{x y:α}{j:Nat}(h:A.length=j):(A ++ x :: B).getD j y=x:=by subst h;simp
theorem Cr{α:Type}{A B:List α}{x y:α}{i j:Nat}(h:A.length=i)(hj:i<j):(A ++ x :: B).getD j y=B.getD (j - i - 1) y:=by
 subst h;have e:j=A.length+(j - A.length - 1+1):=by omega
 rw [e];simp [List.getElem?_append_right]
theorem Dx{α:Type}{A:List α}{i j:Nat}{y:α}:(A.drop i).getD j y=A.getD (i+j) y:=by simp
theorem Qk{lo g g' i n cap':Nat}{w w':ο}{A:List Tb}{T:Nat->Td}{t:Tb}{d:Td}(h:DbIn lo w g A)(hl:A.length=n)(ho:∀ i,i<n->TbOf (A.getD i b0) (T i))(hi:i<=n)(hO:OwnT w' w.heap.size (σ (ς ⟨g',0,ν⟩) (n+1) cap') (A.take i ++ t :: A.drop i))(hg:w.grownBy w' (ς g))(ht:TbAt w t)(htd:TbOf t d)(hbn:t.bl.Nodup)(hbt:∀ b∈t.bl,lo<=b/\b<w.heap.size/\b ∉ g :: A.flatMap Tb.bl)(hlo:lo<=w.heap.size):DbIn lo w' g' (A.take i ++ t :: A.drop i)/\(A.take i ++ t :: A.drop i).length=n+1/\(∀ b∈g' :: (A.take i ++ t :: A.drop i).flatMap Tb.bl,b=g'∨b∈t.bl∨b∈A.flatMap Tb.bl)/\∀ j,j<n+1->TbOf ((A.take i ++ t :: A.drop i).getD j b0) (((Ap T n).take i ++ d :: (Ap T n).drop i).getD j t0):=by
 have hlen:(A.take i ++ t :: A.drop i).length=n+1:=by simp;omega
 obtain⟨hD,hin⟩:=h;have hXX:BlkX g w w':=⟨hg.size,λb cur ty f hne hb=>Bl hb hg (λe=>hne (VF e))⟩;have hnd:=List.nodup_cons.1 hD.2.2;have hperm:((A.take i ++ t :: A.drop i).flatMap Tb.bl).Perm (t.bl ++ A.flatMap Tb.bl):=by
  have h1:(A.take i ++ t :: A.drop i).Perm (t :: A):=by
   have:=List.perm_middle (a:=t) (l₁:=A.take i) (l₂:=A.drop i);rwa [List.take_append_drop] at this
  have h2:=h1.flatMap_right Tb.bl;rwa [List.flatMap_cons] at h2
 have hmem:∀ x∈A.take i ++ t :: A.drop i,x=t∨x∈A:=λx hx=>by
  rcases List.mem_append.1 hx with h | h
  · exact Vb (List.mem_of_mem_take h)
  ·
   rcases List.mem_cons.1 h with h | h
   · exact VV h
   · exact Vb (List.mem_of_mem_drop h)
 have hgl:g'<w'.heap.size/\w.heap.size<=g':=⟨(World.ownsRow.lt hO g' rfl).2,(World.ownsRow.lt hO g' rfl).1⟩;refine⟨⟨⟨?_,?_,?_⟩,?_⟩,hlen,?_,?_⟩
 ·
  obtain⟨-,h | ⟨g2,cap2,cur,e,-,h1,h2,-,h3,h4⟩⟩:=hO
  · cases h.1
  injection e with e1 e2 e3;injection e1 with e1;injection e1 with e1;subst e1;refine⟨cur,h1,?_,λk hk=>?_⟩
  · rw [hlen] at h2 ⊢;rw [h3];exact Nat.mul_le_mul_right 3 h2
  have hq:∀ e,e<3->cur[k * 3+e]?=(Ac ((A.take i ++ t :: A.drop i).getD k b0))[e]?:=λe he=>by
   rw [←Hf _ k hk e he,←h4,List.getElem?_take,if_pos (by rw [hlen] at hk ⊢;omega),Array.getElem?_toList]
  exact⟨hq 0 (by omega),hq 1 (by omega),hq 2 (by omega)⟩
 ·
  intro x hx;rcases hmem x hx with rfl | h
  · exact ht.allX hXX (λhm=>(hbt _ hm).2.2 List.mem_cons_self)
  · exact(hD.2.1 x h).allX hXX (λhm=>hnd.1 (List.mem_flatMap.2 ⟨x,h,hm⟩))
 ·
  rw [List.nodup_cons,hperm.nodup_iff,List.nodup_append];refine⟨λhm=>?_,hbn,hnd.2,λa ha b hb e=>?_⟩
  ·
   rcases List.mem_append.1 (hperm.mem_iff.1 hm) with h | h
   · have:=(hbt _ h).2.1;omega
   · have:=(hin _ (List.mem_cons_of_mem _ h)).2;omega
  · subst e;exact(hbt _ ha).2.2 (List.mem_cons_of_mem _ hb)
 ·
  intro b hm;have:=hg.size;rcases List.mem_cons.1 hm with h | h
  · omega
  ·
   rcases List.mem_append.1 (hperm.mem_iff.1 h) with h | h
   · have:=hbt _ h;omega
   · have:=hin _ (List.mem_cons_of_mem _ h);omega
 ·
  intro b hm;rcases List.mem_cons.1 hm with h | h
  · exact VV h
  · exact Vb (List.mem_append.1 (hperm.mem_iff.1 h))
 ·
  intro j hj;by_cases h1:j<i
  · rw [CW (by simp;omega),Dw h1,CW (by simp [AY];omega),Dw h1,DC T (by omega)];exact ho j (by omega)
  ·
   by_cases h2:j=i
   · subst h2;rw [DV (by simp;omega),DV (by simp [AY];omega)];exact htd
   ·
    rw [Cr (i:=i) (by simp;omega) (by omega),Cr (i:=i) (by simp [AY];omega) (by omega),Dx,Dx,show i+(j - i - 1)=j - 1 from by omega,DC T (by omega)]
    exact ho (j - 1) (by omega)
theorem OJ(lo g n:Nat)(A:List Tb)(T:Nat->Td)(k0:Int)(tb:ByteArray)(a2:Option Addr)(n2 c2:Nat)(a3:Option Addr)(n3 c3:Nat)(col:ByteArray)(a5:Option Addr)(n5 c5:Nat)(a6:Option Addr)(n6 c6:Nat)(a7:Option Addr)(n7 c7:Nat)(C:Nat->Clm)(w:ο)(hDb:DbIn lo w g A)(hAl:A.length=n)(hTO:∀ i,i<n->TbOf (A.getD i b0) (T i))(hcz:∀ cur,w.heap[g]?=ς (γ cur 67 (0,0))->cur.size=n * 3)(hSm:∀ i,i<n->Sm3 (T i))(hok:A2 n T=true)(hn:n<=100)(hC:CL w a2 n2 C)(h20:0<n2)(h2m:n2<=20)(hlo:lo<=w.heap.size) :
 VK μ 71 #[χ #[σ (ς ⟨g,0,ν⟩) n n],χ #[ι κ k0,τ tb,σ a2 n2 c2,σ a3 n3 c3,τ col,σ a5 n5 c5,σ a6 n6 c6,σ a7 n7 c7]] w (Un lo g A w (FL T n tb n2 C).1 (FL T n tb n2 C).2):=by
 have hbU:υ w.heap.size w (((w.alloc (γ #[σ (ς ⟨g,0,ν⟩) n n] 28)).alloc (γ #[ι κ k0,τ tb,σ a2 n2 c2,σ a3 n3 c3,τ col,σ a5 n5 c5,σ a6 n6 c6,σ a7 n7 c7] 34)).alloc (γ #[σ ν 0 0] 28)):=Ay _ _ _ _;have hs1:(w.alloc (γ #[σ (ς ⟨g,0,ν⟩) n n] 28)).heap.size=w.heap.size+1:=ω _ _;have hs2:((w.alloc (γ #[σ (ς ⟨g,0,ν⟩) n n] 28)).alloc (γ #[ι κ k0,τ tb,σ a2 n2 c2,σ a3 n3 c3,τ col,σ a5 n5 c5,σ a6 n6 c6,σ a7 n7 c7] 34)).heap.size=w.heap.size+1+1:=by rw [ω,hs1]
 have hs3:(((w.alloc (γ #[σ (ς ⟨g,0,ν⟩) n n] 28)).alloc (γ #[ι κ k0,τ tb,σ a2 n2 c2,σ a3 n3 c3,τ col,σ a5 n5 c5,σ a6 n6 c6,σ a7 n7 c7] 34)).alloc (γ #[σ ν 0 0] 28)).heap.size=w.heap.size+1+1+1:=by rw [ω,hs2]
 have hq0:(((w.alloc (γ #[σ (ς ⟨g,0,ν⟩) n n] 28)).alloc (γ #[ι κ k0,τ tb,σ a2 n2 c2,σ a3 n3 c3,τ col,σ a5 n5 c5,σ a6 n6 c6,σ a7 n7 c7] 34)).alloc (γ #[σ ν 0 0] 28)).heap[w.heap.size]?=ς (γ #[σ (ς ⟨g,0,ν⟩) n n] 28 (0,0)):=AC (AC (η w _) (AD _ _)) (AD _ _);have hq1:(((w.alloc (γ #[σ (ς ⟨g,0,ν⟩) n n] 28)).alloc (γ #[ι κ k0,τ tb,σ a2 n2 c2,σ a3 n3 c3,τ col,σ a5 n5 c5,σ a6 n6 c6,σ a7 n7 c7] 34)).alloc (γ #[σ ν 0 0] 28)).heap[w.heap.size+1]?=ς (γ #[ι κ k0,τ tb,σ a2 n2 c2,σ a3 n3 c3,τ col,σ a5 n5 c5,σ a6 n6 c6,σ a7 n7 c7] 34 (0,0)):=by
  have z:=AC (η (w.alloc (γ #[σ (ς ⟨g,0,ν⟩) n n] 28)) (γ #[ι κ k0,τ tb,σ a2 n2 c2,σ a3 n3 c3,τ col,σ a5 n5 c5,σ a6 n6 c6,σ a7 n7 c7] 34)) (AD _ (γ #[σ ν 0 0] 28));rw [hs1] at z;exact z
 have hq2:(((w.alloc (γ #[σ (ς ⟨g,0,ν⟩) n n] 28)).alloc (γ #[ι κ k0,τ tb,σ a2 n2 c2,σ a3 n3 c3,τ col,σ a5 n5 c5,σ a6 n6 c6,σ a7 n7 c7] 34)).alloc (γ #[σ ν 0 0] 28)).heap[w.heap.size+1+1]?=ς (γ #[σ ν 0 0] 28 (0,0)):=by
  have z:=η ((w.alloc (γ #[σ (ς ⟨g,0,ν⟩) n n] 28)).alloc (γ #[ι κ k0,τ tb,σ a2 n2 c2,σ a3 n3 c3,τ col,σ a5 n5 c5,σ a6 n6 c6,σ a7 n7 c7] 34)) (γ #[σ ν 0 0] 28);rw [hs2] at z;exact z
 have hTL:TL w (ς ⟨g,0,ν⟩) n T:=hDb.1.tl hAl hTO hSm;have HF:=OH (ς ⟨g,0,ν⟩) n n T tb (((w.alloc (γ #[σ (ς ⟨g,0,ν⟩) n n] 28)).alloc (γ #[ι κ k0,τ tb,σ a2 n2 c2,σ a3 n3 c3,τ col,σ a5 n5 c5,σ a6 n6 c6,σ a7 n7 c7] 34)).alloc (γ #[σ ν 0 0] 28)) (hTL.later hbU) (by omega) hok;obtain⟨p0,-⟩:=AG hq0;obtain⟨-,p1,p2,-⟩:=AJ hq1;have HTO:Hid (∀ i,i<n->TbOf (A.getD i b0) (T i)):=hTO;have HDI:Hid (∀ w1 cd v,υ w.heap.size w w1->Un lo g A w (Ap T n) cd (ρ (θ #[χ #[σ (ς ⟨g,0,ν⟩) n n],ι κ cd])) (w1.setCell ⟨w.heap.size+1+1,0,ν⟩ v)):=λw1 cd v hb=>M6 hDb hAl hTO hb (by omega) hlo cd;have A1:Hid True:=trivial;have HCS:Hid (∀ k,k<n2->(C k).s.size<=1048576):=λk hk=>by obtain⟨_,_,-,-,-,hs⟩:=hC k hk;exact hs
 clear hTO hSm hTL;rcases ht:(An T tb n).isSome
 rotate_left
 ·
  rw [ht] at HF;have HA:Hid (FL T n tb n2 C=(Ap T n,2)):=by show _=_;unfold FL;rw [if_pos ht]
  clear ht;go_enter Tryz.func71,Tryz.ntmps71
  go_wp2_with (first | (go_at_call 78;refine HF.mono ?_;rintro e w1 ⟨i,rfl,hLo,hij,hb1⟩;have r0_:=AC hq0 hb1;have r1_:=AC hq1 hb1;have r2_:=AC hq2 hb1;obtain⟨t0_,tf0_⟩:=AG r0_;obtain⟨-,-,t2_,-⟩:=AJ r1_;obtain⟨u0_,uf0_⟩:=AG r2_;have hb01:=AA hbU hb1) | go_in)
  refine VE (AE Tryz.results71 _ _ (w.heap.size+1+1) 28 _ (0,0) _ rfl (BW r2_ _) Tryz.underlying28 rfl (by kernel_rfl)) rfl ?_;rw [HA.out];exact HDI.out _ _ _ hb01
 ·
  rw [ht] at HF;have HN0:Hid (An T tb n=ν):=by show _=_;rcases h:An T tb n with _ | j;rfl;rw [h] at ht;cases ht
  have htn:¬(An T tb n).isSome=true:=by rw [ht];simp
  rcases hdf:DW C n2
  ·
   have HA:Hid (FL T n tb n2 C=(Ap T n,3)):=by show _=_;unfold FL;rw [if_neg htn,if_pos hdf]
   clear ht htn;go_enter Tryz.func71,Tryz.ntmps71
   go_wp2_with (first | (go_at_call 78;refine HF.mono ?_;rintro e w1 ⟨i,rfl,hLo,hij,hb1⟩;have r0_:=AC hq0 hb1;have r1_:=AC hq1 hb1;have r2_:=AC hq2 hb1;obtain⟨t0_,tf0_⟩:=AG r0_;obtain⟨-,-,t2_,-⟩:=AJ r1_;obtain⟨u0_,uf0_⟩:=AG r2_;have hb01:=AA hbU hb1) | (go_at_call 97;refine(Cp a2 n2 c2 C w1 (hC.later hb01) (by omega)).mono ?_;rintro e w2 ⟨rfl,hb2⟩;rw [hdf];have x0_:=AC r0_ hb2;have x1_:=AC r1_ hb2;have x2_:=AC r2_ hb2;obtain⟨y0_,yf0_⟩:=AG x0_;obtain⟨z0_,zf0_⟩:=AG x2_;have hb02:=AA hb01 hb2) | go_in)
   refine VE (AE Tryz.results71 _ _ (w.heap.size+1+1) 28 _ (0,0) _ rfl (BW x2_ _) Tryz.underlying28 rfl (by kernel_rfl)) rfl ?_;rw [HA.out];exact HDI.out _ _ _ hb02
  ·
   by_cases hn1:n=100
   ·
    have hn2:((n:Int) == 100)=true:=by simp;omega
    have HA:Hid (FL T n tb n2 C=(Ap T n,6)):=by show _=_;unfold FL;rw [if_neg htn,hdf,if_neg (by simp),if_pos hn1]
    clear ht htn hn1;go_enter Tryz.func71,Tryz.ntmps71
    go_wp2_with (first | (go_at_call 78;refine HF.mono ?_;rintro e w1 ⟨i,rfl,hLo,hij,hb1⟩;have r0_:=AC hq0 hb1;have r1_:=AC hq1 hb1;have r2_:=AC hq2 hb1;obtain⟨t0_,tf0_⟩:=AG r0_;obtain⟨-,-,t2_,-⟩:=AJ r1_;obtain⟨u0_,uf0_⟩:=AG r2_;have hb01:=AA hbU hb1) | (go_at_call 97;refine(Cp a2 n2 c2 C w1 (hC.later hb01) (by omega)).mono ?_;rintro e w2 ⟨rfl,hb2⟩;rw [hdf];have x0_:=AC r0_ hb2;have x1_:=AC r1_ hb2;have x2_:=AC r2_ hb2;obtain⟨y0_,yf0_⟩:=AG x0_;obtain⟨z0_,zf0_⟩:=AG x2_;have hb02:=AA hb01 hb2) | go_in)
    refine VE (AE Tryz.results71 _ _ (w.heap.size+1+1) 28 _ (0,0) _ rfl (BW x2_ _) Tryz.underlying28 rfl (by kernel_rfl)) rfl ?_;rw [HA.out];exact HDI.out _ _ _ hb02
   ·
    have HA:Hid (FL T n tb n2 C=(DB T ⟨tb,n2,C,0,λ_=>0,λ_ _=>d0⟩ n,0)):=by show _=_;unfold FL;rw [if_neg htn,hdf,if_neg (by simp),if_neg hn1]
    have hn2:((n:Int) == 100)=false:=by simp;omega
    clear ht htn hn1;go_enter Tryz.func71,Tryz.ntmps71
    go_wp2_with (first | (go_at_call 78;refine HF.mono ?_;rintro e w1 ⟨i,rfl,hLo,hij,hb1⟩;have r0_:=AC hq0 hb1;have r1_:=AC hq1 hb1;have r2_:=AC hq2 hb1;obtain⟨t0_,tf0_⟩:=AG r0_;obtain⟨-,-,t2_,-⟩:=AJ r1_;obtain⟨u0_,uf0_⟩:=AG r2_;have hb01:=AA hbU hb1) | (go_at_call 97;refine(Cp a2 n2 c2 C w1 (hC.later hb01) (by omega)).mono ?_;rintro e w2 ⟨rfl,hb2⟩;rw [hdf];have x0_:=AC r0_ hb2;have x1_:=AC r1_ hb2;have x2_:=AC r2_ hb2;obtain⟨y0_,yf0_⟩:=AG x0_;obtain⟨z0_,zf0_⟩:=AG x2_;have hb02:=AA hb01 hb2) | go_in)
    have HLO:Hid (Rx T n tb i):=hLo;have hin:=hLo.1;have hgw:=(hDb.2 g List.mem_cons_self).2;have hHS:Hid True:=trivial;clear hLo hij HF HDI t0_ tf0_ t2_ u0_ uf0_ y0_ yf0_ z0_ zf0_ p0 p1 p2 A1 hHS;refine VH (S:=λx_=>x_.heap[w.heap.size+1]?=ς (γ #[ι κ k0,τ tb,σ a2 n2 c2,σ a3 n3 c3,τ col,σ a5 n5 c5,σ a6 n6 c6,σ a7 n7 c7] 34 (0,0))) (by kernel_rfl) (x1_) (λjH=>?_);have hdb:w2.drew.heap[w.heap.size]?=ς (γ #[σ (ς ⟨g,0,ν⟩) n n] 28 (0,0)):=x0_;have hres:w2.drew.heap[w.heap.size+1+1]?=ς (γ #[σ ν 0 0] 28 (0,0)):=x2_;have hbv:υ w.heap.size w w2.drew:=AA hb02 (Ar _);have hDv:DbIn lo w2.drew g A:=hDb.later hbv;have hsv:w.heap.size+1+1+1<=w2.drew.heap.size:=by show _<=w2.heap.size;have:=hb1.size;have:=hb2.size;omega
    generalize w2.drew=v at jH hdb hres hbv hDv hsv ⊢;refine tk 0 jH ?_;refine tk 2 jH ?_;try simp only [zS];refine tk 3 jH ?_;try simp only [zS];refine tk 4 jH ?_ (hy:=λx jS=>by obtain⟨-,k1_,k2_,-⟩:=AJ jS;go_simp<;>rfl)
    try simp only [zS]
    refine tk 5 jH ?_;try simp only [zS];refine tk 6 jH ?_ (hy:=λx jS=>by obtain⟨-,k1_,k2_,-⟩:=AJ jS;go_simp<;>rfl)
    try simp only [zS]
    refine wpAnyH_ready (rs:=[1,7]) (by kernel_rfl) (by simp) ?_;refine(AllReadyH.cons (o:=SZ) rfl (λK hK=>?w1_c2) (AllReadyH.cons (o:=UI) rfl (λK hK=>?w1_c1) AllReadyH.nil));case' w1_c2=>
     obtain⟨k0_,-⟩:=AG hdb;go_simp;refine hK.out _ _ jH (λjH=>?_);clear hK K k0_;try simp only [zS]
     refine rd 7 (λK hK=>?_);go_simp;refine(JH a2 n2 c2 C v (hC.later hbv) h20 (by omega)).mono ?_;rintro e v ⟨gc,capc,rfl,hOc,hb1⟩;have hgc:=(hOc.lt gc rfl).1;have hgc2:=(hOc.lt gc rfl).2;refine hK.out _ _ (AC jH hb1) (λjH=>?_);clear hK K;try simp only [zS]
     replace hgc:w.heap.size+1+1+1<=gc:=VX hsv hgc;replace hsv:=VX hsv hb1.size;replace hdb:=AC hdb hb1;replace hres:=AC hres hb1;replace hbv:=AA hbv hb1;replace hDv:=hDv.later hb1;clear hb1;refine tk 8 jH ?_
     try simp only [zS]
     refine rd 9 (λK hK=>?_);have hqN:=η v (γ #[τ tb,σ (ς ⟨gc,0,ν⟩) n2 capc,σ ν 0 0] 67);have hbN:=AD v (γ #[τ tb,σ (ς ⟨gc,0,ν⟩) n2 capc,σ ν 0 0] 67);go_simp;refine hK.out _ _ (AC jH hbN) (λjH=>?_);clear hK K;try simp only [zS]
     replace hdb:=AC hdb hbN;replace hres:=AC hres hbN;replace hbv:=AA hbv hbN;replace hDv:=hDv.later hbN;replace hOc:=AF hOc hbN;replace hgc2:=Nat.lt_of_lt_of_le hgc2 hbN.size;replace hsv:=VX hsv hbN.size;generalize v.heap.size=BN at hqN ⊢;generalize v.alloc (γ #[τ tb,σ (ς ⟨gc,0,ν⟩) n2 capc,σ ν 0 0] 67)=v at hqN jH hdb hres hbv hDv hOc hgc2 hsv hbN ⊢;clear hbN;refine rd 10 (λK hK=>?_);have hXX:=OF A ⟨tb,n2,C,gc,capc,ν,0,[]⟩ i g lo BN v (by omega) (hDv.1.own rfl (hDv.2 g List.mem_cons_self).1 (λcur hc=>by rw [hAl];exact hcz cur (((hbv.block g hgw).symm).trans hc)) (by omega)) hqN (by omega);rw [hAl] at hXX;go_simp;refine hXX.mono ?_;rintro e v9 ⟨g9,cap9,rfl,hO9,hg9⟩;clear hXX;refine hK.out _ _ (Bl jH hg9 (by intro e;have:=VF e;omega)) (λjH=>?_);clear hK K;try simp only [zS]
     refine tk 11 jH ?_
     try simp only [zS]
     refine rd 12 (λK hK=>?_);have hdb9:=Bl hdb hg9 (by intro e;have:=VF e;omega);obtain⟨m0_,mf0_⟩:=AG hdb9;go_simp;refine hK.out _ _ (Af jH (by omega)) (λjH=>?_);clear hK K;try simp only [Act.put]
     refine VP (by kernel_rfl) ?_ _
    case' w1_c1=>
     go_simp;refine(JH a2 n2 c2 C v (hC.later hbv) h20 (by omega)).mono ?_;rintro e v ⟨gc,capc,rfl,hOc,hb1⟩;have hgc:=(hOc.lt gc rfl).1;have hgc2:=(hOc.lt gc rfl).2;refine hK.out _ _ (AC jH hb1) (λjH=>?_);clear hK K;try simp only [zS]
     replace hgc:w.heap.size+1+1+1<=gc:=VX hsv hgc;replace hsv:=VX hsv hb1.size;replace hdb:=AC hdb hb1;replace hres:=AC hres hb1;replace hbv:=AA hbv hb1;replace hDv:=hDv.later hb1;clear hb1;refine tk 8 jH ?_
     try simp only [zS]
     refine wpAnyH_ready (rs:=[1,9]) (by kernel_rfl) (by simp) ?_;refine(AllReadyH.cons (o:=SZ) rfl (λK hK=>?w1_c4) (AllReadyH.cons (o:=UH) rfl (λK hK=>?w1_c3) AllReadyH.nil));case' w1_c4=>
      obtain⟨k0_,-⟩:=AG hdb;go_simp;refine hK.out _ _ jH (λjH=>?_);clear hK K k0_;try simp only [zS]
      refine rd 9 (λK hK=>?_);have hqN:=η v (γ #[τ tb,σ (ς ⟨gc,0,ν⟩) n2 capc,σ ν 0 0] 67);have hbN:=AD v (γ #[τ tb,σ (ς ⟨gc,0,ν⟩) n2 capc,σ ν 0 0] 67);go_simp;refine hK.out _ _ (AC jH hbN) (λjH=>?_);clear hK K;try simp only [zS]
      replace hdb:=AC hdb hbN;replace hres:=AC hres hbN;replace hbv:=AA hbv hbN;replace hDv:=hDv.later hbN;replace hOc:=AF hOc hbN;replace hgc2:=Nat.lt_of_lt_of_le hgc2 hbN.size;replace hsv:=VX hsv hbN.size;generalize v.heap.size=BN at hqN ⊢;generalize v.alloc (γ #[τ tb,σ (ς ⟨gc,0,ν⟩) n2 capc,σ ν 0 0] 67)=v at hqN jH hdb hres hbv hDv hOc hgc2 hsv hbN ⊢;clear hbN;refine rd 10 (λK hK=>?_);have hXX:=OF A ⟨tb,n2,C,gc,capc,ν,0,[]⟩ i g lo BN v (by omega) (hDv.1.own rfl (hDv.2 g List.mem_cons_self).1 (λcur hc=>by rw [hAl];exact hcz cur (((hbv.block g hgw).symm).trans hc)) (by omega)) hqN (by omega);rw [hAl] at hXX;go_simp;refine hXX.mono ?_;rintro e v9 ⟨g9,cap9,rfl,hO9,hg9⟩;clear hXX;refine hK.out _ _ (Bl jH hg9 (by intro e;have:=VF e;omega)) (λjH=>?_);clear hK K;try simp only [zS]
      refine tk 11 jH ?_
      try simp only [zS]
      refine rd 12 (λK hK=>?_);have hdb9:=Bl hdb hg9 (by intro e;have:=VF e;omega);obtain⟨m0_,mf0_⟩:=AG hdb9;go_simp;refine hK.out _ _ (Af jH (by omega)) (λjH=>?_);clear hK K;try simp only [Act.put]
      refine VP (by kernel_rfl) ?_ _
     case' w1_c3=>
      have hqN:=η v (γ #[τ tb,σ (ς ⟨gc,0,ν⟩) n2 capc,σ ν 0 0] 67);have hbN:=AD v (γ #[τ tb,σ (ς ⟨gc,0,ν⟩) n2 capc,σ ν 0 0] 67);go_simp;refine hK.out _ _ (AC jH hbN) (λjH=>?_);clear hK K;try simp only [zS]
      replace hdb:=AC hdb hbN;replace hres:=AC hres hbN;replace hbv:=AA hbv hbN;replace hDv:=hDv.later hbN;replace hOc:=AF hOc hbN;replace hgc2:=Nat.lt_of_lt_of_le hgc2 hbN.size;replace hsv:=VX hsv hbN.size;generalize v.heap.size=BN at hqN ⊢;generalize v.alloc (γ #[τ tb,σ (ς ⟨gc,0,ν⟩) n2 capc,σ ν 0 0] 67)=v at hqN jH hdb hres hbv hDv hOc hgc2 hsv hbN ⊢;clear hbN;refine rd 1 (λK hK=>?_);obtain⟨k0_,-⟩:=AG hdb;go_simp;refine hK.out _ _ jH (λjH=>?_);clear hK K k0_;try simp only [zS]
      refine rd 10 (λK hK=>?_);have hXX:=OF A ⟨tb,n2,C,gc,capc,ν,0,[]⟩ i g lo BN v (by omega) (hDv.1.own rfl (hDv.2 g List.mem_cons_self).1 (λcur hc=>by rw [hAl];exact hcz cur (((hbv.block g hgw).symm).trans hc)) (by omega)) hqN (by omega);rw [hAl] at hXX;go_simp;refine hXX.mono ?_;rintro e v9 ⟨g9,cap9,rfl,hO9,hg9⟩;clear hXX;refine hK.out _ _ (Bl jH hg9 (by intro e;have:=VF e;omega)) (λjH=>?_);clear hK K;try simp only [zS]
      refine tk 11 jH ?_
      try simp only [zS]
      refine rd 12 (λK hK=>?_);have hdb9:=Bl hdb hg9 (by intro e;have:=VF e;omega);obtain⟨m0_,mf0_⟩:=AG hdb9;go_simp;refine hK.out _ _ (Af jH (by omega)) (λjH=>?_);clear hK K;try simp only [Act.put]
      refine VP (by kernel_rfl) ?_ _
    all_goals
     have hres9:=Bl hres hg9 (by intro e;have:=VF e;omega);have hdbS:=BW hdb9 (σ (ς ⟨g9,0,ν⟩) (n+1) cap9);have hresS:(v9.setCell ⟨w.heap.size,0,ν⟩ (σ (ς ⟨g9,0,ν⟩) (n+1) cap9)).heap[w.heap.size+1+1]?=_:=Af hres9 (by omega);obtain⟨n0_,-⟩:=AG hdbS;obtain⟨q0_,qf0_⟩:=AG hresS;go_wp2;refine VE (AE Tryz.results71 _ _ (w.heap.size+1+1) 28 _ (0,0) _ rfl (BW hresS _) Tryz.underlying28 rfl (by kernel_rfl)) rfl ?_;rw [HA.out];obtain⟨curc,hcc1,hcc2⟩:=Jt hOc;have htA:TbAt v ⟨tb,n2,C,gc,capc,ν,0,[]⟩:=⟨⟨curc,hcc1,hcc2,FZ hOc⟩,I0 hOc HCS.out,(λr hr=>(by cases hr)),VV rfl⟩;obtain⟨h1,h2,h4,h3⟩:=Qk (d:=⟨tb,n2,C,0,λ_=>0,λ_ _=>d0⟩) hDv hAl HTO.out (by omega) hO9 hg9 htA ⟨rfl,rfl,rfl,rfl⟩ (by simp [Tb.bl]) (λb hm=>by obtain rfl:b=gc:=(by simpa [Tb.bl] using hm);exact⟨by omega,hgc2,λhx=>by have:=(hDb.2 _ hx).2;omega⟩) (VX hlo hbv.size);have hwl:=Gc (d:=⟨tb,n2,C,0,λ_=>0,λ_ _=>d0⟩) HLO.out (Dp HN0.out);have hwlen:(DB T ⟨tb,n2,C,0,λ_=>0,λ_ _=>d0⟩ n).length=n+1:=by rw [hwl];simp [AY];omega
     have hno:∀ x,w.heap.size<=x->x<w.heap.size+1+1+1->x ∉ g9 :: (A.take i ++ ⟨tb,n2,C,gc,capc,ν,0,[]⟩ :: A.drop i).flatMap Tb.bl:=λx hx1 hx2 hm=>by
      rcases h4 x hm with h | h | h
      · have:=(World.ownsRow.lt hO9 g9 rfl).1;omega
      ·
       obtain rfl:x=gc:=by simpa [Tb.bl] using h
       omega
      · have:=(hDb.2 x (List.mem_cons_of_mem _ h)).2;omega
     refine⟨g9,cap9,_,by rw [hwlen];rfl,(h1.allN (BlkX.set (w.heap.size) 0 v9 _) (hno _ (by omega) (by omega))).allN (BlkX.set (w.heap.size+1+1) 0 _ _) (hno _ (by omega) (by omega)),by rw [hwlen,h2],λj hj=>?_,?_,λb hb hbw=>?_,λq hq hqg=>?_⟩
     · rw [hwl];exact h3 j (by rw [←hwlen];exact hj)
     · exact(((hbv.mono hlo).grown hg9 (VX hlo hbv.size) (λk hk=>by injection hk with hk;rw [←hk];exact(hDb.2 g List.mem_cons_self).1)).setCell (show lo<=w.heap.size from hlo) _).setCell (show lo<=w.heap.size+1+1 by omega) _
     ·
      rcases h4 b hb with h | h | h
      · have:=(World.ownsRow.lt hO9 g9 rfl).1;have:=hbv.size;omega
      ·
       obtain rfl:b=gc:=by simpa [Tb.bl] using h
       omega
      · exact List.mem_cons_of_mem _ h
     · rw [Below.heap_setCell _ _ _ _ (by show q≠w.heap.size+1+1;omega),Below.heap_setCell _ _ _ _ (by show q≠w.heap.size;omega),hg9.block q (Nat.lt_of_lt_of_le hq hbv.size) (λe=>hqg (VF e))];exact hbv.block q hq
