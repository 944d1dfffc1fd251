import Derived.Test.YtgeiamgeclbiaaaGreatDoorXi
namespace Go.Proofs.YtgeiamgeclbiaaaGreatDoor
open Go.RowKit Go.Maps Go.WideMaps
set_option maxRecDepth 20000
set_option maxHeartbeats 16000000
def csR(C:Nat->Clm)(n:Nat)(col:ByteArray)(I:Nat->Itm)(m:Nat):Int:=match colI C col n with
 | none=>3
 | some q=>ctR C n I m (C q).t
theorem iCheckSet(ac:Option Addr)(n cc:Nat)(C:Nat->Clm)(mb:Nat)(col:ByteArray)(a:Option Addr)(m c:Nat)(I:Nat->Itm)(w:World)(hC:CL w ac n C)(hP:PlAt w mb n C)(hdp:∀ k,k<n->hasCol C (C k).s k=false)(hI:IL w a m I)(hm:m<=100)(hx:ex I m=some 1)(hcs:col.size<=1048576) :
 Calls Tryz.prog 131 #[.agg #[.slice ac n cc,.map (some mb)],.string col,.slice a m c] w fun e w'=>e=.returned (.int .i64 (csR C n col I m))/\Below w.heap.size w w':=by
 have hb0:=bal w (.cells #[.slice ac n cc,.map (some mb)] 79);have hq0:=heap_alloc_new w (.cells #[.slice ac n cc,.map (some mb)] 79);obtain⟨m0,m1⟩:=box2 hq0;have hkey:keyOf Tryz.prog 9 (.string col)=some (litS col):=keyOf_string_mk Tryz.underlying9 (by unfold maxLen;omega);have hP1:=hP.later hb0;rcases hq:colI C col n with _ | q
 ·
  have HE:Hid (csR C n col I m=3):=by show _=_;unfold csR;rw [hq]
  have hh:Maps.has (pl C n) (litS col)=false:=by rw [has_pl,has_colI,hq];rfl
  go_enter Tryz.func131,Tryz.ntmps131
  go_wp2_with (at_lookup;refine wpList_lookup_own_ok_int _ rfl _ _ 77 rfl 9 3 .i64 lawS Tryz.underlying77 Tryz.underlying3 (zeroI _) mb n (pl C n) rfl hP1 _ _ rfl hkey ?_;intro cv hat hwc;rw [hh];clear hat hwc)
  go_ret
  exact⟨by rw [HE.out];rfl,hb0⟩
 ·
  have hqn:=(colI_lt hq).1;have HE:Hid (csR C n col I m=ctR C n I m (C q).t):=by show _=_;unfold csR;rw [hq]
  have hh:Maps.has (pl C n) (litS col)=true:=by rw [has_pl,has_colI,hq];rfl
  have HAT:Hid ((pl C n).atKey (litS col) (.lit (.int .i64 0))=.lit (.int .i64 q)):=pl_at hdp hq _;have HCT:Hid (∀ v,Below w.heap.size w v->Calls Tryz.prog 162 #[.agg #[.slice ac n cc,.map (some mb)],.slice a m c,.int .i64 (C q).t] v fun e w'=>e=.returned (.int .i64 (ctR C n I m (C q).t))/\Below v.heap.size v w'):=fun v hv=>iCheckT ac n cc C mb a m c I (C q).t v (hC.later hv) (hP.later hv) hdp (hI.later hv) hm hx;obtain⟨b,off,rfl,d0,d1,hs⟩:=hC.later hb0 q hqn;have hq0':(0:Int)<=(q:Int):=by omega
  have hqi:(q:Int)<(n:Int):=by omega
  generalize ctR C n I m (C q).t=ctv at HE HCT;generalize (C q).t=ctt at d1 HCT;go_enter Tryz.func131,Tryz.ntmps131
  go_upto_region 4 with (at_lookup;refine wpList_lookup_own_ok_int _ rfl _ _ 77 rfl 9 3 .i64 lawS Tryz.underlying77 Tryz.underlying3 (zeroI _) mb n (pl C n) rfl hP1 _ _ rfl hkey ?_;intro cv hat hwc;rw [hh];rw [HAT.out] at hat;obtain rfl:(q:Int)=cv:=(by simpa using hat);clear hat hwc)
  refine wp_region_held_drew (S:=fun x=>Below (w.alloc (.cells #[.slice (some ⟨b,off,none⟩) n cc,.map (some mb)] 79)).heap.size (w.alloc (.cells #[.slice (some ⟨b,off,none⟩) n cc,.map (some mb)] 79)) x) (by kernel_rfl) (bdrV _) (fun jH=>?_);refine tk 0 (⟨some 18,.load 79 (.tmp 3),79,"l5_replay.go:216",#[],none⟩:Oper) (fun x jS=>by obtain⟨k0,k1⟩:=box2 (rowL hq0 jS);have k2:=keepB jS d1;go_simp<;>rfl) jH ?_
  try simp only [zS]
  refine tk 1 (⟨some 19,.move (.tmp 2),42,"l5_replay.go:216",#[],none⟩:Oper) (fun x jS=>by go_simp<;>rfl) jH ?_
  try simp only [zS]
  refine tk 2 (⟨some 20,.fieldAddr 79 (.tmp 3) 0,0,"l5_replay.go:216",#[],none⟩:Oper) (fun x jS=>by go_simp<;>rfl) jH ?_
  try simp only [zS]
  refine tk 3 (⟨some 21,.load 40 (.tmp 20),40,"l5_replay.go:216",#[⟨2,.data⟩],none⟩:Oper) (fun x jS=>by obtain⟨k0,k1⟩:=box2 (rowL hq0 jS);have k2:=keepB jS d1;go_simp<;>rfl) jH ?_
  try simp only [zS]
  refine tk 4 (⟨some 22,.move (.tmp 7),3,"l5_replay.go:216",#[],none⟩:Oper) (fun x jS=>by go_simp<;>rfl) jH ?_
  try simp only [zS]
  refine tk 5 (⟨some 23,.indexAddr 40 (.tmp 21) (.tmp 22),0,"l5_replay.go:216",#[⟨3,.data⟩,⟨4,.data⟩],none⟩:Oper) (fun x jS=>by go_simp<;>rfl) jH ?_
  try simp only [zS]
  refine tk 6 (⟨some 24,.fieldAddr 113 (.tmp 23) 1,0,"l5_replay.go:216",#[⟨5,.data⟩],none⟩:Oper) (fun x jS=>by go_simp<;>rfl) jH ?_
  try simp only [zS]
  refine tk 7 (⟨some 25,.load 3 (.tmp 24),3,"l5_replay.go:216",#[⟨6,.data⟩],none⟩:Oper) (fun x jS=>by obtain⟨k0,k1⟩:=box2 (rowL hq0 jS);have k2:=keepB jS d1;go_simp<;>rfl) jH ?_
  try simp only [zS]
  refine rd 8 (⟨some 26,.call ⟨.value (.func 162),#[.tmp 18,.tmp 19,.tmp 25],#[79,42,3]⟩,3,"l5_replay.go:216",#[⟨0,.data⟩,⟨1,.data⟩,⟨7,.data⟩],none⟩:Oper) (fun K hK=>?_);go_simp;refine(HCT.out _ (bstep hb0 jH)).mono ?_;rintro e w3 ⟨rfl,hb3⟩;refine hK.out _ _ (bstep jH hb3) (fun jH=>?_);clear hK K;try simp only [zS]
  refine tk 9 (⟨some 6,.assign (.tmp 26),3,"l5_replay.go:216",#[⟨8,.data⟩,⟨8,.chain⟩,⟨0,.phase⟩,⟨1,.phase⟩,⟨2,.phase⟩,⟨3,.phase⟩,⟨4,.phase⟩,⟨5,.phase⟩,⟨6,.phase⟩,⟨7,.phase⟩,⟨8,.phase⟩],none⟩:Oper) (fun x jS=>by go_simp<;>rfl) jH ?_
  try simp only [zS]
  refine wpAnyH_done (by kernel_rfl) ?_ _;go_wp2;go_ret
  exact⟨by rw [HE.out];rfl,bstep hb0 jH⟩
theorem iCheckS2(ac:Option Addr)(n cc:Nat)(C:Nat->Clm)(mb:Nat)(tb:ByteArray)(a2:Option Addr)(n2 c2:Nat)(a3:Option Addr)(n3 c3:Nat)(col:ByteArray)(a5:Option Addr)(n5 c5:Nat)(a6:Option Addr)(n6 c6:Nat)(a7:Option Addr)(n7 c7:Nat)(V W:Nat->Itm)(w:World)(hC:CL w ac n C)(hP:PlAt w mb n C)(hdp:∀ k,k<n->hasCol C (C k).s k=false)(hW:IL w a6 n6 W)(hok:okWhere W n6=true)(hV:IL w a3 n3 V)(hn:n<=1048576)(hn3:n3<=1048576) :
 Calls Tryz.prog 88 #[.agg #[.slice ac n cc,.map (some mb)],.agg #[.int .i64 2,.string tb,.slice a2 n2 c2,.slice a3 n3 c3,.string col,.slice a5 n5 c5,.slice a6 n6 c6,.slice a7 n7 c7]] w fun e w'=>e=.returned (.int .i64 (if typesB n3 n V C=false then 4 else cwR C n W n6))/\Below w.heap.size w w':=by
 have hbU:Below w.heap.size w ((w.alloc (.cells #[.slice ac n cc,.map (some mb)] 79)).alloc (.cells #[.int .i64 2,.string tb,.slice a2 n2 c2,.slice a3 n3 c3,.string col,.slice a5 n5 c5,.slice a6 n6 c6,.slice a7 n7 c7] 45)):=bstep (bal _ _) (bal _ _);have hq0:((w.alloc (.cells #[.slice ac n cc,.map (some mb)] 79)).alloc (.cells #[.int .i64 2,.string tb,.slice a2 n2 c2,.slice a3 n3 c3,.string col,.slice a5 n5 c5,.slice a6 n6 c6,.slice a7 n7 c7] 45)).heap[w.heap.size]?=some (.cells #[.slice ac n cc,.map (some mb)] 79 (0,0)):=rowL (heap_alloc_new w _) (bal _ _);have hq1:((w.alloc (.cells #[.slice ac n cc,.map (some mb)] 79)).alloc (.cells #[.int .i64 2,.string tb,.slice a2 n2 c2,.slice a3 n3 c3,.string col,.slice a5 n5 c5,.slice a6 n6 c6,.slice a7 n7 c7] 45)).heap[w.heap.size+1]?=some (.cells #[.int .i64 2,.string tb,.slice a2 n2 c2,.slice a3 n3 c3,.string col,.slice a5 n5 c5,.slice a6 n6 c6,.slice a7 n7 c7] 45 (0,0)):=by
  have q:=heap_alloc_new (w.alloc (.cells #[.slice ac n cc,.map (some mb)] 79)) (.cells #[.int .i64 2,.string tb,.slice a2 n2 c2,.slice a3 n3 c3,.string col,.slice a5 n5 c5,.slice a6 n6 c6,.slice a7 n7 c7] 45);rw [World.size_alloc] at q;exact q
 have HWH:Hid (∀ v,Below w.heap.size w v->Calls Tryz.prog 133 #[.agg #[.slice ac n cc,.map (some mb)],.slice a6 n6 c6] v fun e w'=>e=.returned (.int .i64 (cwR C n W n6))/\Below v.heap.size v w'):=fun v hv=>iCheckWh ac n cc C mb a6 n6 c6 W v (hC.later hv) (hP.later hv) hdp (hW.later hv) hok;generalize cwR C n W n6=cw at HWH ⊢;obtain⟨s0,s1⟩:=box2 hq0;obtain⟨x0,-,-,x3,x4,x5,x6,-⟩:=box8 hq1;have HT:=iHaveTypes a3 n3 c3 V ac n cc C ((w.alloc (.cells #[.slice ac n cc,.map (some mb)] 79)).alloc (.cells #[.int .i64 2,.string tb,.slice a2 n2 c2,.slice a3 n3 c3,.string col,.slice a5 n5 c5,.slice a6 n6 c6,.slice a7 n7 c7] 45)) (hV.later hbU) (hC.later hbU) hn3 hn;rcases ht:typesB n3 n V C
 ·
  rw [ht] at HT;go_enter Tryz.func88,Tryz.ntmps88
  go_wp2_with (first | (go_at_call 130;refine HT.mono ?_;rintro e w1 ⟨rfl,hb1⟩) | go_in)
  go_ret
  exact⟨rfl,bstep hbU hb1⟩
 ·
  rw [ht] at HT;go_enter Tryz.func88,Tryz.ntmps88
  go_wp2_with (first | (go_at_call 130;refine HT.mono ?_;rintro e w1 ⟨rfl,hb1⟩;obtain⟨t0_,t1_⟩:=box2 (rowL hq0 hb1);obtain⟨-,-,-,-,-,-,u6,-⟩:=box8 (rowL hq1 hb1)) | (go_at_call 133;refine(HWH.out _ (bstep hbU hb1)).mono ?_;rintro e w9 ⟨rfl,hb9⟩) | go_in)
  go_ret
  exact⟨rfl,bstep (bstep hbU hb1) hb9⟩
theorem iCheckS3(ac:Option Addr)(n cc:Nat)(C:Nat->Clm)(mb:Nat)(tb:ByteArray)(a2:Option Addr)(n2 c2:Nat)(a3:Option Addr)(n3 c3:Nat)(col:ByteArray)(a5:Option Addr)(n5 c5:Nat)(a6:Option Addr)(n6 c6:Nat)(a7:Option Addr)(n7 c7:Nat)(E W:Nat->Itm)(w:World)(hC:CL w ac n C)(hP:PlAt w mb n C)(hdp:∀ k,k<n->hasCol C (C k).s k=false)(hW:IL w a6 n6 W)(hok:okWhere W n6=true)(hE:IL w a5 n5 E)(hm:n5<=100)(hx:ex E n5=some 1)(hcs:col.size<=1048576) :
 Calls Tryz.prog 88 #[.agg #[.slice ac n cc,.map (some mb)],.agg #[.int .i64 3,.string tb,.slice a2 n2 c2,.slice a3 n3 c3,.string col,.slice a5 n5 c5,.slice a6 n6 c6,.slice a7 n7 c7]] w fun e w'=>e=.returned (.int .i64 (if csR C n col E n5=0 then cwR C n W n6 else csR C n col E n5))/\Below w.heap.size w w':=by
 have hbU:Below w.heap.size w ((w.alloc (.cells #[.slice ac n cc,.map (some mb)] 79)).alloc (.cells #[.int .i64 3,.string tb,.slice a2 n2 c2,.slice a3 n3 c3,.string col,.slice a5 n5 c5,.slice a6 n6 c6,.slice a7 n7 c7] 45)):=bstep (bal _ _) (bal _ _);have hq0:((w.alloc (.cells #[.slice ac n cc,.map (some mb)] 79)).alloc (.cells #[.int .i64 3,.string tb,.slice a2 n2 c2,.slice a3 n3 c3,.string col,.slice a5 n5 c5,.slice a6 n6 c6,.slice a7 n7 c7] 45)).heap[w.heap.size]?=some (.cells #[.slice ac n cc,.map (some mb)] 79 (0,0)):=rowL (heap_alloc_new w _) (bal _ _);have hq1:((w.alloc (.cells #[.slice ac n cc,.map (some mb)] 79)).alloc (.cells #[.int .i64 3,.string tb,.slice a2 n2 c2,.slice a3 n3 c3,.string col,.slice a5 n5 c5,.slice a6 n6 c6,.slice a7 n7 c7] 45)).heap[w.heap.size+1]?=some (.cells #[.int .i64 3,.string tb,.slice a2 n2 c2,.slice a3 n3 c3,.string col,.slice a5 n5 c5,.slice a6 n6 c6,.slice a7 n7 c7] 45 (0,0)):=by
  have q:=heap_alloc_new (w.alloc (.cells #[.slice ac n cc,.map (some mb)] 79)) (.cells #[.int .i64 3,.string tb,.slice a2 n2 c2,.slice a3 n3 c3,.string col,.slice a5 n5 c5,.slice a6 n6 c6,.slice a7 n7 c7] 45);rw [World.size_alloc] at q;exact q
 have HWH:Hid (∀ v,Below w.heap.size w v->Calls Tryz.prog 133 #[.agg #[.slice ac n cc,.map (some mb)],.slice a6 n6 c6] v fun e w'=>e=.returned (.int .i64 (cwR C n W n6))/\Below v.heap.size v w'):=fun v hv=>iCheckWh ac n cc C mb a6 n6 c6 W v (hC.later hv) (hP.later hv) hdp (hW.later hv) hok;generalize cwR C n W n6=cw at HWH ⊢;obtain⟨s0,s1⟩:=box2 hq0;obtain⟨x0,-,-,x3,x4,x5,x6,-⟩:=box8 hq1;have HT:=iCheckSet ac n cc C mb col a5 n5 c5 E ((w.alloc (.cells #[.slice ac n cc,.map (some mb)] 79)).alloc (.cells #[.int .i64 3,.string tb,.slice a2 n2 c2,.slice a3 n3 c3,.string col,.slice a5 n5 c5,.slice a6 n6 c6,.slice a7 n7 c7] 45)) (hC.later hbU) (hP.later hbU) hdp (hE.later hbU) hm hx hcs;generalize csR C n col E n5=cs at HT ⊢;by_cases hc:cs=0
 ·
  subst hc;go_enter Tryz.func88,Tryz.ntmps88
  go_wp2_with (first | (go_at_call 131;refine HT.mono ?_;rintro e w1 ⟨rfl,hb1⟩;obtain⟨t0_,t1_⟩:=box2 (rowL hq0 hb1);obtain⟨-,-,-,-,-,-,u6,-⟩:=box8 (rowL hq1 hb1)) | (go_at_call 133;refine(HWH.out _ (bstep hbU hb1)).mono ?_;rintro e w9 ⟨rfl,hb9⟩) | go_in)
  go_ret
  exact⟨rfl,bstep (bstep hbU hb1) hb9⟩
 ·
  have n0:(cs != 0)=true:=by simpa using hc
  go_enter Tryz.func88,Tryz.ntmps88
  go_wp2_with (first | (go_at_call 131;refine HT.mono ?_;rintro e w1 ⟨rfl,hb1⟩) | go_in)
  go_ret
  exact⟨rfl,bstep hbU hb1⟩
theorem iCheckS4(ac:Option Addr)(n cc:Nat)(C:Nat->Clm)(mb:Nat)(tb:ByteArray)(a2:Option Addr)(n2 c2:Nat)(a3:Option Addr)(n3 c3:Nat)(col:ByteArray)(a5:Option Addr)(n5 c5:Nat)(a6:Option Addr)(n6 c6:Nat)(a7:Option Addr)(n7 c7:Nat)(W:Nat->Itm)(w:World)(hC:CL w ac n C)(hP:PlAt w mb n C)(hdp:∀ k,k<n->hasCol C (C k).s k=false)(hW:IL w a6 n6 W)(hok:okWhere W n6=true)  :
 Calls Tryz.prog 88 #[.agg #[.slice ac n cc,.map (some mb)],.agg #[.int .i64 4,.string tb,.slice a2 n2 c2,.slice a3 n3 c3,.string col,.slice a5 n5 c5,.slice a6 n6 c6,.slice a7 n7 c7]] w fun e w'=>e=.returned (.int .i64 (cwR C n W n6))/\Below w.heap.size w w':=by
 have hbU:Below w.heap.size w ((w.alloc (.cells #[.slice ac n cc,.map (some mb)] 79)).alloc (.cells #[.int .i64 4,.string tb,.slice a2 n2 c2,.slice a3 n3 c3,.string col,.slice a5 n5 c5,.slice a6 n6 c6,.slice a7 n7 c7] 45)):=bstep (bal _ _) (bal _ _);have hq0:((w.alloc (.cells #[.slice ac n cc,.map (some mb)] 79)).alloc (.cells #[.int .i64 4,.string tb,.slice a2 n2 c2,.slice a3 n3 c3,.string col,.slice a5 n5 c5,.slice a6 n6 c6,.slice a7 n7 c7] 45)).heap[w.heap.size]?=some (.cells #[.slice ac n cc,.map (some mb)] 79 (0,0)):=rowL (heap_alloc_new w _) (bal _ _);have hq1:((w.alloc (.cells #[.slice ac n cc,.map (some mb)] 79)).alloc (.cells #[.int .i64 4,.string tb,.slice a2 n2 c2,.slice a3 n3 c3,.string col,.slice a5 n5 c5,.slice a6 n6 c6,.slice a7 n7 c7] 45)).heap[w.heap.size+1]?=some (.cells #[.int .i64 4,.string tb,.slice a2 n2 c2,.slice a3 n3 c3,.string col,.slice a5 n5 c5,.slice a6 n6 c6,.slice a7 n7 c7] 45 (0,0)):=by
  have q:=heap_alloc_new (w.alloc (.cells #[.slice ac n cc,.map (some mb)] 79)) (.cells #[.int .i64 4,.string tb,.slice a2 n2 c2,.slice a3 n3 c3,.string col,.slice a5 n5 c5,.slice a6 n6 c6,.slice a7 n7 c7] 45);rw [World.size_alloc] at q;exact q
 have HWH:Hid (∀ v,Below w.heap.size w v->Calls Tryz.prog 133 #[.agg #[.slice ac n cc,.map (some mb)],.slice a6 n6 c6] v fun e w'=>e=.returned (.int .i64 (cwR C n W n6))/\Below v.heap.size v w'):=fun v hv=>iCheckWh ac n cc C mb a6 n6 c6 W v (hC.later hv) (hP.later hv) hdp (hW.later hv) hok;generalize cwR C n W n6=cw at HWH ⊢;obtain⟨s0,s1⟩:=box2 hq0;obtain⟨x0,-,-,x3,x4,x5,x6,-⟩:=box8 hq1;go_enter Tryz.func88,Tryz.ntmps88
 go_wp2_with (go_at_call 133;refine(HWH.out _ hbU).mono ?_;rintro e w9 ⟨rfl,hb9⟩)
 go_ret
 exact⟨rfl,bstep hbU hb9⟩
def cgA(n:Nat)(T:Nat->Td)(tb:ByteArray)(code:Nat->Int):Int×Int:=match tabI T tb n with
 | none=>(0,1)
 | some j=>((j:Int),code j)
theorem iCheckedG(a:Option Addr)(n c:Nat)(T:Nat->Td)(k0:Int)(tb:ByteArray)(a2:Option Addr)(n2 c2:Nat)(a3:Option Addr)(n3 c3:Nat)(col:ByteArray)(a5:Option Addr)(n5 c5:Nat)(a6:Option Addr)(n6 c6:Nat)(a7:Option Addr)(n7 c7:Nat)(code:Nat->Int)(w:World)(hT:TL w a n T)(hn:n<=1048576)(hok:okDb n T=true)
 (hcs:∀ j,tabI T tb n=some j->∀ (v:World) (ac:Option Addr) (cc pb:Nat),Below w.heap.size w v->CL v ac (T j).n (T j).C->PlAt v pb (T j).n (T j).C->(∀ k,k<(T j).n->hasCol (T j).C ((T j).C k).s k=false)->Calls Tryz.prog 88 #[.agg #[.slice ac (T j).n cc,.map (some pb)],.agg #[.int .i64 k0,.string tb,.slice a2 n2 c2,.slice a3 n3 c3,.string col,.slice a5 n5 c5,.slice a6 n6 c6,.slice a7 n7 c7]] v fun e w'=>e=.returned (.int .i64 (code j))/\Below v.heap.size v w') :
 Calls Tryz.prog 36 #[.agg #[.slice a n c],.agg #[.int .i64 k0,.string tb,.slice a2 n2 c2,.slice a3 n3 c3,.string col,.slice a5 n5 c5,.slice a6 n6 c6,.slice a7 n7 c7]] w fun e w'=>e=.returned (.tuple #[.int .i64 (cgA n T tb code).1,.int .i64 (cgA n T tb code).2])/\Below w.heap.size w w':=by
 have HOK:Hid (okDb n T=true):=hok;clear hok;have hbU:Below w.heap.size w ((w.alloc (.cells #[.slice a n c] 38)).alloc (.cells #[.int .i64 k0,.string tb,.slice a2 n2 c2,.slice a3 n3 c3,.string col,.slice a5 n5 c5,.slice a6 n6 c6,.slice a7 n7 c7] 45)):=bstep (bal _ _) (bal _ _);have hq0:((w.alloc (.cells #[.slice a n c] 38)).alloc (.cells #[.int .i64 k0,.string tb,.slice a2 n2 c2,.slice a3 n3 c3,.string col,.slice a5 n5 c5,.slice a6 n6 c6,.slice a7 n7 c7] 45)).heap[w.heap.size]?=some (.cells #[.slice a n c] 38 (0,0)):=rowL (heap_alloc_new w _) (bal _ _);have hq1:((w.alloc (.cells #[.slice a n c] 38)).alloc (.cells #[.int .i64 k0,.string tb,.slice a2 n2 c2,.slice a3 n3 c3,.string col,.slice a5 n5 c5,.slice a6 n6 c6,.slice a7 n7 c7] 45)).heap[w.heap.size+1]?=some (.cells #[.int .i64 k0,.string tb,.slice a2 n2 c2,.slice a3 n3 c3,.string col,.slice a5 n5 c5,.slice a6 n6 c6,.slice a7 n7 c7] 45 (0,0)):=by
  have q:=heap_alloc_new (w.alloc (.cells #[.slice a n c] 38)) (.cells #[.int .i64 k0,.string tb,.slice a2 n2 c2,.slice a3 n3 c3,.string col,.slice a5 n5 c5,.slice a6 n6 c6,.slice a7 n7 c7] 45);rw [World.size_alloc] at q;exact q
 obtain⟨p0,-⟩:=box1 hq0;obtain⟨-,p1,-⟩:=box8 hq1;have HF:=iFind a n c T tb ((w.alloc (.cells #[.slice a n c] 38)).alloc (.cells #[.int .i64 k0,.string tb,.slice a2 n2 c2,.slice a3 n3 c3,.string col,.slice a5 n5 c5,.slice a6 n6 c6,.slice a7 n7 c7] 45)) (hT.later hbU) hn HOK.out;rcases ht:tabI T tb n with _ | j
 ·
  have HA:Hid (cgA n T tb code=(0,1)):=by show _=_;unfold cgA;rw [ht]
  rw [ht] at HF;simp only [Option.isSome] at HF
  clear ht hcs;go_enter Tryz.func36,Tryz.ntmps36
  go_wp2_with (go_at_call 87;refine HF.mono ?_;rintro e w1 ⟨i,rfl,-,-,hb1⟩)
  refine bodyPost_ret (results_tmp2 rfl _ _ _) rfl ⟨by rw [HA.out];rfl,bstep hbU hb1⟩
 ·
  have hj:=(tabI_lt ht).1;have hdj:=okTd_dif ((okDb_out HOK.out).2 j hj);have hNj:=okTd_nice ((okDb_out HOK.out).2 j hj);have HA:Hid (cgA n T tb code=((j:Int),code j)):=by show _=_;unfold cgA;rw [ht]
  have HCS:=hcs j ht;rw [ht] at HF;simp only [Option.isSome] at HF
  clear ht hcs;obtain⟨dn,hdn⟩:∃ x,(T j).n=x:=⟨_,rfl⟩;obtain⟨dC,hdC⟩:∃ x,(T j).C=x:=⟨_,rfl⟩;obtain⟨cj,hcj⟩:∃ x,code j=x:=⟨_,rfl⟩;have hn1:=hNj.n1;have hn0:=hNj.n0;rw [hdn] at hn1 hn0 hdj;rw [hdC] at hdj;rw [hdn,hdC,hcj] at HCS;rw [hcj] at HA;have HDN:Hid ((T j).n=dn/\(T j).C=dC):=⟨hdn,hdC⟩;have HCS2:Hid (∀ (v:World) (ac:Option Addr) (cc pb:Nat),Below w.heap.size w v->CL v ac dn dC->PlAt v pb dn dC->Calls Tryz.prog 88 #[.agg #[.slice ac dn cc,.map (some pb)],.agg #[.int .i64 k0,.string tb,.slice a2 n2 c2,.slice a3 n3 c3,.string col,.slice a5 n5 c5,.slice a6 n6 c6,.slice a7 n7 c7]] v fun e w'=>e=.returned (.int .i64 cj)/\Below v.heap.size v w'):=fun v ac cc pb h1 h2 h3=>HCS v ac cc pb h1 h2 h3 hdj;clear hdn hdC hcj hdj hNj HCS;have hjn:(j:Int)<n:=by omega
  have hj0:(0:Int)<=j:=by omega
  go_enter Tryz.func36,Tryz.ntmps36
  go_upto_region 4 with (go_at_call 87;refine HF.mono ?_;rintro e w1 ⟨i,rfl,-,hij,hb1⟩;obtain rfl:=hij j rfl)
  have hb10:=bstep hbU hb1;have r0_:=rowL hq0 hb1;have r1_:=rowL hq1 hb1;obtain⟨bt,offt,ac,cc,ar,cr,rfl,-,e1,-,hC,-,-⟩:=hT.later hb10 i hj;rw [HDN.out.1] at e1 hC;rw [HDN.out.2] at hC;refine wp_region_held_drew (S:=fun x=>Below w1.heap.size w1 x) (by kernel_rfl) (bdrV _) (fun jH=>?_);refine tk 0 (⟨some 17,.move (.tmp 6),3,"l5_replay.go:180",#[],none⟩:Oper) (fun x jS=>by go_simp<;>rfl) jH ?_
  try simp only [zS]
  refine tk 1 (⟨some 18,.fieldAddr 38 (.tmp 2) 0,0,"l5_replay.go:180",#[],none⟩:Oper) (fun x jS=>by go_simp<;>rfl) jH ?_
  try simp only [zS]
  refine tk 2 (⟨some 19,.load 36 (.tmp 18),36,"l5_replay.go:180",#[⟨1,.data⟩],none⟩:Oper) (fun x jS=>by obtain⟨k0_,-⟩:=box1 (rowL r0_ jS);have k1:=keepB jS e1;obtain⟨j0_,j1_,j2_,j3_,j4_,j5_,j6_,j7_⟩:=box8 (rowL r1_ jS);go_simp<;>rfl) jH ?_
  try simp only [zS]
  refine tk 3 (⟨some 20,.move (.tmp 6),3,"l5_replay.go:180",#[],none⟩:Oper) (fun x jS=>by go_simp<;>rfl) jH ?_
  try simp only [zS]
  refine tk 4 (⟨some 21,.indexAddr 36 (.tmp 19) (.tmp 20),0,"l5_replay.go:180",#[⟨2,.data⟩,⟨3,.data⟩],none⟩:Oper) (fun x jS=>by go_simp<;>rfl) jH ?_
  try simp only [zS]
  refine tk 5 (⟨some 22,.fieldAddr 62 (.tmp 21) 1,0,"l5_replay.go:180",#[⟨4,.data⟩],none⟩:Oper) (fun x jS=>by go_simp<;>rfl) jH ?_
  try simp only [zS]
  refine tk 6 (⟨some 23,.load 40 (.tmp 22),40,"l5_replay.go:180",#[⟨5,.data⟩],none⟩:Oper) (fun x jS=>by obtain⟨k0_,-⟩:=box1 (rowL r0_ jS);have k1:=keepB jS e1;obtain⟨j0_,j1_,j2_,j3_,j4_,j5_,j6_,j7_⟩:=box8 (rowL r1_ jS);go_simp<;>rfl) jH ?_
  try simp only [zS]
  refine tk 8 (⟨some 25,.load 45 (.tmp 3),45,"l5_replay.go:180",#[],none⟩:Oper) (fun x jS=>by obtain⟨k0_,-⟩:=box1 (rowL r0_ jS);have k1:=keepB jS e1;obtain⟨j0_,j1_,j2_,j3_,j4_,j5_,j6_,j7_⟩:=box8 (rowL r1_ jS);go_simp<;>rfl) jH ?_
  try simp only [zS]
  refine rd 7 (⟨some 24,.call ⟨.value (.func 37),#[.tmp 23],#[40]⟩,79,"l5_replay.go:180",#[⟨6,.data⟩],none⟩:Oper) (fun K hK=>?_);go_simp;refine(iScope ac dn cc dC _ (hC.later jH) hn1).mono ?_;rintro e w2 ⟨rfl,hP2,hb2⟩;have hH2:=bstep jH hb2;refine hK.out _ _ (hH2) (fun jH=>?_);clear hK K;try simp only [zS]
  refine rd 9 (⟨some 26,.call ⟨.value (.func 88),#[.tmp 24,.tmp 25],#[79,45]⟩,3,"l5_replay.go:180",#[⟨7,.data⟩,⟨8,.data⟩,⟨7,.chain⟩],none⟩:Oper) (fun K hK=>?_);go_simp;refine(HCS2.out _ ac cc _ (bstep hb10 jH) (hC.later jH) hP2).mono ?_;rintro e w3 ⟨rfl,hb3⟩;refine hK.out _ _ (bstep jH hb3) (fun jH=>?_);clear hK K;try simp only [zS]
  refine tk 10 (⟨some 4,.assign (.tmp 17),3,"l5_replay.go:180",#[⟨0,.data⟩,⟨9,.chain⟩,⟨0,.phase⟩,⟨1,.textOnly .lateStores⟩,⟨2,.textOnly .lateStores⟩,⟨3,.textOnly .lateStores⟩,⟨4,.textOnly .lateStores⟩,⟨5,.textOnly .lateStores⟩,⟨6,.textOnly .lateStores⟩,⟨7,.textOnly .lateStoresUnsure⟩,⟨8,.textOnly .lateStores⟩,⟨9,.textOnly .lateStoresUnsure⟩],none⟩:Oper) (fun x jS=>by go_simp<;>rfl) jH ?_
  try simp only [zS]
  refine tk 11 (⟨some 5,.assign (.tmp 26),3,"l5_replay.go:180",#[⟨9,.data⟩,⟨10,.chain⟩,⟨0,.phase⟩,⟨1,.phase⟩,⟨2,.phase⟩,⟨3,.phase⟩,⟨4,.phase⟩,⟨5,.phase⟩,⟨6,.phase⟩,⟨7,.phase⟩,⟨8,.phase⟩,⟨9,.phase⟩,⟨10,.phase⟩],none⟩:Oper) (fun x jS=>by go_simp<;>rfl) jH ?_
  try simp only [zS]
  refine wpAnyH_done (by kernel_rfl) ?_ _;go_wp2;refine bodyPost_ret (results_tmp2 rfl _ _ _) rfl ⟨by rw [HA.out];rfl,bstep hb10 jH⟩
end Go.Proofs.YtgeiamgeclbiaaaGreatDoor
