import Derived.Test.YtgeiamgeclbiaaaGreatDoorVf
namespace Go.Proofs.YtgeiamgeclbiaaaGreatDoor
open Go.RowKit Go.Maps Go.WideMaps
set_option maxRecDepth 20000
set_option maxHeartbeats 8000000
def goodV(x:Itm):Prop:=(x.o=1/\x.s=⟨#[]⟩)∨(x.o=2/\x.m=0)
theorem less_irr2(x:List UInt8):Op.bytesLess x x=false:=less_irr x
theorem less_tot(x y:List UInt8)(h:Op.bytesLess x y=false)(h2:x≠y):Op.bytesLess y x=true:=by
 induction x generalizing y with
 | nil=>cases y with
  | nil=>exact absurd rfl h2
  | cons b y=>simp [Op.bytesLess] at h
 | cons a x ih=>cases y with
  | nil=>rfl
  | cons b y=>
   simp only [Op.bytesLess,Bool.or_eq_false_iff,decide_eq_false_iff_not,Bool.and_eq_false_iff,beq_eq_false_iff_ne,Bool.or_eq_true,decide_eq_true_eq,Bool.and_eq_true,beq_iff_eq] at h ⊢
   by_cases e:a=b
   ·
    subst e;right
    refine⟨rfl,ih y ?_ (fun h3=>h2 (by rw [h3]))⟩;rcases h.2 with h3 | h3
    · exact absurd rfl h3
    · exact h3
   ·
    left
    have h1:=h.1;rcases UInt8.lt_or_lt_of_ne e with h4 | h4
    · exact absurd h4 h1
    · exact h4
theorem cmp_eq{x y:Itm}(hx:goodV x)(hy:goodV y)(ho:x.o=y.o):decide (cmpV x.m x.s y.m y.s=0)=decide (x.m=y.m/\x.s=y.s):=by
 have hl:∀ s:ByteArray,Op.bytesLess s.toList s.toList=false:=fun s=>less_irr _;rcases hx with ⟨h1,h2⟩ | ⟨h1,h2⟩ <;> rcases hy with ⟨h3,h4⟩ | ⟨h3,h4⟩
 ·
  rw [h2,h4];unfold cmpV befV;rw [hl];simp only [Bool.or_false]
  by_cases e1:x.m<y.m
  ·
   have:¬x.m=y.m:=by omega
   simp [e1,this]
  ·
   by_cases e2:y.m<x.m
   ·
    have:¬x.m=y.m:=by omega
    simp [e1,e2,this]
   ·
    have:x.m=y.m:=by omega
    simp [this]
 · omega
 · omega
 ·
  rw [h2,h4];unfold cmpV befV;simp only [Int.lt_irrefl,decide_false,Bool.false_or]
  rcases e1:Op.bytesLess x.s.toList y.s.toList
  ·
   by_cases e2:x.s=y.s
   · simp [e2]
   ·
    have:(x.s.toList == y.s.toList)=false:=by rw [eqS];simp [e2]
    simp [this,e2]
  ·
   have e2:¬x.s=y.s:=fun e=>by rw [e,hl] at e1;cases e1
   simp [e2]
theorem cmp_lt{x y:Itm}(hx:goodV x)(hy:goodV y)(ho:x.o=y.o):decide (cmpV x.m x.s y.m y.s<0)=lesB x.o x.m x.s y.m y.s:=by
 have hl:∀ s:ByteArray,Op.bytesLess s.toList s.toList=false:=fun s=>less_irr _;rcases hx with ⟨h1,h2⟩ | ⟨h1,h2⟩ <;> rcases hy with ⟨h3,h4⟩ | ⟨h3,h4⟩
 ·
  rw [h2,h4];unfold cmpV befV lesB;rw [hl,if_pos h1];simp only [Bool.or_false]
  by_cases e1:x.m<y.m
  · simp [e1]
  ·
   by_cases e2:y.m<x.m
   · simp [e1,e2]
   · simp [e1,e2]
 · omega
 · omega
 ·
  rw [h2,h4,show lesB x.o 0 x.s 0 y.s=Op.bytesLess x.s.toList y.s.toList from by unfold lesB;rw [if_neg (by omega)]]
  unfold cmpV befV;simp only [Int.lt_irrefl,decide_false,Bool.false_or]
  rcases e1:Op.bytesLess x.s.toList y.s.toList
  ·
   by_cases e2:(x.s.toList == y.s.toList)=true
   · simp [e2]
   · simp [e2]
  · simp
theorem if_be{α:Type}(m m':Int)(s s':ByteArray)(f:Bool->α):(if m=m' then (if s.toList=s'.toList then f true else f false) else f false)=f (decide (m=m'/\s=s')):=by
 by_cases h1:m=m'
 ·
  rw [if_pos h1];by_cases h2:s.toList=s'.toList
  · rw [if_pos h2];simp [h1,bytes_inj2 h2]
  · have h3:¬s=s':=fun e=>h2 (by rw [e]);rw [if_neg h2];simp [h3]
 · rw [if_neg h1];simp [h1]
def itW(t:Itm)(x y:Itm):Itm:=if t.o=1 then ⟨1,t.m,⟨#[]⟩⟩ else if t.o=2 then ⟨2,0,t.s⟩ else appI t.o x y
theorem iResV(o mm:Int)(s:ByteArray)(a:Option Addr)(m c:Nat)(X:Nat->Itm)(w:World)(hX:IL w a m X)(hm:arity o<=m)(hm2:m<=1048576)(ho:1<=o/\o<=13)(ho3:¬o=3)(hgo:(o=7∨o=8)->goodV (X 0)/\goodV (X 1)/\(X 0).o=(X 1).o)(hsz:∀ i,i<m->(X i).s.size<=1000000) :
 Calls Tryz.prog 136 #[.agg #[.int .i64 o,.int .i64 mm,.string s],.slice a m c] w fun e w'=>e=.returned (.agg #[.int .i64 (itW ⟨o,mm,s⟩ (X 0) (X 1)).o,.int .i64 (itW ⟨o,mm,s⟩ (X 0) (X 1)).m,.string (itW ⟨o,mm,s⟩ (X 0) (X 1)).s])/\Below w.heap.size w w':=by
 have HGO:Hid ((o=7∨o=8)->goodV (X 0)/\goodV (X 1)/\(X 0).o=(X 1).o):=hgo;clear hgo;by_cases e1:o=1
 ·
  subst e1;have hbU:Below w.heap.size w ((w.alloc (.cells #[.int .i64 1,.int .i64 mm,.string s] 108)).alloc (.cells #[.int .i64 0,.int .i64 0,.string ⟨#[]⟩] 66)):=bstep (bal _ _) (bal _ _);have hrr:((w.alloc (.cells #[.int .i64 1,.int .i64 mm,.string s] 108)).alloc (.cells #[.int .i64 0,.int .i64 0,.string ⟨#[]⟩] 66)).heap[w.heap.size+1]?=some (.cells #[.int .i64 0,.int .i64 0,.string ⟨#[]⟩] 66 (0,0)):=by
   have q:=heap_alloc_new (w.alloc (.cells #[.int .i64 1,.int .i64 mm,.string s] 108)) (.cells #[.int .i64 0,.int .i64 0,.string ⟨#[]⟩] 66);rw [World.size_alloc] at q;exact q
  have hri:((w.alloc (.cells #[.int .i64 1,.int .i64 mm,.string s] 108)).alloc (.cells #[.int .i64 0,.int .i64 0,.string ⟨#[]⟩] 66)).heap[w.heap.size]?=some (.cells #[.int .i64 1,.int .i64 mm,.string s] 108 (0,0)):=rowL (heap_alloc_new w _) (bal _ _);have HT:Hid (itW ⟨1,mm,s⟩ (X 0) (X 1)=⟨1,mm,⟨#[]⟩⟩):=by show _=_;simp [itW]
  go_enter Tryz.func136,Tryz.ntmps136
  go_wp2_with (go_at_call 151;refine(iIntValue _ _).mono ?_;rintro e w2 ⟨rfl,hb2⟩;have hr2:=rowL hrr hb2;have hB2:=bstep hbU hb2;obtain⟨q0,q1,q2,f0,f1,f2⟩:=box3 hr2)
  refine bodyPost_ret (v:=.agg #[.int .i64 1,.int .i64 mm,.string ⟨#[]⟩]) (results_cell_row Tryz.results136 _ _ (w.heap.size+1) 66 _ (0,0) _ rfl (row3 hr2 _ _ _) Tryz.underlying66 rfl (by kernel_rfl)) rfl ⟨by rw [HT.out],bset3 hB2 (by omega) _ _ _⟩
 by_cases e2:o=2
 ·
  subst e2;have hbU:Below w.heap.size w ((w.alloc (.cells #[.int .i64 2,.int .i64 mm,.string s] 108)).alloc (.cells #[.int .i64 0,.int .i64 0,.string ⟨#[]⟩] 66)):=bstep (bal _ _) (bal _ _);have hrr:((w.alloc (.cells #[.int .i64 2,.int .i64 mm,.string s] 108)).alloc (.cells #[.int .i64 0,.int .i64 0,.string ⟨#[]⟩] 66)).heap[w.heap.size+1]?=some (.cells #[.int .i64 0,.int .i64 0,.string ⟨#[]⟩] 66 (0,0)):=by
   have q:=heap_alloc_new (w.alloc (.cells #[.int .i64 2,.int .i64 mm,.string s] 108)) (.cells #[.int .i64 0,.int .i64 0,.string ⟨#[]⟩] 66);rw [World.size_alloc] at q;exact q
  have hri:((w.alloc (.cells #[.int .i64 2,.int .i64 mm,.string s] 108)).alloc (.cells #[.int .i64 0,.int .i64 0,.string ⟨#[]⟩] 66)).heap[w.heap.size]?=some (.cells #[.int .i64 2,.int .i64 mm,.string s] 108 (0,0)):=rowL (heap_alloc_new w _) (bal _ _);have HT:Hid (itW ⟨2,mm,s⟩ (X 0) (X 1)=⟨2,0,s⟩):=by show _=_;simp [itW]
  go_enter Tryz.func136,Tryz.ntmps136
  go_wp2_with (go_at_call 165;refine(iTextV _ _).mono ?_;rintro e w2 ⟨rfl,hb2⟩;have hr2:=rowL hrr hb2;have hB2:=bstep hbU hb2;obtain⟨q0,q1,q2,f0,f1,f2⟩:=box3 hr2)
  refine bodyPost_ret (v:=.agg #[.int .i64 2,.int .i64 0,.string s]) (results_cell_row Tryz.results136 _ _ (w.heap.size+1) 66 _ (0,0) _ rfl (row3 hr2 _ _ _) Tryz.underlying66 rfl (by kernel_rfl)) rfl ⟨by rw [HT.out],bset3 hB2 (by omega) _ _ _⟩
 by_cases e11:o=11
 ·
  subst e11;have hbU:Below w.heap.size w ((w.alloc (.cells #[.int .i64 11,.int .i64 mm,.string s] 108)).alloc (.cells #[.int .i64 0,.int .i64 0,.string ⟨#[]⟩] 66)):=bstep (bal _ _) (bal _ _);have hrr:((w.alloc (.cells #[.int .i64 11,.int .i64 mm,.string s] 108)).alloc (.cells #[.int .i64 0,.int .i64 0,.string ⟨#[]⟩] 66)).heap[w.heap.size+1]?=some (.cells #[.int .i64 0,.int .i64 0,.string ⟨#[]⟩] 66 (0,0)):=by
   have q:=heap_alloc_new (w.alloc (.cells #[.int .i64 11,.int .i64 mm,.string s] 108)) (.cells #[.int .i64 0,.int .i64 0,.string ⟨#[]⟩] 66);rw [World.size_alloc] at q;exact q
  have hri:((w.alloc (.cells #[.int .i64 11,.int .i64 mm,.string s] 108)).alloc (.cells #[.int .i64 0,.int .i64 0,.string ⟨#[]⟩] 66)).heap[w.heap.size]?=some (.cells #[.int .i64 11,.int .i64 mm,.string s] 108 (0,0)):=rowL (heap_alloc_new w _) (bal _ _);have ha:1<=m:=by simp [arity] at hm;omega
  obtain⟨b,off,rfl,x0,x1,x2,-⟩:=hX.later hbU 0 (by omega);simp only [Nat.zero_mul,Nat.add_zero] at x0 x1 x2
  have i0_:(0:Int)<m:=by omega
  have in0_:0<m:=by omega
  have hz0:=hsz 0 (by omega);obtain⟨xo,xm,xs,hx⟩:∃ xo xm xs,X 0=⟨xo,xm,xs⟩:=⟨_,_,_,rfl⟩;rw [hx] at x0 x1 x2 hz0;simp only at x0 x1 x2 hz0
  have HT:Hid (itW ⟨11,mm,s⟩ (X 0) (X 1)=⟨1,tvI (decide (xm=0)),⟨#[]⟩⟩):=by show _=_;simp [itW,appI,tru,hx]
  clear hx;obtain⟨bb,hbb⟩:∃ bb,decide (xm=0)=bb:=⟨_,rfl⟩;have hbb2:(xm == 0)=bb:=by rw [←hbb];by_cases h:xm=0 <;> simp [h]
  rw [hbb] at HT;clear hbb;cases bb
  all_goals
   go_enter Tryz.func136,Tryz.ntmps136
   go_wp2_with (first | (go_at_call 166;first | (refine(iTruth true _).mono ?_;rintro e w1 ⟨rfl,rfl⟩) | (refine(iTruth false _).mono ?_;rintro e w1 ⟨rfl,rfl⟩)) | (go_at_call 151;refine(iIntValue _ _).mono ?_;rintro e w2 ⟨rfl,hb2⟩;have hr2:=rowL hrr hb2;have hB2:=bstep hbU hb2;obtain⟨q0,q1,q2,f0,f1,f2⟩:=box3 hr2))
   refine bodyPost_ret (v:=.agg #[.int .i64 1,.int .i64 (tvI _),.string ⟨#[]⟩]) (results_cell_row Tryz.results136 _ _ (w.heap.size+1) 66 _ (0,0) _ rfl (row3 hr2 _ _ _) Tryz.underlying66 rfl (by kernel_rfl)) rfl ⟨by rw [HT.out],bset3 hB2 (by omega) _ _ _⟩
 by_cases e13:o=13
 ·
  subst e13;have hbU:Below w.heap.size w ((w.alloc (.cells #[.int .i64 13,.int .i64 mm,.string s] 108)).alloc (.cells #[.int .i64 0,.int .i64 0,.string ⟨#[]⟩] 66)):=bstep (bal _ _) (bal _ _);have hrr:((w.alloc (.cells #[.int .i64 13,.int .i64 mm,.string s] 108)).alloc (.cells #[.int .i64 0,.int .i64 0,.string ⟨#[]⟩] 66)).heap[w.heap.size+1]?=some (.cells #[.int .i64 0,.int .i64 0,.string ⟨#[]⟩] 66 (0,0)):=by
   have q:=heap_alloc_new (w.alloc (.cells #[.int .i64 13,.int .i64 mm,.string s] 108)) (.cells #[.int .i64 0,.int .i64 0,.string ⟨#[]⟩] 66);rw [World.size_alloc] at q;exact q
  have hri:((w.alloc (.cells #[.int .i64 13,.int .i64 mm,.string s] 108)).alloc (.cells #[.int .i64 0,.int .i64 0,.string ⟨#[]⟩] 66)).heap[w.heap.size]?=some (.cells #[.int .i64 13,.int .i64 mm,.string s] 108 (0,0)):=rowL (heap_alloc_new w _) (bal _ _);have ha:1<=m:=by simp [arity] at hm;omega
  obtain⟨b,off,rfl,x0,x1,x2,-⟩:=hX.later hbU 0 (by omega);simp only [Nat.zero_mul,Nat.add_zero] at x0 x1 x2
  have i0_:(0:Int)<m:=by omega
  have in0_:0<m:=by omega
  have hz0:=hsz 0 (by omega);obtain⟨xo,xm,xs,hx⟩:∃ xo xm xs,X 0=⟨xo,xm,xs⟩:=⟨_,_,_,rfl⟩;rw [hx] at x0 x1 x2 hz0;simp only at x0 x1 x2 hz0
  have HT:Hid (itW ⟨13,mm,s⟩ (X 0) (X 1)=⟨1,(xs.size:Int),⟨#[]⟩⟩):=by show _=_;simp [itW,appI,hx]
  clear hx;go_enter Tryz.func136,Tryz.ntmps136
  go_wp2_with (go_at_call 151;refine(iIntValue _ _).mono ?_;rintro e w2 ⟨rfl,hb2⟩;have hr2:=rowL hrr hb2;have hB2:=bstep hbU hb2;obtain⟨q0,q1,q2,f0,f1,f2⟩:=box3 hr2)
  refine bodyPost_ret (v:=.agg #[.int .i64 1,.int .i64 (xs.size:Int),.string ⟨#[]⟩]) (results_cell_row Tryz.results136 _ _ (w.heap.size+1) 66 _ (0,0) _ rfl (row3 hr2 _ _ _) Tryz.underlying66 rfl (by kernel_rfl)) rfl ⟨by rw [HT.out],bset3 hB2 (by omega) _ _ _⟩
 by_cases e12:o=12
 ·
  subst e12;have hbU:Below w.heap.size w ((w.alloc (.cells #[.int .i64 12,.int .i64 mm,.string s] 108)).alloc (.cells #[.int .i64 0,.int .i64 0,.string ⟨#[]⟩] 66)):=bstep (bal _ _) (bal _ _);have hrr:((w.alloc (.cells #[.int .i64 12,.int .i64 mm,.string s] 108)).alloc (.cells #[.int .i64 0,.int .i64 0,.string ⟨#[]⟩] 66)).heap[w.heap.size+1]?=some (.cells #[.int .i64 0,.int .i64 0,.string ⟨#[]⟩] 66 (0,0)):=by
   have q:=heap_alloc_new (w.alloc (.cells #[.int .i64 12,.int .i64 mm,.string s] 108)) (.cells #[.int .i64 0,.int .i64 0,.string ⟨#[]⟩] 66);rw [World.size_alloc] at q;exact q
  have hri:((w.alloc (.cells #[.int .i64 12,.int .i64 mm,.string s] 108)).alloc (.cells #[.int .i64 0,.int .i64 0,.string ⟨#[]⟩] 66)).heap[w.heap.size]?=some (.cells #[.int .i64 12,.int .i64 mm,.string s] 108 (0,0)):=rowL (heap_alloc_new w _) (bal _ _);have ha:2<=m:=by simp [arity] at hm;omega
  obtain⟨b,off,rfl,x0,x1,x2,-⟩:=hX.later hbU 0 (by omega);simp only [Nat.zero_mul,Nat.add_zero] at x0 x1 x2
  have i0_:(0:Int)<m:=by omega
  have in0_:0<m:=by omega
  have hz0:=hsz 0 (by omega);obtain⟨b9,off9,e9,y0,y1,y2,-⟩:=hX.later hbU 1 (by omega);obtain⟨rfl,rfl⟩:b=b9/\off=off9:=by simpa using e9
  clear e9;simp only [Nat.one_mul] at y0 y1 y2
  have i1_:(1:Int)<m:=by omega
  have in1_:1<m:=by omega
  have hz1:=hsz 1 (by omega);obtain⟨xo,xm,xs,hx⟩:∃ xo xm xs,X 0=⟨xo,xm,xs⟩:=⟨_,_,_,rfl⟩;rw [hx] at x0 x1 x2 hz0;simp only at x0 x1 x2 hz0
  obtain⟨yo,ym,ys,hy⟩:∃ yo ym ys,X 1=⟨yo,ym,ys⟩:=⟨_,_,_,rfl⟩;rw [hy] at y0 y1 y2 hz1;simp only at y0 y1 y2 hz1
  have hcat:¬9223372036854775807<xs.size+ys.size:=by omega
  have HXY:Hid (X 0=⟨xo,xm,xs⟩/\X 1=⟨yo,ym,ys⟩):=⟨hx,hy⟩;have HT:Hid (itW ⟨12,mm,s⟩ (X 0) (X 1)=⟨2,0,xs ++ ys⟩):=by show _=_;simp [itW,appI,hx,hy]
  clear hx hy;go_enter Tryz.func136,Tryz.ntmps136
  go_upto_region 13 with (fail)
  replace hrr:((w.alloc (.cells #[.int .i64 12,.int .i64 mm,.string s] 108)).alloc (.cells #[.int .i64 0,.int .i64 0,.string ⟨#[]⟩] 66)).drew.heap[w.heap.size+1]?=some (.cells #[.int .i64 0,.int .i64 0,.string ⟨#[]⟩] 66 (0,0)):=hrr;refine wp_region_held_drew (S:=fun x=>Below w.heap.size w x/\x.heap[w.heap.size]?=some (.cells #[.int .i64 12,.int .i64 mm,.string s] 108 (0,0))) (by kernel_rfl) (⟨bstep hbU (bdrV _),hri⟩) (fun jH=>?_);refine tk 0 (⟨some 50,.move (.tmp 1),41,"l5_replay.go:310",#[],none⟩:Oper) (fun x jS=>by go_simp<;>rfl) jH ?_
  try simp only [zS]
  refine tk 1 (⟨some 51,.indexAddr 41 (.tmp 50) (.const (.int .i64 0)),0,"l5_replay.go:310",#[⟨0,.data⟩],none⟩:Oper) (fun x jS=>by go_simp<;>rfl) jH ?_
  try simp only [zS]
  refine tk 2 (⟨some 52,.fieldAddr 66 (.tmp 51) 2,0,"l5_replay.go:310",#[⟨1,.data⟩],none⟩:Oper) (fun x jS=>by go_simp<;>rfl) jH ?_
  try simp only [zS]
  refine tk 3 (⟨some 53,.load 9 (.tmp 52),9,"l5_replay.go:310",#[⟨2,.data⟩],none⟩:Oper) (fun x jS=>by obtain⟨hs1,hs2⟩:=jS;obtain⟨k0,k1,k2,-⟩:=box3 hs2;obtain⟨_,_,ea,l0,l1,l2,-⟩:=hX.later hs1 0 (by omega);obtain⟨_,_,eb,m0,m1,m2,-⟩:=hX.later hs1 1 (by omega);obtain⟨rfl,rfl⟩:=(by simpa using ea);obtain⟨rfl,rfl⟩:=(by simpa using eb);simp only [Nat.zero_mul,Nat.one_mul,Nat.add_zero] at l0 l1 l2 m0 m1 m2;rw [HXY.out.1] at l0 l1 l2;rw [HXY.out.2] at m0 m1 m2;simp only at l0 l1 l2 m0 m1 m2;go_simp<;>rfl) jH ?_
  try simp only [zS]
  refine tk 4 (⟨some 54,.move (.tmp 1),41,"l5_replay.go:310",#[],none⟩:Oper) (fun x jS=>by go_simp<;>rfl) jH ?_
  try simp only [zS]
  refine tk 5 (⟨some 55,.indexAddr 41 (.tmp 54) (.const (.int .i64 1)),0,"l5_replay.go:310",#[⟨4,.data⟩],none⟩:Oper) (fun x jS=>by go_simp<;>rfl) jH ?_
  try simp only [zS]
  refine tk 6 (⟨some 56,.fieldAddr 66 (.tmp 55) 2,0,"l5_replay.go:310",#[⟨5,.data⟩],none⟩:Oper) (fun x jS=>by go_simp<;>rfl) jH ?_
  try simp only [zS]
  refine tk 7 (⟨some 57,.load 9 (.tmp 56),9,"l5_replay.go:310",#[⟨6,.data⟩],none⟩:Oper) (fun x jS=>by obtain⟨hs1,hs2⟩:=jS;obtain⟨k0,k1,k2,-⟩:=box3 hs2;obtain⟨_,_,ea,l0,l1,l2,-⟩:=hX.later hs1 0 (by omega);obtain⟨_,_,eb,m0,m1,m2,-⟩:=hX.later hs1 1 (by omega);obtain⟨rfl,rfl⟩:=(by simpa using ea);obtain⟨rfl,rfl⟩:=(by simpa using eb);simp only [Nat.zero_mul,Nat.one_mul,Nat.add_zero] at l0 l1 l2 m0 m1 m2;rw [HXY.out.1] at l0 l1 l2;rw [HXY.out.2] at m0 m1 m2;simp only at l0 l1 l2 m0 m1 m2;go_simp<;>rfl) jH ?_
  try simp only [zS]
  refine tk 8 (⟨some 58,.binOp .add 9 (.tmp 53) (.tmp 57) 9,9,"l5_replay.go:310",#[⟨3,.data⟩,⟨7,.data⟩],none⟩:Oper) (fun x jS=>by go_simp<;>rfl) jH ?_
  try simp only [zS]
  refine rd 9 (⟨some 59,.call ⟨.value (.func 165),#[.tmp 58],#[9]⟩,66,"l5_replay.go:310",#[⟨8,.data⟩],none⟩:Oper) (fun K hK=>?_);go_simp;refine(iTextV _ _).mono ?_;rintro e w5 ⟨rfl,hb5⟩;replace hrr:=rowL hrr hb5;refine hK.out _ _ (⟨bstep jH.1 hb5,rowL jH.2 hb5⟩) (fun jH=>?_);clear hK K;try simp only [zS]
  refine rd 10 (⟨none,.store 66 (.tmp 4) (.tmp 59),0,"l5_replay.go:310",#[⟨9,.data⟩,⟨9,.chain⟩,⟨0,.phase⟩,⟨1,.phase⟩,⟨2,.phase⟩,⟨3,.phase⟩,⟨4,.phase⟩,⟨5,.phase⟩,⟨6,.phase⟩,⟨7,.phase⟩,⟨8,.phase⟩,⟨9,.phase⟩],none⟩:Oper) (fun K hK=>?_);obtain⟨g0_,g1_,g2_,gf0,gf1,gf2⟩:=box3 hrr;go_simp;refine hK.out _ _ (⟨bset3 jH.1 (by omega) _ _ _,rowO (rowO (rowO jH.2 (by omega)) (by omega)) (by omega)⟩) (fun jH=>?_);clear hK K;try simp only [zS]
  refine wpAnyH_done (by kernel_rfl) ?_ _;go_wp2;refine bodyPost_ret (v:=.agg #[.int .i64 2,.int .i64 0,.string (xs ++ ys)]) (results_cell_row Tryz.results136 _ _ (w.heap.size+1) 66 _ (0,0) _ rfl (row3 hrr _ _ _) Tryz.underlying66 rfl (by kernel_rfl)) rfl ⟨by rw [HT.out],jH.1⟩
 by_cases e8:o=8
 ·
  subst e8;have hbU:Below w.heap.size w ((w.alloc (.cells #[.int .i64 8,.int .i64 mm,.string s] 108)).alloc (.cells #[.int .i64 0,.int .i64 0,.string ⟨#[]⟩] 66)):=bstep (bal _ _) (bal _ _);have hrr:((w.alloc (.cells #[.int .i64 8,.int .i64 mm,.string s] 108)).alloc (.cells #[.int .i64 0,.int .i64 0,.string ⟨#[]⟩] 66)).heap[w.heap.size+1]?=some (.cells #[.int .i64 0,.int .i64 0,.string ⟨#[]⟩] 66 (0,0)):=by
   have q:=heap_alloc_new (w.alloc (.cells #[.int .i64 8,.int .i64 mm,.string s] 108)) (.cells #[.int .i64 0,.int .i64 0,.string ⟨#[]⟩] 66);rw [World.size_alloc] at q;exact q
  have hri:((w.alloc (.cells #[.int .i64 8,.int .i64 mm,.string s] 108)).alloc (.cells #[.int .i64 0,.int .i64 0,.string ⟨#[]⟩] 66)).heap[w.heap.size]?=some (.cells #[.int .i64 8,.int .i64 mm,.string s] 108 (0,0)):=rowL (heap_alloc_new w _) (bal _ _);have ha:2<=m:=by simp [arity] at hm;omega
  obtain⟨b,off,rfl,x0,x1,x2,-⟩:=hX.later hbU 0 (by omega);simp only [Nat.zero_mul,Nat.add_zero] at x0 x1 x2
  have i0_:(0:Int)<m:=by omega
  have in0_:0<m:=by omega
  have hz0:=hsz 0 (by omega);obtain⟨b9,off9,e9,y0,y1,y2,-⟩:=hX.later hbU 1 (by omega);obtain⟨rfl,rfl⟩:b=b9/\off=off9:=by simpa using e9
  clear e9;simp only [Nat.one_mul] at y0 y1 y2
  have i1_:(1:Int)<m:=by omega
  have in1_:1<m:=by omega
  have hz1:=hsz 1 (by omega);obtain⟨xo,xm,xs,hx⟩:∃ xo xm xs,X 0=⟨xo,xm,xs⟩:=⟨_,_,_,rfl⟩;rw [hx] at x0 x1 x2 hz0;simp only at x0 x1 x2 hz0
  obtain⟨yo,ym,ys,hy⟩:∃ yo ym ys,X 1=⟨yo,ym,ys⟩:=⟨_,_,_,rfl⟩;rw [hy] at y0 y1 y2 hz1;simp only at y0 y1 y2 hz1
  have hcl:=cmp_lt (HGO.out (by simp)).1 (HGO.out (by simp)).2.1 (HGO.out (by simp)).2.2;rw [hx,hy] at hcl;simp only at hcl
  have HXY:Hid (X 0=⟨xo,xm,xs⟩/\X 1=⟨yo,ym,ys⟩):=⟨hx,hy⟩;have HT:Hid (itW ⟨8,mm,s⟩ (X 0) (X 1)=⟨1,tvI (lesB xo xm xs ym ys),⟨#[]⟩⟩):=by show _=_;simp [itW,appI,tru,hx,hy];rw [←hcl]
  clear hx hy;go_enter Tryz.func136,Tryz.ntmps136
  go_upto_region 9 with (fail)
  replace hrr:((w.alloc (.cells #[.int .i64 8,.int .i64 mm,.string s] 108)).alloc (.cells #[.int .i64 0,.int .i64 0,.string ⟨#[]⟩] 66)).drew.heap[w.heap.size+1]?=some (.cells #[.int .i64 0,.int .i64 0,.string ⟨#[]⟩] 66 (0,0)):=hrr;refine wp_region_held_drew (S:=fun x=>Below w.heap.size w x/\x.heap[w.heap.size]?=some (.cells #[.int .i64 8,.int .i64 mm,.string s] 108 (0,0))) (by kernel_rfl) (⟨bstep hbU (bdrV _),hri⟩) (fun jH=>?_);refine tk 0 (⟨some 30,.move (.tmp 1),41,"l5_replay.go:306",#[],none⟩:Oper) (fun x jS=>by go_simp<;>rfl) jH ?_
  try simp only [zS]
  refine tk 1 (⟨some 31,.indexAddr 41 (.tmp 30) (.const (.int .i64 0)),0,"l5_replay.go:306",#[⟨0,.data⟩],none⟩:Oper) (fun x jS=>by go_simp<;>rfl) jH ?_
  try simp only [zS]
  refine tk 2 (⟨some 32,.load 66 (.tmp 31),66,"l5_replay.go:306",#[⟨1,.data⟩],none⟩:Oper) (fun x jS=>by obtain⟨hs1,hs2⟩:=jS;obtain⟨k0,k1,k2,-⟩:=box3 hs2;obtain⟨_,_,ea,l0,l1,l2,-⟩:=hX.later hs1 0 (by omega);obtain⟨_,_,eb,m0,m1,m2,-⟩:=hX.later hs1 1 (by omega);obtain⟨rfl,rfl⟩:=(by simpa using ea);obtain⟨rfl,rfl⟩:=(by simpa using eb);simp only [Nat.zero_mul,Nat.one_mul,Nat.add_zero] at l0 l1 l2 m0 m1 m2;rw [HXY.out.1] at l0 l1 l2;rw [HXY.out.2] at m0 m1 m2;simp only at l0 l1 l2 m0 m1 m2;go_simp<;>rfl) jH ?_
  try simp only [zS]
  refine tk 3 (⟨some 33,.move (.tmp 1),41,"l5_replay.go:306",#[],none⟩:Oper) (fun x jS=>by go_simp<;>rfl) jH ?_
  try simp only [zS]
  refine tk 4 (⟨some 34,.indexAddr 41 (.tmp 33) (.const (.int .i64 1)),0,"l5_replay.go:306",#[⟨3,.data⟩],none⟩:Oper) (fun x jS=>by go_simp<;>rfl) jH ?_
  try simp only [zS]
  refine tk 5 (⟨some 35,.load 66 (.tmp 34),66,"l5_replay.go:306",#[⟨4,.data⟩],none⟩:Oper) (fun x jS=>by obtain⟨hs1,hs2⟩:=jS;obtain⟨k0,k1,k2,-⟩:=box3 hs2;obtain⟨_,_,ea,l0,l1,l2,-⟩:=hX.later hs1 0 (by omega);obtain⟨_,_,eb,m0,m1,m2,-⟩:=hX.later hs1 1 (by omega);obtain⟨rfl,rfl⟩:=(by simpa using ea);obtain⟨rfl,rfl⟩:=(by simpa using eb);simp only [Nat.zero_mul,Nat.one_mul,Nat.add_zero] at l0 l1 l2 m0 m1 m2;rw [HXY.out.1] at l0 l1 l2;rw [HXY.out.2] at m0 m1 m2;simp only at l0 l1 l2 m0 m1 m2;go_simp<;>rfl) jH ?_
  try simp only [zS]
  refine rd 6 (⟨some 36,.call ⟨.value (.func 167),#[.tmp 32,.tmp 35],#[66,66]⟩,4,"l5_replay.go:306",#[⟨2,.data⟩,⟨5,.data⟩],none⟩:Oper) (fun K hK=>?_);go_simp;refine(iIsLess xo xm xs yo ym ys _).mono ?_;rintro e w4 ⟨rfl,hb4⟩;replace hrr:=rowL hrr hb4;refine hK.out _ _ (⟨bstep jH.1 hb4,rowL jH.2 hb4⟩) (fun jH=>?_);clear hK K;try simp only [zS]
  refine rd 7 (⟨some 37,.call ⟨.value (.func 166),#[.tmp 36],#[4]⟩,3,"l5_replay.go:306",#[⟨6,.data⟩,⟨6,.chain⟩],none⟩:Oper) (fun K hK=>?_);go_simp;refine(iTruth _ _).mono ?_;rintro e w1 ⟨rfl,rfl⟩;refine hK.out _ _ (jH) (fun jH=>?_);clear hK K;try simp only [zS]
  refine rd 8 (⟨some 38,.call ⟨.value (.func 151),#[.tmp 37],#[3]⟩,66,"l5_replay.go:306",#[⟨7,.data⟩,⟨7,.chain⟩],none⟩:Oper) (fun K hK=>?_);go_simp;refine(iIntValue _ _).mono ?_;rintro e w6 ⟨rfl,hb6⟩;replace hrr:=rowL hrr hb6;refine hK.out _ _ (⟨bstep jH.1 hb6,rowL jH.2 hb6⟩) (fun jH=>?_);clear hK K;try simp only [zS]
  refine rd 9 (⟨none,.store 66 (.tmp 4) (.tmp 38),0,"l5_replay.go:306",#[⟨8,.data⟩,⟨8,.chain⟩,⟨0,.phase⟩,⟨1,.phase⟩,⟨2,.phase⟩,⟨3,.phase⟩,⟨4,.phase⟩,⟨5,.phase⟩,⟨6,.phase⟩,⟨7,.phase⟩,⟨8,.phase⟩],none⟩:Oper) (fun K hK=>?_);obtain⟨g0_,g1_,g2_,gf0,gf1,gf2⟩:=box3 hrr;go_simp;refine hK.out _ _ (⟨bset3 jH.1 (by omega) _ _ _,rowO (rowO (rowO jH.2 (by omega)) (by omega)) (by omega)⟩) (fun jH=>?_);clear hK K;try simp only [zS]
  refine wpAnyH_done (by kernel_rfl) ?_ _;go_wp2;refine bodyPost_ret (v:=.agg #[.int .i64 1,.int .i64 (tvI (lesB xo xm xs ym ys)),.string ⟨#[]⟩]) (results_cell_row Tryz.results136 _ _ (w.heap.size+1) 66 _ (0,0) _ rfl (row3 hrr _ _ _) Tryz.underlying66 rfl (by kernel_rfl)) rfl ⟨by rw [HT.out],jH.1⟩
 by_cases e7:o=7
 ·
  subst e7;have hbU:Below w.heap.size w ((w.alloc (.cells #[.int .i64 7,.int .i64 mm,.string s] 108)).alloc (.cells #[.int .i64 0,.int .i64 0,.string ⟨#[]⟩] 66)):=bstep (bal _ _) (bal _ _);have hrr:((w.alloc (.cells #[.int .i64 7,.int .i64 mm,.string s] 108)).alloc (.cells #[.int .i64 0,.int .i64 0,.string ⟨#[]⟩] 66)).heap[w.heap.size+1]?=some (.cells #[.int .i64 0,.int .i64 0,.string ⟨#[]⟩] 66 (0,0)):=by
   have q:=heap_alloc_new (w.alloc (.cells #[.int .i64 7,.int .i64 mm,.string s] 108)) (.cells #[.int .i64 0,.int .i64 0,.string ⟨#[]⟩] 66);rw [World.size_alloc] at q;exact q
  have hri:((w.alloc (.cells #[.int .i64 7,.int .i64 mm,.string s] 108)).alloc (.cells #[.int .i64 0,.int .i64 0,.string ⟨#[]⟩] 66)).heap[w.heap.size]?=some (.cells #[.int .i64 7,.int .i64 mm,.string s] 108 (0,0)):=rowL (heap_alloc_new w _) (bal _ _);have ha:2<=m:=by simp [arity] at hm;omega
  obtain⟨b,off,rfl,x0,x1,x2,-⟩:=hX.later hbU 0 (by omega);simp only [Nat.zero_mul,Nat.add_zero] at x0 x1 x2
  have i0_:(0:Int)<m:=by omega
  have in0_:0<m:=by omega
  have hz0:=hsz 0 (by omega);obtain⟨b9,off9,e9,y0,y1,y2,-⟩:=hX.later hbU 1 (by omega);obtain⟨rfl,rfl⟩:b=b9/\off=off9:=by simpa using e9
  clear e9;simp only [Nat.one_mul] at y0 y1 y2
  have i1_:(1:Int)<m:=by omega
  have in1_:1<m:=by omega
  have hz1:=hsz 1 (by omega);obtain⟨xo,xm,xs,hx⟩:∃ xo xm xs,X 0=⟨xo,xm,xs⟩:=⟨_,_,_,rfl⟩;rw [hx] at x0 x1 x2 hz0;simp only at x0 x1 x2 hz0
  obtain⟨yo,ym,ys,hy⟩:∃ yo ym ys,X 1=⟨yo,ym,ys⟩:=⟨_,_,_,rfl⟩;rw [hy] at y0 y1 y2 hz1;simp only at y0 y1 y2 hz1
  have hcl:=cmp_eq (HGO.out (by simp)).1 (HGO.out (by simp)).2.1 (HGO.out (by simp)).2.2;have hoo:=(HGO.out (by simp)).2.2;rw [hx,hy] at hcl hoo;simp only at hcl hoo
  subst hoo;obtain⟨be,hbe⟩:∃ be,decide (xm=ym/\xs=ys)=be:=⟨_,rfl⟩;rw [hbe] at hcl;have HBE:Hid (decide (xm=ym/\xs=ys)=be):=hbe;clear hbe;have HXY:Hid (X 0=⟨xo,xm,xs⟩/\X 1=⟨xo,ym,ys⟩):=⟨hx,hy⟩;have HT:Hid (itW ⟨7,mm,s⟩ (X 0) (X 1)=⟨1,tvI be,⟨#[]⟩⟩):=by show _=_;simp [itW,appI,tru,hx,hy];rw [hcl]
  clear hx hy;go_enter Tryz.func136,Tryz.ntmps136
  go_upto_region 7 with (fail)
  replace hrr:((w.alloc (.cells #[.int .i64 7,.int .i64 mm,.string s] 108)).alloc (.cells #[.int .i64 0,.int .i64 0,.string ⟨#[]⟩] 66)).drew.heap[w.heap.size+1]?=some (.cells #[.int .i64 0,.int .i64 0,.string ⟨#[]⟩] 66 (0,0)):=hrr;refine wp_region_held_drew (S:=fun x=>Below w.heap.size w x/\x.heap[w.heap.size]?=some (.cells #[.int .i64 7,.int .i64 mm,.string s] 108 (0,0))) (by kernel_rfl) (⟨bstep hbU (bdrV _),hri⟩) (fun jH=>?_);refine tk 0 (⟨some 19,.move (.tmp 1),41,"l5_replay.go:304",#[],none⟩:Oper) (fun x jS=>by go_simp<;>rfl) jH ?_
  try simp only [zS]
  refine tk 1 (⟨some 20,.indexAddr 41 (.tmp 19) (.const (.int .i64 0)),0,"l5_replay.go:304",#[⟨0,.data⟩],none⟩:Oper) (fun x jS=>by go_simp<;>rfl) jH ?_
  try simp only [zS]
  refine tk 2 (⟨some 21,.load 66 (.tmp 20),66,"l5_replay.go:304",#[⟨1,.data⟩],none⟩:Oper) (fun x jS=>by obtain⟨hs1,hs2⟩:=jS;obtain⟨k0,k1,k2,-⟩:=box3 hs2;obtain⟨_,_,ea,l0,l1,l2,-⟩:=hX.later hs1 0 (by omega);obtain⟨_,_,eb,m0,m1,m2,-⟩:=hX.later hs1 1 (by omega);obtain⟨rfl,rfl⟩:=(by simpa using ea);obtain⟨rfl,rfl⟩:=(by simpa using eb);simp only [Nat.zero_mul,Nat.one_mul,Nat.add_zero] at l0 l1 l2 m0 m1 m2;rw [HXY.out.1] at l0 l1 l2;rw [HXY.out.2] at m0 m1 m2;simp only at l0 l1 l2 m0 m1 m2;go_simp<;>rfl) jH ?_
  try simp only [zS]
  refine tk 3 (⟨some 22,.move (.tmp 1),41,"l5_replay.go:304",#[],none⟩:Oper) (fun x jS=>by go_simp<;>rfl) jH ?_
  try simp only [zS]
  refine tk 4 (⟨some 23,.indexAddr 41 (.tmp 22) (.const (.int .i64 1)),0,"l5_replay.go:304",#[⟨3,.data⟩],none⟩:Oper) (fun x jS=>by go_simp<;>rfl) jH ?_
  try simp only [zS]
  refine tk 5 (⟨some 24,.load 66 (.tmp 23),66,"l5_replay.go:304",#[⟨4,.data⟩],none⟩:Oper) (fun x jS=>by obtain⟨hs1,hs2⟩:=jS;obtain⟨k0,k1,k2,-⟩:=box3 hs2;obtain⟨_,_,ea,l0,l1,l2,-⟩:=hX.later hs1 0 (by omega);obtain⟨_,_,eb,m0,m1,m2,-⟩:=hX.later hs1 1 (by omega);obtain⟨rfl,rfl⟩:=(by simpa using ea);obtain⟨rfl,rfl⟩:=(by simpa using eb);simp only [Nat.zero_mul,Nat.one_mul,Nat.add_zero] at l0 l1 l2 m0 m1 m2;rw [HXY.out.1] at l0 l1 l2;rw [HXY.out.2] at m0 m1 m2;simp only at l0 l1 l2 m0 m1 m2;go_simp<;>rfl) jH ?_
  try simp only [zS]
  refine wpAnyH_take (i:=6) (oi:=(⟨some 25,.binOp .eql 66 (.tmp 21) (.tmp 24) 66,4,"l5_replay.go:304",#[⟨2,.data⟩,⟨5,.data⟩],none⟩:Oper)) (v:=.bool be) rfl (by kernel_rfl) (by kernel_rfl) (by kernel_rfl) (fun _ _ _ h=>h) (Or.inl ⟨by rfl,fun x jS=>(by obtain⟨hs1,hs2⟩:=jS;obtain⟨k0,k1,k2,-⟩:=box3 hs2;obtain⟨_,_,ea,l0,l1,l2,-⟩:=hX.later hs1 0 (by omega);obtain⟨_,_,eb,m0,m1,m2,-⟩:=hX.later hs1 1 (by omega);obtain⟨rfl,rfl⟩:=(by simpa using ea);obtain⟨rfl,rfl⟩:=(by simpa using eb);simp only [Nat.zero_mul,Nat.one_mul,Nat.add_zero] at l0 l1 l2 m0 m1 m2;rw [HXY.out.1] at l0 l1 l2;rw [HXY.out.2] at m0 m1 m2;simp only at l0 l1 l2 m0 m1 m2;go_simp;rw [←HBE.out];exact if_be xm ym xs ys (fun b=>Result.ok (Next.value (Value.bool b)) x))⟩) jH ?_;try simp only [zS]
  refine rd 7 (⟨some 26,.call ⟨.value (.func 166),#[.tmp 25],#[4]⟩,3,"l5_replay.go:304",#[⟨6,.data⟩],none⟩:Oper) (fun K hK=>?_);go_simp;refine(iTruth _ _).mono ?_;rintro e w1 ⟨rfl,rfl⟩;refine hK.out _ _ (jH) (fun jH=>?_);clear hK K;try simp only [zS]
  refine rd 8 (⟨some 27,.call ⟨.value (.func 151),#[.tmp 26],#[3]⟩,66,"l5_replay.go:304",#[⟨7,.data⟩,⟨7,.chain⟩],none⟩:Oper) (fun K hK=>?_);go_simp;refine(iIntValue _ _).mono ?_;rintro e w6 ⟨rfl,hb6⟩;replace hrr:=rowL hrr hb6;refine hK.out _ _ (⟨bstep jH.1 hb6,rowL jH.2 hb6⟩) (fun jH=>?_);clear hK K;try simp only [zS]
  refine rd 9 (⟨none,.store 66 (.tmp 4) (.tmp 27),0,"l5_replay.go:304",#[⟨8,.data⟩,⟨8,.chain⟩,⟨0,.phase⟩,⟨1,.phase⟩,⟨2,.phase⟩,⟨3,.phase⟩,⟨4,.phase⟩,⟨5,.phase⟩,⟨6,.phase⟩,⟨7,.phase⟩,⟨8,.phase⟩],none⟩:Oper) (fun K hK=>?_);obtain⟨g0_,g1_,g2_,gf0,gf1,gf2⟩:=box3 hrr;go_simp;refine hK.out _ _ (⟨bset3 jH.1 (by omega) _ _ _,rowO (rowO (rowO jH.2 (by omega)) (by omega)) (by omega)⟩) (fun jH=>?_);clear hK K;try simp only [zS]
  refine wpAnyH_done (by kernel_rfl) ?_ _;go_wp2;refine bodyPost_ret (v:=.agg #[.int .i64 1,.int .i64 (tvI be),.string ⟨#[]⟩]) (results_cell_row Tryz.results136 _ _ (w.heap.size+1) 66 _ (0,0) _ rfl (row3 hrr _ _ _) Tryz.underlying66 rfl (by kernel_rfl)) rfl ⟨by rw [HT.out],jH.1⟩
 have ha2:arity o=2:=by unfold arity;rw [if_neg (by omega),if_neg (by omega)]
 have ha:2<=m:=by omega
 have n1:(o == 1)=false:=by simpa using e1
 have n2:(o == 2)=false:=by simpa using e2
 have n7:(o == 7)=false:=by simpa using e7
 have n8:(o == 8)=false:=by simpa using e8
 have n11:(o == 11)=false:=by simpa using e11
 have n12:(o == 12)=false:=by simpa using e12
 have n13:(o == 13)=false:=by simpa using e13
 have hbU:Below w.heap.size w ((w.alloc (.cells #[.int .i64 o,.int .i64 mm,.string s] 108)).alloc (.cells #[.int .i64 0,.int .i64 0,.string ⟨#[]⟩] 66)):=bstep (bal _ _) (bal _ _);have hrr:((w.alloc (.cells #[.int .i64 o,.int .i64 mm,.string s] 108)).alloc (.cells #[.int .i64 0,.int .i64 0,.string ⟨#[]⟩] 66)).heap[w.heap.size+1]?=some (.cells #[.int .i64 0,.int .i64 0,.string ⟨#[]⟩] 66 (0,0)):=by
  have q:=heap_alloc_new (w.alloc (.cells #[.int .i64 o,.int .i64 mm,.string s] 108)) (.cells #[.int .i64 0,.int .i64 0,.string ⟨#[]⟩] 66);rw [World.size_alloc] at q;exact q
 have hri:((w.alloc (.cells #[.int .i64 o,.int .i64 mm,.string s] 108)).alloc (.cells #[.int .i64 0,.int .i64 0,.string ⟨#[]⟩] 66)).heap[w.heap.size]?=some (.cells #[.int .i64 o,.int .i64 mm,.string s] 108 (0,0)):=rowL (heap_alloc_new w _) (bal _ _);obtain⟨b,off,rfl,x0,x1,x2,-⟩:=hX.later hbU 0 (by omega);simp only [Nat.zero_mul,Nat.add_zero] at x0 x1 x2
 have i0_:(0:Int)<m:=by omega
 have in0_:0<m:=by omega
 have hz0:=hsz 0 (by omega);obtain⟨b9,off9,e9,y0,y1,y2,-⟩:=hX.later hbU 1 (by omega);obtain⟨rfl,rfl⟩:b=b9/\off=off9:=by simpa using e9
 clear e9;simp only [Nat.one_mul] at y0 y1 y2
 have i1_:(1:Int)<m:=by omega
 have in1_:1<m:=by omega
 have hz1:=hsz 1 (by omega);obtain⟨xo,xm,xs,hx⟩:∃ xo xm xs,X 0=⟨xo,xm,xs⟩:=⟨_,_,_,rfl⟩;rw [hx] at x0 x1 x2 hz0;simp only at x0 x1 x2 hz0
 obtain⟨yo,ym,ys,hy⟩:∃ yo ym ys,X 1=⟨yo,ym,ys⟩:=⟨_,_,_,rfl⟩;rw [hy] at y0 y1 y2 hz1;simp only at y0 y1 y2 hz1
 have HXY:Hid (X 0=⟨xo,xm,xs⟩/\X 1=⟨yo,ym,ys⟩):=⟨hx,hy⟩;have HT:Hid (itW ⟨o,mm,s⟩ (X 0) (X 1)=⟨1,caI o xm ym,⟨#[]⟩⟩):=by
  show _=_
  have h5:o=4∨o=5∨o=6∨o=9∨o=10:=by omega
  rw [hx,hy];rcases h5 with rfl | rfl | rfl | rfl | rfl <;> simp [itW,appI,caI,tru]
 clear hx hy e1 e2 e7 e8 e11 e12 e13 ha2;go_enter Tryz.func136,Tryz.ntmps136
 go_upto_region 16 with (fail)
 replace hrr:((w.alloc (.cells #[.int .i64 o,.int .i64 mm,.string s] 108)).alloc (.cells #[.int .i64 0,.int .i64 0,.string ⟨#[]⟩] 66)).drew.heap[w.heap.size+1]?=some (.cells #[.int .i64 0,.int .i64 0,.string ⟨#[]⟩] 66 (0,0)):=hrr;refine wp_region_held_drew (S:=fun x=>Below w.heap.size w x/\x.heap[w.heap.size]?=some (.cells #[.int .i64 o,.int .i64 mm,.string s] 108 (0,0))) (by kernel_rfl) (⟨bstep hbU (bdrV _),hri⟩) (fun jH=>?_);refine tk 0 (⟨some 68,.fieldAddr 108 (.tmp 2) 0,0,"l5_replay.go:314",#[],none⟩:Oper) (fun x jS=>by go_simp<;>rfl) jH ?_
 try simp only [zS]
 refine tk 1 (⟨some 69,.load 3 (.tmp 68),3,"l5_replay.go:314",#[⟨0,.data⟩],none⟩:Oper) (fun x jS=>by obtain⟨hs1,hs2⟩:=jS;obtain⟨k0,k1,k2,-⟩:=box3 hs2;obtain⟨_,_,ea,l0,l1,l2,-⟩:=hX.later hs1 0 (by omega);obtain⟨_,_,eb,m0,m1,m2,-⟩:=hX.later hs1 1 (by omega);obtain⟨rfl,rfl⟩:=(by simpa using ea);obtain⟨rfl,rfl⟩:=(by simpa using eb);simp only [Nat.zero_mul,Nat.one_mul,Nat.add_zero] at l0 l1 l2 m0 m1 m2;rw [HXY.out.1] at l0 l1 l2;rw [HXY.out.2] at m0 m1 m2;simp only at l0 l1 l2 m0 m1 m2;go_simp<;>rfl) jH ?_
 try simp only [zS]
 refine tk 2 (⟨some 70,.move (.tmp 1),41,"l5_replay.go:314",#[],none⟩:Oper) (fun x jS=>by go_simp<;>rfl) jH ?_
 try simp only [zS]
 refine tk 3 (⟨some 71,.indexAddr 41 (.tmp 70) (.const (.int .i64 0)),0,"l5_replay.go:314",#[⟨2,.data⟩],none⟩:Oper) (fun x jS=>by go_simp<;>rfl) jH ?_
 try simp only [zS]
 refine tk 4 (⟨some 72,.fieldAddr 66 (.tmp 71) 1,0,"l5_replay.go:314",#[⟨3,.data⟩],none⟩:Oper) (fun x jS=>by go_simp<;>rfl) jH ?_
 try simp only [zS]
 refine tk 5 (⟨some 73,.load 3 (.tmp 72),3,"l5_replay.go:314",#[⟨4,.data⟩],none⟩:Oper) (fun x jS=>by obtain⟨hs1,hs2⟩:=jS;obtain⟨k0,k1,k2,-⟩:=box3 hs2;obtain⟨_,_,ea,l0,l1,l2,-⟩:=hX.later hs1 0 (by omega);obtain⟨_,_,eb,m0,m1,m2,-⟩:=hX.later hs1 1 (by omega);obtain⟨rfl,rfl⟩:=(by simpa using ea);obtain⟨rfl,rfl⟩:=(by simpa using eb);simp only [Nat.zero_mul,Nat.one_mul,Nat.add_zero] at l0 l1 l2 m0 m1 m2;rw [HXY.out.1] at l0 l1 l2;rw [HXY.out.2] at m0 m1 m2;simp only at l0 l1 l2 m0 m1 m2;go_simp<;>rfl) jH ?_
 try simp only [zS]
 refine tk 6 (⟨some 74,.move (.tmp 1),41,"l5_replay.go:314",#[],none⟩:Oper) (fun x jS=>by go_simp<;>rfl) jH ?_
 try simp only [zS]
 refine tk 7 (⟨some 75,.indexAddr 41 (.tmp 74) (.const (.int .i64 1)),0,"l5_replay.go:314",#[⟨6,.data⟩],none⟩:Oper) (fun x jS=>by go_simp<;>rfl) jH ?_
 try simp only [zS]
 refine tk 8 (⟨some 76,.fieldAddr 66 (.tmp 75) 1,0,"l5_replay.go:314",#[⟨7,.data⟩],none⟩:Oper) (fun x jS=>by go_simp<;>rfl) jH ?_
 try simp only [zS]
 refine tk 9 (⟨some 77,.load 3 (.tmp 76),3,"l5_replay.go:314",#[⟨8,.data⟩],none⟩:Oper) (fun x jS=>by obtain⟨hs1,hs2⟩:=jS;obtain⟨k0,k1,k2,-⟩:=box3 hs2;obtain⟨_,_,ea,l0,l1,l2,-⟩:=hX.later hs1 0 (by omega);obtain⟨_,_,eb,m0,m1,m2,-⟩:=hX.later hs1 1 (by omega);obtain⟨rfl,rfl⟩:=(by simpa using ea);obtain⟨rfl,rfl⟩:=(by simpa using eb);simp only [Nat.zero_mul,Nat.one_mul,Nat.add_zero] at l0 l1 l2 m0 m1 m2;rw [HXY.out.1] at l0 l1 l2;rw [HXY.out.2] at m0 m1 m2;simp only at l0 l1 l2 m0 m1 m2;go_simp<;>rfl) jH ?_
 try simp only [zS]
 refine rd 10 (⟨some 78,.call ⟨.value (.func 168),#[.tmp 69,.tmp 73,.tmp 77],#[3,3,3]⟩,3,"l5_replay.go:314",#[⟨1,.data⟩,⟨5,.data⟩,⟨9,.data⟩],none⟩:Oper) (fun K hK=>?_);go_simp;refine(iCalc o xm ym _).mono ?_;rintro e w1 ⟨rfl,rfl⟩;refine hK.out _ _ (jH) (fun jH=>?_);clear hK K;try simp only [zS]
 refine rd 11 (⟨some 79,.call ⟨.value (.func 151),#[.tmp 78],#[3]⟩,66,"l5_replay.go:314",#[⟨10,.data⟩,⟨10,.chain⟩],none⟩:Oper) (fun K hK=>?_);go_simp;refine(iIntValue _ _).mono ?_;rintro e w6 ⟨rfl,hb6⟩;replace hrr:=rowL hrr hb6;refine hK.out _ _ (⟨bstep jH.1 hb6,rowL jH.2 hb6⟩) (fun jH=>?_);clear hK K;try simp only [zS]
 refine rd 12 (⟨none,.store 66 (.tmp 4) (.tmp 79),0,"l5_replay.go:314",#[⟨11,.data⟩,⟨11,.chain⟩,⟨0,.phase⟩,⟨1,.phase⟩,⟨2,.phase⟩,⟨3,.phase⟩,⟨4,.phase⟩,⟨5,.phase⟩,⟨6,.phase⟩,⟨7,.phase⟩,⟨8,.phase⟩,⟨9,.phase⟩,⟨10,.phase⟩,⟨11,.phase⟩],none⟩:Oper) (fun K hK=>?_);obtain⟨g0_,g1_,g2_,gf0,gf1,gf2⟩:=box3 hrr;go_simp;refine hK.out _ _ (⟨bset3 jH.1 (by omega) _ _ _,rowO (rowO (rowO jH.2 (by omega)) (by omega)) (by omega)⟩) (fun jH=>?_);clear hK K;try simp only [zS]
 refine wpAnyH_done (by kernel_rfl) ?_ _;go_wp2;refine bodyPost_ret (v:=.agg #[.int .i64 1,.int .i64 (caI o xm ym),.string ⟨#[]⟩]) (results_cell_row Tryz.results136 _ _ (w.heap.size+1) 66 _ (0,0) _ rfl (row3 hrr _ _ _) Tryz.underlying66 rfl (by kernel_rfl)) rfl ⟨by rw [HT.out],jH.1⟩
end Go.Proofs.YtgeiamgeclbiaaaGreatDoor
