import Derived.Test.YtgeiamgeclbiaaaGreatDoorTl
namespace Go.Proofs.YtgeiamgeclbiaaaGreatDoor
open Go.RowKit Go.Maps Go.WideMaps
theorem allN_iff{n:Nat}{p:Nat->Bool}:allN n p=true↔∀ j,j<n->p j=true:=by
 refine⟨fun h j hj=>?_,allN_true⟩;rcases hq:p j
 · rw [allN_false hj hq] at h;cases h
 · rfl
def valB(o m:Int)(s:ByteArray):Bool:=okValue o m s || (o == 1 && decide (s.size=0))
def rowB(m:Nat)(I:Nat->Itm)(n:Nat)(C:Nat->Clm):Bool:=allN m (fun j=>valB (I j).o (I j).m (I j).s) && typesB m n I C
def sortB(C:Nat->Clm)(r:Nat)(R:Nat->Nat->Itm):Bool:=if (C 0).t == 1 then allN r (ltR R) else allN r (ltT R)
def isTabB(s:ByteArray)(n:Nat)(C:Nat->Clm)(r:Nat)(m:Nat->Nat)(R:Nat->Nat->Itm):Bool:=
 okName s && (btw n 1 20 && allN n (fun j=>okCol (C j).s (C j).t)) && difB C n && decide (r<=1000) && allN r (fun i=>rowB (m i) (R i) n C) && sortB C r R
theorem less_nil{a b:ByteArray}(h:b.size=0):Op.bytesLess a.toList b.toList=false:=by
 rw [(empty_iff b).2 h];cases a.toList <;> rfl
theorem right_val{o m:Int}{s:ByteArray}{t:Int}(ht:isTyp t=true):rightB o m s t=(valB o m s && o == t):=by
 unfold isTyp at ht;simp only [Bool.or_eq_true,beq_iff_eq] at ht
 unfold rightB valB okValue;rcases ht with rfl | rfl
 ·
  by_cases e:o=1
  · subst e;rcases hs:decide (s.size=0) <;> rcases hm:isNum m <;> simp
  ·
   rw [show (o == 1)=false from by simpa using e]
   simp
 ·
  by_cases e:o=2
  · subst e;simp
  ·
   rw [show (o == 2)=false from by simpa using e]
   simp
theorem rows_one{n:Nat}{C:Nat->Clm}{r:Nat}{m:Nat->Nat}{R:Nat->Nat->Itm}(h0:0<n)(hT:∀ j,j<n->isTyp (C j).t=true) :
 allN r (okRowAt n C m R)=(allN r (fun i=>rowB (m i) (R i) n C) && sortB C r R):=by
 rw [Bool.eq_iff_iff];simp only [Bool.and_eq_true,allN_iff]
 have key:∀ i,(rowB (m i) (R i) n C=true↔m i=n/\∀ j,j<m i->rightB (R i j).o (R i j).m (R i j).s (C j).t=true):=fun i=>by
  unfold rowB typesB;simp only [Bool.and_eq_true,allN_iff,decide_eq_true_eq]
  constructor
  · rintro ⟨h1,h2,h3⟩;refine⟨h2,fun j hj=>?_⟩;rw [right_val (hT j (by omega)),h1 j hj,h3 j hj];rfl
  ·
   rintro ⟨h2,h1⟩;refine⟨fun j hj=>?_,h2,fun j hj=>?_⟩
   · have:=h1 j hj;rw [right_val (hT j (by omega)),Bool.and_eq_true] at this;exact this.1
   · have:=h1 j hj;rw [right_val (hT j (by omega)),Bool.and_eq_true] at this;exact this.2
 have ord:(∀ i,i<r->m i=n/\∀ j,j<m i->rightB (R i j).o (R i j).m (R i j).s (C j).t=true)->∀ i,i<r ->
  ((decide (i=0) || befV (R (i - 1) 0).m (R (i - 1) 0).s (R i 0).m (R i 0).s)=if (C 0).t == 1 then ltR R i else ltT R i):=fun hall i hi=>by
  by_cases e:i=0
  · subst e;simp [ltR,ltT]
  ·
   obtain⟨a1,a2⟩:=hall i hi;obtain⟨b1,b2⟩:=hall (i - 1) (by omega);have a3:=a2 0 (by omega);have b3:=b2 0 (by omega);have ht:=hT 0 h0;unfold isTyp at ht;simp only [Bool.or_eq_true,beq_iff_eq] at ht
   unfold ltR ltT befV;rw [decide_eq_false e,Bool.false_or,Bool.false_or,Bool.false_or];rcases ht with ht | ht
   ·
    rw [ht] at a3 b3 ⊢;unfold rightB at a3 b3;simp at a3 b3
    rw [less_nil (by rw [a3.2];rfl)];simp
   ·
    rw [ht] at a3 b3 ⊢;unfold rightB at a3 b3;simp at a3 b3
    rw [a3.2.1,b3.2.1];simp
 have hrow:∀ i,(okRowAt n C m R i=true↔(m i=n/\∀ j,j<m i->rightB (R i j).o (R i j).m (R i j).s (C j).t=true)/\(decide (i=0) || befV (R (i - 1) 0).m (R (i - 1) 0).s (R i 0).m (R i 0).s)=true):=fun i=>by
  unfold okRowAt;rw [Bool.and_eq_true,Bool.and_eq_true,decide_eq_true_eq,allN_iff]
 have hsort:sortB C r R=true↔∀ i,i<r->(if (C 0).t == 1 then ltR R i else ltT R i)=true:=by
  unfold sortB;split
  · rw [allN_iff]
  · rw [allN_iff]
 rw [hsort];constructor
 · intro h;have h1:∀ i,i<r->m i=n/\∀ j,j<m i->rightB (R i j).o (R i j).m (R i j).s (C j).t=true:=fun i hi=>((hrow i).1 (h i hi)).1;exact⟨fun i hi=>(key i).2 (h1 i hi),fun i hi=>by rw [←ord h1 i hi];exact((hrow i).1 (h i hi)).2⟩
 · rintro ⟨h1,h2⟩ i hi;have h3:∀ i,i<r->m i=n/\∀ j,j<m i->rightB (R i j).o (R i j).m (R i j).s (C j).t=true:=fun i hi=>(key i).1 (h1 i hi);exact(hrow i).2 ⟨h3 i hi,by rw [ord h3 i hi];exact h2 i hi⟩
theorem cols_one(C:Nat->Clm)(n:Nat):allN n (okColAt C)=(allN n (fun j=>okCol (C j).s (C j).t) && difB C n):=by
 unfold difB;rw [Bool.eq_iff_iff];simp only [Bool.and_eq_true,allN_iff]
 constructor
 ·
  intro h;refine⟨fun j hj=>?_,fun j hj=>?_⟩
  · have:=h j hj;unfold okColAt at this;rw [Bool.and_eq_true] at this;exact this.1
  · have:=h j hj;unfold okColAt at this;rw [Bool.and_eq_true] at this;exact this.2
 · rintro ⟨h1,h2⟩ j hj;unfold okColAt;rw [Bool.and_eq_true];exact⟨h1 j hj,h2 j hj⟩
theorem tab_one(s:ByteArray)(n:Nat)(C:Nat->Clm)(r:Nat)(m:Nat->Nat)(R:Nat->Nat->Itm):isTabB s n C r m R=okTab s n C r m R:=by
 unfold isTabB okTab;rw [cols_one];rcases h1:okName s
 · rfl
 rcases h2:btw (n:Int) 1 20
 · rfl
 rcases h3:allN n (fun j=>okCol (C j).s (C j).t)
 · simp
 rcases h4:difB C n
 · simp
 have h0:0<n:=by
  unfold btw at h2;simp at h2
  omega
 rw [rows_one h0 (fun j hj=>by
  have:=allN_iff.1 h3 j hj;unfold okCol at this;rw [Bool.and_eq_true] at this;exact this.2)]
 rcases decide (r<=1000) <;> simp
set_option maxRecDepth 20000
set_option maxHeartbeats 4000000
abbrev qTn0:Oper:=⟨some 13,.load 66 (.tmp 6),66,"l5_replay.go:95",#[],none⟩
abbrev qTn1:Oper:=⟨some 14,.call ⟨.value (.func 83),#[.tmp 13],#[66]⟩,4,"l5_replay.go:95",#[⟨0,.data⟩],none⟩
abbrev qTn2:Oper:=⟨some 15,.unOp .not 4 (.tmp 14),4,"l5_replay.go:95",#[⟨1,.data⟩],none⟩
abbrev qTn3:Oper:=⟨some 16,.move (.tmp 15),4,"l5_replay.go:95",#[⟨2,.data⟩,⟨1,.chain⟩],none⟩
abbrev qTn4:Oper:=⟨some 17,.load 66 (.tmp 6),66,"l5_replay.go:95",#[⟨3,.guard⟩],some (3,true)⟩
abbrev qTn5:Oper:=⟨some 18,.fieldAddr 66 (.tmp 6) 1,0,"l5_replay.go:95",#[⟨3,.guard⟩],some (3,true)⟩
abbrev qTn6:Oper:=⟨some 19,.load 3 (.tmp 18),3,"l5_replay.go:95",#[⟨5,.data⟩,⟨3,.guard⟩],some (3,true)⟩
abbrev qTn7:Oper:=⟨some 20,.call ⟨.value (.func 151),#[.tmp 19],#[3]⟩,66,"l5_replay.go:95",#[⟨6,.data⟩,⟨3,.chain⟩,⟨3,.guard⟩],some (3,true)⟩
abbrev qTn8:Oper:=⟨some 21,.binOp .neq 66 (.tmp 17) (.tmp 20) 66,4,"l5_replay.go:95",#[⟨4,.data⟩,⟨7,.data⟩,⟨3,.guard⟩],some (3,true)⟩
abbrev qTn9:Oper:=⟨some 22,.pick (.tmp 16) (.tmp 21) (.const (.bool false)),4,"l5_replay.go:95",#[⟨3,.data⟩,⟨8,.data⟩],none⟩
theorem iRow(a:Option Addr)(n c:Nat)(I:Nat->Itm)(a':Option Addr)(n' c':Nat)(C:Nat->Clm)(w:World)(h:IL w a n I)(h':CL w a' n' C)(hn:n<=1048576)(hn':n'<=1048576) :
 Calls Tryz.prog 117 #[.slice a n c,.slice a' n' c'] w fun e w'=>e=.returned (.bool (rowB n I n' C))/\Below w.heap.size w w':=by
 have hb0:=Below.refl w.heap.size w;go_enter Tryz.func117,Tryz.ntmps117
 go_wp2;go_loopw [6,9] (fun _ i wr=>∃ k:Nat,k<=n/\i=.int .i64 k/\(∀ j,j<k->valB (I j).o (I j).m (I j).s=true)/\Below w.heap.size w wr) (fun _ i _=>n - (intOf i).toNat)
 case atStart=>exact⟨0,by omega,rfl,fun j hj=>by omega,hb0⟩
 case round=>
  obtain⟨k,hk,rfl,hall,hb⟩:=hrel;by_cases hlt:k<n
  ·
   obtain⟨b,off,rfl,d0,d1,d2,hs⟩:=h.later hb k hlt;have hR:=heap_alloc_new wr (.cells #[.int .i64 (I k).o,.int .i64 (I k).m,.string (I k).s] 66);have c0:(wr.alloc (.cells #[.int .i64 (I k).o,.int .i64 (I k).m,.string (I k).s] 66)).cell? ⟨wr.heap.size,0,none⟩=some (.int .i64 (I k).o):=(cell_of_row _ _ 0 _ _ _ hR).trans rfl;have c1:(wr.alloc (.cells #[.int .i64 (I k).o,.int .i64 (I k).m,.string (I k).s] 66)).cell? ⟨wr.heap.size,1,none⟩=some (.int .i64 (I k).m):=(cell_of_row _ _ 1 _ _ _ hR).trans rfl;have c2:(wr.alloc (.cells #[.int .i64 (I k).o,.int .i64 (I k).m,.string (I k).s] 66)).cell? ⟨wr.heap.size,2,none⟩=some (.string (I k).s):=(cell_of_row _ _ 2 _ _ _ hR).trans rfl;clear hR;rcases hv:okValue (I k).o (I k).m (I k).s
   rotate_left
   ·
    go_wp2;refine wp_region_held_drew (S:=fun x=>Below (wr.alloc (.cells #[.int .i64 (I k).o,.int .i64 (I k).m,.string (I k).s] 66)).heap.size (wr.alloc (.cells #[.int .i64 (I k).o,.int .i64 (I k).m,.string (I k).s] 66)) x) (by kernel_rfl) (bdrew _) (fun jH=>?_);refine tk 0 qTn0 (fun x jS=>by have k0:=keepB jS c0;have k1:=keepB jS c1;have k2:=keepB jS c2;go_simp<;>rfl) jH ?_
    try simp only [zS]
    refine rd 1 qTn1 (fun K hK=>?_);go_simp;refine(iValue _ _ _ _ hs).mono ?_;rw [hv];rintro e w1 ⟨rfl,hb1⟩;refine hK.out _ _ (bstep jH hb1) (fun jH=>?_);clear hK K;try simp only [zS]
    refine tk 2 qTn2 (fun x jS=>by go_simp<;>rfl) jH ?_
    try simp only [zS]
    refine tk 3 qTn3 (fun x jS=>by go_simp<;>rfl) jH ?_
    try simp only [zS]
    refine tko 4 qTn4 jH ?_;try simp only [zS]
    refine tko 5 qTn5 jH ?_;try simp only [zS]
    refine tko 6 qTn6 jH ?_;try simp only [zS]
    refine tko 7 qTn7 jH ?_;try simp only [zS]
    refine tko 8 qTn8 jH ?_;try simp only [zS]
    refine tk 9 qTn9 (fun x jS=>by go_simp<;>rfl) jH ?_
    try simp only [zS]
    refine wpAnyH_done (by kernel_rfl) ?_ _;go_wp2;go_roundw
    case rel=>exact⟨k+1,by omega,by go_num,fun j hj=>by
     by_cases e:j=k
     · subst e;unfold valB;rw [hv];rfl
     · exact hall j (by omega),bstep hb (bstep (bal _ _) jH)⟩
    case measure=>simp [intOf];omega
   rcases hw:((I k).o == 1 && decide ((I k).s.size=0))
   ·
    go_wp2;refine wp_region_held_drew (S:=fun x=>Below (wr.alloc (.cells #[.int .i64 (I k).o,.int .i64 (I k).m,.string (I k).s] 66)).heap.size (wr.alloc (.cells #[.int .i64 (I k).o,.int .i64 (I k).m,.string (I k).s] 66)) x) (by kernel_rfl) (bdrew _) (fun jH=>?_);refine tk 0 qTn0 (fun x jS=>by have k0:=keepB jS c0;have k1:=keepB jS c1;have k2:=keepB jS c2;go_simp<;>rfl) jH ?_
    try simp only [zS]
    refine rd 1 qTn1 (fun K hK=>?_);go_simp;refine(iValue _ _ _ _ hs).mono ?_;rw [hv];rintro e w1 ⟨rfl,hb1⟩;refine hK.out _ _ (bstep jH hb1) (fun jH=>?_);clear hK K;try simp only [zS]
    refine tk 2 qTn2 (fun x jS=>by go_simp<;>rfl) jH ?_
    try simp only [zS]
    refine tk 3 qTn3 (fun x jS=>by go_simp<;>rfl) jH ?_
    try simp only [zS]
    refine tk 4 qTn4 (fun x jS=>by have k0:=keepB jS c0;have k1:=keepB jS c1;have k2:=keepB jS c2;go_simp<;>rfl) jH ?_
    try simp only [zS]
    refine tk 5 qTn5 (fun x jS=>by go_simp<;>rfl) jH ?_
    try simp only [zS]
    refine tk 6 qTn6 (fun x jS=>by have k0:=keepB jS c0;have k1:=keepB jS c1;have k2:=keepB jS c2;go_simp<;>rfl) jH ?_
    try simp only [zS]
    refine rd 7 qTn7 (fun K hK=>?_);go_simp;refine(iIntValue _ _).mono ?_;rintro e w2 ⟨rfl,hb2⟩;refine hK.out _ _ (bstep jH hb2) (fun jH=>?_);clear hK K;try simp only [zS]
    refine wpAnyH_take (i:=8) (oi:=qTn8) (v:=.bool true) rfl (by kernel_rfl) (by kernel_rfl) (by kernel_rfl) (fun _ _ _ h=>h) (Or.inl ⟨by rfl,fun x jS=>(by go_simp;intro e1 e2;rw [e1,(show (I k).s.size=0 from (empty_iff _).1 e2)] at hw;exact absurd hw (by decide))⟩) jH ?_
    try simp only [zS]
    refine tk 9 qTn9 (fun x jS=>by go_simp<;>rfl) jH ?_
    try simp only [zS]
    refine wpAnyH_done (by kernel_rfl) ?_ _;go_wp2;go_ret
    exact⟨retB (by unfold rowB;rw [allN_false hlt (show valB (I k).o (I k).m (I k).s=false by unfold valB;rw [hv,hw];rfl)];rfl),bstep hb (bstep (bal _ _) jH)⟩
   ·
    go_wp2;refine wp_region_held_drew (S:=fun x=>Below (wr.alloc (.cells #[.int .i64 (I k).o,.int .i64 (I k).m,.string (I k).s] 66)).heap.size (wr.alloc (.cells #[.int .i64 (I k).o,.int .i64 (I k).m,.string (I k).s] 66)) x) (by kernel_rfl) (bdrew _) (fun jH=>?_);refine tk 0 qTn0 (fun x jS=>by have k0:=keepB jS c0;have k1:=keepB jS c1;have k2:=keepB jS c2;go_simp<;>rfl) jH ?_
    try simp only [zS]
    refine rd 1 qTn1 (fun K hK=>?_);go_simp;refine(iValue _ _ _ _ hs).mono ?_;rw [hv];rintro e w1 ⟨rfl,hb1⟩;refine hK.out _ _ (bstep jH hb1) (fun jH=>?_);clear hK K;try simp only [zS]
    refine tk 2 qTn2 (fun x jS=>by go_simp<;>rfl) jH ?_
    try simp only [zS]
    refine tk 3 qTn3 (fun x jS=>by go_simp<;>rfl) jH ?_
    try simp only [zS]
    refine tk 4 qTn4 (fun x jS=>by have k0:=keepB jS c0;have k1:=keepB jS c1;have k2:=keepB jS c2;go_simp<;>rfl) jH ?_
    try simp only [zS]
    refine tk 5 qTn5 (fun x jS=>by go_simp<;>rfl) jH ?_
    try simp only [zS]
    refine tk 6 qTn6 (fun x jS=>by have k0:=keepB jS c0;have k1:=keepB jS c1;have k2:=keepB jS c2;go_simp<;>rfl) jH ?_
    try simp only [zS]
    refine rd 7 qTn7 (fun K hK=>?_);go_simp;refine(iIntValue _ _).mono ?_;rintro e w2 ⟨rfl,hb2⟩;refine hK.out _ _ (bstep jH hb2) (fun jH=>?_);clear hK K;try simp only [zS]
    refine wpAnyH_take (i:=8) (oi:=qTn8) (v:=.bool false) rfl (by kernel_rfl) (by kernel_rfl) (by kernel_rfl) (fun _ _ _ h=>h) (Or.inl ⟨by rfl,fun x jS=>(by go_simp;have q:=hw;rw [Bool.and_eq_true,beq_iff_eq,decide_eq_true_eq] at q;rw [if_pos q.1,if_pos ((empty_iff _).2 q.2)])⟩) jH ?_;try simp only [zS]
    refine tk 9 qTn9 (fun x jS=>by go_simp<;>rfl) jH ?_
    try simp only [zS]
    refine wpAnyH_done (by kernel_rfl) ?_ _;go_wp2;go_roundw
    case rel=>exact⟨k+1,by omega,by go_num,fun j hj=>by
     by_cases e:j=k
     · subst e;unfold valB;rw [hw];simp
     · exact hall j (by omega),bstep hb (bstep (bal _ _) jH)⟩
    case measure=>simp [intOf];omega
  ·
   obtain rfl:k=n:=by omega
   go_wp2_with (go_at_call 130;refine(iHaveTypes _ _ _ _ _ _ _ _ _ (h.later hb) (h'.later hb) hn hn').mono ?_;rintro e w1 ⟨rfl,hb1⟩)
   go_ret
   exact⟨retB (by unfold rowB;rw [allN_true hall];rfl),bstep hb hb1⟩
set_option maxRecDepth 20000
set_option maxHeartbeats 8000000
theorem isTab_false{s:ByteArray}{n:Nat}{C:Nat->Clm}{r:Nat}{m:Nat->Nat}{R:Nat->Nat->Itm}(h:isTabB s n C r m R=false):okTab s n C r m R=false:=by rw [←tab_one];exact h
theorem iTable(b:Nat)(s:ByteArray)(n:Nat)(C:Nat->Clm)(r:Nat)(m:Nat->Nat)(R:Nat->Nat->Itm)(ac:Option Addr)(cc:Nat)(ar:Option Addr)(cr:Nat)(w:World)(hK:KwAt w b)(hC:CL w ac n C)(hR:OL w ar r m R)(hsm:Sm3 ⟨s,n,C,r,m,R⟩) :
 Calls Tryz.prog 75 #[.map (some b),.agg #[.string s,.slice ac n cc,.slice ar r cr]] w fun e w'=>e=.returned (.bool (okTab s n C r m R))/\Below w.heap.size w w':=by
 have hb0:=bal w (.cells #[.string s,.slice ac n cc,.slice ar r cr] 62);have hX0:=heap_alloc_new w (.cells #[.string s,.slice ac n cc,.slice ar r cr] 62);have hss:=hsm.s;have hn:=hsm.co.1;have hrr:=hsm.ro.1;dsimp only at hss hn hrr
 have c0:(w.alloc (.cells #[.string s,.slice ac n cc,.slice ar r cr] 62)).cell? ⟨w.heap.size,0,none⟩=some (.string s):=(cell_of_row _ _ 0 _ _ _ hX0).trans rfl;have c1:(w.alloc (.cells #[.string s,.slice ac n cc,.slice ar r cr] 62)).cell? ⟨w.heap.size,1,none⟩=some (.slice ac n cc):=(cell_of_row _ _ 1 _ _ _ hX0).trans rfl;have c2:(w.alloc (.cells #[.string s,.slice ac n cc,.slice ar r cr] 62)).cell? ⟨w.heap.size,2,none⟩=some (.slice ar r cr):=(cell_of_row _ _ 2 _ _ _ hX0).trans rfl;clear hX0;rcases hq1:okName s
 ·
  have HF:Hid (okTab s n C r m R=false):=isTab_false (by unfold isTabB;rw [hq1];rfl);go_enter Tryz.func75,Tryz.ntmps75
  go_wp2_with (go_at_call 78;refine(iName b s _ (hK.later hb0) hss).mono ?_;rw [hq1];rintro e w1 ⟨rfl,hb1⟩;have d1:=keepB hb1 c1;have d2:=keepB hb1 c2)
  go_ret
  exact⟨retB HF.out.symm,bstep hb0 hb1⟩
 rcases hq2:(btw n 1 20 && allN n (fun j=>okCol (C j).s (C j).t))
 ·
  have HF:Hid (okTab s n C r m R=false):=isTab_false (by unfold isTabB;rw [hq1,hq2];rfl);go_enter Tryz.func75,Tryz.ntmps75
  go_wp2_with (first | (go_at_call 78;refine(iName b s _ (hK.later hb0) hss).mono ?_;rw [hq1];rintro e w1 ⟨rfl,hb1⟩;have d1:=keepB hb1 c1;have d2:=keepB hb1 c2) | (go_at_call 80;refine(iAllCol b _ _ _ C _ (hK.later (bstep hb0 hb1)) (hC.later (bstep hb0 hb1)) hn).mono ?_;rw [hq2];rintro e w2 ⟨rfl,hb2⟩;have e1:=keepB hb2 d1;have e2:=keepB hb2 d2))
  go_ret
  exact⟨retB HF.out.symm,bstep hb0 (bstep hb1 hb2)⟩
 rcases hq3:difB C n
 ·
  have HF:Hid (okTab s n C r m R=false):=isTab_false (by unfold isTabB;rw [hq1,hq2,hq3];rfl);go_enter Tryz.func75,Tryz.ntmps75
  go_wp2_with (first | (go_at_call 78;refine(iName b s _ (hK.later hb0) hss).mono ?_;rw [hq1];rintro e w1 ⟨rfl,hb1⟩;have d1:=keepB hb1 c1;have d2:=keepB hb1 c2) | (go_at_call 80;refine(iAllCol b _ _ _ C _ (hK.later (bstep hb0 hb1)) (hC.later (bstep hb0 hb1)) hn).mono ?_;rw [hq2];rintro e w2 ⟨rfl,hb2⟩;have e1:=keepB hb2 d1;have e2:=keepB hb2 d2) | (go_at_call 116;refine(iDifferent _ _ _ C _ (hC.later (bstep hb0 (bstep hb1 hb2))) hn).mono ?_;rw [hq3];rintro e w3 ⟨rfl,hb3⟩;have f1:=keepB hb3 e1;have f2:=keepB hb3 e2;have B3:Below w.heap.size w w3:=bstep hb0 (bstep hb1 (bstep hb2 hb3))))
  go_ret
  exact⟨retB HF.out.symm,B3⟩
 by_cases hq4:r<=1000
 rotate_left
 ·
  have HF:Hid (okTab s n C r m R=false):=isTab_false (by unfold isTabB;rw [decide_eq_false hq4];simp);have hq5:(1000:Int)<r:=by omega
  go_enter Tryz.func75,Tryz.ntmps75
  go_wp2_with (first | (go_at_call 78;refine(iName b s _ (hK.later hb0) hss).mono ?_;rw [hq1];rintro e w1 ⟨rfl,hb1⟩;have d1:=keepB hb1 c1;have d2:=keepB hb1 c2) | (go_at_call 80;refine(iAllCol b _ _ _ C _ (hK.later (bstep hb0 hb1)) (hC.later (bstep hb0 hb1)) hn).mono ?_;rw [hq2];rintro e w2 ⟨rfl,hb2⟩;have e1:=keepB hb2 d1;have e2:=keepB hb2 d2) | (go_at_call 116;refine(iDifferent _ _ _ C _ (hC.later (bstep hb0 (bstep hb1 hb2))) hn).mono ?_;rw [hq3];rintro e w3 ⟨rfl,hb3⟩;have f1:=keepB hb3 e1;have f2:=keepB hb3 e2;have B3:Below w.heap.size w w3:=bstep hb0 (bstep hb1 (bstep hb2 hb3))))
  go_ret
  exact⟨retB HF.out.symm,B3⟩
 have hq5:¬(1000:Int)<r:=by omega
 have h0:0<n:=by
  rw [Bool.and_eq_true] at hq2;have:=hq2.1;unfold btw at this;simp at this
  omega
 have HT:∀ x:Bool,allN r (fun i=>rowB (m i) (R i) n C)=x->Hid (okTab s n C r m R=(x && sortB C r R)):=fun x hx=>by
  show _=_
  rw [←tab_one];unfold isTabB;rw [hq1,hq2,hq3,decide_eq_true hq4,hx];rfl
 go_enter Tryz.func75,Tryz.ntmps75
 go_wp2_with (first | (go_at_call 78;refine(iName b s _ (hK.later hb0) hss).mono ?_;rw [hq1];rintro e w1 ⟨rfl,hb1⟩;have d1:=keepB hb1 c1;have d2:=keepB hb1 c2) | (go_at_call 80;refine(iAllCol b _ _ _ C _ (hK.later (bstep hb0 hb1)) (hC.later (bstep hb0 hb1)) hn).mono ?_;rw [hq2];rintro e w2 ⟨rfl,hb2⟩;have e1:=keepB hb2 d1;have e2:=keepB hb2 d2) | (go_at_call 116;refine(iDifferent _ _ _ C _ (hC.later (bstep hb0 (bstep hb1 hb2))) hn).mono ?_;rw [hq3];rintro e w3 ⟨rfl,hb3⟩;have f1:=keepB hb3 e1;have f2:=keepB hb3 e2;have B3:Below w.heap.size w w3:=bstep hb0 (bstep hb1 (bstep hb2 hb3))))
 clear c0 c1 c2 d1 d2 e1 e2;go_loopw [6,35] (fun _ i wr=>∃ k:Nat,k<=r/\i=.int .i64 k/\(∀ j,j<k->rowB (m j) (R j) n C=true)/\Below w3.heap.size w3 wr) (fun _ i _=>r - (intOf i).toNat)
 case atStart=>exact⟨0,by omega,rfl,fun j hj=>by omega,Below.refl _ _⟩
 case round=>
  obtain⟨k,hk,rfl,hall,hb⟩:=hrel;have g1:=keepB hb f1;have g2:=keepB hb f2;have B4:=bstep B3 hb;by_cases hlt:k<r
  ·
   obtain⟨b',off,i,c',rfl,d0,di,dm⟩:=hR.later B4 k hlt;go_wp2_with (go_at_call 117;refine(iRow _ _ _ _ _ _ _ _ _ di (hC.later B4) dm hn).mono ?_;rintro e w4 ⟨rfl,hb4⟩;rcases ho:rowB (m k) (R k) n C)
   ·
    go_ret
    exact⟨retB (by rw [(HT false (allN_false (p:=fun i=>rowB (m i) (R i) n C) hlt ho)).out];rfl),bstep B4 hb4⟩
   ·
    go_roundw
    case rel=>exact⟨k+1,by omega,by go_num,fun i hi=>by
     by_cases e:i=k
     · subst e;exact ho
     · exact hall i (by omega),bstep hb hb4⟩
    case measure=>simp [intOf];omega
  ·
   obtain rfl:k=r:=by omega
   have HQ:=HT true (allN_true hall);have hm0:∀ j,j<k->0<m j:=fun j hj=>by
    have:=hall j hj;unfold rowB typesB at this;rw [Bool.and_eq_true,Bool.and_eq_true,decide_eq_true_eq] at this;have:=this.2.1;omega
   have HM:Hid (∀ j,j<k->0<m j):=hm0;clear hm0 HT;obtain⟨b',off',rfl,u0,u1,-⟩:=hC.later B4 0 h0;have i0:(0:Int)<(n:Int):=by omega
   rcases ht:((C 0).t == 1)
   ·
    go_wp2_with (go_at_call 120;refine(iSortT _ _ _ m R _ (hR.later B4) HM.out hrr).mono ?_;rintro e w5 ⟨rfl,hb5⟩)
    go_ret
    exact⟨retB (by rw [HQ.out];unfold sortB;rw [ht];rfl),bstep B4 hb5⟩
   ·
    go_wp2_with (go_at_call 118;refine(iSortN _ _ _ m R _ (hR.later B4) HM.out hrr).mono ?_;rintro e w5 ⟨rfl,hb5⟩)
    go_ret
    exact⟨retB (by rw [HQ.out];unfold sortB;rw [ht];rfl),bstep B4 hb5⟩
set_option maxRecDepth 20000
set_option maxHeartbeats 4000000
abbrev qTq0:Oper:=⟨some 7,.fieldAddr 38 (.tmp 1) 0,0,"l5_replay.go:51",#[],none⟩
abbrev qTq1:Oper:=⟨some 8,.load 36 (.tmp 7),36,"l5_replay.go:51",#[⟨0,.data⟩],none⟩
abbrev qTq2:Oper:=⟨some 9,.call ⟨.value (.func 74),#[],#[]⟩,120,"l5_replay.go:51",#[],none⟩
abbrev qTq3:Oper:=⟨some 10,.makeFunc (Fn.func 75) #[.tmp 9] #[],118,"l5_replay.go:51",#[⟨2,.data⟩],none⟩
abbrev qTq4:Oper:=⟨some 11,.call ⟨.value (.func 73),#[.tmp 8,.const (.int .i64 100),.tmp 10],#[36,3,118]⟩,4,"l5_replay.go:51",#[⟨1,.data⟩,⟨3,.data⟩,⟨2,.chain⟩],none⟩
abbrev qTq5:Oper:=⟨some 12,.move (.tmp 11),4,"l5_replay.go:51",#[⟨4,.data⟩,⟨4,.chain⟩],none⟩
abbrev qTq6:Oper:=⟨some 13,.fieldAddr 38 (.tmp 1) 0,0,"l5_replay.go:51",#[⟨5,.guard⟩],some (5,true)⟩
abbrev qTq7:Oper:=⟨some 14,.load 36 (.tmp 13),36,"l5_replay.go:51",#[⟨6,.data⟩,⟨5,.guard⟩],some (5,true)⟩
abbrev qTq8:Oper:=⟨some 15,.call ⟨.value (.func 76),#[.tmp 14,.func 77],#[36,123]⟩,4,"l5_replay.go:51",#[⟨7,.data⟩,⟨5,.chain⟩,⟨5,.guard⟩],some (5,true)⟩
abbrev qTq9:Oper:=⟨some 16,.pick (.tmp 12) (.tmp 15) (.const (.bool false)),4,"l5_replay.go:51",#[⟨5,.data⟩,⟨8,.data⟩],none⟩
abbrev qTq10:Oper:=⟨some 2,.assign (.tmp 16),4,"l5_replay.go:51",#[⟨9,.data⟩,⟨8,.chain⟩,⟨0,.phase⟩,⟨1,.phase⟩,⟨2,.phase⟩,⟨3,.phase⟩,⟨4,.phase⟩,⟨5,.phase⟩,⟨6,.phase⟩,⟨7,.phase⟩,⟨8,.phase⟩,⟨9,.phase⟩],none⟩
def okTd(d:Td):Bool:=okTab d.s d.n d.C d.r d.m d.R
def allT(n:Nat)(T:Nat->Td):Bool:=decide (n<=100) && allN n (fun k=>okTd (T k))
def okDb(n:Nat)(T:Nat->Td):Bool:=allT n T && allN n (ltD T)
theorem allT_out{n:Nat}{T:Nat->Td}(h:100<n):allT n T=false:=by unfold allT;rw [decide_eq_false (by omega)];rfl
theorem allT_no{n k:Nat}{T:Nat->Td}(hk:k<n)(h:okTd (T k)=false):allT n T=false:=by unfold allT;rw [allN_false (p:=fun k=>okTd (T k)) hk h];simp
theorem allT_yes{n:Nat}{T:Nat->Td}(hn:n<=100)(h:∀ k,k<n->okTd (T k)=true):allT n T=true:=by unfold allT;rw [allN_true h,decide_eq_true hn];rfl
theorem iAllTab(b:Nat)(a:Option Addr)(n c:Nat)(T:Nat->Td)(w:World)(hK:KwAt w b)(h:TL w a n T)(hn:n<=1048576)(h0:0<n) :
 Calls Tryz.prog 73 #[.slice a n c,.int .i64 100,.func (.func 75) #[.map (some b)] #[]] w fun e w'=>e=.returned (.bool (allT n T))/\Below w.heap.size w w':=by
 have hb0:=Below.refl w.heap.size w;go_enter Tryz.func73,Tryz.ntmps73
 have h0':((n:Int) == 0)=false:=by simp;omega
 by_cases h20:100<n
 ·
  have h20':(100:Int)<n:=by omega
  go_wp2;go_ret
  exact⟨retB (allT_out h20).symm,hb0⟩
 have h20':(n:Int)<=100:=by omega
 go_wp2;go_loopw [20] (fun i wr=>∃ k:Nat,k<=n/\i=.int .i64 k/\(∀ j,j<k->okTd (T j)=true)/\Below w.heap.size w wr) (fun i _=>n - (intOf i).toNat)
 case atStart=>exact⟨0,by omega,rfl,fun j hj=>by omega,hb0⟩
 case round=>
  obtain⟨j,hj,rfl,hall,hb2⟩:=hrel;by_cases hlt:j<n
  ·
   obtain⟨b',off,ac,cc,ar,cr,rfl,d0,d1,d2,hC,hO,hs⟩:=h.later hb2 j hlt;have hB:=bal wr (.cells #[.string (T j).s,.slice ac (T j).n cc,.slice ar (T j).r cr] 62);have hK2:=hK.later (bstep hb2 hB);have hC2:=hC.later hB;have hO2:=hO.later hB;go_wp2_with (go_at_call 75;refine(iTable b _ _ _ _ _ _ ac cc ar cr _ hK2 hC2 hO2 hs).mono ?_;rintro e w3 ⟨rfl,hb3⟩;replace hb3:=bj hb2 hb3;rcases ho:okTab (T j).s (T j).n (T j).C (T j).r (T j).m (T j).R)
   ·
    go_ret
    exact⟨retB (allT_no hlt ho).symm,hb3⟩
   ·
    go_roundw
    case rel=>exact⟨j+1,by omega,by go_num,fun i hi=>by
     by_cases e:i=j
     · subst e;exact ho
     · exact hall i (by omega),hb3⟩
    case measure=>simp [intOf];omega
  ·
   obtain rfl:j=n:=by omega
   go_wp2;go_ret
   exact⟨retB (allT_yes (by omega) hall).symm,hb2⟩
theorem iDb(a:Option Addr)(n c:Nat)(T:Nat->Td)(w:World)(hT:SpT w)(h:TL w a n T)(hn:n<=1048576) :
 Calls Tryz.prog 34 #[.agg #[.slice a n c]] w fun e w'=>e=.returned (.bool (okDb n T))/\Below w.heap.size w w':=by
 have hb0:=bal w (.cells #[.slice a n c] 38);have hX0:=heap_alloc_new w (.cells #[.slice a n c] 38);have c0:(w.alloc (.cells #[.slice a n c] 38)).cell? ⟨w.heap.size,0,none⟩=some (.slice a n c):=(cell_of_row _ _ 0 _ _ _ hX0).trans rfl;clear hX0;by_cases h0:n=0
 ·
  subst h0;go_enter Tryz.func34,Tryz.ntmps34
  go_wp2;go_ret
  exact⟨rfl,hb0⟩
 have h0':((n:Int) == 0)=false:=by simp;omega
 rcases hq1:allT n T
 ·
  have HF:Hid (okDb n T=false):=by show _=_;unfold okDb;rw [hq1];rfl
  go_enter Tryz.func34,Tryz.ntmps34
  go_wp2;refine wp_region_held_drew (S:=fun x=>Below (w.alloc (.cells #[.slice a n c] 38)).heap.size (w.alloc (.cells #[.slice a n c] 38)) x) (by kernel_rfl) (bdrew _) (fun jH=>?_);refine tk 0 qTq0 (fun x jS=>by go_simp<;>rfl) jH ?_
  try simp only [zS]
  refine tk 1 qTq1 (fun x jS=>by have k0:=keepB jS c0;go_simp<;>rfl) jH ?_
  try simp only [zS]
  refine rd 2 qTq2 (fun K hK=>?_);go_simp;refine(iKeywords _ (hT.later (bstep hb0 jH))).mono ?_;rintro e w1 ⟨b,rfl,hKw,hb1⟩;refine hK.out _ _ (bstep jH hb1) (fun jH=>?_);clear hK K;try simp only [zS]
  refine tk 3 qTq3 (fun x jS=>by go_simp<;>rfl) jH ?_
  try simp only [zS]
  refine rd 4 qTq4 (fun K hK=>?_);go_simp;refine(iAllTab b _ _ _ T _ hKw (h.later (bstep hb0 jH)) hn (by omega)).mono ?_;rw [hq1];rintro e w2 ⟨rfl,hb2⟩;refine hK.out _ _ (bstep jH hb2) (fun jH=>?_);clear hK K;try simp only [zS]
  refine tk 5 qTq5 (fun x jS=>by go_simp<;>rfl) jH ?_
  try simp only [zS]
  refine tko 6 qTq6 jH ?_;try simp only [zS]
  refine tko 7 qTq7 jH ?_;try simp only [zS]
  refine tko 8 qTq8 jH ?_;try simp only [zS]
  refine tk 9 qTq9 (fun x jS=>by go_simp<;>rfl) jH ?_
  try simp only [zS]
  refine tk 10 qTq10 (fun x jS=>by go_simp<;>rfl) jH ?_
  try simp only [zS]
  refine wpAnyH_done (by kernel_rfl) ?_ _;go_wp2;go_ret
  exact⟨retB HF.out.symm,bstep hb0 jH⟩
 ·
  have HF:Hid (okDb n T=allN n (ltD T)):=by show _=_;unfold okDb;rw [hq1];rfl
  go_enter Tryz.func34,Tryz.ntmps34
  go_wp2;refine wp_region_held_drew (S:=fun x=>Below (w.alloc (.cells #[.slice a n c] 38)).heap.size (w.alloc (.cells #[.slice a n c] 38)) x) (by kernel_rfl) (bdrew _) (fun jH=>?_);refine tk 0 qTq0 (fun x jS=>by go_simp<;>rfl) jH ?_
  try simp only [zS]
  refine tk 1 qTq1 (fun x jS=>by have k0:=keepB jS c0;go_simp<;>rfl) jH ?_
  try simp only [zS]
  refine rd 2 qTq2 (fun K hK=>?_);go_simp;refine(iKeywords _ (hT.later (bstep hb0 jH))).mono ?_;rintro e w1 ⟨b,rfl,hKw,hb1⟩;refine hK.out _ _ (bstep jH hb1) (fun jH=>?_);clear hK K;try simp only [zS]
  refine tk 3 qTq3 (fun x jS=>by go_simp<;>rfl) jH ?_
  try simp only [zS]
  refine rd 4 qTq4 (fun K hK=>?_);go_simp;refine(iAllTab b _ _ _ T _ hKw (h.later (bstep hb0 jH)) hn (by omega)).mono ?_;rw [hq1];rintro e w2 ⟨rfl,hb2⟩;refine hK.out _ _ (bstep jH hb2) (fun jH=>?_);clear hK K;try simp only [zS]
  refine tk 5 qTq5 (fun x jS=>by go_simp<;>rfl) jH ?_
  try simp only [zS]
  refine tk 6 qTq6 (fun x jS=>by go_simp<;>rfl) jH ?_
  try simp only [zS]
  refine tk 7 qTq7 (fun x jS=>by have k0:=keepB jS c0;go_simp<;>rfl) jH ?_
  try simp only [zS]
  refine rd 8 qTq8 (fun K hK=>?_);go_simp;refine(iSortD _ _ _ T _ (h.later (bstep hb0 jH)) hn).mono ?_;rintro e w3 ⟨rfl,hb3⟩;refine hK.out _ _ (bstep jH hb3) (fun jH=>?_);clear hK K;try simp only [zS]
  refine tk 9 qTq9 (fun x jS=>by go_simp<;>rfl) jH ?_
  try simp only [zS]
  refine tk 10 qTq10 (fun x jS=>by go_simp<;>rfl) jH ?_
  try simp only [zS]
  refine wpAnyH_done (by kernel_rfl) ?_ _;go_wp2;go_ret
  exact⟨retB HF.out.symm,bstep hb0 jH⟩
end Go.Proofs.YtgeiamgeclbiaaaGreatDoor
