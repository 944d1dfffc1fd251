import Derived.Test.YtgeiamgeclbiaaaGreatDoorTl
namespace Go.Proofs.YtgeiamgeclbiaaaGreatDoor
open Go.RowKit Go.Maps Go.WideMaps
set_option maxRecDepth 20000
set_option maxHeartbeats 8000000
abbrev qTi0:Oper:=⟨some 34,.fieldAddr 113 (.tmp 4) 0,0,"l5_replay.go:32",#[],none⟩
abbrev qTi1:Oper:=⟨some 35,.load 9 (.tmp 34),9,"l5_replay.go:32",#[⟨0,.data⟩],none⟩
abbrev qTi2:Oper:=⟨some 36,.call ⟨.value (.func 98),#[.tmp 35],#[9]⟩,4,"l5_replay.go:32",#[⟨1,.data⟩],none⟩
abbrev qTi3:Oper:=⟨some 37,.unOp .not 4 (.tmp 36),4,"l5_replay.go:32",#[⟨2,.data⟩],none⟩
abbrev qTi4:Oper:=⟨some 38,.move (.tmp 37),4,"l5_replay.go:32",#[⟨3,.data⟩,⟨2,.chain⟩],none⟩
abbrev qTi5:Oper:=⟨some 39,.fieldAddr 113 (.tmp 4) 1,0,"l5_replay.go:32",#[⟨4,.guard⟩],some (4,false)⟩
abbrev qTi6:Oper:=⟨some 40,.load 3 (.tmp 39),3,"l5_replay.go:32",#[⟨5,.data⟩,⟨4,.guard⟩],some (4,false)⟩
abbrev qTi7:Oper:=⟨some 41,.call ⟨.value (.func 99),#[.tmp 40],#[3]⟩,4,"l5_replay.go:32",#[⟨6,.data⟩,⟨4,.chain⟩,⟨4,.guard⟩],some (4,false)⟩
abbrev qTi8:Oper:=⟨some 42,.unOp .not 4 (.tmp 41),4,"l5_replay.go:32",#[⟨7,.data⟩,⟨4,.guard⟩],some (4,false)⟩
abbrev qTi9:Oper:=⟨some 43,.pick (.tmp 38) (.const (.bool true)) (.tmp 42),4,"l5_replay.go:32",#[⟨4,.data⟩,⟨8,.data⟩],none⟩
abbrev qTi10:Oper:=⟨some 44,.move (.tmp 43),4,"l5_replay.go:32",#[⟨9,.data⟩,⟨7,.chain⟩],none⟩
abbrev qTi11:Oper:=⟨some 45,.fieldAddr 62 (.tmp 1) 1,0,"l5_replay.go:32",#[⟨10,.guard⟩],some (10,false)⟩
abbrev qTi12:Oper:=⟨some 46,.load 40 (.tmp 45),40,"l5_replay.go:32",#[⟨11,.data⟩,⟨10,.guard⟩],some (10,false)⟩
abbrev qTi13:Oper:=⟨some 47,.move (.tmp 3),3,"l5_replay.go:32",#[⟨10,.guard⟩],some (10,false)⟩
abbrev qTi14:Oper:=⟨some 48,.slice 40 (.tmp 46) none (some (.tmp 47)) none,40,"l5_replay.go:32",#[⟨12,.data⟩,⟨13,.data⟩,⟨10,.guard⟩],some (10,false)⟩
abbrev qTi15:Oper:=⟨some 49,.fieldAddr 113 (.tmp 4) 0,0,"l5_replay.go:32",#[⟨10,.guard⟩],some (10,false)⟩
abbrev qTi16:Oper:=⟨some 50,.load 9 (.tmp 49),9,"l5_replay.go:32",#[⟨15,.data⟩,⟨10,.guard⟩],some (10,false)⟩
abbrev qTi17:Oper:=⟨some 51,.call ⟨.value (.func 67),#[.tmp 48,.tmp 50],#[40,9]⟩,3,"l5_replay.go:32",#[⟨14,.data⟩,⟨16,.data⟩,⟨10,.chain⟩,⟨10,.guard⟩],some (10,false)⟩
abbrev qTi18:Oper:=⟨some 52,.binOp .geq 3 (.tmp 51) (.const (.int .i64 0)) 3,4,"l5_replay.go:32",#[⟨17,.data⟩,⟨10,.guard⟩],some (10,false)⟩
abbrev qTi19:Oper:=⟨some 53,.pick (.tmp 44) (.const (.bool true)) (.tmp 52),4,"l5_replay.go:32",#[⟨10,.data⟩,⟨18,.data⟩],none⟩
abbrev qTi20:Oper:=⟨some 76,.load 66 (.tmp 8),66,"l5_replay.go:41",#[],none⟩
abbrev qTi21:Oper:=⟨some 77,.fieldAddr 62 (.tmp 1) 1,0,"l5_replay.go:41",#[],none⟩
abbrev qTi22:Oper:=⟨some 78,.load 40 (.tmp 77),40,"l5_replay.go:41",#[⟨1,.data⟩],none⟩
abbrev qTi23:Oper:=⟨some 79,.move (.tmp 7),3,"l5_replay.go:41",#[],none⟩
abbrev qTi24:Oper:=⟨some 80,.indexAddr 40 (.tmp 78) (.tmp 79),0,"l5_replay.go:41",#[⟨2,.data⟩,⟨3,.data⟩],none⟩
abbrev qTi25:Oper:=⟨some 81,.fieldAddr 113 (.tmp 80) 1,0,"l5_replay.go:41",#[⟨4,.data⟩],none⟩
abbrev qTi26:Oper:=⟨some 82,.load 3 (.tmp 81),3,"l5_replay.go:41",#[⟨5,.data⟩],none⟩
abbrev qTi27:Oper:=⟨some 83,.call ⟨.value (.func 138),#[.tmp 76,.tmp 82],#[66,3]⟩,4,"l5_replay.go:41",#[⟨0,.data⟩,⟨6,.data⟩],none⟩
abbrev qTi28:Oper:=⟨some 84,.unOp .not 4 (.tmp 83),4,"l5_replay.go:41",#[⟨7,.data⟩],none⟩
abbrev qTi29:Oper:=⟨some 86,.move (.tmp 5),3,"l5_replay.go:45",#[],none⟩
abbrev qTi30:Oper:=⟨some 87,.binOp .gtr 3 (.tmp 86) (.const (.int .i64 0)) 3,4,"l5_replay.go:45",#[⟨0,.data⟩],none⟩
abbrev qTi31:Oper:=⟨some 88,.move (.tmp 87),4,"l5_replay.go:45",#[⟨1,.data⟩],none⟩
abbrev qTi32:Oper:=⟨some 89,.fieldAddr 62 (.tmp 1) 2,0,"l5_replay.go:45",#[⟨2,.guard⟩],some (2,true)⟩
abbrev qTi33:Oper:=⟨some 90,.load 33 (.tmp 89),33,"l5_replay.go:45",#[⟨3,.data⟩,⟨2,.guard⟩],some (2,true)⟩
abbrev qTi34:Oper:=⟨some 91,.move (.tmp 5),3,"l5_replay.go:45",#[⟨2,.guard⟩],some (2,true)⟩
abbrev qTi35:Oper:=⟨some 92,.binOp .sub 3 (.tmp 91) (.const (.int .i64 1)) 3,3,"l5_replay.go:45",#[⟨5,.data⟩,⟨2,.guard⟩],some (2,true)⟩
abbrev qTi36:Oper:=⟨some 93,.indexAddr 33 (.tmp 90) (.tmp 92),0,"l5_replay.go:45",#[⟨4,.data⟩,⟨6,.data⟩,⟨2,.guard⟩],some (2,true)⟩
abbrev qTi37:Oper:=⟨some 94,.load 41 (.tmp 93),41,"l5_replay.go:45",#[⟨7,.data⟩,⟨2,.guard⟩],some (2,true)⟩
abbrev qTi38:Oper:=⟨some 95,.indexAddr 41 (.tmp 94) (.const (.int .i64 0)),0,"l5_replay.go:45",#[⟨8,.data⟩,⟨2,.guard⟩],some (2,true)⟩
abbrev qTi39:Oper:=⟨some 96,.load 66 (.tmp 95),66,"l5_replay.go:45",#[⟨9,.data⟩,⟨2,.guard⟩],some (2,true)⟩
abbrev qTi40:Oper:=⟨some 97,.move (.tmp 6),41,"l5_replay.go:45",#[⟨2,.guard⟩],some (2,true)⟩
abbrev qTi41:Oper:=⟨some 98,.indexAddr 41 (.tmp 97) (.const (.int .i64 0)),0,"l5_replay.go:45",#[⟨11,.data⟩,⟨2,.guard⟩],some (2,true)⟩
abbrev qTi42:Oper:=⟨some 99,.load 66 (.tmp 98),66,"l5_replay.go:45",#[⟨12,.data⟩,⟨2,.guard⟩],some (2,true)⟩
abbrev qTi43:Oper:=⟨some 100,.call ⟨.value (.func 106),#[.tmp 96,.tmp 99],#[66,66]⟩,3,"l5_replay.go:45",#[⟨10,.data⟩,⟨13,.data⟩,⟨2,.chain⟩,⟨2,.guard⟩],some (2,true)⟩
abbrev qTi44:Oper:=⟨some 101,.binOp .geq 3 (.tmp 100) (.const (.int .i64 0)) 3,4,"l5_replay.go:45",#[⟨14,.data⟩,⟨2,.guard⟩],some (2,true)⟩
abbrev qTi45:Oper:=⟨some 102,.pick (.tmp 88) (.tmp 101) (.const (.bool false)),4,"l5_replay.go:45",#[⟨2,.data⟩,⟨15,.data⟩],none⟩
theorem sTab(s:ByteArray)(n:Nat)(C:Nat->Clm)(r:Nat)(m:Nat->Nat)(R:Nat->Nat->Itm)(ac ar:Option Addr)(cr:Nat)(w:World)(hC:CL w ac n C)(hR:OL w ar r m R)(hsm:Sm3 ⟨s,n,C,r,m,R⟩) :
 Calls Tryz.prog 97 #[.agg #[.string s,.slice ac n n,.slice ar r cr]] w fun e w'=>e=.returned (.bool (okTab s n C r m R))/\Below w.heap.size w w':=by
 have hb0:=bal w (.cells #[.string s,.slice ac n n,.slice ar r cr] 62);have hX0:=heap_alloc_new w (.cells #[.string s,.slice ac n n,.slice ar r cr] 62);have hss:=hsm.s;have hn:=hsm.co.1;have hrr:=hsm.ro.1;dsimp only at hss hn hrr
 have c0:(w.alloc (.cells #[.string s,.slice ac n n,.slice ar r cr] 62)).cell? ⟨w.heap.size,0,none⟩=some (.string s):=(cell_of_row _ _ 0 _ _ _ hX0).trans rfl;have c1:(w.alloc (.cells #[.string s,.slice ac n n,.slice ar r cr] 62)).cell? ⟨w.heap.size,1,none⟩=some (.slice ac n n):=(cell_of_row _ _ 1 _ _ _ hX0).trans rfl;have c2:(w.alloc (.cells #[.string s,.slice ac n n,.slice ar r cr] 62)).cell? ⟨w.heap.size,2,none⟩=some (.slice ar r cr):=(cell_of_row _ _ 2 _ _ _ hX0).trans rfl;clear hX0;rcases hq1:okName s
 ·
  have HF:Hid (okTab s n C r m R=false):=by show _=_;unfold okTab;rw [hq1];rfl
  go_enter Tryz.func97,Tryz.ntmps97
  go_wp2_with (go_at_call 98;refine(sName s _ hss).mono ?_;rw [hq1];rintro e w1 ⟨rfl,hb1⟩;have d1:=keepB hb1 c1;have d2:=keepB hb1 c2)
  go_ret
  exact⟨retB HF.out.symm,bstep hb0 hb1⟩
 rcases hq2:btw (n:Int) 1 20
 ·
  have HF:Hid (okTab s n C r m R=false):=by show _=_;unfold okTab;rw [hq1,hq2];rfl
  go_enter Tryz.func97,Tryz.ntmps97
  go_wp2_with (first | (go_at_call 98;refine(sName s _ hss).mono ?_;rw [hq1];rintro e w1 ⟨rfl,hb1⟩;have d1:=keepB hb1 c1;have d2:=keepB hb1 c2) | (go_at_call 137;refine(sBetween _ _ _ _).mono ?_;rw [hq2];rintro e w2 ⟨rfl,rfl⟩))
  go_ret
  exact⟨retB HF.out.symm,bstep hb0 hb1⟩
 by_cases hq3:r<=1000
 rotate_left
 ·
  have HF:Hid (okTab s n C r m R=false):=by show _=_;unfold okTab;rw [decide_eq_false hq3];simp
  have hq4:(1000:Int)<r:=by omega
  go_enter Tryz.func97,Tryz.ntmps97
  go_wp2_with (first | (go_at_call 98;refine(sName s _ hss).mono ?_;rw [hq1];rintro e w1 ⟨rfl,hb1⟩;have d1:=keepB hb1 c1;have d2:=keepB hb1 c2) | (go_at_call 137;refine(sBetween _ _ _ _).mono ?_;rw [hq2];rintro e w2 ⟨rfl,rfl⟩))
  go_ret
  exact⟨retB HF.out.symm,bstep hb0 hb1⟩
 have hq4:¬(1000:Int)<r:=by omega
 have h0:0<n:=by
  unfold btw at hq2;simp at hq2
  omega
 have HT:Hid (okTab s n C r m R=(allN n (okColAt C) && allN r (okRowAt n C m R))):=by
  show _=_
  unfold okTab;rw [hq1,hq2,decide_eq_true hq3];rfl
 go_enter Tryz.func97,Tryz.ntmps97
 go_wp2_with (first | (go_at_call 98;refine(sName s _ hss).mono ?_;rw [hq1];rintro e w1 ⟨rfl,hb1⟩;have d1:=keepB hb1 c1;have d2:=keepB hb1 c2) | (go_at_call 137;refine(sBetween _ _ _ _).mono ?_;rw [hq2];rintro e w2 ⟨rfl,rfl⟩))
 have B1:=bstep hb0 hb1;clear c0 c1 c2;go_loopw [3,4,29] (fun _ _ i wr=>∃ k:Nat,k<=n/\i=.int .i64 k/\(∀ j,j<k->okColAt C j=true)/\Below w2.heap.size w2 wr) (fun _ _ i _=>n - (intOf i).toNat)
 case atStart=>exact⟨0,by omega,rfl,fun j hj=>by omega,Below.refl _ _⟩
 case round=>
  obtain⟨k,hk,rfl,hall,hb⟩:=hrel;have B2:=bstep B1 hb;by_cases hlt:k<n
  ·
   obtain⟨b,off,rfl,e0,e1,hs⟩:=hC.later B2 k hlt;have hR2:=heap_alloc_new wr (.cells #[.string (C k).s,.int .i64 (C k).t] 113);have y0:(wr.alloc (.cells #[.string (C k).s,.int .i64 (C k).t] 113)).cell? ⟨wr.heap.size,0,none⟩=some (.string (C k).s):=(cell_of_row _ _ 0 _ _ _ hR2).trans rfl;have y1:(wr.alloc (.cells #[.string (C k).s,.int .i64 (C k).t] 113)).cell? ⟨wr.heap.size,1,none⟩=some (.int .i64 (C k).t):=(cell_of_row _ _ 1 _ _ _ hR2).trans rfl;clear hR2;have B3:=bal wr (.cells #[.string (C k).s,.int .i64 (C k).t] 113);have x1:=keepB B3 (keepB hb d1);have hCr:=hC.later (bstep B2 B3);have i1:(0:Int)<=(k:Int):=by omega
   have i2:(k:Int)<=(n:Int):=by omega
   rcases hv:okName (C k).s
   ·
    go_wp2;refine wp_region_held_drew (S:=fun x=>Below (wr.alloc (.cells #[.string (C k).s,.int .i64 (C k).t] 113)).heap.size (wr.alloc (.cells #[.string (C k).s,.int .i64 (C k).t] 113)) x) (by kernel_rfl) (bdrew _) (fun jH=>?_);refine tk 0 qTi0 (fun x jS=>by go_simp<;>rfl) jH ?_
    try simp only [zS]
    refine tk 1 qTi1 (fun x jS=>by have k0:=keepB jS y0;have k1:=keepB jS y1;have k2:=keepB jS x1;go_simp<;>rfl) jH ?_
    try simp only [zS]
    refine rd 2 qTi2 (fun K hK=>?_);go_simp;refine(sName _ _ hs).mono ?_;rw [hv];rintro e w3 ⟨rfl,hb3⟩;refine hK.out _ _ (bstep jH hb3) (fun jH=>?_);clear hK K;try simp only [zS]
    refine tk 3 qTi3 (fun x jS=>by go_simp<;>rfl) jH ?_
    try simp only [zS]
    refine tk 4 qTi4 (fun x jS=>by go_simp<;>rfl) jH ?_
    try simp only [zS]
    refine tko 5 qTi5 jH ?_;try simp only [zS]
    refine tko 6 qTi6 jH ?_;try simp only [zS]
    refine tko 7 qTi7 jH ?_;try simp only [zS]
    refine tko 8 qTi8 jH ?_;try simp only [zS]
    refine tk 9 qTi9 (fun x jS=>by go_simp<;>rfl) jH ?_
    try simp only [zS]
    refine tk 10 qTi10 (fun x jS=>by go_simp<;>rfl) jH ?_
    try simp only [zS]
    refine tko 11 qTi11 jH ?_;try simp only [zS]
    refine tko 12 qTi12 jH ?_;try simp only [zS]
    refine tko 13 qTi13 jH ?_;try simp only [zS]
    refine tko 14 qTi14 jH ?_;try simp only [zS]
    refine tko 15 qTi15 jH ?_;try simp only [zS]
    refine tko 16 qTi16 jH ?_;try simp only [zS]
    refine tko 17 qTi17 jH ?_;try simp only [zS]
    refine tko 18 qTi18 jH ?_;try simp only [zS]
    refine tk 19 qTi19 (fun x jS=>by go_simp<;>rfl) jH ?_
    try simp only [zS]
    refine wpAnyH_done (by kernel_rfl) ?_ _;go_wp2;go_ret
    exact⟨retB (by rw [HT.out,allN_false (p:=okColAt C) hlt (by unfold okColAt;rw [hv];rfl)];rfl),bstep B2 (bstep B3 jH)⟩
   rcases ht:isTyp (C k).t
   ·
    go_wp2;refine wp_region_held_drew (S:=fun x=>Below (wr.alloc (.cells #[.string (C k).s,.int .i64 (C k).t] 113)).heap.size (wr.alloc (.cells #[.string (C k).s,.int .i64 (C k).t] 113)) x) (by kernel_rfl) (bdrew _) (fun jH=>?_);refine tk 0 qTi0 (fun x jS=>by go_simp<;>rfl) jH ?_
    try simp only [zS]
    refine tk 1 qTi1 (fun x jS=>by have k0:=keepB jS y0;have k1:=keepB jS y1;have k2:=keepB jS x1;go_simp<;>rfl) jH ?_
    try simp only [zS]
    refine rd 2 qTi2 (fun K hK=>?_);go_simp;refine(sName _ _ hs).mono ?_;rw [hv];rintro e w3 ⟨rfl,hb3⟩;refine hK.out _ _ (bstep jH hb3) (fun jH=>?_);clear hK K;try simp only [zS]
    refine tk 3 qTi3 (fun x jS=>by go_simp<;>rfl) jH ?_
    try simp only [zS]
    refine tk 4 qTi4 (fun x jS=>by go_simp<;>rfl) jH ?_
    try simp only [zS]
    refine tk 5 qTi5 (fun x jS=>by go_simp<;>rfl) jH ?_
    try simp only [zS]
    refine tk 6 qTi6 (fun x jS=>by have k0:=keepB jS y0;have k1:=keepB jS y1;have k2:=keepB jS x1;go_simp<;>rfl) jH ?_
    try simp only [zS]
    refine rd 7 qTi7 (fun K hK=>?_);go_simp;refine(sType _ _).mono ?_;rw [ht];rintro e w4 ⟨rfl,rfl⟩;refine hK.out _ _ (jH) (fun jH=>?_);clear hK K;try simp only [zS]
    refine tk 8 qTi8 (fun x jS=>by go_simp<;>rfl) jH ?_
    try simp only [zS]
    refine tk 9 qTi9 (fun x jS=>by go_simp<;>rfl) jH ?_
    try simp only [zS]
    refine tk 10 qTi10 (fun x jS=>by go_simp<;>rfl) jH ?_
    try simp only [zS]
    refine tko 11 qTi11 jH ?_;try simp only [zS]
    refine tko 12 qTi12 jH ?_;try simp only [zS]
    refine tko 13 qTi13 jH ?_;try simp only [zS]
    refine tko 14 qTi14 jH ?_;try simp only [zS]
    refine tko 15 qTi15 jH ?_;try simp only [zS]
    refine tko 16 qTi16 jH ?_;try simp only [zS]
    refine tko 17 qTi17 jH ?_;try simp only [zS]
    refine tko 18 qTi18 jH ?_;try simp only [zS]
    refine tk 19 qTi19 (fun x jS=>by go_simp<;>rfl) jH ?_
    try simp only [zS]
    refine wpAnyH_done (by kernel_rfl) ?_ _;go_wp2;go_ret
    exact⟨retB (by rw [HT.out,allN_false (p:=okColAt C) hlt (by unfold okColAt;rw [hv,ht];rfl)];rfl),bstep B2 (bstep B3 jH)⟩
   rcases hc:hasCol C (C k).s k
   ·
    go_wp2;refine wp_region_held_drew (S:=fun x=>Below (wr.alloc (.cells #[.string (C k).s,.int .i64 (C k).t] 113)).heap.size (wr.alloc (.cells #[.string (C k).s,.int .i64 (C k).t] 113)) x) (by kernel_rfl) (bdrew _) (fun jH=>?_);refine tk 0 qTi0 (fun x jS=>by go_simp<;>rfl) jH ?_
    try simp only [zS]
    refine tk 1 qTi1 (fun x jS=>by have k0:=keepB jS y0;have k1:=keepB jS y1;have k2:=keepB jS x1;go_simp<;>rfl) jH ?_
    try simp only [zS]
    refine rd 2 qTi2 (fun K hK=>?_);go_simp;refine(sName _ _ hs).mono ?_;rw [hv];rintro e w3 ⟨rfl,hb3⟩;refine hK.out _ _ (bstep jH hb3) (fun jH=>?_);clear hK K;try simp only [zS]
    refine tk 3 qTi3 (fun x jS=>by go_simp<;>rfl) jH ?_
    try simp only [zS]
    refine tk 4 qTi4 (fun x jS=>by go_simp<;>rfl) jH ?_
    try simp only [zS]
    refine tk 5 qTi5 (fun x jS=>by go_simp<;>rfl) jH ?_
    try simp only [zS]
    refine tk 6 qTi6 (fun x jS=>by have k0:=keepB jS y0;have k1:=keepB jS y1;have k2:=keepB jS x1;go_simp<;>rfl) jH ?_
    try simp only [zS]
    refine rd 7 qTi7 (fun K hK=>?_);go_simp;refine(sType _ _).mono ?_;rw [ht];rintro e w4 ⟨rfl,rfl⟩;refine hK.out _ _ (jH) (fun jH=>?_);clear hK K;try simp only [zS]
    refine tk 8 qTi8 (fun x jS=>by go_simp<;>rfl) jH ?_
    try simp only [zS]
    refine tk 9 qTi9 (fun x jS=>by go_simp<;>rfl) jH ?_
    try simp only [zS]
    refine tk 10 qTi10 (fun x jS=>by go_simp<;>rfl) jH ?_
    try simp only [zS]
    refine tk 11 qTi11 (fun x jS=>by go_simp<;>rfl) jH ?_
    try simp only [zS]
    refine tk 12 qTi12 (fun x jS=>by have k0:=keepB jS y0;have k1:=keepB jS y1;have k2:=keepB jS x1;go_simp<;>rfl) jH ?_
    try simp only [zS]
    refine tk 13 qTi13 (fun x jS=>by go_simp<;>rfl) jH ?_
    try simp only [zS]
    refine tk 14 (qTi14) (v:=.slice (some ⟨b,off,none⟩) k n) (fun x jS=>by go_simp<;>rfl) jH ?_
    try simp only [zS]
    refine tk 15 qTi15 (fun x jS=>by go_simp<;>rfl) jH ?_
    try simp only [zS]
    refine tk 16 qTi16 (fun x jS=>by have k0:=keepB jS y0;have k1:=keepB jS y1;have k2:=keepB jS x1;go_simp<;>rfl) jH ?_
    try simp only [zS]
    refine rd 17 qTi17 (fun K hK=>?_);go_simp;refine(sCol _ _ _ C _ _ ((hCr.take (Nat.le_of_lt hlt)).later jH) (by omega)).mono ?_;rintro e w5 ⟨q,rfl,hqq,hb5⟩;rw [hc] at hqq;replace hqq:=show ¬(0:Int)<=q from fun hh=>(by cases hqq.1 hh)
    refine hK.out _ _ (bstep jH hb5) (fun jH=>?_);clear hK K;try simp only [zS]
    refine tk 18 qTi18 (fun x jS=>by go_simp<;>rfl) jH ?_
    try simp only [zS]
    refine tk 19 qTi19 (fun x jS=>by go_simp<;>rfl) jH ?_
    try simp only [zS]
    refine wpAnyH_done (by kernel_rfl) ?_ _;go_wp2;go_roundw
    case rel=>exact⟨k+1,by omega,by go_num,fun j hj=>by
     by_cases e:j=k
     · subst e;unfold okColAt;rw [hv,ht,hc];rfl
     · exact hall j (by omega),bstep hb (bstep B3 jH)⟩
    case measure=>simp [intOf];omega
   ·
    go_wp2;refine wp_region_held_drew (S:=fun x=>Below (wr.alloc (.cells #[.string (C k).s,.int .i64 (C k).t] 113)).heap.size (wr.alloc (.cells #[.string (C k).s,.int .i64 (C k).t] 113)) x) (by kernel_rfl) (bdrew _) (fun jH=>?_);refine tk 0 qTi0 (fun x jS=>by go_simp<;>rfl) jH ?_
    try simp only [zS]
    refine tk 1 qTi1 (fun x jS=>by have k0:=keepB jS y0;have k1:=keepB jS y1;have k2:=keepB jS x1;go_simp<;>rfl) jH ?_
    try simp only [zS]
    refine rd 2 qTi2 (fun K hK=>?_);go_simp;refine(sName _ _ hs).mono ?_;rw [hv];rintro e w3 ⟨rfl,hb3⟩;refine hK.out _ _ (bstep jH hb3) (fun jH=>?_);clear hK K;try simp only [zS]
    refine tk 3 qTi3 (fun x jS=>by go_simp<;>rfl) jH ?_
    try simp only [zS]
    refine tk 4 qTi4 (fun x jS=>by go_simp<;>rfl) jH ?_
    try simp only [zS]
    refine tk 5 qTi5 (fun x jS=>by go_simp<;>rfl) jH ?_
    try simp only [zS]
    refine tk 6 qTi6 (fun x jS=>by have k0:=keepB jS y0;have k1:=keepB jS y1;have k2:=keepB jS x1;go_simp<;>rfl) jH ?_
    try simp only [zS]
    refine rd 7 qTi7 (fun K hK=>?_);go_simp;refine(sType _ _).mono ?_;rw [ht];rintro e w4 ⟨rfl,rfl⟩;refine hK.out _ _ (jH) (fun jH=>?_);clear hK K;try simp only [zS]
    refine tk 8 qTi8 (fun x jS=>by go_simp<;>rfl) jH ?_
    try simp only [zS]
    refine tk 9 qTi9 (fun x jS=>by go_simp<;>rfl) jH ?_
    try simp only [zS]
    refine tk 10 qTi10 (fun x jS=>by go_simp<;>rfl) jH ?_
    try simp only [zS]
    refine tk 11 qTi11 (fun x jS=>by go_simp<;>rfl) jH ?_
    try simp only [zS]
    refine tk 12 qTi12 (fun x jS=>by have k0:=keepB jS y0;have k1:=keepB jS y1;have k2:=keepB jS x1;go_simp<;>rfl) jH ?_
    try simp only [zS]
    refine tk 13 qTi13 (fun x jS=>by go_simp<;>rfl) jH ?_
    try simp only [zS]
    refine tk 14 (qTi14) (v:=.slice (some ⟨b,off,none⟩) k n) (fun x jS=>by go_simp<;>rfl) jH ?_
    try simp only [zS]
    refine tk 15 qTi15 (fun x jS=>by go_simp<;>rfl) jH ?_
    try simp only [zS]
    refine tk 16 qTi16 (fun x jS=>by have k0:=keepB jS y0;have k1:=keepB jS y1;have k2:=keepB jS x1;go_simp<;>rfl) jH ?_
    try simp only [zS]
    refine rd 17 qTi17 (fun K hK=>?_);go_simp;refine(sCol _ _ _ C _ _ ((hCr.take (Nat.le_of_lt hlt)).later jH) (by omega)).mono ?_;rintro e w5 ⟨q,rfl,hqq,hb5⟩;rw [hc] at hqq;replace hqq:=hqq.2 rfl;refine hK.out _ _ (bstep jH hb5) (fun jH=>?_);clear hK K;try simp only [zS]
    refine tk 18 qTi18 (fun x jS=>by go_simp<;>rfl) jH ?_
    try simp only [zS]
    refine tk 19 qTi19 (fun x jS=>by go_simp<;>rfl) jH ?_
    try simp only [zS]
    refine wpAnyH_done (by kernel_rfl) ?_ _;go_wp2;go_ret
    exact⟨retB (by rw [HT.out,allN_false (p:=okColAt C) hlt (by unfold okColAt;rw [hc];simp)];rfl),bstep B2 (bstep B3 jH)⟩
  ·
   obtain rfl:n=k:=by omega
   replace HT:Hid (okTab s n C r m R=allN r (okRowAt n C m R)):=by
    show _=_
    rw [HT.out,allN_true hall];rfl
   have a1:=keepB hb d1;have a2:=keepB hb d2;clear d1 d2;go_wp2;obtain⟨wo,rfl⟩:∃ wo:World,wo=wr:=⟨_,rfl⟩;go_loopw [58] (fun i wr=>∃ k:Nat,k<=r/\i=.int .i64 k/\(∀ j,j<k->okRowAt n C m R j=true)/\Below wo.heap.size wo wr) (fun i _=>r - (intOf i).toNat)
   case atStart=>exact⟨0,by omega,rfl,fun j hj=>by omega,Below.refl _ _⟩
   case round=>
    obtain⟨k,hk2,rfl,hall2,hb2⟩:=hrel;have B4:=bstep B2 hb2;by_cases hlt:k<r
    ·
     obtain⟨b1,o1,i1,k1,ea,f0,di,dm⟩:=hR.later B4 k hlt;subst ea;have a3:=keepB hb2 a1;by_cases hmn:m k=n
     rotate_left
     ·
      have hmn':((m k:Int) == (n:Int))=false:=by simp;omega
      go_wp2;go_ret
      exact⟨retB (by rw [HT.out,allN_false (p:=okRowAt n C m R) hlt (by unfold okRowAt;rw [decide_eq_false hmn];rfl)]),B4⟩
     have hmn':((m k:Int) == (n:Int))=true:=by simp;omega
     go_wp2;obtain⟨wp,rfl⟩:∃ wp:World,wp=wr:=⟨_,rfl⟩;go_loopw [71] (fun i wr=>∃ j:Nat,j<=m k/\i=.int .i64 j/\(∀ q,q<j->rightB (R k q).o (R k q).m (R k q).s (C q).t=true)/\Below wp.heap.size wp wr) (fun i _=>m k - (intOf i).toNat)
     case atStart=>exact⟨0,by omega,rfl,fun j hj=>by omega,Below.refl _ _⟩
     case round=>
      obtain⟨j,hj,rfl,hall3,hb3⟩:=hrel;have B5:=bstep B4 hb3;by_cases hlj:j<m k
      ·
       obtain⟨bv,ov,ei,v0,v1,v2,hs⟩:=di.later hb3 j hlj;subst ei;obtain⟨b,off,ec,e0,e1,-⟩:=hC.later B5 j (by omega);subst ec;have hR2:=heap_alloc_new wr (.cells #[.int .i64 (R k j).o,.int .i64 (R k j).m,.string (R k j).s] 66);have y0:(wr.alloc (.cells #[.int .i64 (R k j).o,.int .i64 (R k j).m,.string (R k j).s] 66)).cell? ⟨wr.heap.size,0,none⟩=some (.int .i64 (R k j).o):=(cell_of_row _ _ 0 _ _ _ hR2).trans rfl;have y1:(wr.alloc (.cells #[.int .i64 (R k j).o,.int .i64 (R k j).m,.string (R k j).s] 66)).cell? ⟨wr.heap.size,1,none⟩=some (.int .i64 (R k j).m):=(cell_of_row _ _ 1 _ _ _ hR2).trans rfl;have y2:(wr.alloc (.cells #[.int .i64 (R k j).o,.int .i64 (R k j).m,.string (R k j).s] 66)).cell? ⟨wr.heap.size,2,none⟩=some (.string (R k j).s):=(cell_of_row _ _ 2 _ _ _ hR2).trans rfl;clear hR2;have B6:=bal wr (.cells #[.int .i64 (R k j).o,.int .i64 (R k j).m,.string (R k j).s] 66);have x1:=keepB B6 (keepB hb3 a3);have z1:=keepB B6 e1;have i1:(0:Int)<=(j:Int):=by omega
       have i2:(j:Int)<(n:Int):=by omega
       rcases hv:rightB (R k j).o (R k j).m (R k j).s (C j).t
       ·
        go_wp2;refine wp_region_held_drew (S:=fun x=>Below (wr.alloc (.cells #[.int .i64 (R k j).o,.int .i64 (R k j).m,.string (R k j).s] 66)).heap.size (wr.alloc (.cells #[.int .i64 (R k j).o,.int .i64 (R k j).m,.string (R k j).s] 66)) x) (by kernel_rfl) (bdrew _) (fun jH=>?_);refine tk 0 qTi20 (fun x jS=>by have k0:=keepB jS y0;have k1:=keepB jS y1;have k2:=keepB jS y2;have k3:=keepB jS x1;have k4:=keepB jS z1;go_simp<;>rfl) jH ?_
        try simp only [zS]
        refine tk 1 qTi21 (fun x jS=>by go_simp<;>rfl) jH ?_
        try simp only [zS]
        refine tk 2 qTi22 (fun x jS=>by have k0:=keepB jS y0;have k1:=keepB jS y1;have k2:=keepB jS y2;have k3:=keepB jS x1;have k4:=keepB jS z1;go_simp<;>rfl) jH ?_
        try simp only [zS]
        refine tk 3 qTi23 (fun x jS=>by go_simp<;>rfl) jH ?_
        try simp only [zS]
        refine tk 4 (qTi24) (v:=.pointer (some ⟨b,off+j * 2,none⟩)) (fun x jS=>by go_simp<;>rfl) jH ?_
        try simp only [zS]
        refine tk 5 (qTi25) (v:=.pointer (some ⟨b,off+j * 2+1,none⟩)) (fun x jS=>by go_simp<;>rfl) jH ?_
        try simp only [zS]
        refine tk 6 qTi26 (fun x jS=>by have k0:=keepB jS y0;have k1:=keepB jS y1;have k2:=keepB jS y2;have k3:=keepB jS x1;have k4:=keepB jS z1;go_simp<;>rfl) jH ?_
        try simp only [zS]
        refine rd 7 qTi27 (fun K hK=>?_);go_simp;refine(sRight _ _ _ _ _ hs).mono ?_;rw [hv];rintro e w6 ⟨rfl,hb6⟩;refine hK.out _ _ (bstep jH hb6) (fun jH=>?_);clear hK K;try simp only [zS]
        refine tk 8 qTi28 (fun x jS=>by go_simp<;>rfl) jH ?_
        try simp only [zS]
        refine wpAnyH_done (by kernel_rfl) ?_ _;go_wp2;go_ret
        exact⟨retB (by rw [HT.out,allN_false (p:=okRowAt n C m R) hlt (by unfold okRowAt;rw [allN_false (p:=fun j=>rightB (R k j).o (R k j).m (R k j).s (C j).t) hlj hv];simp)]),bstep B5 (bstep B6 jH)⟩
       ·
        go_wp2;refine wp_region_held_drew (S:=fun x=>Below (wr.alloc (.cells #[.int .i64 (R k j).o,.int .i64 (R k j).m,.string (R k j).s] 66)).heap.size (wr.alloc (.cells #[.int .i64 (R k j).o,.int .i64 (R k j).m,.string (R k j).s] 66)) x) (by kernel_rfl) (bdrew _) (fun jH=>?_);refine tk 0 qTi20 (fun x jS=>by have k0:=keepB jS y0;have k1:=keepB jS y1;have k2:=keepB jS y2;have k3:=keepB jS x1;have k4:=keepB jS z1;go_simp<;>rfl) jH ?_
        try simp only [zS]
        refine tk 1 qTi21 (fun x jS=>by go_simp<;>rfl) jH ?_
        try simp only [zS]
        refine tk 2 qTi22 (fun x jS=>by have k0:=keepB jS y0;have k1:=keepB jS y1;have k2:=keepB jS y2;have k3:=keepB jS x1;have k4:=keepB jS z1;go_simp<;>rfl) jH ?_
        try simp only [zS]
        refine tk 3 qTi23 (fun x jS=>by go_simp<;>rfl) jH ?_
        try simp only [zS]
        refine tk 4 (qTi24) (v:=.pointer (some ⟨b,off+j * 2,none⟩)) (fun x jS=>by go_simp<;>rfl) jH ?_
        try simp only [zS]
        refine tk 5 (qTi25) (v:=.pointer (some ⟨b,off+j * 2+1,none⟩)) (fun x jS=>by go_simp<;>rfl) jH ?_
        try simp only [zS]
        refine tk 6 qTi26 (fun x jS=>by have k0:=keepB jS y0;have k1:=keepB jS y1;have k2:=keepB jS y2;have k3:=keepB jS x1;have k4:=keepB jS z1;go_simp<;>rfl) jH ?_
        try simp only [zS]
        refine rd 7 qTi27 (fun K hK=>?_);go_simp;refine(sRight _ _ _ _ _ hs).mono ?_;rw [hv];rintro e w6 ⟨rfl,hb6⟩;refine hK.out _ _ (bstep jH hb6) (fun jH=>?_);clear hK K;try simp only [zS]
        refine tk 8 qTi28 (fun x jS=>by go_simp<;>rfl) jH ?_
        try simp only [zS]
        refine wpAnyH_done (by kernel_rfl) ?_ _;go_wp2;go_roundw
        case rel=>exact⟨j+1,by omega,by go_num,fun q hq=>by
         by_cases e:q=j
         · subst e;exact hv
         · exact hall3 q (by omega),bstep hb3 (bstep B6 jH)⟩
        case measure=>simp [intOf];omega
      ·
       obtain rfl:j=m k:=by omega
       have HR3:okRowAt n C m R k=(decide (k=0) || befV (R (k - 1) 0).m (R (k - 1) 0).s (R k 0).m (R k 0).s):=by
        unfold okRowAt;rw [allN_true hall3,decide_eq_true hmn];rfl
       have HR4:Hid (okRowAt n C m R k=(decide (k=0) || befV (R (k - 1) 0).m (R (k - 1) 0).s (R k 0).m (R k 0).s)):=HR3;clear HR3;have x2:=keepB hb3 (keepB hb2 a2);by_cases hk0:k=0
       ·
        subst hk0;go_wp2;refine wp_region_held_drew (S:=fun x=>Below wr.heap.size wr x) (by kernel_rfl) (bdrew _) (fun jH=>?_);refine tk 0 qTi29 (fun x jS=>by go_simp<;>rfl) jH ?_
        try simp only [zS]
        refine tk 1 qTi30 (fun x jS=>by go_simp<;>rfl) jH ?_
        try simp only [zS]
        refine tk 2 qTi31 (fun x jS=>by go_simp<;>rfl) jH ?_
        try simp only [zS]
        refine tko 3 qTi32 jH ?_;try simp only [zS]
        refine tko 4 qTi33 jH ?_;try simp only [zS]
        refine tko 5 qTi34 jH ?_;try simp only [zS]
        refine tko 6 qTi35 jH ?_;try simp only [zS]
        refine tko 7 qTi36 jH ?_;try simp only [zS]
        refine tko 8 qTi37 jH ?_;try simp only [zS]
        refine tko 9 qTi38 jH ?_;try simp only [zS]
        refine tko 10 qTi39 jH ?_;try simp only [zS]
        refine tko 11 qTi40 jH ?_;try simp only [zS]
        refine tko 12 qTi41 jH ?_;try simp only [zS]
        refine tko 13 qTi42 jH ?_;try simp only [zS]
        refine tko 14 qTi43 jH ?_;try simp only [zS]
        refine tko 15 qTi44 jH ?_;try simp only [zS]
        refine tk 16 qTi45 (fun x jS=>by go_simp<;>rfl) jH ?_
        try simp only [zS]
        refine wpAnyH_done (by kernel_rfl) ?_ _;go_wp2;go_roundw
        case rel=>exact⟨0+1,by omega,by go_num,fun j hj=>by
         obtain rfl:j=0:=by omega
         rw [HR4.out];rfl,bstep hb2 (bstep hb3 jH)⟩
        case measure=>simp [intOf];omega
       obtain⟨p,rfl⟩:∃ p,k=p+1:=⟨k - 1,by omega⟩;obtain⟨b',o',ip,kp,e',g0,dp,-⟩:=hR.later B5 p (by omega);obtain⟨rfl,rfl⟩:b1=b'/\o1=o':=by simpa using e'
       have hmp:m p=n:=by
        have:=hall2 p (by omega);unfold okRowAt at this;rw [Bool.and_eq_true,Bool.and_eq_true,decide_eq_true_eq] at this;exact this.1.1
       obtain⟨b2,o2,ep,p0,p1,p2,-⟩:=dp 0 (by omega);subst ep;obtain⟨b3,o3,eq,q0,q1,q2,-⟩:=di.later hb3 0 (by omega);subst eq;have i0:(0:Int)<=(p:Int):=by omega
       have i1:(p:Int)<(r:Int):=by omega
       have i2:IntKind.i64.wrap (p:Int)=(p:Int):=by rw [IntKind.wrap_i64];omega
       have i3:(0:Int)<(m p:Int):=by omega
       have i4:(0:Int)<(m (p+1):Int):=by omega
       have i5:(0:Int)<(p:Int)+1:=by omega
       simp only [Nat.zero_mul,Nat.add_zero] at p0 p1 p2 q0 q1 q2
       rcases hv:befV (R p 0).m (R p 0).s (R (p+1) 0).m (R (p+1) 0).s
       ·
        go_wp2;refine wp_region_held_drew (S:=fun x=>Below wr.heap.size wr x) (by kernel_rfl) (bdrew _) (fun jH=>?_);refine tk 0 qTi29 (fun x jS=>by go_simp<;>rfl) jH ?_
        try simp only [zS]
        refine tk 1 qTi30 (fun x jS=>by go_simp<;>rfl) jH ?_
        try simp only [zS]
        refine tk 2 qTi31 (fun x jS=>by go_simp<;>rfl) jH ?_
        try simp only [zS]
        refine tk 3 qTi32 (fun x jS=>by go_simp<;>rfl) jH ?_
        try simp only [zS]
        refine tk 4 qTi33 (fun x jS=>by have k1:=keepB jS x2;have k2:=keepB jS g0;have k3:=keepB jS p0;have k4:=keepB jS p1;have k5:=keepB jS p2;have k6:=keepB jS q0;have k7:=keepB jS q1;have k8:=keepB jS q2;go_simp<;>rfl) jH ?_
        try simp only [zS]
        refine tk 5 qTi34 (fun x jS=>by go_simp<;>rfl) jH ?_
        try simp only [zS]
        refine tk 6 (qTi35) (v:=.int .i64 (p:Int)) (fun x jS=>by go_simp<;>rfl) jH ?_
        try simp only [zS]
        refine tk 7 (qTi36) (v:=.pointer (some ⟨b1,o1+p,none⟩)) (fun x jS=>by go_simp<;>rfl) jH ?_
        try simp only [zS]
        refine tk 8 qTi37 (fun x jS=>by have k1:=keepB jS x2;have k2:=keepB jS g0;have k3:=keepB jS p0;have k4:=keepB jS p1;have k5:=keepB jS p2;have k6:=keepB jS q0;have k7:=keepB jS q1;have k8:=keepB jS q2;go_simp<;>rfl) jH ?_
        try simp only [zS]
        refine tk 9 (qTi38) (v:=.pointer (some ⟨b2,o2,none⟩)) (fun x jS=>by go_simp<;>rfl) jH ?_
        try simp only [zS]
        refine tk 10 qTi39 (fun x jS=>by have k1:=keepB jS x2;have k2:=keepB jS g0;have k3:=keepB jS p0;have k4:=keepB jS p1;have k5:=keepB jS p2;have k6:=keepB jS q0;have k7:=keepB jS q1;have k8:=keepB jS q2;go_simp<;>rfl) jH ?_
        try simp only [zS]
        refine tk 11 qTi40 (fun x jS=>by go_simp<;>rfl) jH ?_
        try simp only [zS]
        refine tk 12 (qTi41) (v:=.pointer (some ⟨b3,o3,none⟩)) (fun x jS=>by go_simp<;>rfl) jH ?_
        try simp only [zS]
        refine tk 13 qTi42 (fun x jS=>by have k1:=keepB jS x2;have k2:=keepB jS g0;have k3:=keepB jS p0;have k4:=keepB jS p1;have k5:=keepB jS p2;have k6:=keepB jS q0;have k7:=keepB jS q1;have k8:=keepB jS q2;go_simp<;>rfl) jH ?_
        try simp only [zS]
        refine rd 14 qTi43 (fun K hK=>?_);go_simp;refine(sCompare _ _ _ _ _ _ _).mono ?_;rintro e w7 ⟨y,rfl,hqq,hb7⟩;rw [hv] at hqq;replace hqq:=hqq.2 rfl;refine hK.out _ _ (bstep jH hb7) (fun jH=>?_);clear hK K;try simp only [zS]
        refine tk 15 qTi44 (fun x jS=>by go_simp<;>rfl) jH ?_
        try simp only [zS]
        refine tk 16 qTi45 (fun x jS=>by go_simp<;>rfl) jH ?_
        try simp only [zS]
        refine wpAnyH_done (by kernel_rfl) ?_ _;go_wp2;go_ret
        exact⟨retB (by rw [HT.out,allN_false (p:=okRowAt n C m R) hlt (by rw [HR4.out,Nat.add_sub_cancel,hv];simp)]),bstep B5 jH⟩
       ·
        go_wp2;refine wp_region_held_drew (S:=fun x=>Below wr.heap.size wr x) (by kernel_rfl) (bdrew _) (fun jH=>?_);refine tk 0 qTi29 (fun x jS=>by go_simp<;>rfl) jH ?_
        try simp only [zS]
        refine tk 1 qTi30 (fun x jS=>by go_simp<;>rfl) jH ?_
        try simp only [zS]
        refine tk 2 qTi31 (fun x jS=>by go_simp<;>rfl) jH ?_
        try simp only [zS]
        refine tk 3 qTi32 (fun x jS=>by go_simp<;>rfl) jH ?_
        try simp only [zS]
        refine tk 4 qTi33 (fun x jS=>by have k1:=keepB jS x2;have k2:=keepB jS g0;have k3:=keepB jS p0;have k4:=keepB jS p1;have k5:=keepB jS p2;have k6:=keepB jS q0;have k7:=keepB jS q1;have k8:=keepB jS q2;go_simp<;>rfl) jH ?_
        try simp only [zS]
        refine tk 5 qTi34 (fun x jS=>by go_simp<;>rfl) jH ?_
        try simp only [zS]
        refine tk 6 (qTi35) (v:=.int .i64 (p:Int)) (fun x jS=>by go_simp<;>rfl) jH ?_
        try simp only [zS]
        refine tk 7 (qTi36) (v:=.pointer (some ⟨b1,o1+p,none⟩)) (fun x jS=>by go_simp<;>rfl) jH ?_
        try simp only [zS]
        refine tk 8 qTi37 (fun x jS=>by have k1:=keepB jS x2;have k2:=keepB jS g0;have k3:=keepB jS p0;have k4:=keepB jS p1;have k5:=keepB jS p2;have k6:=keepB jS q0;have k7:=keepB jS q1;have k8:=keepB jS q2;go_simp<;>rfl) jH ?_
        try simp only [zS]
        refine tk 9 (qTi38) (v:=.pointer (some ⟨b2,o2,none⟩)) (fun x jS=>by go_simp<;>rfl) jH ?_
        try simp only [zS]
        refine tk 10 qTi39 (fun x jS=>by have k1:=keepB jS x2;have k2:=keepB jS g0;have k3:=keepB jS p0;have k4:=keepB jS p1;have k5:=keepB jS p2;have k6:=keepB jS q0;have k7:=keepB jS q1;have k8:=keepB jS q2;go_simp<;>rfl) jH ?_
        try simp only [zS]
        refine tk 11 qTi40 (fun x jS=>by go_simp<;>rfl) jH ?_
        try simp only [zS]
        refine tk 12 (qTi41) (v:=.pointer (some ⟨b3,o3,none⟩)) (fun x jS=>by go_simp<;>rfl) jH ?_
        try simp only [zS]
        refine tk 13 qTi42 (fun x jS=>by have k1:=keepB jS x2;have k2:=keepB jS g0;have k3:=keepB jS p0;have k4:=keepB jS p1;have k5:=keepB jS p2;have k6:=keepB jS q0;have k7:=keepB jS q1;have k8:=keepB jS q2;go_simp<;>rfl) jH ?_
        try simp only [zS]
        refine rd 14 qTi43 (fun K hK=>?_);go_simp;refine(sCompare _ _ _ _ _ _ _).mono ?_;rintro e w7 ⟨y,rfl,hqq,hb7⟩;rw [hv] at hqq;replace hqq:=show ¬(0:Int)<=y from fun hh=>(by cases hqq.1 hh)
        refine hK.out _ _ (bstep jH hb7) (fun jH=>?_);clear hK K;try simp only [zS]
        refine tk 15 qTi44 (fun x jS=>by go_simp<;>rfl) jH ?_
        try simp only [zS]
        refine tk 16 qTi45 (fun x jS=>by go_simp<;>rfl) jH ?_
        try simp only [zS]
        refine wpAnyH_done (by kernel_rfl) ?_ _;go_wp2;go_roundw
        case rel=>exact⟨p+1+1,by omega,by go_num,fun j hj=>by
         by_cases e:j=p+1
         · subst e;rw [HR4.out,Nat.add_sub_cancel,hv];simp
         · exact hall2 j (by omega),bstep hb2 (bstep hb3 jH)⟩
        case measure=>simp [intOf];omega
    ·
     obtain rfl:k=r:=by omega
     go_wp2;go_ret
     exact⟨retB (by rw [HT.out,allN_true hall2]),B4⟩
end Go.Proofs.YtgeiamgeclbiaaaGreatDoor
