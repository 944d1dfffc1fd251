import Derived.Test.YtgeiamgeclbiaaaGreatDoorTi
import Derived.Test.YtgeiamgeclbiaaaGreatDoorTq
namespace Go.Proofs.YtgeiamgeclbiaaaGreatDoor
open Go.RowKit Go.Maps Go.WideMaps
set_option maxRecDepth 20000
set_option maxHeartbeats 8000000
abbrev qTr0:Oper:=⟨some 17,.load 62 (.tmp 4),62,"l5_replay.go:57",#[],none⟩
abbrev qTr1:Oper:=⟨some 18,.call ⟨.value (.func 97),#[.tmp 17],#[62]⟩,4,"l5_replay.go:57",#[⟨0,.data⟩],none⟩
abbrev qTr2:Oper:=⟨some 19,.unOp .not 4 (.tmp 18),4,"l5_replay.go:57",#[⟨1,.data⟩],none⟩
abbrev qTr3:Oper:=⟨some 20,.move (.tmp 19),4,"l5_replay.go:57",#[⟨2,.data⟩,⟨1,.chain⟩],none⟩
abbrev qTr4:Oper:=⟨some 21,.move (.tmp 3),3,"l5_replay.go:57",#[⟨3,.guard⟩],some (3,false)⟩
abbrev qTr5:Oper:=⟨some 22,.binOp .gtr 3 (.tmp 21) (.const (.int .i64 0)) 3,4,"l5_replay.go:57",#[⟨4,.data⟩,⟨3,.guard⟩],some (3,false)⟩
abbrev qTr6:Oper:=⟨some 23,.move (.tmp 22),4,"l5_replay.go:57",#[⟨5,.data⟩,⟨3,.chain⟩,⟨3,.guard⟩],some (3,false)⟩
abbrev qTr7:Oper:=⟨some 24,.fieldAddr 38 (.tmp 1) 0,0,"l5_replay.go:57",#[⟨6,.guard⟩],some (6,true)⟩
abbrev qTr8:Oper:=⟨some 25,.load 36 (.tmp 24),36,"l5_replay.go:57",#[⟨7,.data⟩,⟨6,.guard⟩],some (6,true)⟩
abbrev qTr9:Oper:=⟨some 26,.move (.tmp 3),3,"l5_replay.go:57",#[⟨6,.guard⟩],some (6,true)⟩
abbrev qTr10:Oper:=⟨some 27,.binOp .sub 3 (.tmp 26) (.const (.int .i64 1)) 3,3,"l5_replay.go:57",#[⟨9,.data⟩,⟨6,.guard⟩],some (6,true)⟩
abbrev qTr11:Oper:=⟨some 28,.indexAddr 36 (.tmp 25) (.tmp 27),0,"l5_replay.go:57",#[⟨8,.data⟩,⟨10,.data⟩,⟨6,.guard⟩],some (6,true)⟩
abbrev qTr12:Oper:=⟨some 29,.fieldAddr 62 (.tmp 28) 0,0,"l5_replay.go:57",#[⟨11,.data⟩,⟨6,.guard⟩],some (6,true)⟩
abbrev qTr13:Oper:=⟨some 30,.load 9 (.tmp 29),9,"l5_replay.go:57",#[⟨12,.data⟩,⟨6,.guard⟩],some (6,true)⟩
abbrev qTr14:Oper:=⟨some 31,.fieldAddr 62 (.tmp 4) 0,0,"l5_replay.go:57",#[⟨6,.guard⟩],some (6,true)⟩
abbrev qTr15:Oper:=⟨some 32,.load 9 (.tmp 31),9,"l5_replay.go:57",#[⟨14,.data⟩,⟨6,.guard⟩],some (6,true)⟩
abbrev qTr16:Oper:=⟨some 33,.binOp .geq 9 (.tmp 30) (.tmp 32) 9,4,"l5_replay.go:57",#[⟨13,.data⟩,⟨15,.data⟩,⟨6,.guard⟩],some (6,true)⟩
abbrev qTr17:Oper:=⟨some 34,.pick (.tmp 23) (.tmp 33) (.const (.bool false)),4,"l5_replay.go:57",#[⟨6,.data⟩,⟨16,.data⟩,⟨3,.guard⟩],some (3,false)⟩
abbrev qTr18:Oper:=⟨some 35,.pick (.tmp 20) (.const (.bool true)) (.tmp 34),4,"l5_replay.go:57",#[⟨3,.data⟩,⟨17,.data⟩],none⟩
theorem okDb_no{n k:Nat}{T:Nat->Td}(hk:k<n)(h:okTd (T k)=false∨ltD T k=false):okDb n T=false:=by
 unfold okDb;rcases h with h | h
 · rw [allT_no hk h];rfl
 · rw [allN_false hk h];simp
theorem sDb(g n c:Nat)(T:Nat->Td)(w:World)(h:TC w g n T)(hn:n<=1048576) :
 Calls Tryz.prog 50 #[.agg #[.slice (some ⟨g,0,none⟩) n c]] w fun e w'=>e=.returned (.bool (okDb n T))/\Below w.heap.size w w':=by
 have hb0:=bal w (.cells #[.slice (some ⟨g,0,none⟩) n c] 38);have hX0:=heap_alloc_new w (.cells #[.slice (some ⟨g,0,none⟩) n c] 38);have c0:(w.alloc (.cells #[.slice (some ⟨g,0,none⟩) n c] 38)).cell? ⟨w.heap.size,0,none⟩=some (.slice (some ⟨g,0,none⟩) n c):=(cell_of_row _ _ 0 _ _ _ hX0).trans rfl;clear hX0;by_cases h1:100<n
 ·
  have h2:(100:Int)<n:=by omega
  have HF:Hid (okDb n T=false):=by show _=_;unfold okDb;rw [allT_out h1];rfl
  go_enter Tryz.func50,Tryz.ntmps50
  go_wp2;go_ret
  exact⟨retB HF.out.symm,hb0⟩
 have h2:¬(100:Int)<n:=by omega
 go_enter Tryz.func50,Tryz.ntmps50
 go_wp2;go_loopw [3,4,12] (fun _ _ i wr=>∃ k:Nat,k<=n/\i=.int .i64 k/\(∀ j,j<k->okTd (T j)=true/\ltD T j=true)/\Below (w.alloc (.cells #[.slice (some ⟨g,0,none⟩) n c] 38)).heap.size (w.alloc (.cells #[.slice (some ⟨g,0,none⟩) n c] 38)) wr) (fun _ _ i _=>n - (intOf i).toNat)
 case atStart=>exact⟨0,by omega,rfl,fun j hj=>by omega,Below.refl _ _⟩
 case round=>
  obtain⟨k,hk,rfl,hall,hb⟩:=hrel;have B2:=bstep hb0 hb;by_cases hlt:k<n
  ·
   obtain⟨g1,ar,cr,e0,e1,e2,hC,hO,hs⟩:=h.later B2 k hlt;have hR2:=heap_alloc_new wr (.cells #[.string (T k).s,.slice (some ⟨g1,0,none⟩) (T k).n (T k).n,.slice ar (T k).r cr] 62);have y0:(wr.alloc (.cells #[.string (T k).s,.slice (some ⟨g1,0,none⟩) (T k).n (T k).n,.slice ar (T k).r cr] 62)).cell? ⟨wr.heap.size,0,none⟩=some (.string (T k).s):=(cell_of_row _ _ 0 _ _ _ hR2).trans rfl;have y1:(wr.alloc (.cells #[.string (T k).s,.slice (some ⟨g1,0,none⟩) (T k).n (T k).n,.slice ar (T k).r cr] 62)).cell? ⟨wr.heap.size,1,none⟩=some (.slice (some ⟨g1,0,none⟩) (T k).n (T k).n):=(cell_of_row _ _ 1 _ _ _ hR2).trans rfl;have y2:(wr.alloc (.cells #[.string (T k).s,.slice (some ⟨g1,0,none⟩) (T k).n (T k).n,.slice ar (T k).r cr] 62)).cell? ⟨wr.heap.size,2,none⟩=some (.slice ar (T k).r cr):=(cell_of_row _ _ 2 _ _ _ hR2).trans rfl;clear hR2;have B3:=bal wr (.cells #[.string (T k).s,.slice (some ⟨g1,0,none⟩) (T k).n (T k).n,.slice ar (T k).r cr] 62);have x0:=keepB B3 (keepB hb c0);have i1:(0:Int)<=(k:Int):=by omega
   have i2:(k:Int)<(n:Int):=by omega
   rcases hv:okTd (T k)
   ·
    go_wp2;refine wp_region_held_drew (S:=fun x=>Below (wr.alloc (.cells #[.string (T k).s,.slice (some ⟨g1,0,none⟩) (T k).n (T k).n,.slice ar (T k).r cr] 62)).heap.size (wr.alloc (.cells #[.string (T k).s,.slice (some ⟨g1,0,none⟩) (T k).n (T k).n,.slice ar (T k).r cr] 62)) x) (by kernel_rfl) (bdrew _) (fun jH=>?_);refine tk 0 qTr0 (fun x jS=>by have k0:=keepB jS y0;have k1:=keepB jS y1;have k2:=keepB jS y2;have k3:=keepB jS x0;go_simp<;>rfl) jH ?_
    try simp only [zS]
    refine rd 1 qTr1 (fun K hK=>?_);go_simp;refine(sTab _ _ _ _ _ _ _ ar cr _ (hC.later (bstep B3 jH)) (hO.later (bstep B3 jH)) hs).mono ?_;rw [show okTab (T k).s (T k).n (T k).C (T k).r (T k).m (T k).R=_ from hv];rintro e w3 ⟨rfl,hb3⟩
    refine hK.out _ _ (bstep jH hb3) (fun jH=>?_);clear hK K;try simp only [zS]
    refine tk 2 qTr2 (fun x jS=>by go_simp<;>rfl) jH ?_
    try simp only [zS]
    refine tk 3 qTr3 (fun x jS=>by go_simp<;>rfl) jH ?_
    try simp only [zS]
    refine tko 4 qTr4 jH ?_;try simp only [zS]
    refine tko 5 qTr5 jH ?_;try simp only [zS]
    refine tko 6 qTr6 jH ?_;try simp only [zS]
    refine tko 7 qTr7 jH ?_;try simp only [zS]
    refine tko 8 qTr8 jH ?_;try simp only [zS]
    refine tko 9 qTr9 jH ?_;try simp only [zS]
    refine tko 10 qTr10 jH ?_;try simp only [zS]
    refine tko 11 qTr11 jH ?_;try simp only [zS]
    refine tko 12 qTr12 jH ?_;try simp only [zS]
    refine tko 13 qTr13 jH ?_;try simp only [zS]
    refine tko 14 qTr14 jH ?_;try simp only [zS]
    refine tko 15 qTr15 jH ?_;try simp only [zS]
    refine tko 16 qTr16 jH ?_;try simp only [zS]
    refine tko 17 qTr17 jH ?_;try simp only [zS]
    refine tk 18 qTr18 (fun x jS=>by go_simp<;>rfl) jH ?_
    try simp only [zS]
    refine wpAnyH_done (by kernel_rfl) ?_ _;go_wp2;go_ret
    exact⟨retB (okDb_no hlt (Or.inl hv)).symm,bstep B2 (bstep B3 jH)⟩
   by_cases hk0:k=0
   ·
    subst hk0;go_wp2;refine wp_region_held_drew (S:=fun x=>Below (wr.alloc (.cells #[.string (T 0).s,.slice (some ⟨g1,0,none⟩) (T 0).n (T 0).n,.slice ar (T 0).r cr] 62)).heap.size (wr.alloc (.cells #[.string (T 0).s,.slice (some ⟨g1,0,none⟩) (T 0).n (T 0).n,.slice ar (T 0).r cr] 62)) x) (by kernel_rfl) (bdrew _) (fun jH=>?_);refine tk 0 qTr0 (fun x jS=>by have k0:=keepB jS y0;have k1:=keepB jS y1;have k2:=keepB jS y2;have k3:=keepB jS x0;go_simp<;>rfl) jH ?_
    try simp only [zS]
    refine rd 1 qTr1 (fun K hK=>?_);go_simp;refine(sTab _ _ _ _ _ _ _ ar cr _ (hC.later (bstep B3 jH)) (hO.later (bstep B3 jH)) hs).mono ?_;rw [show okTab (T 0).s (T 0).n (T 0).C (T 0).r (T 0).m (T 0).R=_ from hv];rintro e w3 ⟨rfl,hb3⟩
    refine hK.out _ _ (bstep jH hb3) (fun jH=>?_);clear hK K;try simp only [zS]
    refine tk 2 qTr2 (fun x jS=>by go_simp<;>rfl) jH ?_
    try simp only [zS]
    refine tk 3 qTr3 (fun x jS=>by go_simp<;>rfl) jH ?_
    try simp only [zS]
    refine tk 4 qTr4 (fun x jS=>by go_simp<;>rfl) jH ?_
    try simp only [zS]
    refine tk 5 qTr5 (fun x jS=>by go_simp<;>rfl) jH ?_
    try simp only [zS]
    refine tk 6 qTr6 (fun x jS=>by go_simp<;>rfl) jH ?_
    try simp only [zS]
    refine tko 7 qTr7 jH ?_;try simp only [zS]
    refine tko 8 qTr8 jH ?_;try simp only [zS]
    refine tko 9 qTr9 jH ?_;try simp only [zS]
    refine tko 10 qTr10 jH ?_;try simp only [zS]
    refine tko 11 qTr11 jH ?_;try simp only [zS]
    refine tko 12 qTr12 jH ?_;try simp only [zS]
    refine tko 13 qTr13 jH ?_;try simp only [zS]
    refine tko 14 qTr14 jH ?_;try simp only [zS]
    refine tko 15 qTr15 jH ?_;try simp only [zS]
    refine tko 16 qTr16 jH ?_;try simp only [zS]
    refine tk 17 qTr17 (fun x jS=>by go_simp<;>rfl) jH ?_
    try simp only [zS]
    refine tk 18 qTr18 (fun x jS=>by go_simp<;>rfl) jH ?_
    try simp only [zS]
    refine wpAnyH_done (by kernel_rfl) ?_ _;go_wp2;go_roundw
    case rel=>exact⟨0+1,by omega,by go_num,fun j hj=>by
     obtain rfl:j=0:=by omega
     exact⟨hv,rfl⟩,bstep hb (bstep B3 jH)⟩
    case measure=>simp [intOf];omega
   obtain⟨p,rfl⟩:∃ p,k=p+1:=⟨k - 1,by omega⟩;obtain⟨-,-,-,q0,-,-,-,-,-⟩:=h.later B2 p (by omega);have p0:=keepB B3 q0;have i0:(0:Int)<=(p:Int):=by omega
   have i4:(p:Int)<(n:Int):=by omega
   have i3:IntKind.i64.wrap (p:Int)=(p:Int):=by rw [IntKind.wrap_i64];omega
   have i5:(0:Int)<(p:Int)+1:=by omega
   rcases h7:Op.bytesLess (T p).s.toList (T (p+1)).s.toList
   ·
    go_wp2;refine wp_region_held_drew (S:=fun x=>Below (wr.alloc (.cells #[.string (T (p+1)).s,.slice (some ⟨g1,0,none⟩) (T (p+1)).n (T (p+1)).n,.slice ar (T (p+1)).r cr] 62)).heap.size (wr.alloc (.cells #[.string (T (p+1)).s,.slice (some ⟨g1,0,none⟩) (T (p+1)).n (T (p+1)).n,.slice ar (T (p+1)).r cr] 62)) x) (by kernel_rfl) (bdrew _) (fun jH=>?_);refine tk 0 qTr0 (fun x jS=>by have k0:=keepB jS y0;have k1:=keepB jS y1;have k2:=keepB jS y2;have k3:=keepB jS x0;have k4:=keepB jS p0;go_simp<;>rfl) jH ?_
    try simp only [zS]
    refine rd 1 qTr1 (fun K hK=>?_);go_simp;refine(sTab _ _ _ _ _ _ _ ar cr _ (hC.later (bstep B3 jH)) (hO.later (bstep B3 jH)) hs).mono ?_;rw [show okTab (T (p+1)).s (T (p+1)).n (T (p+1)).C (T (p+1)).r (T (p+1)).m (T (p+1)).R=_ from hv];rintro e w3 ⟨rfl,hb3⟩
    refine hK.out _ _ (bstep jH hb3) (fun jH=>?_);clear hK K;try simp only [zS]
    refine tk 2 qTr2 (fun x jS=>by go_simp<;>rfl) jH ?_
    try simp only [zS]
    refine tk 3 qTr3 (fun x jS=>by go_simp<;>rfl) jH ?_
    try simp only [zS]
    refine tk 4 qTr4 (fun x jS=>by go_simp<;>rfl) jH ?_
    try simp only [zS]
    refine tk 5 qTr5 (fun x jS=>by go_simp<;>rfl) jH ?_
    try simp only [zS]
    refine tk 6 qTr6 (fun x jS=>by go_simp<;>rfl) jH ?_
    try simp only [zS]
    refine tk 7 qTr7 (fun x jS=>by go_simp<;>rfl) jH ?_
    try simp only [zS]
    refine tk 8 qTr8 (fun x jS=>by have k0:=keepB jS y0;have k1:=keepB jS y1;have k2:=keepB jS y2;have k3:=keepB jS x0;have k4:=keepB jS p0;go_simp<;>rfl) jH ?_
    try simp only [zS]
    refine tk 9 qTr9 (fun x jS=>by go_simp<;>rfl) jH ?_
    try simp only [zS]
    refine tk 10 (qTr10) (v:=.int .i64 (p:Int)) (fun x jS=>by go_simp<;>rfl) jH ?_
    try simp only [zS]
    refine tk 11 (qTr11) (v:=.pointer (some ⟨g,p * 3,none⟩)) (fun x jS=>by go_simp<;>rfl) jH ?_
    try simp only [zS]
    refine tk 12 (qTr12) (v:=.pointer (some ⟨g,p * 3,none⟩)) (fun x jS=>by go_simp<;>rfl) jH ?_
    try simp only [zS]
    refine tk 13 qTr13 (fun x jS=>by have k0:=keepB jS y0;have k1:=keepB jS y1;have k2:=keepB jS y2;have k3:=keepB jS x0;have k4:=keepB jS p0;go_simp<;>rfl) jH ?_
    try simp only [zS]
    refine tk 14 qTr14 (fun x jS=>by go_simp<;>rfl) jH ?_
    try simp only [zS]
    refine tk 15 qTr15 (fun x jS=>by have k0:=keepB jS y0;have k1:=keepB jS y1;have k2:=keepB jS y2;have k3:=keepB jS x0;have k4:=keepB jS p0;go_simp<;>rfl) jH ?_
    try simp only [zS]
    refine tk 16 qTr16 (fun x jS=>by go_simp<;>rfl) jH ?_
    try simp only [zS]
    refine tk 17 qTr17 (fun x jS=>by go_simp<;>rfl) jH ?_
    try simp only [zS]
    refine tk 18 qTr18 (fun x jS=>by go_simp<;>rfl) jH ?_
    try simp only [zS]
    refine wpAnyH_done (by kernel_rfl) ?_ _;go_wp2;go_ret
    exact⟨retB (okDb_no hlt (Or.inr (by unfold ltD;rw [Nat.add_sub_cancel,h7];simp))).symm,bstep B2 (bstep B3 jH)⟩
   ·
    go_wp2;refine wp_region_held_drew (S:=fun x=>Below (wr.alloc (.cells #[.string (T (p+1)).s,.slice (some ⟨g1,0,none⟩) (T (p+1)).n (T (p+1)).n,.slice ar (T (p+1)).r cr] 62)).heap.size (wr.alloc (.cells #[.string (T (p+1)).s,.slice (some ⟨g1,0,none⟩) (T (p+1)).n (T (p+1)).n,.slice ar (T (p+1)).r cr] 62)) x) (by kernel_rfl) (bdrew _) (fun jH=>?_);refine tk 0 qTr0 (fun x jS=>by have k0:=keepB jS y0;have k1:=keepB jS y1;have k2:=keepB jS y2;have k3:=keepB jS x0;have k4:=keepB jS p0;go_simp<;>rfl) jH ?_
    try simp only [zS]
    refine rd 1 qTr1 (fun K hK=>?_);go_simp;refine(sTab _ _ _ _ _ _ _ ar cr _ (hC.later (bstep B3 jH)) (hO.later (bstep B3 jH)) hs).mono ?_;rw [show okTab (T (p+1)).s (T (p+1)).n (T (p+1)).C (T (p+1)).r (T (p+1)).m (T (p+1)).R=_ from hv];rintro e w3 ⟨rfl,hb3⟩
    refine hK.out _ _ (bstep jH hb3) (fun jH=>?_);clear hK K;try simp only [zS]
    refine tk 2 qTr2 (fun x jS=>by go_simp<;>rfl) jH ?_
    try simp only [zS]
    refine tk 3 qTr3 (fun x jS=>by go_simp<;>rfl) jH ?_
    try simp only [zS]
    refine tk 4 qTr4 (fun x jS=>by go_simp<;>rfl) jH ?_
    try simp only [zS]
    refine tk 5 qTr5 (fun x jS=>by go_simp<;>rfl) jH ?_
    try simp only [zS]
    refine tk 6 qTr6 (fun x jS=>by go_simp<;>rfl) jH ?_
    try simp only [zS]
    refine tk 7 qTr7 (fun x jS=>by go_simp<;>rfl) jH ?_
    try simp only [zS]
    refine tk 8 qTr8 (fun x jS=>by have k0:=keepB jS y0;have k1:=keepB jS y1;have k2:=keepB jS y2;have k3:=keepB jS x0;have k4:=keepB jS p0;go_simp<;>rfl) jH ?_
    try simp only [zS]
    refine tk 9 qTr9 (fun x jS=>by go_simp<;>rfl) jH ?_
    try simp only [zS]
    refine tk 10 (qTr10) (v:=.int .i64 (p:Int)) (fun x jS=>by go_simp<;>rfl) jH ?_
    try simp only [zS]
    refine tk 11 (qTr11) (v:=.pointer (some ⟨g,p * 3,none⟩)) (fun x jS=>by go_simp<;>rfl) jH ?_
    try simp only [zS]
    refine tk 12 (qTr12) (v:=.pointer (some ⟨g,p * 3,none⟩)) (fun x jS=>by go_simp<;>rfl) jH ?_
    try simp only [zS]
    refine tk 13 qTr13 (fun x jS=>by have k0:=keepB jS y0;have k1:=keepB jS y1;have k2:=keepB jS y2;have k3:=keepB jS x0;have k4:=keepB jS p0;go_simp<;>rfl) jH ?_
    try simp only [zS]
    refine tk 14 qTr14 (fun x jS=>by go_simp<;>rfl) jH ?_
    try simp only [zS]
    refine tk 15 qTr15 (fun x jS=>by have k0:=keepB jS y0;have k1:=keepB jS y1;have k2:=keepB jS y2;have k3:=keepB jS x0;have k4:=keepB jS p0;go_simp<;>rfl) jH ?_
    try simp only [zS]
    refine tk 16 qTr16 (fun x jS=>by go_simp<;>rfl) jH ?_
    try simp only [zS]
    refine tk 17 qTr17 (fun x jS=>by go_simp<;>rfl) jH ?_
    try simp only [zS]
    refine tk 18 qTr18 (fun x jS=>by go_simp<;>rfl) jH ?_
    try simp only [zS]
    refine wpAnyH_done (by kernel_rfl) ?_ _;go_wp2;go_roundw
    case rel=>exact⟨p+1+1,by omega,by go_num,fun j hj=>by
     by_cases e:j=p+1
     · subst e;exact⟨hv,by unfold ltD;rw [Nat.add_sub_cancel,h7];simp⟩
     · exact hall j (by omega),bstep hb (bstep B3 jH)⟩
    case measure=>simp [intOf];omega
  ·
   obtain rfl:k=n:=by omega
   go_wp2;go_ret
   exact⟨retB (by unfold okDb;rw [allT_yes (by omega) fun j hj=>(hall j hj).1,allN_true fun j hj=>(hall j hj).2];rfl),B2⟩
end Go.Proofs.YtgeiamgeclbiaaaGreatDoor
