import Derived.Test.YtgeiamgeclbiaaaGreatDoorTj
import Derived.Deep.RegionHeld3
import Derived.Maps.OwnSet
namespace Go.Proofs.YtgeiamgeclbiaaaGreatDoor
open Go.RowKit Go.Maps Go.WideMaps
set_option maxRecDepth 20000
set_option maxHeartbeats 4000000
abbrev qTk0:Oper:=⟨some 12,.move (.tmp 1),123,"l5_replay.go:108",#[],none⟩
abbrev qTk1:Oper:=⟨some 13,.move (.tmp 0),36,"l5_replay.go:108",#[],none⟩
abbrev qTk2:Oper:=⟨some 14,.move (.tmp 5),3,"l5_replay.go:108",#[],none⟩
abbrev qTk3:Oper:=⟨some 15,.binOp .sub 3 (.tmp 14) (.const (.int .i64 1)) 3,3,"l5_replay.go:108",#[⟨2,.data⟩],none⟩
abbrev qTk4:Oper:=⟨some 16,.indexAddr 36 (.tmp 13) (.tmp 15),0,"l5_replay.go:108",#[⟨1,.data⟩,⟨3,.data⟩],none⟩
abbrev qTk5:Oper:=⟨some 17,.load 62 (.tmp 16),62,"l5_replay.go:108",#[⟨4,.data⟩],none⟩
abbrev qTk6:Oper:=⟨some 19,.move (.tmp 1),123,"l5_replay.go:108",#[],none⟩
abbrev qTk7:Oper:=⟨some 20,.move (.tmp 0),36,"l5_replay.go:108",#[],none⟩
abbrev qTk8:Oper:=⟨some 21,.move (.tmp 5),3,"l5_replay.go:108",#[],none⟩
abbrev qTk9:Oper:=⟨some 22,.indexAddr 36 (.tmp 20) (.tmp 21),0,"l5_replay.go:108",#[⟨8,.data⟩,⟨9,.data⟩],none⟩
abbrev qTk10:Oper:=⟨some 23,.load 62 (.tmp 22),62,"l5_replay.go:108",#[⟨10,.data⟩],none⟩
abbrev qTk11:Oper:=⟨some 18,.call ⟨.value (.tmp 12),#[.tmp 17],#[62]⟩,9,"l5_replay.go:108",#[⟨0,.data⟩,⟨5,.data⟩],none⟩
abbrev qTk12:Oper:=⟨some 24,.call ⟨.value (.tmp 19),#[.tmp 23],#[62]⟩,9,"l5_replay.go:108",#[⟨7,.data⟩,⟨11,.data⟩,⟨6,.chain⟩],none⟩
abbrev qTk13:Oper:=⟨some 25,.call ⟨.value (.func 122),#[.tmp 18,.tmp 24],#[9,9]⟩,4,"l5_replay.go:108",#[⟨6,.data⟩,⟨12,.data⟩,⟨12,.chain⟩],none⟩
abbrev qTk14:Oper:=⟨some 26,.unOp .not 4 (.tmp 25),4,"l5_replay.go:108",#[⟨13,.data⟩],none⟩
abbrev qTk15:Oper:=⟨some 12,.move (.tmp 1),136,"l5_replay.go:108",#[],none⟩
abbrev qTk16:Oper:=⟨some 13,.move (.tmp 0),33,"l5_replay.go:108",#[],none⟩
abbrev qTk17:Oper:=⟨some 16,.indexAddr 33 (.tmp 13) (.tmp 15),0,"l5_replay.go:108",#[⟨1,.data⟩,⟨3,.data⟩],none⟩
abbrev qTk18:Oper:=⟨some 17,.load 41 (.tmp 16),41,"l5_replay.go:108",#[⟨4,.data⟩],none⟩
abbrev qTk19:Oper:=⟨some 19,.move (.tmp 1),136,"l5_replay.go:108",#[],none⟩
abbrev qTk20:Oper:=⟨some 20,.move (.tmp 0),33,"l5_replay.go:108",#[],none⟩
abbrev qTk21:Oper:=⟨some 22,.indexAddr 33 (.tmp 20) (.tmp 21),0,"l5_replay.go:108",#[⟨8,.data⟩,⟨9,.data⟩],none⟩
abbrev qTk22:Oper:=⟨some 23,.load 41 (.tmp 22),41,"l5_replay.go:108",#[⟨10,.data⟩],none⟩
abbrev qTk23:Oper:=⟨some 18,.call ⟨.value (.tmp 12),#[.tmp 17],#[41]⟩,3,"l5_replay.go:108",#[⟨0,.data⟩,⟨5,.data⟩],none⟩
abbrev qTk24:Oper:=⟨some 24,.call ⟨.value (.tmp 19),#[.tmp 23],#[41]⟩,3,"l5_replay.go:108",#[⟨7,.data⟩,⟨11,.data⟩,⟨6,.chain⟩],none⟩
abbrev qTk25:Oper:=⟨some 25,.call ⟨.value (.func 152),#[.tmp 18,.tmp 24],#[3,3]⟩,4,"l5_replay.go:108",#[⟨6,.data⟩,⟨12,.data⟩,⟨12,.chain⟩],none⟩
abbrev qTk26:Oper:=⟨some 12,.move (.tmp 1),162,"l5_replay.go:108",#[],none⟩
abbrev qTk27:Oper:=⟨some 19,.move (.tmp 1),162,"l5_replay.go:108",#[],none⟩
abbrev qTk28:Oper:=⟨some 18,.call ⟨.value (.tmp 12),#[.tmp 17],#[41]⟩,9,"l5_replay.go:108",#[⟨0,.data⟩,⟨5,.data⟩],none⟩
abbrev qTk29:Oper:=⟨some 24,.call ⟨.value (.tmp 19),#[.tmp 23],#[41]⟩,9,"l5_replay.go:108",#[⟨7,.data⟩,⟨11,.data⟩,⟨6,.chain⟩],none⟩
theorem bdrew(w:World):Below w.heap.size w w.drew:=undrew (Below.refl _ _)
def ltD(T:Nat->Td)(k:Nat):Bool:=decide (k=0) || Op.bytesLess (T (k - 1)).s.toList (T k).s.toList
def ltR(R:Nat->Nat->Itm)(k:Nat):Bool:=decide (k=0) || decide ((R (k - 1) 0).m<(R k 0).m)
def ltT(R:Nat->Nat->Itm)(k:Nat):Bool:=decide (k=0) || Op.bytesLess (R (k - 1) 0).s.toList (R k 0).s.toList
theorem iSortD(a:Option Addr)(n c:Nat)(T:Nat->Td)(w:World)(h:TL w a n T)(hn:n<=1048576):Calls Tryz.prog 76 #[.slice a n c,.func (.func 77) #[] #[]] w fun e w'=>e=.returned (.bool (allN n (ltD T)))/\Below w.heap.size w w':=by
 have hb0:=Below.refl w.heap.size w;go_enter Tryz.func76,Tryz.ntmps76
 go_wp2;go_loopw [5] (fun i wr=>∃ p:Nat,(p=0∨p<n)/\i=.int .i64 (p+1:Nat)/\(∀ j,j<p+1->ltD T j=true)/\Below w.heap.size w wr) (fun i _=>n - (intOf i).toNat)
 case atStart=>exact⟨0,Or.inl rfl,rfl,fun j hj=>by
  obtain rfl:j=0:=by omega
  rfl,hb0⟩
 case round=>
  obtain⟨p,hk,rfl,hall,hb⟩:=hrel;by_cases hlt:p+1<n
  ·
   obtain⟨b,off,ac,cc,ar,cr,rfl,c0,c1,c2,-,-,-⟩:=h.later hb (p+1) hlt;obtain⟨b',off',ac',cc',ar',cr',e',f0,f1,f2,-,-,-⟩:=h.later hb p (by omega);obtain⟨rfl,rfl⟩:b=b'/\off=off':=by simpa using e'
   have i0:(0:Int)<=(p:Int):=by omega
   have i1:(p:Int)<(n:Int):=by omega
   have i3:(0:Int)<=(p:Int)+1:=by omega
   have i4:(p:Int)+1<(n:Int):=by omega
   have i2:IntKind.i64.wrap (p:Int)=(p:Int):=by rw [IntKind.wrap_i64];omega
   rcases h7:Op.bytesLess (T p).s.toList (T (p+1)).s.toList
   ·
    go_wp2;refine wp_region_held_drew (S:=fun x=>Below wr.heap.size wr x) (by kernel_rfl) (bdrew _) (fun jH=>?_);refine tk 0 qTk0 (fun x jS=>by go_simp<;>rfl) jH ?_
    try simp only [zS]
    refine tk 1 qTk1 (fun x jS=>by go_simp<;>rfl) jH ?_
    try simp only [zS]
    refine tk 2 qTk2 (fun x jS=>by go_simp<;>rfl) jH ?_
    try simp only [zS]
    refine tk 3 (qTk3) (v:=.int .i64 (p:Int)) (fun x jS=>by go_simp<;>rfl) jH ?_
    try simp only [zS]
    refine tk 4 (qTk4) (v:=.pointer (some ⟨b,off+p * 3,none⟩)) (fun x jS=>by go_simp<;>rfl) jH ?_
    try simp only [zS]
    refine tk 5 qTk5 (fun x jS=>by have k0:=keepB jS c0;have k1:=keepB jS c1;have k2:=keepB jS c2;have k3:=keepB jS f0;have k4:=keepB jS f1;have k5:=keepB jS f2;go_simp<;>rfl) jH ?_
    try simp only [zS]
    refine tk 7 qTk6 (fun x jS=>by go_simp<;>rfl) jH ?_
    try simp only [zS]
    refine tk 8 qTk7 (fun x jS=>by go_simp<;>rfl) jH ?_
    try simp only [zS]
    refine tk 9 qTk8 (fun x jS=>by go_simp<;>rfl) jH ?_
    try simp only [zS]
    refine tk 10 qTk9 (fun x jS=>by go_simp<;>rfl) jH ?_
    try simp only [zS]
    refine tk 11 qTk10 (fun x jS=>by have k0:=keepB jS c0;have k1:=keepB jS c1;have k2:=keepB jS c2;have k3:=keepB jS f0;have k4:=keepB jS f1;have k5:=keepB jS f2;go_simp<;>rfl) jH ?_
    try simp only [zS]
    refine rd 6 qTk11 (fun K hK=>?_);go_simp;refine(iTabName (T p).s _ _ _).mono ?_;rintro e w1 ⟨rfl,hb1⟩;refine hK.out _ _ (bstep jH hb1) (fun jH=>?_);clear hK K;try simp only [zS]
    refine rd 12 qTk12 (fun K hK=>?_);go_simp;refine(iTabName (T (p+1)).s _ _ _).mono ?_;rintro e w2 ⟨rfl,hb2⟩;refine hK.out _ _ (bstep jH hb2) (fun jH=>?_);clear hK K;try simp only [zS]
    refine rd 13 qTk13 (fun K hK=>?_);go_simp;refine(cmpLess (T p).s (T (p+1)).s _).mono ?_;rw [h7];rintro e w3 ⟨rfl,rfl⟩;refine hK.out _ _ (jH) (fun jH=>?_);clear hK K;try simp only [zS]
    refine tk 14 qTk14 (fun x jS=>by go_simp<;>rfl) jH ?_
    try simp only [zS]
    refine wpAnyH_done (by kernel_rfl) ?_ _;go_wp2;go_ret
    exact⟨retB (allN_false (p:=ltD T) hlt (by unfold ltD;rw [Nat.add_sub_cancel,h7];simp)).symm,bstep hb jH⟩
   ·
    go_wp2;refine wp_region_held_drew (S:=fun x=>Below wr.heap.size wr x) (by kernel_rfl) (bdrew _) (fun jH=>?_);refine tk 0 qTk0 (fun x jS=>by go_simp<;>rfl) jH ?_
    try simp only [zS]
    refine tk 1 qTk1 (fun x jS=>by go_simp<;>rfl) jH ?_
    try simp only [zS]
    refine tk 2 qTk2 (fun x jS=>by go_simp<;>rfl) jH ?_
    try simp only [zS]
    refine tk 3 (qTk3) (v:=.int .i64 (p:Int)) (fun x jS=>by go_simp<;>rfl) jH ?_
    try simp only [zS]
    refine tk 4 (qTk4) (v:=.pointer (some ⟨b,off+p * 3,none⟩)) (fun x jS=>by go_simp<;>rfl) jH ?_
    try simp only [zS]
    refine tk 5 qTk5 (fun x jS=>by have k0:=keepB jS c0;have k1:=keepB jS c1;have k2:=keepB jS c2;have k3:=keepB jS f0;have k4:=keepB jS f1;have k5:=keepB jS f2;go_simp<;>rfl) jH ?_
    try simp only [zS]
    refine tk 7 qTk6 (fun x jS=>by go_simp<;>rfl) jH ?_
    try simp only [zS]
    refine tk 8 qTk7 (fun x jS=>by go_simp<;>rfl) jH ?_
    try simp only [zS]
    refine tk 9 qTk8 (fun x jS=>by go_simp<;>rfl) jH ?_
    try simp only [zS]
    refine tk 10 qTk9 (fun x jS=>by go_simp<;>rfl) jH ?_
    try simp only [zS]
    refine tk 11 qTk10 (fun x jS=>by have k0:=keepB jS c0;have k1:=keepB jS c1;have k2:=keepB jS c2;have k3:=keepB jS f0;have k4:=keepB jS f1;have k5:=keepB jS f2;go_simp<;>rfl) jH ?_
    try simp only [zS]
    refine rd 6 qTk11 (fun K hK=>?_);go_simp;refine(iTabName (T p).s _ _ _).mono ?_;rintro e w1 ⟨rfl,hb1⟩;refine hK.out _ _ (bstep jH hb1) (fun jH=>?_);clear hK K;try simp only [zS]
    refine rd 12 qTk12 (fun K hK=>?_);go_simp;refine(iTabName (T (p+1)).s _ _ _).mono ?_;rintro e w2 ⟨rfl,hb2⟩;refine hK.out _ _ (bstep jH hb2) (fun jH=>?_);clear hK K;try simp only [zS]
    refine rd 13 qTk13 (fun K hK=>?_);go_simp;refine(cmpLess (T p).s (T (p+1)).s _).mono ?_;rw [h7];rintro e w3 ⟨rfl,rfl⟩;refine hK.out _ _ (jH) (fun jH=>?_);clear hK K;try simp only [zS]
    refine tk 14 qTk14 (fun x jS=>by go_simp<;>rfl) jH ?_
    try simp only [zS]
    refine wpAnyH_done (by kernel_rfl) ?_ _;go_wp2;go_roundw
    case rel=>exact⟨p+1,Or.inr hlt,by go_num,fun j hj=>by
     by_cases e:j=p+1
     · subst e;unfold ltD;rw [Nat.add_sub_cancel,h7];simp
     · exact hall j (by omega),bstep hb jH⟩
    case measure=>simp [intOf];omega
  ·
   go_wp2;go_ret
   exact⟨retB (allN_true fun j hj=>hall j (by omega)).symm,hb⟩
theorem iSortN(a:Option Addr)(n c:Nat)(m:Nat->Nat)(R:Nat->Nat->Itm)(w:World)(h:OL w a n m R)(h0:∀ k,k<n->0<m k)(hn:n<=1048576):Calls Tryz.prog 118 #[.slice a n c,.func (.func 119) #[] #[]] w fun e w'=>e=.returned (.bool (allN n (ltR R)))/\Below w.heap.size w w':=by
 have hb0:=Below.refl w.heap.size w;go_enter Tryz.func118,Tryz.ntmps118
 go_wp2;go_loopw [5] (fun i wr=>∃ p:Nat,(p=0∨p<n)/\i=.int .i64 (p+1:Nat)/\(∀ j,j<p+1->ltR R j=true)/\Below w.heap.size w wr) (fun i _=>n - (intOf i).toNat)
 case atStart=>exact⟨0,Or.inl rfl,rfl,fun j hj=>by
  obtain rfl:j=0:=by omega
  rfl,hb0⟩
 case round=>
  obtain⟨p,hk,rfl,hall,hb⟩:=hrel;by_cases hlt:p+1<n
  ·
   obtain⟨b,off,i1,c1,rfl,c0,g1,l1⟩:=h.later hb (p+1) hlt;obtain⟨b',off',i2,c2,e',f0,g2,l2⟩:=h.later hb p (by omega);have q1:=h0 (p+1) hlt;have q2:=h0 p (by omega);obtain⟨rfl,rfl⟩:b=b'/\off=off':=by simpa using e'
   have i0:(0:Int)<=(p:Int):=by omega
   have i1:(p:Int)<(n:Int):=by omega
   have i3:(0:Int)<=(p:Int)+1:=by omega
   have i4:(p:Int)+1<(n:Int):=by omega
   have i2:IntKind.i64.wrap (p:Int)=(p:Int):=by rw [IntKind.wrap_i64];omega
   rcases h7:decide ((R p 0).m<(R (p+1) 0).m)
   ·
    go_wp2;refine wp_region_held_drew (S:=fun x=>Below wr.heap.size wr x) (by kernel_rfl) (bdrew _) (fun jH=>?_);refine tk 0 qTk15 (fun x jS=>by go_simp<;>rfl) jH ?_
    try simp only [zS]
    refine tk 1 qTk16 (fun x jS=>by go_simp<;>rfl) jH ?_
    try simp only [zS]
    refine tk 2 qTk2 (fun x jS=>by go_simp<;>rfl) jH ?_
    try simp only [zS]
    refine tk 3 (qTk3) (v:=.int .i64 (p:Int)) (fun x jS=>by go_simp<;>rfl) jH ?_
    try simp only [zS]
    refine tk 4 (qTk17) (v:=.pointer (some ⟨b,off+p,none⟩)) (fun x jS=>by go_simp<;>rfl) jH ?_
    try simp only [zS]
    refine tk 5 qTk18 (fun x jS=>by have k0:=keepB jS c0;have k1:=keepB jS f0;go_simp<;>rfl) jH ?_
    try simp only [zS]
    refine tk 7 qTk19 (fun x jS=>by go_simp<;>rfl) jH ?_
    try simp only [zS]
    refine tk 8 qTk20 (fun x jS=>by go_simp<;>rfl) jH ?_
    try simp only [zS]
    refine tk 9 qTk8 (fun x jS=>by go_simp<;>rfl) jH ?_
    try simp only [zS]
    refine tk 10 qTk21 (fun x jS=>by go_simp<;>rfl) jH ?_
    try simp only [zS]
    refine tk 11 qTk22 (fun x jS=>by have k0:=keepB jS c0;have k1:=keepB jS f0;go_simp<;>rfl) jH ?_
    try simp only [zS]
    refine rd 6 qTk23 (fun K hK=>?_);go_simp;refine(iNumKey _ _ _ (R p) _ (g2.later jH) q2).mono ?_;rintro e w1 ⟨rfl,rfl⟩;refine hK.out _ _ (jH) (fun jH=>?_);clear hK K;try simp only [zS]
    refine rd 12 qTk24 (fun K hK=>?_);go_simp;refine(iNumKey _ _ _ (R (p+1)) _ (g1.later jH) q1).mono ?_;rintro e w2 ⟨rfl,rfl⟩;refine hK.out _ _ (jH) (fun jH=>?_);clear hK K;try simp only [zS]
    refine rd 13 qTk25 (fun K hK=>?_);go_simp;refine(cmpLessI (R p 0).m (R (p+1) 0).m _).mono ?_;rw [h7];rintro e w3 ⟨rfl,rfl⟩;refine hK.out _ _ (jH) (fun jH=>?_);clear hK K;try simp only [zS]
    refine tk 14 qTk14 (fun x jS=>by go_simp<;>rfl) jH ?_
    try simp only [zS]
    refine wpAnyH_done (by kernel_rfl) ?_ _;go_wp2;go_ret
    exact⟨retB (allN_false (p:=ltR R) hlt (by unfold ltR;rw [Nat.add_sub_cancel,h7];simp)).symm,bstep hb jH⟩
   ·
    go_wp2;refine wp_region_held_drew (S:=fun x=>Below wr.heap.size wr x) (by kernel_rfl) (bdrew _) (fun jH=>?_);refine tk 0 qTk15 (fun x jS=>by go_simp<;>rfl) jH ?_
    try simp only [zS]
    refine tk 1 qTk16 (fun x jS=>by go_simp<;>rfl) jH ?_
    try simp only [zS]
    refine tk 2 qTk2 (fun x jS=>by go_simp<;>rfl) jH ?_
    try simp only [zS]
    refine tk 3 (qTk3) (v:=.int .i64 (p:Int)) (fun x jS=>by go_simp<;>rfl) jH ?_
    try simp only [zS]
    refine tk 4 (qTk17) (v:=.pointer (some ⟨b,off+p,none⟩)) (fun x jS=>by go_simp<;>rfl) jH ?_
    try simp only [zS]
    refine tk 5 qTk18 (fun x jS=>by have k0:=keepB jS c0;have k1:=keepB jS f0;go_simp<;>rfl) jH ?_
    try simp only [zS]
    refine tk 7 qTk19 (fun x jS=>by go_simp<;>rfl) jH ?_
    try simp only [zS]
    refine tk 8 qTk20 (fun x jS=>by go_simp<;>rfl) jH ?_
    try simp only [zS]
    refine tk 9 qTk8 (fun x jS=>by go_simp<;>rfl) jH ?_
    try simp only [zS]
    refine tk 10 qTk21 (fun x jS=>by go_simp<;>rfl) jH ?_
    try simp only [zS]
    refine tk 11 qTk22 (fun x jS=>by have k0:=keepB jS c0;have k1:=keepB jS f0;go_simp<;>rfl) jH ?_
    try simp only [zS]
    refine rd 6 qTk23 (fun K hK=>?_);go_simp;refine(iNumKey _ _ _ (R p) _ (g2.later jH) q2).mono ?_;rintro e w1 ⟨rfl,rfl⟩;refine hK.out _ _ (jH) (fun jH=>?_);clear hK K;try simp only [zS]
    refine rd 12 qTk24 (fun K hK=>?_);go_simp;refine(iNumKey _ _ _ (R (p+1)) _ (g1.later jH) q1).mono ?_;rintro e w2 ⟨rfl,rfl⟩;refine hK.out _ _ (jH) (fun jH=>?_);clear hK K;try simp only [zS]
    refine rd 13 qTk25 (fun K hK=>?_);go_simp;refine(cmpLessI (R p 0).m (R (p+1) 0).m _).mono ?_;rw [h7];rintro e w3 ⟨rfl,rfl⟩;refine hK.out _ _ (jH) (fun jH=>?_);clear hK K;try simp only [zS]
    refine tk 14 qTk14 (fun x jS=>by go_simp<;>rfl) jH ?_
    try simp only [zS]
    refine wpAnyH_done (by kernel_rfl) ?_ _;go_wp2;go_roundw
    case rel=>exact⟨p+1,Or.inr hlt,by go_num,fun j hj=>by
     by_cases e:j=p+1
     · subst e;unfold ltR;rw [Nat.add_sub_cancel,h7];simp
     · exact hall j (by omega),bstep hb jH⟩
    case measure=>simp [intOf];omega
  ·
   go_wp2;go_ret
   exact⟨retB (allN_true fun j hj=>hall j (by omega)).symm,hb⟩
theorem iSortT(a:Option Addr)(n c:Nat)(m:Nat->Nat)(R:Nat->Nat->Itm)(w:World)(h:OL w a n m R)(h0:∀ k,k<n->0<m k)(hn:n<=1048576):Calls Tryz.prog 120 #[.slice a n c,.func (.func 121) #[] #[]] w fun e w'=>e=.returned (.bool (allN n (ltT R)))/\Below w.heap.size w w':=by
 have hb0:=Below.refl w.heap.size w;go_enter Tryz.func120,Tryz.ntmps120
 go_wp2;go_loopw [5] (fun i wr=>∃ p:Nat,(p=0∨p<n)/\i=.int .i64 (p+1:Nat)/\(∀ j,j<p+1->ltT R j=true)/\Below w.heap.size w wr) (fun i _=>n - (intOf i).toNat)
 case atStart=>exact⟨0,Or.inl rfl,rfl,fun j hj=>by
  obtain rfl:j=0:=by omega
  rfl,hb0⟩
 case round=>
  obtain⟨p,hk,rfl,hall,hb⟩:=hrel;by_cases hlt:p+1<n
  ·
   obtain⟨b,off,i1,c1,rfl,c0,g1,l1⟩:=h.later hb (p+1) hlt;obtain⟨b',off',i2,c2,e',f0,g2,l2⟩:=h.later hb p (by omega);have q1:=h0 (p+1) hlt;have q2:=h0 p (by omega);obtain⟨rfl,rfl⟩:b=b'/\off=off':=by simpa using e'
   have i0:(0:Int)<=(p:Int):=by omega
   have i1:(p:Int)<(n:Int):=by omega
   have i3:(0:Int)<=(p:Int)+1:=by omega
   have i4:(p:Int)+1<(n:Int):=by omega
   have i2:IntKind.i64.wrap (p:Int)=(p:Int):=by rw [IntKind.wrap_i64];omega
   rcases h7:Op.bytesLess (R p 0).s.toList (R (p+1) 0).s.toList
   ·
    go_wp2;refine wp_region_held_drew (S:=fun x=>Below wr.heap.size wr x) (by kernel_rfl) (bdrew _) (fun jH=>?_);refine tk 0 qTk26 (fun x jS=>by go_simp<;>rfl) jH ?_
    try simp only [zS]
    refine tk 1 qTk16 (fun x jS=>by go_simp<;>rfl) jH ?_
    try simp only [zS]
    refine tk 2 qTk2 (fun x jS=>by go_simp<;>rfl) jH ?_
    try simp only [zS]
    refine tk 3 (qTk3) (v:=.int .i64 (p:Int)) (fun x jS=>by go_simp<;>rfl) jH ?_
    try simp only [zS]
    refine tk 4 (qTk17) (v:=.pointer (some ⟨b,off+p,none⟩)) (fun x jS=>by go_simp<;>rfl) jH ?_
    try simp only [zS]
    refine tk 5 qTk18 (fun x jS=>by have k0:=keepB jS c0;have k1:=keepB jS f0;go_simp<;>rfl) jH ?_
    try simp only [zS]
    refine tk 7 qTk27 (fun x jS=>by go_simp<;>rfl) jH ?_
    try simp only [zS]
    refine tk 8 qTk20 (fun x jS=>by go_simp<;>rfl) jH ?_
    try simp only [zS]
    refine tk 9 qTk8 (fun x jS=>by go_simp<;>rfl) jH ?_
    try simp only [zS]
    refine tk 10 qTk21 (fun x jS=>by go_simp<;>rfl) jH ?_
    try simp only [zS]
    refine tk 11 qTk22 (fun x jS=>by have k0:=keepB jS c0;have k1:=keepB jS f0;go_simp<;>rfl) jH ?_
    try simp only [zS]
    refine rd 6 qTk28 (fun K hK=>?_);go_simp;refine(iTextKey _ _ _ (R p) _ (g2.later jH) q2).mono ?_;rintro e w1 ⟨rfl,rfl⟩;refine hK.out _ _ (jH) (fun jH=>?_);clear hK K;try simp only [zS]
    refine rd 12 qTk29 (fun K hK=>?_);go_simp;refine(iTextKey _ _ _ (R (p+1)) _ (g1.later jH) q1).mono ?_;rintro e w2 ⟨rfl,rfl⟩;refine hK.out _ _ (jH) (fun jH=>?_);clear hK K;try simp only [zS]
    refine rd 13 qTk13 (fun K hK=>?_);go_simp;refine(cmpLess (R p 0).s (R (p+1) 0).s _).mono ?_;rw [h7];rintro e w3 ⟨rfl,rfl⟩;refine hK.out _ _ (jH) (fun jH=>?_);clear hK K;try simp only [zS]
    refine tk 14 qTk14 (fun x jS=>by go_simp<;>rfl) jH ?_
    try simp only [zS]
    refine wpAnyH_done (by kernel_rfl) ?_ _;go_wp2;go_ret
    exact⟨retB (allN_false (p:=ltT R) hlt (by unfold ltT;rw [Nat.add_sub_cancel,h7];simp)).symm,bstep hb jH⟩
   ·
    go_wp2;refine wp_region_held_drew (S:=fun x=>Below wr.heap.size wr x) (by kernel_rfl) (bdrew _) (fun jH=>?_);refine tk 0 qTk26 (fun x jS=>by go_simp<;>rfl) jH ?_
    try simp only [zS]
    refine tk 1 qTk16 (fun x jS=>by go_simp<;>rfl) jH ?_
    try simp only [zS]
    refine tk 2 qTk2 (fun x jS=>by go_simp<;>rfl) jH ?_
    try simp only [zS]
    refine tk 3 (qTk3) (v:=.int .i64 (p:Int)) (fun x jS=>by go_simp<;>rfl) jH ?_
    try simp only [zS]
    refine tk 4 (qTk17) (v:=.pointer (some ⟨b,off+p,none⟩)) (fun x jS=>by go_simp<;>rfl) jH ?_
    try simp only [zS]
    refine tk 5 qTk18 (fun x jS=>by have k0:=keepB jS c0;have k1:=keepB jS f0;go_simp<;>rfl) jH ?_
    try simp only [zS]
    refine tk 7 qTk27 (fun x jS=>by go_simp<;>rfl) jH ?_
    try simp only [zS]
    refine tk 8 qTk20 (fun x jS=>by go_simp<;>rfl) jH ?_
    try simp only [zS]
    refine tk 9 qTk8 (fun x jS=>by go_simp<;>rfl) jH ?_
    try simp only [zS]
    refine tk 10 qTk21 (fun x jS=>by go_simp<;>rfl) jH ?_
    try simp only [zS]
    refine tk 11 qTk22 (fun x jS=>by have k0:=keepB jS c0;have k1:=keepB jS f0;go_simp<;>rfl) jH ?_
    try simp only [zS]
    refine rd 6 qTk28 (fun K hK=>?_);go_simp;refine(iTextKey _ _ _ (R p) _ (g2.later jH) q2).mono ?_;rintro e w1 ⟨rfl,rfl⟩;refine hK.out _ _ (jH) (fun jH=>?_);clear hK K;try simp only [zS]
    refine rd 12 qTk29 (fun K hK=>?_);go_simp;refine(iTextKey _ _ _ (R (p+1)) _ (g1.later jH) q1).mono ?_;rintro e w2 ⟨rfl,rfl⟩;refine hK.out _ _ (jH) (fun jH=>?_);clear hK K;try simp only [zS]
    refine rd 13 qTk13 (fun K hK=>?_);go_simp;refine(cmpLess (R p 0).s (R (p+1) 0).s _).mono ?_;rw [h7];rintro e w3 ⟨rfl,rfl⟩;refine hK.out _ _ (jH) (fun jH=>?_);clear hK K;try simp only [zS]
    refine tk 14 qTk14 (fun x jS=>by go_simp<;>rfl) jH ?_
    try simp only [zS]
    refine wpAnyH_done (by kernel_rfl) ?_ _;go_wp2;go_roundw
    case rel=>exact⟨p+1,Or.inr hlt,by go_num,fun j hj=>by
     by_cases e:j=p+1
     · subst e;unfold ltT;rw [Nat.add_sub_cancel,h7];simp
     · exact hall j (by omega),bstep hb jH⟩
    case measure=>simp [intOf];omega
  ·
   go_wp2;go_ret
   exact⟨retB (allN_true fun j hj=>hall j (by omega)).symm,hb⟩
set_option maxRecDepth 20000
set_option maxHeartbeats 4000000
theorem run_makeMapH{P:Program}{t k e:TypeId}(ht:P.underlying t=some (.map k e))(q:IntKind)(n:Int)(w:World):(Instr.makeMap t (some (.int q n))).run P w=.ok (.map (some w.heap.size)) (w.alloc (.map #[] 0)):=by
 simp [Instr.makeMap,run_underlying ht,asInt,asIntOf,Result.andThen]
def pl(C:Nat->Clm):Nat->DataW Unit
 | 0=>.map []
 | k+1=>(pl C k).put (litS (C k).s) (.lit (.int .i64 k))
theorem litS_inj{a b:ByteArray}(h:litS a=litS b):a=b:=by
 unfold litS at h;injection h with h;exact bytes_inj2 (by rw [ByteArray.toList_eq,ByteArray.toList_eq];exact h)
theorem pl_tidy(C:Nat->Clm):∀ k,Tidy (pl C k)
 | 0=>tidy_empty
 | k+1=>(pl_tidy C k).put (show WideAt.IsKeyLit (litS (C k).s) from trivial) _
theorem has_pl(C:Nat->Clm)(s:ByteArray):∀ k,Maps.has (pl C k) (litS s)=hasCol C s k
 | 0=>rfl
 | k+1=>by
  show Maps.has ((pl C k).put (litS (C k).s) (.lit (.int .i64 k))) (litS s)=(hasCol C s k || (C k).s.toList == s.toList)
  by_cases e:(C k).s=s
  ·
   rw [e,has_put_same (pl_tidy C k).isMap (show WideAt.IsKeyLit (litS s) from trivial),eqS_same]
   simp
  · rw [has_put_other (fun h=>e (litS_inj h).symm),has_pl C s k,eqS,decide_eq_false e];simp
def difB(C:Nat->Clm)(n:Nat):Bool:=allN n (fun k=>!hasCol C (C k).s k)
theorem size_pl(C:Nat->Clm):∀ k,Maps.size (pl C k)<=k/\(Maps.size (pl C k)=k↔∀ j,j<k->hasCol C (C j).s j=false)
 | 0=>⟨Nat.le_refl _,⟨fun _ j hj=>by omega,fun _=>rfl⟩⟩
 | k+1=>by
  obtain⟨h1,h2⟩:=size_pl C k;have h3:Maps.size (pl C (k+1))=if Maps.has (pl C k) (litS (C k).s) then Maps.size (pl C k) else Maps.size (pl C k)+1:=size_put (pl_tidy C k) _
  rw [has_pl] at h3;rcases hq:hasCol C (C k).s k
  ·
   rw [hq] at h3;simp only [Bool.false_eq_true,if_false] at h3
   refine⟨by omega,⟨fun e j hj=>?_,fun h=>?_⟩⟩
   ·
    by_cases ej:j=k
    · subst ej;exact hq
    · exact h2.1 (by omega) j (by omega)
   · have:=h2.2 fun j hj=>h j (by omega);omega
  ·
   rw [hq] at h3;simp only [if_true] at h3
   refine⟨by omega,⟨fun e=>by omega,fun h=>?_⟩⟩;have:=h k (by omega);rw [hq] at this;cases this
theorem difB_size(C:Nat->Clm)(n:Nat):(((Maps.size (pl C n):Nat):Int) == (n:Int))=difB C n:=by
 obtain⟨-,h⟩:=size_pl C n;rcases hd:difB C n
 ·
  have:¬Maps.size (pl C n)=n:=fun e=>by
   have ht:difB C n=true:=allN_true fun j hj=>by rw [h.1 e j hj];rfl
   rw [hd] at ht;cases ht
  simp;omega
 ·
  have:Maps.size (pl C n)=n:=h.2 fun j hj=>by
   rcases hq:hasCol C (C j).s j
   · rfl
   · have:difB C n=false:=allN_false hj (by rw [hq];rfl);rw [hd] at this;cases this
  rw [this];simp
theorem rowK{w w':World}{q b:Nat}{o:Obj}(h:w.heap[q]?=some o)(hg:w.grownBy w' (some b))(hne:q≠b):w'.heap[q]?=some o:=
 (hg.block q (Array.getElem?_eq_some_iff.1 h).1 (fun e=>hne (by cases e;rfl))).trans h
theorem iScope(a:Option Addr)(n c:Nat)(C:Nat->Clm)(w:World)(h:CL w a n C)(hn:n<=1048576) :
 Calls Tryz.prog 37 #[.slice a n c] w fun e w'=>e=.returned (.agg #[.slice a n c,.map (some (w.heap.size+1))])/\w'.ownsMap Tryz.prog 9 (plainElem (H:=Unit) Tryz.prog 3) (w.heap.size+1) n (pl C n)/\Below w.heap.size w w':=by
 have hmm:=run_makeMapH (P:=Tryz.prog) (t:=77) Tryz.underlying77 .i64 n;have hW:(w.alloc (.cells #[.slice none 0 0,.map none] 79)).heap.size=w.heap.size+1:=by simp
 have hbW:Below w.heap.size w ((w.alloc (.cells #[.slice none 0 0,.map none] 79)).alloc (.map #[] 0)):=bstep (bal _ _) (bal _ _);go_enter Tryz.func37,Tryz.ntmps37
 go_wp2;clear hmm;go_loopw [4,5,11] (fun _ _ i wr=>∃ k:Nat,k<=n/\i=.int .i64 k/\wr.ownsMap Tryz.prog 9 (plainElem (H:=Unit) Tryz.prog 3) (w.heap.size+1) k (pl C k)/\wr.heap[w.heap.size]?=some (.cells #[.slice none 0 0,.map none] 79 (0,0))/\Below w.heap.size w wr) (fun _ _ i _=>n - (intOf i).toNat)
 case atStart=>
  refine⟨0,by omega,rfl,?_,rowL (heap_alloc_new _ _) (bal _ _),hbW⟩;have:=World.ownsMap_made (w.alloc (.cells #[.slice none 0 0,.map none] 79)) Tryz.prog 9 (plainElem (H:=Unit) Tryz.prog 3);rw [hW] at this;exact this
 case round=>
  obtain⟨k,hk,rfl,hown,hrow,hb⟩:=hrel;have HR:Hid (wr.heap[w.heap.size]?=some (.cells #[.slice none 0 0,.map none] 79 (0,0))):=hrow;clear hrow;by_cases hlt:k<n
  ·
   obtain⟨b,off,rfl,d0,d1,hs⟩:=h.later hb k hlt;have hkey:keyOf Tryz.prog 9 (.string (C k).s)=some (litS (C k).s):=keyOf_string_mk Tryz.underlying9 (by unfold maxLen;omega);have hval:plainElem (H:=Unit) Tryz.prog 3 (.int .i64 k)=some (.lit (.int .i64 k),[]):=plainElem_int Tryz.underlying3 (by have q1:IntKind.i64.min=-9223372036854775808:=rfl;have q2:IntKind.i64.max=9223372036854775807:=rfl;simp [Lit.wf];omega);have HV:Hid (plainElem (H:=Unit) Tryz.prog 3 (.int .i64 k)=some (.lit (.int .i64 k),[])):=hval;clear hval;go_wp2_with (first | (at_mapUpdate;refine wpList_mapUpdate_own _ rfl _ _ _ 77 rfl 9 3 lawS Tryz.underlying77 (plainElem (H:=Unit) Tryz.prog 3) (w.heap.size+1) k (pl C k) rfl (hown.alloc _) (by unfold maxLen;omega) _ _ _ rfl rfl hkey (.lit (.int .i64 k)) [] HV.out ?_;intro w1 hown1 hgrow1) | go_in)
   go_roundw
   case rel=>exact⟨k+1,by omega,by go_num,hown1,rowK (rowL HR.out (bal _ _)) hgrow1 (by omega),(bstep hb (bal _ _)).grown hgrow1 (bstep hb (bal _ _)).size (fun j hj=>by injection hj with hj;omega)⟩
   case measure=>simp [intOf];omega
  ·
   obtain rfl:k=n:=by omega
   have m0:wr.cell? ⟨w.heap.size,0,none⟩=some (.slice none 0 0):=(cell_of_row _ _ 0 _ _ _ HR.out).trans rfl;have m1:wr.cell? ⟨w.heap.size,1,none⟩=some (.map none):=(cell_of_row _ _ 1 _ _ _ HR.out).trans rfl;have f0:wr.frozen? ⟨w.heap.size,0,none⟩=false:=frozen_of_row _ _ 0 _ _ HR.out;have f1:wr.frozen? ⟨w.heap.size,1,none⟩=false:=frozen_of_row _ _ 1 _ _ HR.out;go_wp2;have RV:=fun v0 v1=>heap_setCell_same _ _ 1 _ _ v1 (heap_setCell_same _ _ 0 _ _ v0 HR.out);refine bodyPost_ret (v:=.agg #[.slice a k c,.map (some (w.heap.size+1))]) (results_cell_row Tryz.results37 _ _ w.heap.size 79 _ (0,0) _ rfl (RV _ _) Tryz.underlying79 rfl (by kernel_rfl)) rfl ⟨rfl,(hown.setCell (by simp) _).setCell (by simp) _,bset (bset hb (Nat.le_refl _)) (Nat.le_refl _)⟩
theorem iDifferent(a:Option Addr)(n c:Nat)(C:Nat->Clm)(w:World)(h:CL w a n C)(hn:n<=1048576) :
 Calls Tryz.prog 116 #[.slice a n c] w fun e w'=>e=.returned (.bool (difB C n))/\Below w.heap.size w w':=by
 have hD:=difB_size C n;have hfd:∀ v:World,(Instr.field 79 (.agg #[.slice a n c,.map (some (w.heap.size+1))]) 1).run Tryz.prog v=.ok (.map (some (w.heap.size+1))) v:=fun _=>by kernel_rfl
 go_enter Tryz.func116,Tryz.ntmps116
 go_wp2_with (first | (go_at_call 37;refine(iScope _ _ _ _ _ h hn).mono ?_;rintro e w1 ⟨rfl,hown,hb1⟩) | (at_len;refine wpList_len_own _ rfl _ 77 rfl 9 3 Tryz.underlying77 _ (w.heap.size+1) n (pl C n) rfl hown ?_) | go_in)
 go_ret
 exact⟨rfl,hb1⟩
end Go.Proofs.YtgeiamgeclbiaaaGreatDoor
