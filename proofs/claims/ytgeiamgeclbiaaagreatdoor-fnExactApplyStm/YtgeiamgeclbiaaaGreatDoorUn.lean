import Derived.Test.YtgeiamgeclbiaaaGreatDoorUm
namespace Go.Proofs.YtgeiamgeclbiaaaGreatDoor
open Go.RowKit Go.Maps Go.WideMaps
set_option maxRecDepth 20000
set_option maxHeartbeats 16000000
abbrev qUn0:Oper:=⟨some 8,.move (.tmp 6),3,"l5_replay.go:250",#[],none⟩
abbrev qUn1:Oper:=⟨some 9,.move (.tmp 0),33,"l5_replay.go:250",#[],none⟩
abbrev qUn2:Oper:=⟨some 10,.call ⟨.builtin .len,#[.tmp 9],#[33]⟩,3,"l5_replay.go:250",#[⟨1,.data⟩],none⟩
abbrev qUn3:Oper:=⟨some 11,.binOp .lss 3 (.tmp 8) (.tmp 10) 3,4,"l5_replay.go:250",#[⟨0,.data⟩,⟨2,.data⟩],none⟩
abbrev qUn4:Oper:=⟨some 12,.move (.tmp 11),4,"l5_replay.go:250",#[⟨3,.data⟩],none⟩
abbrev qUn5:Oper:=⟨some 13,.move (.tmp 0),33,"l5_replay.go:250",#[⟨4,.guard⟩],some (4,true)⟩
abbrev qUn6:Oper:=⟨some 14,.move (.tmp 6),3,"l5_replay.go:250",#[⟨4,.guard⟩],some (4,true)⟩
abbrev qUn7:Oper:=⟨some 15,.indexAddr 33 (.tmp 13) (.tmp 14),0,"l5_replay.go:250",#[⟨5,.data⟩,⟨6,.data⟩,⟨4,.guard⟩],some (4,true)⟩
abbrev qUn8:Oper:=⟨some 16,.load 41 (.tmp 15),41,"l5_replay.go:250",#[⟨7,.data⟩,⟨4,.guard⟩],some (4,true)⟩
abbrev qUn9:Oper:=⟨some 17,.indexAddr 41 (.tmp 16) (.const (.int .i64 0)),0,"l5_replay.go:250",#[⟨8,.data⟩,⟨4,.guard⟩],some (4,true)⟩
abbrev qUn10:Oper:=⟨some 18,.load 66 (.tmp 17),66,"l5_replay.go:250",#[⟨9,.data⟩,⟨4,.guard⟩],some (4,true)⟩
abbrev qUn11:Oper:=⟨some 19,.move (.tmp 1),41,"l5_replay.go:250",#[⟨4,.guard⟩],some (4,true)⟩
abbrev qUn12:Oper:=⟨some 20,.indexAddr 41 (.tmp 19) (.const (.int .i64 0)),0,"l5_replay.go:250",#[⟨11,.data⟩,⟨4,.guard⟩],some (4,true)⟩
abbrev qUn13:Oper:=⟨some 21,.load 66 (.tmp 20),66,"l5_replay.go:250",#[⟨12,.data⟩,⟨4,.guard⟩],some (4,true)⟩
abbrev qUn14:Oper:=⟨some 22,.call ⟨.value (.func 106),#[.tmp 18,.tmp 21],#[66,66]⟩,3,"l5_replay.go:250",#[⟨10,.data⟩,⟨13,.data⟩,⟨4,.chain⟩,⟨4,.guard⟩],some (4,true)⟩
abbrev qUn15:Oper:=⟨some 23,.binOp .lss 3 (.tmp 22) (.const (.int .i64 0)) 3,4,"l5_replay.go:250",#[⟨14,.data⟩,⟨4,.guard⟩],some (4,true)⟩
abbrev qUn16:Oper:=⟨some 24,.pick (.tmp 12) (.tmp 23) (.const (.bool false)),4,"l5_replay.go:250",#[⟨4,.data⟩,⟨15,.data⟩],none⟩
abbrev qUn17:Oper:=⟨some 27,.move (.tmp 6),3,"l5_replay.go:253",#[],none⟩
abbrev qUn18:Oper:=⟨some 28,.move (.tmp 0),33,"l5_replay.go:253",#[],none⟩
abbrev qUn19:Oper:=⟨some 29,.call ⟨.builtin .len,#[.tmp 28],#[33]⟩,3,"l5_replay.go:253",#[⟨1,.data⟩],none⟩
abbrev qUn20:Oper:=⟨some 30,.binOp .lss 3 (.tmp 27) (.tmp 29) 3,4,"l5_replay.go:253",#[⟨0,.data⟩,⟨2,.data⟩],none⟩
abbrev qUn21:Oper:=⟨some 31,.move (.tmp 30),4,"l5_replay.go:253",#[⟨3,.data⟩],none⟩
abbrev qUn22:Oper:=⟨some 32,.move (.tmp 0),33,"l5_replay.go:253",#[⟨4,.guard⟩],some (4,true)⟩
abbrev qUn23:Oper:=⟨some 33,.move (.tmp 6),3,"l5_replay.go:253",#[⟨4,.guard⟩],some (4,true)⟩
abbrev qUn24:Oper:=⟨some 34,.indexAddr 33 (.tmp 32) (.tmp 33),0,"l5_replay.go:253",#[⟨5,.data⟩,⟨6,.data⟩,⟨4,.guard⟩],some (4,true)⟩
abbrev qUn25:Oper:=⟨some 35,.load 41 (.tmp 34),41,"l5_replay.go:253",#[⟨7,.data⟩,⟨4,.guard⟩],some (4,true)⟩
abbrev qUn26:Oper:=⟨some 36,.indexAddr 41 (.tmp 35) (.const (.int .i64 0)),0,"l5_replay.go:253",#[⟨8,.data⟩,⟨4,.guard⟩],some (4,true)⟩
abbrev qUn27:Oper:=⟨some 37,.load 66 (.tmp 36),66,"l5_replay.go:253",#[⟨9,.data⟩,⟨4,.guard⟩],some (4,true)⟩
abbrev qUn28:Oper:=⟨some 38,.move (.tmp 1),41,"l5_replay.go:253",#[⟨4,.guard⟩],some (4,true)⟩
abbrev qUn29:Oper:=⟨some 39,.indexAddr 41 (.tmp 38) (.const (.int .i64 0)),0,"l5_replay.go:253",#[⟨11,.data⟩,⟨4,.guard⟩],some (4,true)⟩
abbrev qUn30:Oper:=⟨some 40,.load 66 (.tmp 39),66,"l5_replay.go:253",#[⟨12,.data⟩,⟨4,.guard⟩],some (4,true)⟩
abbrev qUn31:Oper:=⟨some 41,.call ⟨.value (.func 106),#[.tmp 37,.tmp 40],#[66,66]⟩,3,"l5_replay.go:253",#[⟨10,.data⟩,⟨13,.data⟩,⟨4,.chain⟩,⟨4,.guard⟩],some (4,true)⟩
abbrev qUn32:Oper:=⟨some 42,.binOp .eql 3 (.tmp 41) (.const (.int .i64 0)) 3,4,"l5_replay.go:253",#[⟨14,.data⟩,⟨4,.guard⟩],some (4,true)⟩
abbrev qUn33:Oper:=⟨some 43,.pick (.tmp 31) (.tmp 42) (.const (.bool false)),4,"l5_replay.go:253",#[⟨4,.data⟩,⟨15,.data⟩],none⟩
theorem newsR{w:World}{b off n:Nat}{q:Nat->List Value}(h1:∀ k,k<n->(q k).length=1)(h3:∀ k,k<n->∀ u,(q k)[0]?=some u->w.cell? ⟨b,off+k,none⟩=some u):∀ j u,(flt q n)[j]?=some u->w.cell? ((⟨b,off,none⟩:Addr).add j)=some u:=by
 refine flt_all (sz:=1) (by omega) h1 (P:=fun j u=>w.cell? ((⟨b,off,none⟩:Addr).add j)=some u) (fun i hi j u hu=>?_);have hj:j=0:=by
  obtain⟨hl,-⟩:=List.getElem?_eq_some_iff.1 hu;rw [h1 i hi] at hl;omega
 subst hj;rw [Nat.mul_one,Nat.add_zero,←addr_add];exact h3 i hi u hu
theorem putL_lo{dm:Nat->Nat}{dR:Nat->Nat->Itm}{x:Rw}{k i:Nat}(h:i<k):putL dm dR x k i=(dm i,dR i):=if_pos h
theorem putL_at{dm:Nat->Nat}{dR:Nat->Nat->Itm}{x:Rw}{k:Nat}:putL dm dR x k k=x:=by simp [putL]
theorem putL_hi{dm:Nat->Nat}{dR:Nat->Nat->Itm}{x:Rw}{k i:Nat}:putL dm dR x k (k+1+i)=(dm (k+i),dR (k+i)):=by
 unfold putL;rw [if_neg (by omega),if_neg (by omega),show k+1+i - 1=k+i from by omega]
def PutA(bR offR dr cr:Nat)(dm:Nat->Nat)(dR:Nat->Nat->Itm)(n3:Nat)(V:Nat->Itm)(w0 w:World)(p:Nat)(e:Ending)(w':World):Prop:=
 Below w.heap.size w w'/\((p<dr/\cmpV (dR p 0).m (dR p 0).s (V 0).m (V 0).s=0/\e=.returned (.tuple #[.slice (some ⟨bR,offR,none⟩) dr cr,.bool false]))∨(¬(p<dr/\cmpV (dR p 0).m (dR p 0).s (V 0).m (V 0).s=0)/\∃ g cap f,e=.returned (.tuple #[.slice (some ⟨g,0,none⟩) (dr+1) cap,.bool true])/\RO w.heap.size (fun b=>b<w0.heap.size) w' (.slice (some ⟨g,0,none⟩) (dr+1) cap) (dr+1) (putL dm dR (n3,V) p) f))
theorem sPut(bR offR dr cr:Nat)(dm:Nat->Nat)(dR:Nat->Nat->Itm)(a3:Option Addr)(n3 c3:Nat)(V:Nat->Itm)(w0 w:World)(hR:OL w0 (some ⟨bR,offR,none⟩) dr dm dR)(hV:IL w0 a3 n3 V)(hb0:Below w0.heap.size w0 w)(h3:0<n3)(h3m:n3<=1048576)(hN:∀ k,k<dr->0<dm k)(hr:dr<=1000000)(hcr:dr<=cr)(p:Nat)(hp:putN dR (V 0).m (V 0).s dr=p) :
 Calls Tryz.prog 104 #[.slice (some ⟨bR,offR,none⟩) dr cr,.slice a3 n3 c3] w (PutA bR offR dr cr dm dR n3 V w0 w p):=by
 obtain⟨jr,hir,hzr0,hzr1,hzr2⟩:=info_parts Tryz.infoRow;have HIr:Hid (Tryz.prog.info? 41=some jr):=hir;clear hir;have HP:Hid (putN dR (V 0).m (V 0).s dr=p):=hp;have hpl:p<=dr:=by rw [←hp];exact putN_le
 clear hp;have HNZ:Hid (∀ k,k<dr->0<dm k):=hN;clear hN;obtain⟨b3,off3,rfl,v0,v1,v2,-⟩:=hV 0 h3;rw [Nat.zero_mul,Nat.add_zero] at v0 v1 v2;obtain⟨vo,vm,vs,hV0⟩:∃ vo vm vs,V 0=⟨vo,vm,vs⟩:=⟨_,_,_,rfl⟩;rw [hV0] at v0 v1 v2 HP;simp only at v0 v1 v2 HP
 have HV0:Hid (V 0=⟨vo,vm,vs⟩):=hV0;clear hV0;have h3i:(0:Int)<n3:=by omega
 have hBb:=hb0.size;go_enter Tryz.func104,Tryz.ntmps104
 go_wp2;go_loopw [6] (fun v wr=>∃ k:Nat,k<=dr/\v=.int .i64 k/\putN dR vm vs k=k/\Below w.heap.size w wr) (fun v _=>dr - (intOf v).toNat)
 case atStart=>exact⟨0,Nat.zero_le _,rfl,rfl,Below.refl _ _⟩
 case round=>
  obtain⟨k,hk,rfl,hpk,hb⟩:=hrel;have HPK:Hid (putN dR vm vs k=k):=hpk;clear hpk;have hb00:=bstep hb0 hb;have x0:=keepB hb00 v0;have x1:=keepB hb00 v1;have x2:=keepB hb00 v2;have hk0:(0:Int)<=k:=by omega
  by_cases hlt:k<dr
  ·
   obtain⟨b4,off4,ai,ci,e4,d0,hI,-⟩:=hR.later hb00 k hlt;obtain⟨rfl,rfl⟩:bR=b4/\offR=off4:=by simpa using e4
   clear e4;obtain⟨bq,offq,rfl,y0,y1,y2,-⟩:=hI 0 (HNZ.out k hlt);rw [Nat.zero_mul,Nat.add_zero] at y0 y1 y2;have hmk:(0:Int)<dm k:=by have:=HNZ.out k hlt;omega
   have hmk0:0<dm k:=HNZ.out k hlt;have hkd:(k:Int)<dr:=by omega
   obtain⟨ko,km,ks,hK0⟩:∃ vo vm vs,dR k 0=⟨vo,vm,vs⟩:=⟨_,_,_,rfl⟩;rw [hK0] at y0 y1 y2;simp only at y0 y1 y2
   obtain⟨cz,hcz⟩:∃ cz,cmpV km ks vm vs=cz:=⟨_,rfl⟩;have HCZ:Hid (cmpV (dR k 0).m (dR k 0).s vm vs=cz):=by show _=_;rw [hK0];exact hcz
   have hCmp:=fun W=>sCompare2 ko km ks vo vm vs W;simp only [hcz] at hCmp
   clear hcz hK0;go_upto_region 2 with (fail)
   refine wp_region_held_drew (S:=fun x=>Below wr.heap.size wr x) (by kernel_rfl) (bdrew _) (fun jH=>?_);refine tk 0 qUn0 (fun x jS=>by go_simp<;>rfl) jH ?_
   try simp only [zS]
   refine tk 1 qUn1 (fun x jS=>by go_simp<;>rfl) jH ?_
   try simp only [zS]
   refine tk 2 qUn2 (fun x jS=>by go_simp<;>rfl) jH ?_
   try simp only [zS]
   refine tk 3 qUn3 (fun x jS=>by go_simp<;>rfl) jH ?_
   try simp only [zS]
   refine tk 4 qUn4 (fun x jS=>by go_simp<;>rfl) jH ?_
   try simp only [zS]
   refine tk 5 qUn5 (fun x jS=>by go_simp<;>rfl) jH ?_
   try simp only [zS]
   refine tk 6 qUn6 (fun x jS=>by go_simp<;>rfl) jH ?_
   try simp only [zS]
   refine tk 7 qUn7 (fun x jS=>by go_simp<;>rfl) jH ?_
   try simp only [zS]
   refine tk 8 qUn8 (fun x jS=>by have k0:=keepB jS d0;have k1:=keepB jS y0;have k2:=keepB jS y1;have k3:=keepB jS y2;have k4:=keepB jS x0;have k5:=keepB jS x1;have k6:=keepB jS x2;go_simp<;>rfl) jH ?_
   try simp only [zS]
   refine tk 9 qUn9 (fun x jS=>by go_simp<;>rfl) jH ?_
   try simp only [zS]
   refine tk 10 qUn10 (fun x jS=>by have k0:=keepB jS d0;have k1:=keepB jS y0;have k2:=keepB jS y1;have k3:=keepB jS y2;have k4:=keepB jS x0;have k5:=keepB jS x1;have k6:=keepB jS x2;go_simp<;>rfl) jH ?_
   try simp only [zS]
   refine tk 11 qUn11 (fun x jS=>by go_simp<;>rfl) jH ?_
   try simp only [zS]
   refine tk 12 qUn12 (fun x jS=>by go_simp<;>rfl) jH ?_
   try simp only [zS]
   refine tk 13 qUn13 (fun x jS=>by have k0:=keepB jS d0;have k1:=keepB jS y0;have k2:=keepB jS y1;have k3:=keepB jS y2;have k4:=keepB jS x0;have k5:=keepB jS x1;have k6:=keepB jS x2;go_simp<;>rfl) jH ?_
   try simp only [zS]
   refine rd 14 qUn14 (fun K hK=>?_);go_simp;refine(hCmp _).mono ?_;rintro e w4 ⟨rfl,hb4⟩;refine hK.out _ _ (bstep jH hb4) (fun jH=>?_);clear hK K;try simp only [zS]
   refine tk 15 qUn15 (fun x jS=>by go_simp<;>rfl) jH ?_
   try simp only [zS]
   refine tk 16 qUn16 (fun x jS=>by go_simp<;>rfl) jH ?_
   try simp only [zS]
   refine wpAnyH_done (by kernel_rfl) ?_ _;by_cases hc0:cz<0
   ·
    go_wp2;go_roundw
    case rel=>exact⟨k+1,by omega,by go_num,by rw [putN,if_pos ⟨HPK.out,by rw [HCZ.out];exact hc0⟩],bstep hb jH⟩
    case measure=>simp [intOf];omega
   ·
    have hpk:p=k:=by rw [←HP.out];exact putN_stop HPK.out (by rw [HCZ.out];exact hc0) dr hlt
    subst hpk;have hHw:Below wr.heap.size wr w4:=jH;clear jH;go_upto_region 4 with (fail)
    refine wp_region_held_drew (S:=fun x=>Below wr.heap.size wr x) (by kernel_rfl) (bstep hHw (bdrew _)) (fun jH=>?_);refine tk 0 qUn17 (fun x jS=>by go_simp<;>rfl) jH ?_
    try simp only [zS]
    refine tk 1 qUn18 (fun x jS=>by go_simp<;>rfl) jH ?_
    try simp only [zS]
    refine tk 2 qUn19 (fun x jS=>by go_simp<;>rfl) jH ?_
    try simp only [zS]
    refine tk 3 qUn20 (fun x jS=>by go_simp<;>rfl) jH ?_
    try simp only [zS]
    refine tk 4 qUn21 (fun x jS=>by go_simp<;>rfl) jH ?_
    try simp only [zS]
    refine tk 5 qUn22 (fun x jS=>by go_simp<;>rfl) jH ?_
    try simp only [zS]
    refine tk 6 qUn23 (fun x jS=>by go_simp<;>rfl) jH ?_
    try simp only [zS]
    refine tk 7 qUn24 (fun x jS=>by go_simp<;>rfl) jH ?_
    try simp only [zS]
    refine tk 8 qUn25 (fun x jS=>by have k0:=keepB jS d0;have k1:=keepB jS y0;have k2:=keepB jS y1;have k3:=keepB jS y2;have k4:=keepB jS x0;have k5:=keepB jS x1;have k6:=keepB jS x2;go_simp<;>rfl) jH ?_
    try simp only [zS]
    refine tk 9 qUn26 (fun x jS=>by go_simp<;>rfl) jH ?_
    try simp only [zS]
    refine tk 10 qUn27 (fun x jS=>by have k0:=keepB jS d0;have k1:=keepB jS y0;have k2:=keepB jS y1;have k3:=keepB jS y2;have k4:=keepB jS x0;have k5:=keepB jS x1;have k6:=keepB jS x2;go_simp<;>rfl) jH ?_
    try simp only [zS]
    refine tk 11 qUn28 (fun x jS=>by go_simp<;>rfl) jH ?_
    try simp only [zS]
    refine tk 12 qUn29 (fun x jS=>by go_simp<;>rfl) jH ?_
    try simp only [zS]
    refine tk 13 qUn30 (fun x jS=>by have k0:=keepB jS d0;have k1:=keepB jS y0;have k2:=keepB jS y1;have k3:=keepB jS y2;have k4:=keepB jS x0;have k5:=keepB jS x1;have k6:=keepB jS x2;go_simp<;>rfl) jH ?_
    try simp only [zS]
    refine rd 14 qUn31 (fun K hK=>?_);go_simp;refine(hCmp _).mono ?_;rintro e w9 ⟨rfl,hb9⟩;refine hK.out _ _ (bstep jH hb9) (fun jH=>?_);clear hK K;try simp only [zS]
    refine tk 15 qUn32 (fun x jS=>by go_simp<;>rfl) jH ?_
    try simp only [zS]
    refine tk 16 qUn33 (fun x jS=>by go_simp<;>rfl) jH ?_
    try simp only [zS]
    refine wpAnyH_done (by kernel_rfl) ?_ _;have hbt:=bstep hb jH;clear jH;by_cases hc1:cz=0
    ·
     subst hc1;have HY:Hid (cmpV (dR p 0).m (dR p 0).s (V 0).m (V 0).s=0):=by show _=_;rw [HV0.out];exact HCZ.out
     go_wp2;exact bodyPost_ret (results_tmp2 rfl _ _ _) rfl ⟨hbt,Or.inl ⟨hlt,HY.out,rfl⟩⟩
    ·
     have HNO:Hid (¬(p<dr/\cmpV (dR p 0).m (dR p 0).s (V 0).m (V 0).s=0)):=fun hh=>hc1 (by rw [←HCZ.out];have:=hh.2;rw [HV0.out] at this;exact this);have hc2:(cz == 0)=false:=by simpa using hc1
     obtain⟨q,hq1,hq2,hq3,hq4⟩:=hR.cells;have hVL:=hV.lb;have hbt0:=bstep hb0 hbt;have hst:=hbt.size;have hkc:(p:Int)<=cr:=by omega
     have hkc2:p<=cr:=by omega
     have hkd2:(p:Int)<=dr:=by omega
     have hkd3:p<=dr:=by omega
     have HE:Hid ((w9.alloc (.cells #[] 41)).ownsRow w.heap.size 41 1 (.slice (some ⟨w9.heap.size,0,none⟩) 0 0) 0 []):=World.ownsRow_made w9 #[] 0 hst (by unfold maxLen;omega) rfl
     ·
      have hkk2:p<cr:=by omega
      have hkk3:(p:Int)<cr:=by omega
      have hkk4:¬cr=p:=by omega
      go_wp2_with (first | (at_builtin;have _h:=hG6;refine wpList_append_own _ rfl _ _ 33 rfl w.heap.size 41 jr (.slice none 0 0) 1 24 Tryz.underlying33 HIr.out hzr0 hzr1 hzr2 rfl (by omega) (.slice (some ⟨g6,0,none⟩) (p+1) cap6) (p+1) _ rfl hG6.own ⟨bR,offR+p,none⟩ (dr - p) (cr - p) (flt (fun i=>q (p+i)) (dr - p)) rfl (by rw [flt_len (sz:=1) (fun i hi=>hq1 (p+i) (by omega))]) (newsR (fun i hi=>hq1 (p+i) (by omega)) (fun i hi u hu=>by rw [Nat.add_assoc];exact keepB (bstep hb0 hb6) (hq3 (p+i) (by omega) u hu))) (flt_one (fun i hi=>hq2 (p+i) (by omega))) (by unfold maxLen;omega) (by omega) (by omega) ?_;intro v1 w7 hO7 hgr7 hnil7;obtain⟨g7,cap7,rfl⟩:=own_some hO7 (fun e=>by have:=hnil7.1 e;simp at this);have hgl6:=(hG6.own.lt g6 rfl).1;have hG7:=GO.app hG6 (c:=fun i=>q (p+i)) (fun i hi=>hq1 (p+i) (by omega)) (fun i hi=>by rw [putL_hi];exact((hq4 (p+i) (by omega)).later (bstep hb0 hb6)).wide (fun b hx _=>⟨hx,by show some b≠some g6;intro e;have e3:b=g6:=Option.some.inj e;omega⟩)) hO7 hgr7 (fun b hx=>by omega);have hb7:=gBr hb6 hgr7 (fun x hx=>by show some x≠some g6;intro e;have e3:x=g6:=Option.some.inj e;omega);clear hnil7 hO7) | (at_builtin;have _h:=hG5;refine wpList_append_lies _ rfl _ _ _ rfl w.heap.size 41 jr (.slice none 0 0) 1 24 Tryz.underlying33 HIr.out hzr0 hzr1 hzr2 rfl (by omega) (.slice (some ⟨g5,0,none⟩) p cap5) p _ rfl (hG5.later (bal _ _)).own ⟨w5.heap.size,0,none⟩ 1 1 [.slice (some ⟨b3,off3,none⟩) n3 c3] rfl rfl (World.news_of_block (heap_alloc_new w5 _)) (ones _ rfl) (by omega) (by unfold maxLen;omega) (by omega) (by simp;omega) _ rfl ?_;intro g6 cap6 w6 hO6 hgr6 hat6 hlt6;have hgl5:=(hG5.own.lt g5 rfl).1;have hG6:=GO.push (hG5.later (bal _ _)) (c:=[.slice (some ⟨b3,off3,none⟩) n3 c3]) rfl (by rw [putL_at];exact((hVL.later (bstep (bstep hb0 hb5) (bal _ _))).wide (fun b hx _=>⟨hx,by show some b≠some g5;intro e;have e3:b=g5:=Option.some.inj e;omega⟩)).imp (fun _ h=>⟨_,_,rfl,h,h3m⟩)) hO6 hgr6 hat6;have hb6:=gBr (bstep hb5 (bal _ _)) hgr6 (fun x hx=>by show some x≠some g5;intro e;have e3:x=g5:=Option.some.inj e;omega);have hs6:=hb6.size;clear hO6) | (at_builtin;refine wpList_append_own _ rfl _ _ 33 rfl w.heap.size 41 jr (.slice none 0 0) 1 24 Tryz.underlying33 HIr.out hzr0 hzr1 hzr2 rfl (by omega) (.slice (some ⟨w9.heap.size,0,none⟩) 0 0) 0 [] rfl HE.out ⟨bR,offR,none⟩ p cr (flt q p) rfl (by rw [flt_len (sz:=1) (fun i hi=>hq1 i (by omega))]) (newsR (fun i hi=>hq1 i (by omega)) (fun i hi u hu=>keepB (bstep hbt0 (bal _ _)) (hq3 i (by omega) u hu))) (flt_one (fun i hi=>hq2 i (by omega))) (by unfold maxLen;omega) (by omega) (by have:=hbt.size;simp;omega) ?_;intro v1 w5 hO5 hgr5 hnil5;obtain⟨g5,cap5,rfl⟩:=own_some hO5 (fun e=>by have:=hnil5.1 e;simp at this);have hG5:=GO.app (x:=(putL dm dR (n3,V) p)) (D:=fun b=>b<w0.heap.size) (E:=ER) (GO.nil HE.out) (c:=q) (fun i hi=>hq1 i (by omega)) (fun i hi=>by rw [Nat.zero_add,putL_lo hi];exact((hq4 i (by omega)).later (bstep hbt0 (bal _ _))).wide (fun b hx _=>⟨hx,by show some b≠some w9.heap.size;intro e;have e3:b=w9.heap.size:=Option.some.inj e;omega⟩)) hO5 hgr5 (fun b hx=>by omega);simp only [Nat.zero_add] at hG5;have hb5:=gBr (bstep hbt (bal _ _)) hgr5 (fun x hx=>by show some x≠some w9.heap.size;intro e;have e3:x=w9.heap.size:=Option.some.inj e;omega);have hs5:=hb5.size;clear hnil5 hO5))
      rw [show p+1+(dr - p)=dr+1 from by omega] at hG7
      refine bodyPost_ret (results_tmp2 rfl _ _ _) rfl ⟨hb7,Or.inr ⟨HNO.out,g7,cap7,_,?_,hG7⟩⟩;try rw [show p+1+(dr - p)=dr+1 from by omega]
      try rfl
  ·
   obtain rfl:k=dr:=by omega
   have hkd:¬(k:Int)<k:=by omega
   go_upto_region 2 with (fail)
   refine wp_region_held_drew (S:=fun x=>Below wr.heap.size wr x) (by kernel_rfl) (bdrew _) (fun jH=>?_);refine tk 0 qUn0 (fun x jS=>by go_simp<;>rfl) jH ?_
   try simp only [zS]
   refine tk 1 qUn1 (fun x jS=>by go_simp<;>rfl) jH ?_
   try simp only [zS]
   refine tk 2 qUn2 (fun x jS=>by go_simp<;>rfl) jH ?_
   try simp only [zS]
   refine tk 3 qUn3 (fun x jS=>by go_simp<;>rfl) jH ?_
   try simp only [zS]
   refine tk 4 qUn4 (fun x jS=>by go_simp<;>rfl) jH ?_
   try simp only [zS]
   refine tko 5 qUn5 jH ?_;try simp only [zS]
   refine tko 6 qUn6 jH ?_;try simp only [zS]
   refine tko 7 qUn7 jH ?_;try simp only [zS]
   refine tko 8 qUn8 jH ?_;try simp only [zS]
   refine tko 9 qUn9 jH ?_;try simp only [zS]
   refine tko 10 qUn10 jH ?_;try simp only [zS]
   refine tko 11 qUn11 jH ?_;try simp only [zS]
   refine tko 12 qUn12 jH ?_;try simp only [zS]
   refine tko 13 qUn13 jH ?_;try simp only [zS]
   refine tko 14 qUn14 jH ?_;try simp only [zS]
   refine tko 15 qUn15 jH ?_;try simp only [zS]
   refine tk 16 qUn16 (fun x jS=>by go_simp<;>rfl) jH ?_
   try simp only [zS]
   refine wpAnyH_done (by kernel_rfl) ?_ _;have hpk:p=k:=by rw [←HP.out,HPK.out]
   subst hpk;have hHw:Below wr.heap.size wr wr.drew:=jH;clear jH;go_upto_region 4 with (fail)
   refine wp_region_held_drew (S:=fun x=>Below wr.heap.size wr x) (by kernel_rfl) (bstep hHw (bdrew _)) (fun jH=>?_);refine tk 0 qUn17 (fun x jS=>by go_simp<;>rfl) jH ?_
   try simp only [zS]
   refine tk 1 qUn18 (fun x jS=>by go_simp<;>rfl) jH ?_
   try simp only [zS]
   refine tk 2 qUn19 (fun x jS=>by go_simp<;>rfl) jH ?_
   try simp only [zS]
   refine tk 3 qUn20 (fun x jS=>by go_simp<;>rfl) jH ?_
   try simp only [zS]
   refine tk 4 qUn21 (fun x jS=>by go_simp<;>rfl) jH ?_
   try simp only [zS]
   refine tko 5 qUn22 jH ?_;try simp only [zS]
   refine tko 6 qUn23 jH ?_;try simp only [zS]
   refine tko 7 qUn24 jH ?_;try simp only [zS]
   refine tko 8 qUn25 jH ?_;try simp only [zS]
   refine tko 9 qUn26 jH ?_;try simp only [zS]
   refine tko 10 qUn27 jH ?_;try simp only [zS]
   refine tko 11 qUn28 jH ?_;try simp only [zS]
   refine tko 12 qUn29 jH ?_;try simp only [zS]
   refine tko 13 qUn30 jH ?_;try simp only [zS]
   refine tko 14 qUn31 jH ?_;try simp only [zS]
   refine tko 15 qUn32 jH ?_;try simp only [zS]
   refine tk 16 qUn33 (fun x jS=>by go_simp<;>rfl) jH ?_
   try simp only [zS]
   refine wpAnyH_done (by kernel_rfl) ?_ _;generalize wr.drew.drew=v at jH ⊢;have hbt:=bstep hb jH;clear jH hHw;have HNO:Hid (¬(p<p/\cmpV (dR p 0).m (dR p 0).s (V 0).m (V 0).s=0)):=fun hh=>Nat.lt_irrefl _ hh.1;obtain⟨q,hq1,hq2,hq3,hq4⟩:=hR.cells;have hVL:=hV.lb;have hbt0:=bstep hb0 hbt;have hst:=hbt.size;have hkc:(p:Int)<=cr:=by omega
   have hkc2:p<=cr:=by omega
   have hkd2:(p:Int)<=p:=by omega
   have hkd3:p<=p:=by omega
   have HE:Hid ((v.alloc (.cells #[] 41)).ownsRow w.heap.size 41 1 (.slice (some ⟨v.heap.size,0,none⟩) 0 0) 0 []):=World.ownsRow_made v #[] 0 hst (by unfold maxLen;omega) rfl;by_cases hkk:cr=p
   ·
    obtain rfl:p=cr:=hkk.symm;go_wp2_with (first | (at_builtin;have _h:=hG6;refine wpList_append_own _ rfl _ _ 33 rfl w.heap.size 41 jr (.slice none 0 0) 1 24 Tryz.underlying33 HIr.out hzr0 hzr1 hzr2 rfl (by omega) (.slice (some ⟨g6,0,none⟩) (p+1) cap6) (p+1) _ rfl hG6.own ⟨bR,offR,none⟩ 0 0 (flt (fun i=>q (p+i)) 0) rfl (by rw [flt_len (sz:=1) (fun i hi=>hq1 (p+i) (by omega))]) (newsR (fun i hi=>hq1 (p+i) (by omega)) (fun i hi u hu=>absurd hi (by omega))) (flt_one (fun i hi=>hq2 (p+i) (by omega))) (by unfold maxLen;omega) (by omega) (by omega) ?_;intro v1 w7 hO7 hgr7 hnil7;obtain⟨g7,cap7,rfl⟩:=own_some hO7 (fun e=>by have:=hnil7.1 e;simp at this);have hgl6:=(hG6.own.lt g6 rfl).1;have hG7:=GO.app hG6 (c:=fun i=>q (p+i)) (fun i hi=>hq1 (p+i) (by omega)) (fun i hi=>by rw [putL_hi];exact((hq4 (p+i) (by omega)).later (bstep hb0 hb6)).wide (fun b hx _=>⟨hx,by show some b≠some g6;intro e;have e3:b=g6:=Option.some.inj e;omega⟩)) hO7 hgr7 (fun b hx=>by omega);have hb7:=gBr hb6 hgr7 (fun x hx=>by show some x≠some g6;intro e;have e3:x=g6:=Option.some.inj e;omega);clear hnil7 hO7) | (at_builtin;have _h:=hG5;refine wpList_append_lies _ rfl _ _ _ rfl w.heap.size 41 jr (.slice none 0 0) 1 24 Tryz.underlying33 HIr.out hzr0 hzr1 hzr2 rfl (by omega) (.slice (some ⟨g5,0,none⟩) p cap5) p _ rfl (hG5.later (bal _ _)).own ⟨w5.heap.size,0,none⟩ 1 1 [.slice (some ⟨b3,off3,none⟩) n3 c3] rfl rfl (World.news_of_block (heap_alloc_new w5 _)) (ones _ rfl) (by omega) (by unfold maxLen;omega) (by omega) (by simp;omega) _ rfl ?_;intro g6 cap6 w6 hO6 hgr6 hat6 hlt6;have hgl5:=(hG5.own.lt g5 rfl).1;have hG6:=GO.push (hG5.later (bal _ _)) (c:=[.slice (some ⟨b3,off3,none⟩) n3 c3]) rfl (by rw [putL_at];exact((hVL.later (bstep (bstep hb0 hb5) (bal _ _))).wide (fun b hx _=>⟨hx,by show some b≠some g5;intro e;have e3:b=g5:=Option.some.inj e;omega⟩)).imp (fun _ h=>⟨_,_,rfl,h,h3m⟩)) hO6 hgr6 hat6;have hb6:=gBr (bstep hb5 (bal _ _)) hgr6 (fun x hx=>by show some x≠some g5;intro e;have e3:x=g5:=Option.some.inj e;omega);have hs6:=hb6.size;clear hO6) | (at_builtin;refine wpList_append_own _ rfl _ _ 33 rfl w.heap.size 41 jr (.slice none 0 0) 1 24 Tryz.underlying33 HIr.out hzr0 hzr1 hzr2 rfl (by omega) (.slice (some ⟨v.heap.size,0,none⟩) 0 0) 0 [] rfl HE.out ⟨bR,offR,none⟩ p p (flt q p) rfl (by rw [flt_len (sz:=1) (fun i hi=>hq1 i (by omega))]) (newsR (fun i hi=>hq1 i (by omega)) (fun i hi u hu=>keepB (bstep hbt0 (bal _ _)) (hq3 i (by omega) u hu))) (flt_one (fun i hi=>hq2 i (by omega))) (by unfold maxLen;omega) (by omega) (by have:=hbt.size;simp;omega) ?_;intro v1 w5 hO5 hgr5 hnil5;obtain⟨g5,cap5,rfl⟩:=own_some hO5 (fun e=>by have:=hnil5.1 e;simp at this);have hG5:=GO.app (x:=(putL dm dR (n3,V) p)) (D:=fun b=>b<w0.heap.size) (E:=ER) (GO.nil HE.out) (c:=q) (fun i hi=>hq1 i (by omega)) (fun i hi=>by rw [Nat.zero_add,putL_lo hi];exact((hq4 i (by omega)).later (bstep hbt0 (bal _ _))).wide (fun b hx _=>⟨hx,by show some b≠some v.heap.size;intro e;have e3:b=v.heap.size:=Option.some.inj e;omega⟩)) hO5 hgr5 (fun b hx=>by omega);simp only [Nat.zero_add] at hG5;have hb5:=gBr (bstep hbt (bal _ _)) hgr5 (fun x hx=>by show some x≠some v.heap.size;intro e;have e3:x=v.heap.size:=Option.some.inj e;omega);have hs5:=hb5.size;clear hnil5 hO5))
    rw [show p+1+0=p+1 from by omega] at hG7
    refine bodyPost_ret (results_tmp2 rfl _ _ _) rfl ⟨hb7,Or.inr ⟨HNO.out,g7,cap7,_,?_,hG7⟩⟩;try rw [show p+1+0=p+1 from by omega]
    try rfl
   ·
    have hkk2:p<cr:=by omega
    have hkk3:(p:Int)<cr:=by omega
    have hkk4:¬cr=p:=by omega
    go_wp2_with (first | (at_builtin;have _h:=hG6;refine wpList_append_own _ rfl _ _ 33 rfl w.heap.size 41 jr (.slice none 0 0) 1 24 Tryz.underlying33 HIr.out hzr0 hzr1 hzr2 rfl (by omega) (.slice (some ⟨g6,0,none⟩) (p+1) cap6) (p+1) _ rfl hG6.own ⟨bR,offR+p,none⟩ 0 (cr - p) (flt (fun i=>q (p+i)) 0) rfl (by rw [flt_len (sz:=1) (fun i hi=>hq1 (p+i) (by omega))]) (newsR (fun i hi=>hq1 (p+i) (by omega)) (fun i hi u hu=>absurd hi (by omega))) (flt_one (fun i hi=>hq2 (p+i) (by omega))) (by unfold maxLen;omega) (by omega) (by omega) ?_;intro v1 w7 hO7 hgr7 hnil7;obtain⟨g7,cap7,rfl⟩:=own_some hO7 (fun e=>by have:=hnil7.1 e;simp at this);have hgl6:=(hG6.own.lt g6 rfl).1;have hG7:=GO.app hG6 (c:=fun i=>q (p+i)) (fun i hi=>hq1 (p+i) (by omega)) (fun i hi=>by rw [putL_hi];exact((hq4 (p+i) (by omega)).later (bstep hb0 hb6)).wide (fun b hx _=>⟨hx,by show some b≠some g6;intro e;have e3:b=g6:=Option.some.inj e;omega⟩)) hO7 hgr7 (fun b hx=>by omega);have hb7:=gBr hb6 hgr7 (fun x hx=>by show some x≠some g6;intro e;have e3:x=g6:=Option.some.inj e;omega);clear hnil7 hO7) | (at_builtin;have _h:=hG5;refine wpList_append_lies _ rfl _ _ _ rfl w.heap.size 41 jr (.slice none 0 0) 1 24 Tryz.underlying33 HIr.out hzr0 hzr1 hzr2 rfl (by omega) (.slice (some ⟨g5,0,none⟩) p cap5) p _ rfl (hG5.later (bal _ _)).own ⟨w5.heap.size,0,none⟩ 1 1 [.slice (some ⟨b3,off3,none⟩) n3 c3] rfl rfl (World.news_of_block (heap_alloc_new w5 _)) (ones _ rfl) (by omega) (by unfold maxLen;omega) (by omega) (by simp;omega) _ rfl ?_;intro g6 cap6 w6 hO6 hgr6 hat6 hlt6;have hgl5:=(hG5.own.lt g5 rfl).1;have hG6:=GO.push (hG5.later (bal _ _)) (c:=[.slice (some ⟨b3,off3,none⟩) n3 c3]) rfl (by rw [putL_at];exact((hVL.later (bstep (bstep hb0 hb5) (bal _ _))).wide (fun b hx _=>⟨hx,by show some b≠some g5;intro e;have e3:b=g5:=Option.some.inj e;omega⟩)).imp (fun _ h=>⟨_,_,rfl,h,h3m⟩)) hO6 hgr6 hat6;have hb6:=gBr (bstep hb5 (bal _ _)) hgr6 (fun x hx=>by show some x≠some g5;intro e;have e3:x=g5:=Option.some.inj e;omega);have hs6:=hb6.size;clear hO6) | (at_builtin;refine wpList_append_own _ rfl _ _ 33 rfl w.heap.size 41 jr (.slice none 0 0) 1 24 Tryz.underlying33 HIr.out hzr0 hzr1 hzr2 rfl (by omega) (.slice (some ⟨v.heap.size,0,none⟩) 0 0) 0 [] rfl HE.out ⟨bR,offR,none⟩ p cr (flt q p) rfl (by rw [flt_len (sz:=1) (fun i hi=>hq1 i (by omega))]) (newsR (fun i hi=>hq1 i (by omega)) (fun i hi u hu=>keepB (bstep hbt0 (bal _ _)) (hq3 i (by omega) u hu))) (flt_one (fun i hi=>hq2 i (by omega))) (by unfold maxLen;omega) (by omega) (by have:=hbt.size;simp;omega) ?_;intro v1 w5 hO5 hgr5 hnil5;obtain⟨g5,cap5,rfl⟩:=own_some hO5 (fun e=>by have:=hnil5.1 e;simp at this);have hG5:=GO.app (x:=(putL dm dR (n3,V) p)) (D:=fun b=>b<w0.heap.size) (E:=ER) (GO.nil HE.out) (c:=q) (fun i hi=>hq1 i (by omega)) (fun i hi=>by rw [Nat.zero_add,putL_lo hi];exact((hq4 i (by omega)).later (bstep hbt0 (bal _ _))).wide (fun b hx _=>⟨hx,by show some b≠some v.heap.size;intro e;have e3:b=v.heap.size:=Option.some.inj e;omega⟩)) hO5 hgr5 (fun b hx=>by omega);simp only [Nat.zero_add] at hG5;have hb5:=gBr (bstep hbt (bal _ _)) hgr5 (fun x hx=>by show some x≠some v.heap.size;intro e;have e3:x=v.heap.size:=Option.some.inj e;omega);have hs5:=hb5.size;clear hnil5 hO5))
    rw [show p+1+0=p+1 from by omega] at hG7
    refine bodyPost_ret (results_tmp2 rfl _ _ _) rfl ⟨hb7,Or.inr ⟨HNO.out,g7,cap7,_,?_,hG7⟩⟩;try rw [show p+1+0=p+1 from by omega]
    try rfl
end Go.Proofs.YtgeiamgeclbiaaaGreatDoor
