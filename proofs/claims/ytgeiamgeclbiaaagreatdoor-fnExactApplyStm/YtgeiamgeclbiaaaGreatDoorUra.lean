import Derived.Test.YtgeiamgeclbiaaaGreatDoorUp
namespace Go.Proofs.YtgeiamgeclbiaaaGreatDoor
open Go.RowKit Go.Maps Go.WideMaps
set_option maxRecDepth 20000
set_option maxHeartbeats 16000000
abbrev qUq0:Oper:=⟨some 35,.move (.tmp 7),3,"l5_replay.go:236",#[],none⟩
abbrev qUq1:Oper:=⟨some 36,.move (.tmp 4),33,"l5_replay.go:236",#[],none⟩
abbrev qUq2:Oper:=⟨some 37,.call ⟨.builtin .len,#[.tmp 36],#[33]⟩,3,"l5_replay.go:236",#[⟨1,.data⟩],none⟩
abbrev qUq3:Oper:=⟨some 38,.binOp .eql 3 (.tmp 35) (.tmp 37) 3,4,"l5_replay.go:236",#[⟨0,.data⟩,⟨2,.data⟩],none⟩
abbrev qUq4:Oper:=⟨some 39,.move (.tmp 38),4,"l5_replay.go:236",#[⟨3,.data⟩],none⟩
abbrev qUq5:Oper:=⟨some 40,.move (.tmp 6),3,"l5_replay.go:236",#[⟨4,.guard⟩],some (4,false)⟩
abbrev qUq6:Oper:=⟨some 41,.move (.tmp 3),33,"l5_replay.go:236",#[⟨4,.guard⟩],some (4,false)⟩
abbrev qUq7:Oper:=⟨some 42,.call ⟨.builtin .len,#[.tmp 41],#[33]⟩,3,"l5_replay.go:236",#[⟨6,.data⟩,⟨4,.guard⟩],some (4,false)⟩
abbrev qUq8:Oper:=⟨some 43,.binOp .lss 3 (.tmp 40) (.tmp 42) 3,4,"l5_replay.go:236",#[⟨5,.data⟩,⟨7,.data⟩,⟨4,.guard⟩],some (4,false)⟩
abbrev qUq9:Oper:=⟨some 44,.move (.tmp 43),4,"l5_replay.go:236",#[⟨8,.data⟩,⟨4,.chain⟩,⟨4,.guard⟩],some (4,false)⟩
abbrev qUq10:Oper:=⟨some 45,.move (.tmp 3),33,"l5_replay.go:236",#[⟨9,.guard⟩],some (9,true)⟩
abbrev qUq11:Oper:=⟨some 46,.move (.tmp 6),3,"l5_replay.go:236",#[⟨9,.guard⟩],some (9,true)⟩
abbrev qUq12:Oper:=⟨some 47,.indexAddr 33 (.tmp 45) (.tmp 46),0,"l5_replay.go:236",#[⟨10,.data⟩,⟨11,.data⟩,⟨9,.guard⟩],some (9,true)⟩
abbrev qUq13:Oper:=⟨some 48,.load 41 (.tmp 47),41,"l5_replay.go:236",#[⟨12,.data⟩,⟨9,.guard⟩],some (9,true)⟩
abbrev qUq14:Oper:=⟨some 49,.indexAddr 41 (.tmp 48) (.const (.int .i64 0)),0,"l5_replay.go:236",#[⟨13,.data⟩,⟨9,.guard⟩],some (9,true)⟩
abbrev qUq15:Oper:=⟨some 50,.load 66 (.tmp 49),66,"l5_replay.go:236",#[⟨14,.data⟩,⟨9,.guard⟩],some (9,true)⟩
abbrev qUq16:Oper:=⟨some 51,.move (.tmp 4),33,"l5_replay.go:236",#[⟨9,.guard⟩],some (9,true)⟩
abbrev qUq17:Oper:=⟨some 52,.move (.tmp 7),3,"l5_replay.go:236",#[⟨9,.guard⟩],some (9,true)⟩
abbrev qUq18:Oper:=⟨some 53,.indexAddr 33 (.tmp 51) (.tmp 52),0,"l5_replay.go:236",#[⟨16,.data⟩,⟨17,.data⟩,⟨9,.guard⟩],some (9,true)⟩
abbrev qUq19:Oper:=⟨some 54,.load 41 (.tmp 53),41,"l5_replay.go:236",#[⟨18,.data⟩,⟨9,.guard⟩],some (9,true)⟩
abbrev qUq20:Oper:=⟨some 55,.indexAddr 41 (.tmp 54) (.const (.int .i64 0)),0,"l5_replay.go:236",#[⟨19,.data⟩,⟨9,.guard⟩],some (9,true)⟩
abbrev qUq21:Oper:=⟨some 56,.load 66 (.tmp 55),66,"l5_replay.go:236",#[⟨20,.data⟩,⟨9,.guard⟩],some (9,true)⟩
abbrev qUq22:Oper:=⟨some 57,.call ⟨.value (.func 106),#[.tmp 50,.tmp 56],#[66,66]⟩,3,"l5_replay.go:236",#[⟨15,.data⟩,⟨21,.data⟩,⟨9,.chain⟩,⟨9,.guard⟩],some (9,true)⟩
abbrev qUq23:Oper:=⟨some 58,.binOp .leq 3 (.tmp 57) (.const (.int .i64 0)) 3,4,"l5_replay.go:236",#[⟨22,.data⟩,⟨9,.guard⟩],some (9,true)⟩
abbrev qUq24:Oper:=⟨some 59,.pick (.tmp 44) (.tmp 58) (.const (.bool false)),4,"l5_replay.go:236",#[⟨9,.data⟩,⟨23,.data⟩,⟨4,.guard⟩],some (4,false)⟩
abbrev qUq25:Oper:=⟨some 60,.pick (.tmp 39) (.const (.bool true)) (.tmp 59),4,"l5_replay.go:236",#[⟨4,.data⟩,⟨24,.data⟩],none⟩
def SrtA(D:Nat->Prop)(w:World)(A:List Rw)(e:Ending)(w':World):Prop:=∃ a' c',e=.returned (.slice a' A.length c')/\A.length<=c'/\OD D w' a' A/\Below w.heap.size w w'
theorem own_cap2{w:World}{base e size n g cap:Nat}{xs:List Value}(h:w.ownsRow base e size (.slice (some ⟨g,0,none⟩) n cap) n xs):n<=cap:=by
 rcases h.2 with ⟨e,-⟩ | ⟨g',cap',cur,e,-,-,h1,-⟩
 · simp at e
 ·
  simp only [Value.slice.injEq,Option.some.injEq,Addr.mk.injEq,and_true,true_and] at e
  omega
theorem OD.at{D:Nat->Prop}{w:World}{a:Option Addr}{A:List Rw}(h:OD D w a A){k:Nat}(hk:k<A.length)(h0:∀ x∈A,0<x.1):∃ (b off c bq offq m:Nat) (F:Nat->Itm) (o mm:Int) (s:ByteArray),A.getD k r0=(m,F)/\F 0=⟨o,mm,s⟩/\0<m/\a=some ⟨b,off,none⟩/\w.cell? ⟨b,off+k,none⟩=some (.slice (some ⟨bq,offq,none⟩) m c)/\w.cell? ⟨bq,offq,none⟩=some (.int .i64 o)/\w.cell? ⟨bq,offq+1,none⟩=some (.int .i64 mm)/\w.cell? ⟨bq,offq+2,none⟩=some (.string s)/\Liv D w (ER [.slice (some ⟨bq,offq,none⟩) m c] (m,F)):=by
 obtain⟨b,off,i,c,e,-,c0,hl⟩:=h k hk;have hp:=h0 _ (getD_mem (y:=r0) hk);obtain⟨m,F,hx⟩:∃ m F,A.getD k r0=(m,F):=⟨_,_,rfl⟩;rw [hx] at c0 hl hp;obtain⟨a2,c2,e2,hI,-⟩:=hl.now;simp only [List.cons.injEq,and_true,Value.slice.injEq,true_and] at e2
 obtain⟨rfl,rfl⟩:=e2;obtain⟨bq,offq,rfl,y0,y1,y2,-⟩:=hI 0 hp;simp only [Nat.zero_mul,Nat.add_zero] at y0 y1 y2
 exact⟨b,off,c,bq,offq,m,F,_,_,_,hx,rfl,hp,e,c0,y0,y1,y2,hl⟩
theorem sSort(D:Nat->Prop):∀ (fu:Nat) (A:List Rw) (a:Option Addr) (c:Nat) (w:World),A.length<=fu->A.length<=1000000->A.length<=c->OD D w a A->(∀ x∈A,0<x.1)->(∀ b,w.heap.size<=b->D b)->Calls Tryz.prog 105 #[.slice a A.length c] w (SrtA D w (srt fu A)):=by
 intro fu;induction fu with
 | zero=>
  intro A a c w hf hm hc h h0 hD;have hl:A.length=0:=by omega
  have HA:Hid (srt 0 A=A):=rfl;have hl2:(A.length:Int)<2:=by omega
  go_enter Tryz.func105,Tryz.ntmps105
  go_wp2;go_ret
  rw [HA.out];exact⟨a,c,rfl,hc,h,Below.refl _ _⟩
 | succ fu ih=>
  intro A a c w hf hm hc h h0 hD;by_cases hs:A.length<2
  ·
   have HA:Hid (srt (fu+1) A=A):=by show _=_;rw [srt,if_pos hs]
   have hl2:(A.length:Int)<2:=by omega
   go_enter Tryz.func105,Tryz.ntmps105
   go_wp2;go_ret
   rw [HA.out];exact⟨a,c,rfl,hc,h,Below.refl _ _⟩
  have hl2:¬(A.length:Int)<2:=by omega
  obtain⟨hh,hhe⟩:∃ hh,A.length / 2=hh:=⟨_,rfl⟩;have hh1:hh<A.length:=by omega
  have hh2:0<hh:=by omega
  obtain⟨S1,hS1⟩:∃ S1,srt fu (A.take hh)=S1:=⟨_,rfl⟩;obtain⟨S2,hS2⟩:∃ S2,srt fu (A.drop hh)=S2:=⟨_,rfl⟩;have l1:S1.length=hh:=by rw [←hS1,srt_len,List.length_take];omega
  have l2:S2.length=A.length - hh:=by rw [←hS2,srt_len,List.length_drop]
  have HA:Hid (srt (fu+1) A=mgF (S1.length+S2.length) S1 S2):=by
   show _=_
   rw [srt,if_neg hs,hhe,hS1,hS2,l1,l2];congr 1
   omega
  have HM1:Hid (∀ x∈S1,0<x.1):=by rw [←hS1];exact srt_mem _ _ (fun x hx=>h0 x (List.mem_of_mem_take hx))
  have HM2:Hid (∀ x∈S2,0<x.1):=by rw [←hS2];exact srt_mem _ _ (fun x hx=>h0 x (List.mem_of_mem_drop hx))
  obtain⟨b,off,-,-,rfl,-⟩:=h 0 (by omega);have HC1:=ih (A.take hh) (some ⟨b,off,none⟩) c w (by rw [List.length_take];omega) (by rw [List.length_take];omega) (by rw [List.length_take];omega) (h.take hh) (fun x hx=>h0 x (List.mem_of_mem_take hx)) hD;rw [hS1,show (A.take hh).length=hh from by rw [List.length_take];omega] at HC1
  have HC2:∀ w1,Below w.heap.size w w1->Calls Tryz.prog 105 #[.slice (some ⟨b,off+hh,none⟩) (A.length - hh) (c - hh)] w1 (SrtA D w1 S2):=fun w1 hb=>by
   have:=ih (A.drop hh) (some ⟨b,off+hh,none⟩) (c - hh) w1 (by rw [List.length_drop];omega) (by rw [List.length_drop];omega) (by rw [List.length_drop];omega) ((h.later hb).drop hh) (fun x hx=>h0 x (List.mem_of_mem_drop hx)) (fun b hb'=>hD b (by have:=hb.size;omega));rwa [hS2,List.length_drop] at this
  have HC2':Hid (∀ w1,Below w.heap.size w w1->Calls Tryz.prog 105 #[.slice (some ⟨b,off+hh,none⟩) (A.length - hh) (c - hh)] w1 (SrtA D w1 S2)):=HC2;have HL12:Hid (S1.length=hh/\S2.length=A.length - hh):=⟨l1,l2⟩;have hl1m:S1.length<=1000000:=by omega
  have hl2m:S2.length<=1000000:=by omega
  have HHE:Hid (A.length / 2=hh):=hhe;have hq:((A.length:Int) / 2)=(hh:Int):=by omega
  clear ih h0 hS1 hS2 HC2 hs hhe l1 l2;have hhc:(hh:Int)<=c:=by omega
  have hhc3:¬c=hh:=by omega
  have hhc2:hh<=c:=by omega
  have hh0:(0:Int)<=hh:=by omega
  have hhl:(hh:Int)<=A.length:=by omega
  have hhl2:hh<=A.length:=by omega
  obtain⟨jr,hir,hzr0,hzr1,hzr2⟩:=info_parts Tryz.infoRow;have HIr:Hid (Tryz.prog.info? 41=some jr):=hir;clear hir;go_enter Tryz.func105,Tryz.ntmps105
  go_wp2_with (first | (go_at_call 105;have _h:=hb1;refine(HC2'.out _ hb1).mono ?_;rintro e w2 ⟨a2,cc2,rfl,hcc2,hOD2,hb2⟩) | (go_at_call 105;refine HC1.mono ?_;rintro e w1 ⟨a1,cc1,rfl,hcc1,hOD1,hb1⟩))
  have hbw2:=bstep hb1 hb2;have hA1:=(hOD1.later hb2).cut;have hA2:=hOD2.cut;have hsw2:=hbw2.size;clear hOD1 hOD2 _h;have hO0:(w2.alloc (.cells #[] 41)).ownsRow w2.heap.size 41 1 (.slice (some ⟨w2.heap.size,0,none⟩) 0 0) 0 []:=World.ownsRow_made w2 #[] 0 (Nat.le_refl _) (by unfold maxLen;omega) rfl;go_loopw [5,6,7] (fun v5 v6 v7 wr=>∃ (i j g cap:Nat) (O:List Rw) (f:Nat->List Value),i<=S1.length/\j<=S2.length/\v6=.int .i64 i/\v7=.int .i64 j/\v5=.slice (some ⟨g,0,none⟩) O.length cap/\O.length=i+j/\O ++ mgF (S1.length - i+(S2.length - j)) (S1.drop i) (S2.drop j)=mgF (S1.length+S2.length) S1 S2/\RO w2.heap.size (fun b=>D b/\b<w2.heap.size) wr (.slice (some ⟨g,0,none⟩) O.length cap) O.length (fun i=>O.getD i r0) f/\Below w2.heap.size w2 wr) (fun _ v6 v7 _=>S1.length+S2.length - ((intOf v6).toNat+(intOf v7).toNat))
  case atStart=>exact⟨0,0,w2.heap.size,0,[],fun _=>[],Nat.zero_le _,Nat.zero_le _,rfl,rfl,rfl,rfl,rfl,GO.nil hO0,bal _ _⟩
  case round=>
   obtain⟨i,j,g,cap,O,f,hi,hj,rfl,rfl,rfl,hOl,hinv,hRO,hbr⟩:=hrel;have HINV:Hid (O.length=i+j/\O ++ mgF (S1.length - i+(S2.length - j)) (S1.drop i) (S2.drop j)=mgF (S1.length+S2.length) S1 S2):=⟨hOl,hinv⟩;have hOm:O.length<=2000000:=by omega
   clear hOl hinv;have hsr:=hbr.size;have hgl:=hRO.own.lt g rfl;have hB1:=hA1.later hbr;have hB2:=hA2.later hbr;have hi0:(0:Int)<=i:=by omega
   have hj0:(0:Int)<=j:=by omega
   by_cases hjl:j<S2.length
   ·
    have hjl2:(j:Int)<S2.length:=by omega
    have hjn:((j:Int) == S2.length)=false:=by simp;omega
    obtain⟨bB,offB,cB,bqB,offqB,mB,FB,oB,mmB,sB,hxB,hFB,hm0B,rfl,e0B,y0B,y1B,y2B,hLB⟩:=hB2.at hjl HM2.out;have HXB:Hid (S2.getD j r0=(mB,FB)/\FB 0=⟨oB,mmB,sB⟩):=⟨hxB,hFB⟩;have hmB:(0:Int)<mB:=by omega
    clear hxB hFB;by_cases hil:i<S1.length
    ·
     have hil2:(i:Int)<S1.length:=by omega
     obtain⟨bA,offA,cA,bqA,offqA,mA,FA,oA,mmA,sA,hxA,hFA,hm0A,rfl,e0A,y0A,y1A,y2A,hLA⟩:=hB1.at hil HM1.out;have HXA:Hid (S1.getD i r0=(mA,FA)/\FA 0=⟨oA,mmA,sA⟩):=⟨hxA,hFA⟩;have hmA:(0:Int)<mA:=by omega
     clear hxA hFA;obtain⟨cz,hcz⟩:∃ cz,cmpV mmA sA mmB sB=cz:=⟨_,rfl⟩;have HCZ:Hid (keyC (S1.getD i r0) (S2.getD j r0)=cz):=by show _=_;unfold keyC;rw [HXA.out.1,HXB.out.1];show cmpV (FA 0).m (FA 0).s (FB 0).m (FB 0).s=cz;rw [HXA.out.2,HXB.out.2];exact hcz
     have hCmp:=fun W=>sCompare2 oA mmA sA oB mmB sB W;simp only [hcz] at hCmp
     clear hcz;go_upto_region 9 with (fail)
     refine wp_region_held_drew (S:=fun x=>Below wr.heap.size wr x) (by kernel_rfl) (bdrew _) (fun jH=>?_);refine tk 0 qUq0 (fun x jS=>by go_simp<;>rfl) jH ?_
     try simp only [zS]
     refine tk 1 qUq1 (fun x jS=>by go_simp<;>rfl) jH ?_
     try simp only [zS]
     refine tk 2 qUq2 (fun x jS=>by go_simp<;>rfl) jH ?_
     try simp only [zS]
     refine tk 3 qUq3 (fun x jS=>by go_simp<;>rfl) jH ?_
     try simp only [zS]
     refine tk 4 qUq4 (fun x jS=>by go_simp<;>rfl) jH ?_
     try simp only [zS]
     refine tk 5 qUq5 (fun x jS=>by go_simp<;>rfl) jH ?_
     try simp only [zS]
     refine tk 6 qUq6 (fun x jS=>by go_simp<;>rfl) jH ?_
     try simp only [zS]
     refine tk 7 qUq7 (fun x jS=>by go_simp<;>rfl) jH ?_
     try simp only [zS]
     refine tk 8 qUq8 (fun x jS=>by go_simp<;>rfl) jH ?_
     try simp only [zS]
     refine tk 9 qUq9 (fun x jS=>by go_simp<;>rfl) jH ?_
     try simp only [zS]
     refine tk 10 qUq10 (fun x jS=>by go_simp<;>rfl) jH ?_
     try simp only [zS]
     refine tk 11 qUq11 (fun x jS=>by go_simp<;>rfl) jH ?_
     try simp only [zS]
     refine tk 12 qUq12 (fun x jS=>by go_simp<;>rfl) jH ?_
     try simp only [zS]
     refine tk 13 qUq13 (fun x jS=>by have k0:=keepB jS e0A;have k1:=keepB jS y0A;have k2:=keepB jS y1A;have k3:=keepB jS y2A;have k4:=keepB jS e0B;have k5:=keepB jS y0B;have k6:=keepB jS y1B;have k7:=keepB jS y2B;go_simp<;>rfl) jH ?_
     try simp only [zS]
     refine tk 14 qUq14 (fun x jS=>by go_simp<;>rfl) jH ?_
     try simp only [zS]
     refine tk 15 qUq15 (fun x jS=>by have k0:=keepB jS e0A;have k1:=keepB jS y0A;have k2:=keepB jS y1A;have k3:=keepB jS y2A;have k4:=keepB jS e0B;have k5:=keepB jS y0B;have k6:=keepB jS y1B;have k7:=keepB jS y2B;go_simp<;>rfl) jH ?_
     try simp only [zS]
     refine tk 16 qUq16 (fun x jS=>by go_simp<;>rfl) jH ?_
     try simp only [zS]
     refine tk 17 qUq17 (fun x jS=>by go_simp<;>rfl) jH ?_
     try simp only [zS]
     refine tk 18 qUq18 (fun x jS=>by go_simp<;>rfl) jH ?_
     try simp only [zS]
     refine tk 19 qUq19 (fun x jS=>by have k0:=keepB jS e0A;have k1:=keepB jS y0A;have k2:=keepB jS y1A;have k3:=keepB jS y2A;have k4:=keepB jS e0B;have k5:=keepB jS y0B;have k6:=keepB jS y1B;have k7:=keepB jS y2B;go_simp<;>rfl) jH ?_
     try simp only [zS]
     refine tk 20 qUq20 (fun x jS=>by go_simp<;>rfl) jH ?_
     try simp only [zS]
     refine tk 21 qUq21 (fun x jS=>by have k0:=keepB jS e0A;have k1:=keepB jS y0A;have k2:=keepB jS y1A;have k3:=keepB jS y2A;have k4:=keepB jS e0B;have k5:=keepB jS y0B;have k6:=keepB jS y1B;have k7:=keepB jS y2B;go_simp<;>rfl) jH ?_
     try simp only [zS]
     refine rd 22 qUq22 (fun K hK=>?_);go_simp;refine(hCmp _).mono ?_;rintro e w4 ⟨rfl,hb4⟩;refine hK.out _ _ (bstep jH hb4) (fun jH=>?_);clear hK K;try simp only [zS]
     refine tk 23 qUq23 (fun x jS=>by go_simp<;>rfl) jH ?_
     try simp only [zS]
     refine tk 24 qUq24 (fun x jS=>by go_simp<;>rfl) jH ?_
     try simp only [zS]
     refine tk 25 qUq25 (fun x jS=>by go_simp<;>rfl) jH ?_
     try simp only [zS]
     refine wpAnyH_done (by kernel_rfl) ?_ _;have hb4w:Below wr.heap.size wr w4:=jH;clear jH;by_cases hc0:cz<=0
     ·
      skip
      have hROt:=hRO.later hb4w;have hst:=(hb4w).size;have et:=keepB hb4w e0A;go_wp2_with (first | (at_builtin;refine wpList_append_lies _ rfl _ _ _ rfl w2.heap.size 41 jr (.slice none 0 0) 1 24 Tryz.underlying33 HIr.out hzr0 hzr1 hzr2 rfl (by omega) (.slice (some ⟨g,0,none⟩) O.length cap) O.length (flt f O.length) rfl (hROt.later (bal _ _)).own ⟨w4.heap.size,0,none⟩ 1 1 [.slice (some ⟨bqA,offqA,none⟩) mA cA] rfl rfl (World.news_of_block (heap_alloc_new w4 _)) (ones _ rfl) (by omega) (by unfold maxLen;omega) (by omega) (by simp;omega) _ rfl ?_;intro g8 cap8 w8 hO8 hgr8 hat8 hlt8))
      have hLt:Liv (fun b=>(D b/\b<w2.heap.size)/\some b≠(Value.slice (some ⟨g,0,none⟩) O.length cap).ownBlock) w4 (ER [.slice (some ⟨bqA,offqA,none⟩) mA cA] (mA,FA)):=(hLA.later hb4w).wide (fun b hx _=>⟨hx,by show some b≠some g;intro e2;have e3:b=g:=Option.some.inj e2;omega⟩);have hP:=GO.snoc (x:=(mA,FA)) (hROt.later (bal _ _)) (c:=[.slice (some ⟨bqA,offqA,none⟩) mA cA]) rfl (hLt.later (bal _ _)) hO8 hgr8 hat8;have hb8:=gB (bstep (bstep hbr hb4w) (bal _ _)) (r:=g) hgr8 hgl.1;have eA:(O ++ [(mA,FA)]).length=O.length+1:=by simp
      go_roundw
      case rel=>exact⟨i+1,j,g8,cap8,O ++ [(mA,FA)],_,by omega,by omega,by go_num,by go_num,by rw [eA],by rw [eA,HINV.out.1];omega,by
       have:=HINV.out.2;rw [mg_a hil (Or.inr ⟨hjl,by rw [HCZ.out];exact hc0⟩),HXA.out.1] at this;rw [List.append_assoc];exact this,hP,hb8⟩
      case measure=>simp [intOf];omega
     ·
      skip
      have hROt:=hRO.later hb4w;have hst:=(hb4w).size;have et:=keepB hb4w e0B;go_wp2_with (first | (at_builtin;refine wpList_append_lies _ rfl _ _ _ rfl w2.heap.size 41 jr (.slice none 0 0) 1 24 Tryz.underlying33 HIr.out hzr0 hzr1 hzr2 rfl (by omega) (.slice (some ⟨g,0,none⟩) O.length cap) O.length (flt f O.length) rfl (hROt.later (bal _ _)).own ⟨w4.heap.size,0,none⟩ 1 1 [.slice (some ⟨bqB,offqB,none⟩) mB cB] rfl rfl (World.news_of_block (heap_alloc_new w4 _)) (ones _ rfl) (by omega) (by unfold maxLen;omega) (by omega) (by simp;omega) _ rfl ?_;intro g8 cap8 w8 hO8 hgr8 hat8 hlt8))
      have hLt:Liv (fun b=>(D b/\b<w2.heap.size)/\some b≠(Value.slice (some ⟨g,0,none⟩) O.length cap).ownBlock) w4 (ER [.slice (some ⟨bqB,offqB,none⟩) mB cB] (mB,FB)):=(hLB.later hb4w).wide (fun b hx _=>⟨hx,by show some b≠some g;intro e2;have e3:b=g:=Option.some.inj e2;omega⟩);have hP:=GO.snoc (x:=(mB,FB)) (hROt.later (bal _ _)) (c:=[.slice (some ⟨bqB,offqB,none⟩) mB cB]) rfl (hLt.later (bal _ _)) hO8 hgr8 hat8;have hb8:=gB (bstep (bstep hbr hb4w) (bal _ _)) (r:=g) hgr8 hgl.1;have eA:(O ++ [(mB,FB)]).length=O.length+1:=by simp
      go_roundw
      case rel=>exact⟨i,j+1,g8,cap8,O ++ [(mB,FB)],_,by omega,by omega,by go_num,by go_num,by rw [eA],by rw [eA,HINV.out.1];omega,by
       have:=HINV.out.2;rw [mg_b hjl (Or.inr ⟨hil,by rw [HCZ.out];exact hc0⟩),HXB.out.1] at this;rw [List.append_assoc];exact this,hP,hb8⟩
      case measure=>simp [intOf];omega
    ·
     obtain rfl:i=S1.length:=by omega
     have hil2:¬(S1.length:Int)<S1.length:=by omega
     go_upto_region 9 with (fail)
     refine wp_region_held_drew (S:=fun x=>Below wr.heap.size wr x) (by kernel_rfl) (bdrew _) (fun jH=>?_);refine tk 0 qUq0 (fun x jS=>by go_simp<;>rfl) jH ?_
     try simp only [zS]
     refine tk 1 qUq1 (fun x jS=>by go_simp<;>rfl) jH ?_
     try simp only [zS]
     refine tk 2 qUq2 (fun x jS=>by go_simp<;>rfl) jH ?_
     try simp only [zS]
     refine tk 3 qUq3 (fun x jS=>by go_simp<;>rfl) jH ?_
     try simp only [zS]
     refine tk 4 qUq4 (fun x jS=>by go_simp<;>rfl) jH ?_
     try simp only [zS]
     refine tk 5 qUq5 (fun x jS=>by go_simp<;>rfl) jH ?_
     try simp only [zS]
     refine tk 6 qUq6 (fun x jS=>by go_simp<;>rfl) jH ?_
     try simp only [zS]
     refine tk 7 qUq7 (fun x jS=>by go_simp<;>rfl) jH ?_
     try simp only [zS]
     refine tk 8 qUq8 (fun x jS=>by go_simp<;>rfl) jH ?_
     try simp only [zS]
     refine tk 9 qUq9 (fun x jS=>by go_simp<;>rfl) jH ?_
     try simp only [zS]
     refine tko 10 qUq10 jH ?_;try simp only [zS]
     refine tko 11 qUq11 jH ?_;try simp only [zS]
     refine tko 12 qUq12 jH ?_;try simp only [zS]
     refine tko 13 qUq13 jH ?_;try simp only [zS]
     refine tko 14 qUq14 jH ?_;try simp only [zS]
     refine tko 15 qUq15 jH ?_;try simp only [zS]
     refine tko 16 qUq16 jH ?_;try simp only [zS]
     refine tko 17 qUq17 jH ?_;try simp only [zS]
     refine tko 18 qUq18 jH ?_;try simp only [zS]
     refine tko 19 qUq19 jH ?_;try simp only [zS]
     refine tko 20 qUq20 jH ?_;try simp only [zS]
     refine tko 21 qUq21 jH ?_;try simp only [zS]
     refine tko 22 qUq22 jH ?_;try simp only [zS]
     refine tko 23 qUq23 jH ?_;try simp only [zS]
     refine tk 24 qUq24 (fun x jS=>by go_simp<;>rfl) jH ?_
     try simp only [zS]
     refine tk 25 qUq25 (fun x jS=>by go_simp<;>rfl) jH ?_
     try simp only [zS]
     refine wpAnyH_done (by kernel_rfl) ?_ _;generalize wr.drew=w4 at jH ⊢;have hb4w:Below wr.heap.size wr w4:=jH;clear jH;have hROt:=hRO.later hb4w;have hst:=(hb4w).size;have et:=keepB hb4w e0B;go_wp2_with (first | (at_builtin;refine wpList_append_lies _ rfl _ _ _ rfl w2.heap.size 41 jr (.slice none 0 0) 1 24 Tryz.underlying33 HIr.out hzr0 hzr1 hzr2 rfl (by omega) (.slice (some ⟨g,0,none⟩) O.length cap) O.length (flt f O.length) rfl (hROt.later (bal _ _)).own ⟨w4.heap.size,0,none⟩ 1 1 [.slice (some ⟨bqB,offqB,none⟩) mB cB] rfl rfl (World.news_of_block (heap_alloc_new w4 _)) (ones _ rfl) (by omega) (by unfold maxLen;omega) (by omega) (by simp;omega) _ rfl ?_;intro g8 cap8 w8 hO8 hgr8 hat8 hlt8))
     have hLt:Liv (fun b=>(D b/\b<w2.heap.size)/\some b≠(Value.slice (some ⟨g,0,none⟩) O.length cap).ownBlock) w4 (ER [.slice (some ⟨bqB,offqB,none⟩) mB cB] (mB,FB)):=(hLB.later hb4w).wide (fun b hx _=>⟨hx,by show some b≠some g;intro e2;have e3:b=g:=Option.some.inj e2;omega⟩);have hP:=GO.snoc (x:=(mB,FB)) (hROt.later (bal _ _)) (c:=[.slice (some ⟨bqB,offqB,none⟩) mB cB]) rfl (hLt.later (bal _ _)) hO8 hgr8 hat8;have hb8:=gB (bstep (bstep hbr hb4w) (bal _ _)) (r:=g) hgr8 hgl.1;have eA:(O ++ [(mB,FB)]).length=O.length+1:=by simp
     go_roundw
     case rel=>exact⟨S1.length,j+1,g8,cap8,O ++ [(mB,FB)],_,by omega,by omega,by go_num,by go_num,by rw [eA],by rw [eA,HINV.out.1];omega,by
      have:=HINV.out.2;rw [mg_b hjl (Or.inl rfl),HXB.out.1] at this;rw [List.append_assoc];exact this,hP,hb8⟩
     case measure=>simp [intOf];omega
   ·
    obtain rfl:j=S2.length:=by omega
    have hjn:((S2.length:Int) == S2.length)=true:=by simp
    by_cases hil:i<S1.length
    ·
     have hil2:(i:Int)<S1.length:=by omega
     obtain⟨bA,offA,cA,bqA,offqA,mA,FA,oA,mmA,sA,hxA,hFA,hm0A,rfl,e0A,y0A,y1A,y2A,hLA⟩:=hB1.at hil HM1.out;have HXA:Hid (S1.getD i r0=(mA,FA)):=hxA;clear hxA hFA;go_upto_region 9 with (fail)
     refine wp_region_held_drew (S:=fun x=>Below wr.heap.size wr x) (by kernel_rfl) (bdrew _) (fun jH=>?_);refine tk 0 qUq0 (fun x jS=>by go_simp<;>rfl) jH ?_
     try simp only [zS]
     refine tk 1 qUq1 (fun x jS=>by go_simp<;>rfl) jH ?_
     try simp only [zS]
     refine tk 2 qUq2 (fun x jS=>by go_simp<;>rfl) jH ?_
     try simp only [zS]
     refine tk 3 qUq3 (fun x jS=>by go_simp<;>rfl) jH ?_
     try simp only [zS]
     refine tk 4 qUq4 (fun x jS=>by go_simp<;>rfl) jH ?_
     try simp only [zS]
     refine tko 5 qUq5 jH ?_;try simp only [zS]
     refine tko 6 qUq6 jH ?_;try simp only [zS]
     refine tko 7 qUq7 jH ?_;try simp only [zS]
     refine tko 8 qUq8 jH ?_;try simp only [zS]
     refine tko 9 qUq9 jH ?_;try simp only [zS]
     refine tko 10 qUq10 jH ?_;try simp only [zS]
     refine tko 11 qUq11 jH ?_;try simp only [zS]
     refine tko 12 qUq12 jH ?_;try simp only [zS]
     refine tko 13 qUq13 jH ?_;try simp only [zS]
     refine tko 14 qUq14 jH ?_;try simp only [zS]
     refine tko 15 qUq15 jH ?_;try simp only [zS]
     refine tko 16 qUq16 jH ?_;try simp only [zS]
     refine tko 17 qUq17 jH ?_;try simp only [zS]
     refine tko 18 qUq18 jH ?_;try simp only [zS]
     refine tko 19 qUq19 jH ?_;try simp only [zS]
     refine tko 20 qUq20 jH ?_;try simp only [zS]
     refine tko 21 qUq21 jH ?_;try simp only [zS]
     refine tko 22 qUq22 jH ?_;try simp only [zS]
     refine tko 23 qUq23 jH ?_;try simp only [zS]
     refine tko 24 qUq24 jH ?_;try simp only [zS]
     refine tk 25 qUq25 (fun x jS=>by go_simp<;>rfl) jH ?_
     try simp only [zS]
     refine wpAnyH_done (by kernel_rfl) ?_ _;generalize wr.drew=w4 at jH ⊢;have hb4w:Below wr.heap.size wr w4:=jH;clear jH;have hROt:=hRO.later hb4w;have hst:=(hb4w).size;have et:=keepB hb4w e0A;go_wp2_with (first | (at_builtin;refine wpList_append_lies _ rfl _ _ _ rfl w2.heap.size 41 jr (.slice none 0 0) 1 24 Tryz.underlying33 HIr.out hzr0 hzr1 hzr2 rfl (by omega) (.slice (some ⟨g,0,none⟩) O.length cap) O.length (flt f O.length) rfl (hROt.later (bal _ _)).own ⟨w4.heap.size,0,none⟩ 1 1 [.slice (some ⟨bqA,offqA,none⟩) mA cA] rfl rfl (World.news_of_block (heap_alloc_new w4 _)) (ones _ rfl) (by omega) (by unfold maxLen;omega) (by omega) (by simp;omega) _ rfl ?_;intro g8 cap8 w8 hO8 hgr8 hat8 hlt8))
     have hLt:Liv (fun b=>(D b/\b<w2.heap.size)/\some b≠(Value.slice (some ⟨g,0,none⟩) O.length cap).ownBlock) w4 (ER [.slice (some ⟨bqA,offqA,none⟩) mA cA] (mA,FA)):=(hLA.later hb4w).wide (fun b hx _=>⟨hx,by show some b≠some g;intro e2;have e3:b=g:=Option.some.inj e2;omega⟩);have hP:=GO.snoc (x:=(mA,FA)) (hROt.later (bal _ _)) (c:=[.slice (some ⟨bqA,offqA,none⟩) mA cA]) rfl (hLt.later (bal _ _)) hO8 hgr8 hat8;have hb8:=gB (bstep (bstep hbr hb4w) (bal _ _)) (r:=g) hgr8 hgl.1;have eA:(O ++ [(mA,FA)]).length=O.length+1:=by simp
     go_roundw
     case rel=>exact⟨i+1,S2.length,g8,cap8,O ++ [(mA,FA)],_,by omega,by omega,by go_num,by go_num,by rw [eA],by rw [eA,HINV.out.1];omega,by
      have:=HINV.out.2;rw [mg_a hil (Or.inl rfl),HXA.out] at this;rw [List.append_assoc];exact this,hP,hb8⟩
     case measure=>simp [intOf];omega
    ·
     obtain rfl:i=S1.length:=by omega
     have HO:Hid (O=mgF (S1.length+S2.length) S1 S2):=by
      have:=HINV.out.2;rw [Nat.sub_self,Nat.sub_self] at this;show O=_
      simpa [mgF] using this
     have hil2:¬(S1.length:Int)<S1.length:=by omega
     have hjl2:¬(S2.length:Int)<S2.length:=by omega
     obtain⟨a',c',e',hOD'⟩:=RO.od (D':=D) hRO (fun b hx=>hx.1) (fun b hx=>hD b (by omega));obtain⟨rfl,rfl⟩:some ⟨g,0,none⟩=a'/\cap=c':=by simpa using e'
     have hcp:=own_cap2 hRO.own;go_wp2;go_ret
     rw [HA.out,←HO.out];exact⟨_,_,rfl,hcp,hOD',bstep hbw2 hbr⟩
def upd(F:Nat->Itm)(q:Nat)(v:Itm):Nat->Itm:=fun j=>if j=q then v else F j
def chS(C:Nat->Clm)(n:Nat)(m:Nat->Nat)(R:Nat->Nat->Itm)(q:Nat)(E:Nat->Itm)(n5:Nat)(W:Nat->Itm)(n6:Nat):Nat->List Rw
 | 0=>[]
 | k+1=>chS C n m R q E n5 W n6 k ++ [(m k,if fitB C n (R k) W n6=true then upd (R k) q (vlR C n (R k) E n5) else R k)]
def bigS(C:Nat->Clm)(n:Nat)(R:Nat->Nat->Itm)(E:Nat->Itm)(n5:Nat)(W:Nat->Itm)(n6:Nat):Nat->Bool
 | 0=>false
 | k+1=>bigS C n R E n5 W n6 k || (fitB C n (R k) W n6 && decide (200<(vlR C n (R k) E n5).s.size))
theorem bigS_mono{C:Nat->Clm}{n:Nat}{R:Nat->Nat->Itm}{E:Nat->Itm}{n5:Nat}{W:Nat->Itm}{n6 k:Nat}(h:bigS C n R E n5 W n6 k=true):∀ r,k<=r->bigS C n R E n5 W n6 r=true:=by
 intro r hr;induction r with
 | zero=>
  obtain rfl:k=0:=by omega
  exact h
 | succ r ih=>
  by_cases e:k=r+1
  · subst e;exact h
  · rw [bigS,ih (by omega)];rfl
theorem chS_len{C:Nat->Clm}{n:Nat}{m:Nat->Nat}{R:Nat->Nat->Itm}{q:Nat}{E:Nat->Itm}{n5:Nat}{W:Nat->Itm}{n6:Nat}:∀ {k:Nat},(chS C n m R q E n5 W n6 k).length=k
 | 0=>rfl
 | k+1=>by rw [chS,List.length_append,chS_len];rfl
def dupB(A:List Rw):Nat->Bool
 | 0=>false
 | k+1=>dupB A k || (decide (0<k) && decide (keyC (A.getD (k - 1) r0) (A.getD k r0)=0))
theorem dupB_mono{A:List Rw}{k:Nat}(h:dupB A k=true):∀ r,k<=r->dupB A r=true:=by
 intro r hr;induction r with
 | zero=>
  obtain rfl:k=0:=by omega
  exact h
 | succ r ih=>
  by_cases e:k=r+1
  · subst e;exact h
  · rw [dupB,ih (by omega)];rfl
def upC(C:Nat->Clm)(n:Nat)(q:Nat)(E:Nat->Itm)(n5:Nat)(W:Nat->Itm)(n6:Nat):Int:=
 if ¬(ckR C n E n5).2=0 then (ckR C n E n5).2 else if ¬(ckR C n E n5).1=(C q).t then 4 else cwR C n W n6
def upRows(dn:Nat)(dC:Nat->Clm)(dr:Nat)(dm:Nat->Nat)(dR:Nat->Nat->Itm)(q:Nat)(E:Nat->Itm)(n5:Nat)(W:Nat->Itm)(n6:Nat):List Rw:=srt dr (chS dC dn dm dR q E n5 W n6 dr)
def upA(T:Nat->Td)(n:Nat)(ds:ByteArray)(dn:Nat)(dC:Nat->Clm)(dr:Nat)(dm:Nat->Nat)(dR:Nat->Nat->Itm)(col:ByteArray)(E:Nat->Itm)(n5:Nat)(W:Nat->Itm)(n6:Nat):List Td×Int:=
 match colI dC col dn with
 | none=>(tlL T n,3)
 | some q=>if ¬upC dC dn q E n5 W n6=0 then (tlL T n,upC dC dn q E n5 W n6) else if bigS dC dn dR E n5 W n6 dr=true then (tlL T n,6)
  else if dupB (upRows dn dC dr dm dR q E n5 W n6) dr=true then (tlL T n,5) else (wtL T (tabR ds dn dC (upRows dn dC dr dm dR q E n5 W n6)) n,0)
theorem upC_ok{C:Nat->Clm}{n q:Nat}{E:Nat->Itm}{n5:Nat}{W:Nat->Itm}{n6:Nat}(h:upC C n q E n5 W n6=0):(ckR C n E n5).2=0/\(ckR C n E n5).1=(C q).t/\cwR C n W n6=0:=by
 unfold upC at h;split at h
 · rename_i h1;exact absurd h h1
 ·
  rename_i h1
  split at h
  · omega
  ·
   rename_i h2
   exact⟨by simpa using h1,by simpa using h2,h⟩
theorem own_upd{w:World}{G g cap n q:Nat}{I:Nat->Itm}{x:Itm}(h:w.ownsRow G 66 3 (.slice (some ⟨g,0,none⟩) n cap) n (flt (fun k=>v3 (I k)) n))(hs:∀ k,k<n->(I k).s.size<=1048576)(hx:x.s.size<=1048576)(hq:q<n):IL (((w.setCell ⟨g,q * 3,none⟩ (.int .i64 x.o)).setCell ⟨g,q * 3+1,none⟩ (.int .i64 x.m)).setCell ⟨g,q * 3+2,none⟩ (.string x.s)) (some ⟨g,0,none⟩) n (upd I q x):=by
 have hI:=own_il h hs;rcases h.2 with ⟨e,-⟩ | ⟨g',cap',cur,e,-,hrow,hc,-,hsz,-⟩
 · simp at e
 ·
  obtain⟨rfl,rfl⟩:g=g'/\cap=cap':=by simpa using e
  have hr:=heap_setCell_same _ _ (q * 3+2) _ _ (.string x.s) (heap_setCell_same _ _ (q * 3+1) _ _ (.int .i64 x.m) (heap_setCell_same _ _ (q * 3) _ _ (.int .i64 x.o) hrow));intro k hk;obtain⟨b,off,e2,c0,c1,c2,-⟩:=hI k hk;obtain⟨rfl,rfl⟩:g=b/\0=off:=by simpa using e2
  have hcur:∀ i v,w.cell? ⟨g,i,none⟩=some v->cur[i]?=some v:=fun i v hv=>by
   have:=cell_of_row w g i _ _ _ hrow;rw [this] at hv;exact hv
  rw [Nat.zero_add] at c0 c1 c2;have d0:=hcur _ _ c0;have d1:=hcur _ _ c1;have d2:=hcur _ _ c2;refine⟨g,0,rfl,?_,?_,?_,?_⟩;all_goals try rw [Nat.zero_add]
  ·
   rw [cell_of_row _ g _ _ _ _ hr];unfold upd;by_cases e:k=q
   ·
    subst e;simp [Array.getElem?_setIfInBounds]
    omega
   ·
    rw [if_neg e];simp only [Array.getElem?_setIfInBounds]
    rw [if_neg (by omega),if_neg (by omega),if_neg (by omega)];exact d0
  ·
   rw [cell_of_row _ g _ _ _ _ hr];unfold upd;by_cases e:k=q
   ·
    subst e;simp [Array.getElem?_setIfInBounds]
    omega
   ·
    rw [if_neg e];simp only [Array.getElem?_setIfInBounds]
    rw [if_neg (by omega),if_neg (by omega),if_neg (by omega)];exact d1
  ·
   rw [cell_of_row _ g _ _ _ _ hr];unfold upd;by_cases e:k=q
   ·
    subst e;simp [Array.getElem?_setIfInBounds]
    omega
   ·
    rw [if_neg e];simp only [Array.getElem?_setIfInBounds]
    rw [if_neg (by omega),if_neg (by omega),if_neg (by omega)];exact d2
  ·
   unfold upd;split
   · exact hx
   · exact hs k hk
end Go.Proofs.YtgeiamgeclbiaaaGreatDoor
