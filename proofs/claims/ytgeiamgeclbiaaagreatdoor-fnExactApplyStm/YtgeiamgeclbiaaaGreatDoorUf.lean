import Derived.Test.YtgeiamgeclbiaaaGreatDoorTj
import Derived.Test.YtgeiamgeclbiaaaGreatDoorTl
namespace Go.Proofs.YtgeiamgeclbiaaaGreatDoor
open Go.RowKit Go.Maps Go.WideMaps
set_option maxRecDepth 20000
set_option maxHeartbeats 16000000
abbrev qUf0:Oper:=⟨some 53,.move (.tmp 7),41,"l5_replay.go:182",#[],none⟩
abbrev qUf1:Oper:=⟨some 54,.move (.tmp 10),3,"l5_replay.go:182",#[],none⟩
abbrev qUf2:Oper:=⟨some 55,.slice 41 (.tmp 53) none (some (.tmp 54)) none,41,"l5_replay.go:182",#[⟨1,.data⟩,⟨2,.data⟩],none⟩
abbrev qUf3:Oper:=⟨some 57,.load 66 (.tmp 11),66,"l5_replay.go:182",#[],none⟩
abbrev qUf4:Oper:=⟨some 52,.buildSlice 41 0 #[],41,"l5_replay.go:182",#[],none⟩
abbrev qUf5:Oper:=⟨some 58,.buildSlice 41 1 #[(0,.tmp 57)],41,"l5_replay.go:182",#[⟨5,.data⟩],none⟩
abbrev qUf6:Oper:=⟨some 56,.call ⟨.builtin .append,#[.tmp 52,.tmp 55],#[41,41]⟩,41,"l5_replay.go:182",#[⟨0,.data⟩,⟨3,.data⟩],none⟩
abbrev qUf7:Oper:=⟨some 59,.call ⟨.builtin .append,#[.tmp 56,.tmp 58],#[41,41]⟩,41,"l5_replay.go:182",#[⟨4,.data⟩,⟨6,.data⟩,⟨4,.chain⟩],none⟩
abbrev qUf8:Oper:=⟨some 7,.assign (.tmp 59),41,"l5_replay.go:182",#[⟨7,.data⟩,⟨7,.chain⟩,⟨0,.phase⟩,⟨1,.phase⟩,⟨2,.phase⟩,⟨3,.phase⟩,⟨4,.phase⟩,⟨5,.phase⟩,⟨6,.phase⟩,⟨7,.phase⟩],none⟩
theorem own_weak{w:World}{b0 b1 e size n:Nat}{v:Value}{xs:List Value}(h:w.ownsRow b1 e size v n xs)(hb:b0<=b1):w.ownsRow b0 e size v n xs:=by
 obtain⟨hl,hh⟩:=h;refine⟨hl,?_⟩;rcases hh with hh | ⟨g,cap,cur,e1,e2,e3⟩
 · exact Or.inl hh
 · exact Or.inr ⟨g,cap,cur,e1,Nat.le_trans hb e2,e3⟩
theorem box3{W:World}{R:Nat}{x0 x1 x2:Value}{t:TypeId}(h:W.heap[R]?=some (.cells #[x0,x1,x2] t (0,0))):W.cell? ⟨R,0,none⟩=some x0/\W.cell? ⟨R,1,none⟩=some x1/\W.cell? ⟨R,2,none⟩=some x2/\W.frozen? ⟨R,0,none⟩=false/\W.frozen? ⟨R,1,none⟩=false/\W.frozen? ⟨R,2,none⟩=false:=
 ⟨cell_of_row _ _ 0 _ _ _ h,cell_of_row _ _ 1 _ _ _ h,cell_of_row _ _ 2 _ _ _ h,frozen_of_row _ _ 0 _ _ h,frozen_of_row _ _ 1 _ _ h,frozen_of_row _ _ 2 _ _ h⟩
theorem cell3_other{W:World}{q p i:Nat}{v0 v1 v2 u:Value}(hne:p≠q)(h:W.cell? ⟨p,i,none⟩=some u):(((W.setCell ⟨q,0,none⟩ v0).setCell ⟨q,1,none⟩ v1).setCell ⟨q,2,none⟩ v2).cell? ⟨p,i,none⟩=some u:=
 (World.cell?_of_block (a:=⟨p,i,none⟩) (((heap_setCell_other _ _ _ _ hne).trans (heap_setCell_other _ _ _ _ hne)).trans (heap_setCell_other _ _ _ _ hne))).trans h
theorem sVal5(ac:Option Addr)(n cc:Nat)(C:Nat->Clm)(ar:Option Addr)(cr:Nat)(R:Nat->Itm)(a:Option Addr)(m c:Nat)(I:Nat->Itm)(w:World)(hC:CL w ac n C)(hR:IL w ar n R)(hI:IL w a m I)(hn:n<=1048576)(hm:m<=100)(hx:ex I m=some 1)(hk0:(ck C n I m).2=0)(hz:∀ j,j<n->(R j).s.size<=200) :
 Calls Tryz.prog 28 #[.slice ac n cc,.slice ar n cr,.slice a m c] w fun e w'=>e=.returned (.agg #[.int .i64 (vlR C n R I m).o,.int .i64 (vlR C n R I m).m,.string (vlR C n R I m).s])/\Below w.heap.size w w':=by
 have HX:Hid (ex I m=some 1):=hx;have HK0:Hid ((ck C n I m).2=0):=hk0;have HSZ:Hid (∀ k,k<=m->sumS (vl C n R I k)<=200 * k):=vl_sum hz hx;clear hx hk0 hz;obtain⟨j0,hi,hz0,hz1,hz2⟩:=info_parts Tryz.infoVal;have HI:Hid (Tryz.prog.info? 66=some j0):=hi;clear hi;have HR0:Hid ((w.alloc (.cells #[.int .i64 0,.int .i64 0,.string ⟨#[]⟩] 66)).heap[w.heap.size]?=some (.cells #[.int .i64 0,.int .i64 0,.string ⟨#[]⟩] 66 (0,0))):=heap_alloc_new w _;have hsU:(w.alloc (.cells #[.int .i64 0,.int .i64 0,.string ⟨#[]⟩] 66)).heap.size=w.heap.size+1:=World.size_alloc _ _;have hb0:=bal (w.alloc (.cells #[.int .i64 0,.int .i64 0,.string ⟨#[]⟩] 66)) (.cells #[] 66);have hbU:=bal w (.cells #[.int .i64 0,.int .i64 0,.string ⟨#[]⟩] 66);have hO0:Sv ((w.alloc (.cells #[.int .i64 0,.int .i64 0,.string ⟨#[]⟩] 66)).alloc (.cells #[] 66)) (w.alloc (.cells #[.int .i64 0,.int .i64 0,.string ⟨#[]⟩] 66)).heap.size (w.alloc (.cells #[.int .i64 0,.int .i64 0,.string ⟨#[]⟩] 66)).heap.size 0 []:=World.ownsRow_made (w.alloc (.cells #[.int .i64 0,.int .i64 0,.string ⟨#[]⟩] 66)) #[] 0 (Nat.le_refl _) (by unfold maxLen;omega) rfl;have hCU:=hC.later hbU;have hRU:=hR.later hbU;have hIU:=hI.later hbU;go_enter Tryz.func28,Tryz.ntmps28
 go_wp2;go_loopw [7,9,10,11,15] (fun v _ _ _ i wr=>∃ (k g cap:Nat) (L:List Itm),k<=m/\i=.int .i64 k/\v=.slice (some ⟨g,0,none⟩) L.length cap/\vl C n R I k=L/\Sv wr (w.alloc (.cells #[.int .i64 0,.int .i64 0,.string ⟨#[]⟩] 66)).heap.size g cap L/\Below (w.alloc (.cells #[.int .i64 0,.int .i64 0,.string ⟨#[]⟩] 66)).heap.size (w.alloc (.cells #[.int .i64 0,.int .i64 0,.string ⟨#[]⟩] 66)) wr) (fun _ _ _ _ i _=>m - (intOf i).toNat)
 case atStart=>exact⟨0,w.heap.size+1,0,[],by omega,rfl,by first | rfl | (rw [hsU];rfl),rfl,by rw [←hsU];exact hO0,hb0⟩
 case round=>
  obtain⟨k,g,cap,L,hk,rfl,rfl,hvl,hO,hb⟩:=hrel;have HVL:Hid (vl C n R I k=L):=hvl;clear hvl;have hsw:=hb.size;by_cases hlt:k<m
  rotate_left
  ·
   obtain rfl:k=m:=by omega
   have HL:L.length=1:=by
    have:=vl_len (C:=C) (n:=n) (R:=R) HX.out;rw [HVL.out] at this;omega
   obtain⟨c0,c1,c2⟩:=hO.at (j:=0) (by omega);have hRr:=rowL HR0.out hb;obtain⟨r0,r1,r2,f0,f1,f2⟩:=box3 hRr;have h1:(0:Int)<L.length:=by omega
   obtain⟨x0,hx0⟩:∃ x,L.getD 0 d0=x:=⟨_,rfl⟩;have e:Hid (vlR C n R I k=x0):=by show _=_;unfold vlR;rw [HVL.out,←hx0]
   rw [hx0] at c0 c1 c2;simp only [Nat.zero_mul,Nat.zero_add] at c0 c1 c2
   clear hx0;go_wp2;refine bodyPost_ret (v:=.agg #[.int .i64 x0.o,.int .i64 x0.m,.string x0.s]) ?_ rfl ?_
   · exact results_cell_row Tryz.results28 _ _ w.heap.size 66 _ (0,0) _ rfl (row3 hRr _ _ _) Tryz.underlying66 rfl (by kernel_rfl)
   · exact⟨by rw [e.out],bset3 (bstep hbU hb) (Nat.le_refl _) _ _ _⟩
  obtain⟨d,hd,hok,had⟩:=ex_at HX.out hlt;have hlen:((L.length:Nat):Int)=d:=by
   have:=vl_len (C:=C) (n:=n) (R:=R) hd;rwa [HVL.out] at this
  have hll:=ex_le hd;have hsum:sumS L<=200 * k:=by
   have:=HSZ.out k (by omega);rwa [HVL.out] at this
  have hst:vl C n R I (k+1)=L.take (L.length - arN (I k).o) ++ [itV C n R (I k) (L.drop (L.length - arN (I k).o))]:=by
   rw [vl,HVL.out]
  have HCOL:Hid ((I k).o=3->∃ j,colI C (I k).s n=some j):=fun ho=>ck_col hlt HK0.out ho;obtain⟨b,off,rfl,c0,c1,c2,hs⟩:=hIU.later hb k hlt;obtain⟨o,mm,s,hIk⟩:∃ o mm s,I k=⟨o,mm,s⟩:=⟨_,_,_,rfl⟩;rw [hIk] at hok had hst c0 c1 c2 hs HCOL;simp only at hok had hst c0 c1 c2 hs HCOL
  have hop:=okItem_op hok;have ha:=arN_eq o;have hal:=arity_le o;obtain⟨j,hj⟩:∃ j:Nat,L.length - arN o=j:=⟨_,rfl⟩;rw [hj] at hst;have hj1:((L.length:Nat):Int) - arity o=(j:Nat):=by omega
  have hjl:j<=L.length:=by omega
  have hcp:=own_capV hO;have hjj:(j:Int)<=L.length:=by omega
  have hjc:(j:Int)<=cap:=by omega
  have hjc2:j<=cap:=by omega
  have HST:Hid (vl C n R I (k+1)=L.take j ++ [itV C n R ⟨o,mm,s⟩ (L.drop j)]):=hst;have hj100:j<=100:=by omega
  have HLE:Hid (((L.length:Nat):Int)=d/\L.length - arN o=j/\L.length<=100/\arity o<=((L.length - j:Nat):Int)):=⟨hlen,hj,by omega,by omega⟩;have hjn:0<=(j:Int):=by omega
  clear hst hIk hj ha had hd hok hlen;by_cases o1:o=1
  ·
   subst o1;have HT:Hid (itV C n R ⟨1,mm,s⟩ (L.drop j)=⟨1,mm,⟨#[]⟩⟩):=by show _=_;simp [itV]
   go_upto_region 14 with (go_at_call 66;refine(sArity (1) _).mono ?_;rintro e w3 ⟨rfl,rfl⟩)
   have hrow:((wr.alloc (.cells #[.int .i64 1,.int .i64 mm,.string s] 108)).alloc (.cells #[.int .i64 1,.int .i64 mm,.string ⟨#[]⟩] 66)).heap[wr.heap.size+1]?=some (.cells #[.int .i64 (1),.int .i64 (mm),.string (⟨#[]⟩)] 66 (0,0)):=(by have q:=heap_alloc_new (wr.alloc (.cells #[.int .i64 1,.int .i64 mm,.string s] 108)) (.cells #[.int .i64 1,.int .i64 mm,.string ⟨#[]⟩] 66);rw [World.size_alloc] at q;exact q);have hB4:Below wr.heap.size wr ((wr.alloc (.cells #[.int .i64 1,.int .i64 mm,.string s] 108)).alloc (.cells #[.int .i64 1,.int .i64 mm,.string ⟨#[]⟩] 66)):=bstep (bal _ _) (bal _ _);generalize ((wr.alloc (.cells #[.int .i64 1,.int .i64 mm,.string s] 108)).alloc (.cells #[.int .i64 1,.int .i64 mm,.string ⟨#[]⟩] 66))=w4 at hrow hB4 ⊢;have hO4:Sv w4 _ g cap L:=own_below hO hB4;have hb4:=bstep hb hB4;obtain⟨q0,q1,q2,-⟩:=box3 hrow;clear hB4;refine wp_region_held_drew (S:=fun x=>Below w4.heap.size w4 x) (by kernel_rfl) (bdrV _) (fun jH=>?_);generalize w4.drew=v at jH ⊢;refine tk 1 qUf0 (fun x jS=>by go_simp<;>rfl) jH ?_
   try simp only [zS]
   refine tk 2 qUf1 (fun x jS=>by go_simp<;>rfl) jH ?_
   try simp only [zS]
   refine tk 3 qUf2 (fun x jS=>by go_simp<;>rfl) jH ?_
   try simp only [zS]
   refine tk 5 qUf3 (fun x jS=>by have k0:=keepB jS q0;have k1:=keepB jS q1;have k2:=keepB jS q2;go_simp<;>rfl) jH ?_
   try simp only [zS]
   refine wpAnyH_ready (rs:=[0,6]) (by kernel_rfl) (by simp) ?_;refine(AllReadyH.cons (o:=qUf4) rfl (fun K hK=>?w5_c2) (AllReadyH.cons (o:=qUf5) rfl (fun K hK=>?w5_c1) AllReadyH.nil));case' w5_c2=>
    have hqE:=heap_alloc_new v (.cells #[] 66);have hbE:=bal v (.cells #[] 66);have hsE:=jH.size;have hE:(v.alloc (.cells #[] 66)).ownsRow w4.heap.size 66 3 (.slice (some ⟨v.heap.size,0,none⟩) 0 0) 0 []:=World.ownsRow_made v #[] 0 jH.size (by unfold maxLen;omega) rfl;go_simp;refine hK.out _ _ (bstep jH (bal _ _)) (fun jH=>?_);clear hK K;try simp only [zS]
    generalize v.heap.size=BE at hqE hsE hE ⊢;generalize v.alloc (.cells #[] 66)=v at hqE hbE hE jH ⊢;clear hbE;refine wpAnyH_ready (rs:=[4,6]) (by kernel_rfl) (by simp) ?_;refine(AllReadyH.cons (o:=qUf6) rfl (fun K hK=>?w5_c4) (AllReadyH.cons (o:=qUf5) rfl (fun K hK=>?w5_c3) AllReadyH.nil));case' w5_c4=>
     rw [if_pos (by kernel_rfl)];refine wp_append_own _ _ _ _ rfl w4.heap.size 66 j0 (.agg #[.int .i64 0,.int .i64 0,.string ByteArray.empty]) 3 32 Tryz.underlying41 HI.out hz0 hz1 hz2 rfl (by omega) (.slice (some ⟨BE,0,none⟩) 0 0) 0 [] rfl hE ⟨g,0,none⟩ j cap (vals (L.take j)) rfl (by rw [vals_len,List.length_take];omega) (Sv.news (own_below hO4 jH)) (vals_one _) (by unfold maxLen;omega) (by omega) jH.size ?_;intro v5 v hO5 hgr5 hnil5;obtain⟨g5,cap5,rfl⟩:=own_some hO5 (fun e=>by have:=hnil5.1 e;simp at this);rw [Nat.zero_add,List.nil_append] at hO5;have hlt5:=(hO5.lt g5 rfl).1;refine hK.out _ _ (gB jH hgr5 hsE) (fun jH=>?_);clear hK K hnil5;try simp only [zS]
     try simp only [Nat.zero_add]
     clear hgr5 hE;refine rd 6 qUf5 (fun K hK=>?_);have hqN:=heap_alloc_new v (.cells #[.int .i64 (1),.int .i64 (mm),.string (⟨#[]⟩)] 66);have hbN:=bal v (.cells #[.int .i64 (1),.int .i64 (mm),.string (⟨#[]⟩)] 66);have hsN:=jH.size;go_simp;refine hK.out _ _ (bstep jH (bal _ _)) (fun jH=>?_);clear hK K;try simp only [zS]
     generalize v.heap.size=BN at hqN hsN ⊢;generalize v.alloc (.cells #[.int .i64 (1),.int .i64 (mm),.string (⟨#[]⟩)] 66)=v at hqN hbN  jH ⊢;replace hO5:=own_below hO5 hbN;clear hbN;refine rd 7 qUf7 (fun K hK=>?_);rw [if_pos (by kernel_rfl)];refine wp_append_lies _ _ _ _ rfl w4.heap.size 66 j0 (.agg #[.int .i64 0,.int .i64 0,.string ByteArray.empty]) 3 32 Tryz.underlying41 HI.out hz0 hz1 hz2 rfl (by omega) (.slice (some ⟨g5,0,none⟩) j cap5) j (vals (L.take j)) rfl hO5 ⟨BN,0,none⟩ 1 1 (v3 ⟨1,mm,⟨#[]⟩⟩) rfl rfl (World.news_of_block hqN) (vals_one [⟨1,mm,⟨#[]⟩⟩]) (by omega) (by unfold maxLen;omega) (by omega) jH.size _ rfl ?_;intro g6 cap6 v hO6 hgr6 hat6 hlt6;refine hK.out _ _ (gB jH hgr6 hlt5) (fun jH=>?_);clear hK K hgr6 hat6;try simp only [zS]
     refine tk 8 qUf8 (fun x jS=>by go_simp<;>rfl) jH ?_
     try simp only [zS]
     refine wpAnyH_done (by kernel_rfl) ?_ _
    case' w5_c3=>
     have hqN:=heap_alloc_new v (.cells #[.int .i64 (1),.int .i64 (mm),.string (⟨#[]⟩)] 66);have hbN:=bal v (.cells #[.int .i64 (1),.int .i64 (mm),.string (⟨#[]⟩)] 66);have hsN:=jH.size;go_simp;refine hK.out _ _ (bstep jH (bal _ _)) (fun jH=>?_);clear hK K;try simp only [zS]
     have hnEN:BE≠v.heap.size:=Nat.ne_of_lt (Array.getElem?_eq_some_iff.1 hqE).1;generalize v.heap.size=BN at hqN hsN hnEN ⊢;generalize v.alloc (.cells #[.int .i64 (1),.int .i64 (mm),.string (⟨#[]⟩)] 66)=v at hqN hbN  jH ⊢;replace hE:=own_below hE hbN;clear hbN;refine rd 4 qUf6 (fun K hK=>?_);rw [if_pos (by kernel_rfl)];refine wp_append_own _ _ _ _ rfl w4.heap.size 66 j0 (.agg #[.int .i64 0,.int .i64 0,.string ByteArray.empty]) 3 32 Tryz.underlying41 HI.out hz0 hz1 hz2 rfl (by omega) (.slice (some ⟨BE,0,none⟩) 0 0) 0 [] rfl hE ⟨g,0,none⟩ j cap (vals (L.take j)) rfl (by rw [vals_len,List.length_take];omega) (Sv.news (own_below hO4 jH)) (vals_one _) (by unfold maxLen;omega) (by omega) jH.size ?_;intro v5 v hO5 hgr5 hnil5;obtain⟨g5,cap5,rfl⟩:=own_some hO5 (fun e=>by have:=hnil5.1 e;simp at this);rw [Nat.zero_add,List.nil_append] at hO5;have hlt5:=(hO5.lt g5 rfl).1;refine hK.out _ _ (gB jH hgr5 hsE) (fun jH=>?_);clear hK K hnil5;try simp only [zS]
     try simp only [Nat.zero_add]
     replace hqN:=rowK hqN hgr5 hnEN.symm;clear hgr5 hE;refine rd 7 qUf7 (fun K hK=>?_);rw [if_pos (by kernel_rfl)];refine wp_append_lies _ _ _ _ rfl w4.heap.size 66 j0 (.agg #[.int .i64 0,.int .i64 0,.string ByteArray.empty]) 3 32 Tryz.underlying41 HI.out hz0 hz1 hz2 rfl (by omega) (.slice (some ⟨g5,0,none⟩) j cap5) j (vals (L.take j)) rfl hO5 ⟨BN,0,none⟩ 1 1 (v3 ⟨1,mm,⟨#[]⟩⟩) rfl rfl (World.news_of_block hqN) (vals_one [⟨1,mm,⟨#[]⟩⟩]) (by omega) (by unfold maxLen;omega) (by omega) jH.size _ rfl ?_;intro g6 cap6 v hO6 hgr6 hat6 hlt6;refine hK.out _ _ (gB jH hgr6 hlt5) (fun jH=>?_);clear hK K hgr6 hat6;try simp only [zS]
     refine tk 8 qUf8 (fun x jS=>by go_simp<;>rfl) jH ?_
     try simp only [zS]
     refine wpAnyH_done (by kernel_rfl) ?_ _
   case' w5_c1=>
    have hqN:=heap_alloc_new v (.cells #[.int .i64 (1),.int .i64 (mm),.string (⟨#[]⟩)] 66);have hbN:=bal v (.cells #[.int .i64 (1),.int .i64 (mm),.string (⟨#[]⟩)] 66);have hsN:=jH.size;go_simp;refine hK.out _ _ (bstep jH (bal _ _)) (fun jH=>?_);clear hK K;try simp only [zS]
    generalize v.heap.size=BN at hqN hsN ⊢;generalize v.alloc (.cells #[.int .i64 (1),.int .i64 (mm),.string (⟨#[]⟩)] 66)=v at hqN hbN  jH ⊢;clear hbN;refine rd 0 qUf4 (fun K hK=>?_);have hqE:=heap_alloc_new v (.cells #[] 66);have hbE:=bal v (.cells #[] 66);have hsE:=jH.size;have hE:(v.alloc (.cells #[] 66)).ownsRow w4.heap.size 66 3 (.slice (some ⟨v.heap.size,0,none⟩) 0 0) 0 []:=World.ownsRow_made v #[] 0 jH.size (by unfold maxLen;omega) rfl;go_simp;refine hK.out _ _ (bstep jH (bal _ _)) (fun jH=>?_);clear hK K;try simp only [zS]
    have hnNE:BN≠v.heap.size:=Nat.ne_of_lt (Array.getElem?_eq_some_iff.1 hqN).1;generalize v.heap.size=BE at hqE hsE hE hnNE ⊢;generalize v.alloc (.cells #[] 66)=v at hqE hbE hE jH ⊢;replace hqN:=rowL hqN hbE;clear hbE;refine rd 4 qUf6 (fun K hK=>?_);rw [if_pos (by kernel_rfl)];refine wp_append_own _ _ _ _ rfl w4.heap.size 66 j0 (.agg #[.int .i64 0,.int .i64 0,.string ByteArray.empty]) 3 32 Tryz.underlying41 HI.out hz0 hz1 hz2 rfl (by omega) (.slice (some ⟨BE,0,none⟩) 0 0) 0 [] rfl hE ⟨g,0,none⟩ j cap (vals (L.take j)) rfl (by rw [vals_len,List.length_take];omega) (Sv.news (own_below hO4 jH)) (vals_one _) (by unfold maxLen;omega) (by omega) jH.size ?_;intro v5 v hO5 hgr5 hnil5;obtain⟨g5,cap5,rfl⟩:=own_some hO5 (fun e=>by have:=hnil5.1 e;simp at this);rw [Nat.zero_add,List.nil_append] at hO5;have hlt5:=(hO5.lt g5 rfl).1;refine hK.out _ _ (gB jH hgr5 hsE) (fun jH=>?_);clear hK K hnil5;try simp only [zS]
    try simp only [Nat.zero_add]
    replace hqN:=rowK hqN hgr5 hnNE;clear hgr5 hE;refine rd 7 qUf7 (fun K hK=>?_);rw [if_pos (by kernel_rfl)];refine wp_append_lies _ _ _ _ rfl w4.heap.size 66 j0 (.agg #[.int .i64 0,.int .i64 0,.string ByteArray.empty]) 3 32 Tryz.underlying41 HI.out hz0 hz1 hz2 rfl (by omega) (.slice (some ⟨g5,0,none⟩) j cap5) j (vals (L.take j)) rfl hO5 ⟨BN,0,none⟩ 1 1 (v3 ⟨1,mm,⟨#[]⟩⟩) rfl rfl (World.news_of_block hqN) (vals_one [⟨1,mm,⟨#[]⟩⟩]) (by omega) (by unfold maxLen;omega) (by omega) jH.size _ rfl ?_;intro g6 cap6 v hO6 hgr6 hat6 hlt6;refine hK.out _ _ (gB jH hgr6 hlt5) (fun jH=>?_);clear hK K hgr6 hat6;try simp only [zS]
    refine tk 8 qUf8 (fun x jS=>by go_simp<;>rfl) jH ?_
    try simp only [zS]
    refine wpAnyH_done (by kernel_rfl) ?_ _
   all_goals
    obtain⟨q1,q2⟩:=sv_end (r:=⟨1,mm,⟨#[]⟩⟩) hjl (own_weak hO6 hb4.size);have hb6:=bstep hb4 jH;go_wp2;go_roundw
    case rel=>exact⟨k+1,g6,cap6,L.take j ++ [⟨1,mm,⟨#[]⟩⟩],by omega,by go_num,by rw [q1],by rw [HST.out,HT.out],q2,hb6⟩
    case measure=>simp [intOf];omega
  by_cases o2:o=2
  ·
   subst o2;have HT:Hid (itV C n R ⟨2,mm,s⟩ (L.drop j)=⟨2,0,s⟩):=by show _=_;simp [itV]
   go_upto_region 14 with (go_at_call 66;refine(sArity (2) _).mono ?_;rintro e w3 ⟨rfl,rfl⟩)
   have hrow:((wr.alloc (.cells #[.int .i64 2,.int .i64 mm,.string s] 108)).alloc (.cells #[.int .i64 2,.int .i64 0,.string s] 66)).heap[wr.heap.size+1]?=some (.cells #[.int .i64 (2),.int .i64 (0),.string (s)] 66 (0,0)):=(by have q:=heap_alloc_new (wr.alloc (.cells #[.int .i64 2,.int .i64 mm,.string s] 108)) (.cells #[.int .i64 2,.int .i64 0,.string s] 66);rw [World.size_alloc] at q;exact q);have hB4:Below wr.heap.size wr ((wr.alloc (.cells #[.int .i64 2,.int .i64 mm,.string s] 108)).alloc (.cells #[.int .i64 2,.int .i64 0,.string s] 66)):=bstep (bal _ _) (bal _ _);generalize ((wr.alloc (.cells #[.int .i64 2,.int .i64 mm,.string s] 108)).alloc (.cells #[.int .i64 2,.int .i64 0,.string s] 66))=w4 at hrow hB4 ⊢;have hO4:Sv w4 _ g cap L:=own_below hO hB4;have hb4:=bstep hb hB4;obtain⟨q0,q1,q2,-⟩:=box3 hrow;clear hB4;refine wp_region_held_drew (S:=fun x=>Below w4.heap.size w4 x) (by kernel_rfl) (bdrV _) (fun jH=>?_);generalize w4.drew=v at jH ⊢;refine tk 1 qUf0 (fun x jS=>by go_simp<;>rfl) jH ?_
   try simp only [zS]
   refine tk 2 qUf1 (fun x jS=>by go_simp<;>rfl) jH ?_
   try simp only [zS]
   refine tk 3 qUf2 (fun x jS=>by go_simp<;>rfl) jH ?_
   try simp only [zS]
   refine tk 5 qUf3 (fun x jS=>by have k0:=keepB jS q0;have k1:=keepB jS q1;have k2:=keepB jS q2;go_simp<;>rfl) jH ?_
   try simp only [zS]
   refine wpAnyH_ready (rs:=[0,6]) (by kernel_rfl) (by simp) ?_;refine(AllReadyH.cons (o:=qUf4) rfl (fun K hK=>?w6_c2) (AllReadyH.cons (o:=qUf5) rfl (fun K hK=>?w6_c1) AllReadyH.nil));case' w6_c2=>
    have hqE:=heap_alloc_new v (.cells #[] 66);have hbE:=bal v (.cells #[] 66);have hsE:=jH.size;have hE:(v.alloc (.cells #[] 66)).ownsRow w4.heap.size 66 3 (.slice (some ⟨v.heap.size,0,none⟩) 0 0) 0 []:=World.ownsRow_made v #[] 0 jH.size (by unfold maxLen;omega) rfl;go_simp;refine hK.out _ _ (bstep jH (bal _ _)) (fun jH=>?_);clear hK K;try simp only [zS]
    generalize v.heap.size=BE at hqE hsE hE ⊢;generalize v.alloc (.cells #[] 66)=v at hqE hbE hE jH ⊢;clear hbE;refine wpAnyH_ready (rs:=[4,6]) (by kernel_rfl) (by simp) ?_;refine(AllReadyH.cons (o:=qUf6) rfl (fun K hK=>?w6_c4) (AllReadyH.cons (o:=qUf5) rfl (fun K hK=>?w6_c3) AllReadyH.nil));case' w6_c4=>
     rw [if_pos (by kernel_rfl)];refine wp_append_own _ _ _ _ rfl w4.heap.size 66 j0 (.agg #[.int .i64 0,.int .i64 0,.string ByteArray.empty]) 3 32 Tryz.underlying41 HI.out hz0 hz1 hz2 rfl (by omega) (.slice (some ⟨BE,0,none⟩) 0 0) 0 [] rfl hE ⟨g,0,none⟩ j cap (vals (L.take j)) rfl (by rw [vals_len,List.length_take];omega) (Sv.news (own_below hO4 jH)) (vals_one _) (by unfold maxLen;omega) (by omega) jH.size ?_;intro v5 v hO5 hgr5 hnil5;obtain⟨g5,cap5,rfl⟩:=own_some hO5 (fun e=>by have:=hnil5.1 e;simp at this);rw [Nat.zero_add,List.nil_append] at hO5;have hlt5:=(hO5.lt g5 rfl).1;refine hK.out _ _ (gB jH hgr5 hsE) (fun jH=>?_);clear hK K hnil5;try simp only [zS]
     try simp only [Nat.zero_add]
     clear hgr5 hE;refine rd 6 qUf5 (fun K hK=>?_);have hqN:=heap_alloc_new v (.cells #[.int .i64 (2),.int .i64 (0),.string (s)] 66);have hbN:=bal v (.cells #[.int .i64 (2),.int .i64 (0),.string (s)] 66);have hsN:=jH.size;go_simp;refine hK.out _ _ (bstep jH (bal _ _)) (fun jH=>?_);clear hK K;try simp only [zS]
     generalize v.heap.size=BN at hqN hsN ⊢;generalize v.alloc (.cells #[.int .i64 (2),.int .i64 (0),.string (s)] 66)=v at hqN hbN  jH ⊢;replace hO5:=own_below hO5 hbN;clear hbN;refine rd 7 qUf7 (fun K hK=>?_);rw [if_pos (by kernel_rfl)];refine wp_append_lies _ _ _ _ rfl w4.heap.size 66 j0 (.agg #[.int .i64 0,.int .i64 0,.string ByteArray.empty]) 3 32 Tryz.underlying41 HI.out hz0 hz1 hz2 rfl (by omega) (.slice (some ⟨g5,0,none⟩) j cap5) j (vals (L.take j)) rfl hO5 ⟨BN,0,none⟩ 1 1 (v3 ⟨2,0,s⟩) rfl rfl (World.news_of_block hqN) (vals_one [⟨2,0,s⟩]) (by omega) (by unfold maxLen;omega) (by omega) jH.size _ rfl ?_;intro g6 cap6 v hO6 hgr6 hat6 hlt6;refine hK.out _ _ (gB jH hgr6 hlt5) (fun jH=>?_);clear hK K hgr6 hat6;try simp only [zS]
     refine tk 8 qUf8 (fun x jS=>by go_simp<;>rfl) jH ?_
     try simp only [zS]
     refine wpAnyH_done (by kernel_rfl) ?_ _
    case' w6_c3=>
     have hqN:=heap_alloc_new v (.cells #[.int .i64 (2),.int .i64 (0),.string (s)] 66);have hbN:=bal v (.cells #[.int .i64 (2),.int .i64 (0),.string (s)] 66);have hsN:=jH.size;go_simp;refine hK.out _ _ (bstep jH (bal _ _)) (fun jH=>?_);clear hK K;try simp only [zS]
     have hnEN:BE≠v.heap.size:=Nat.ne_of_lt (Array.getElem?_eq_some_iff.1 hqE).1;generalize v.heap.size=BN at hqN hsN hnEN ⊢;generalize v.alloc (.cells #[.int .i64 (2),.int .i64 (0),.string (s)] 66)=v at hqN hbN  jH ⊢;replace hE:=own_below hE hbN;clear hbN;refine rd 4 qUf6 (fun K hK=>?_);rw [if_pos (by kernel_rfl)];refine wp_append_own _ _ _ _ rfl w4.heap.size 66 j0 (.agg #[.int .i64 0,.int .i64 0,.string ByteArray.empty]) 3 32 Tryz.underlying41 HI.out hz0 hz1 hz2 rfl (by omega) (.slice (some ⟨BE,0,none⟩) 0 0) 0 [] rfl hE ⟨g,0,none⟩ j cap (vals (L.take j)) rfl (by rw [vals_len,List.length_take];omega) (Sv.news (own_below hO4 jH)) (vals_one _) (by unfold maxLen;omega) (by omega) jH.size ?_;intro v5 v hO5 hgr5 hnil5;obtain⟨g5,cap5,rfl⟩:=own_some hO5 (fun e=>by have:=hnil5.1 e;simp at this);rw [Nat.zero_add,List.nil_append] at hO5;have hlt5:=(hO5.lt g5 rfl).1;refine hK.out _ _ (gB jH hgr5 hsE) (fun jH=>?_);clear hK K hnil5;try simp only [zS]
     try simp only [Nat.zero_add]
     replace hqN:=rowK hqN hgr5 hnEN.symm;clear hgr5 hE;refine rd 7 qUf7 (fun K hK=>?_);rw [if_pos (by kernel_rfl)];refine wp_append_lies _ _ _ _ rfl w4.heap.size 66 j0 (.agg #[.int .i64 0,.int .i64 0,.string ByteArray.empty]) 3 32 Tryz.underlying41 HI.out hz0 hz1 hz2 rfl (by omega) (.slice (some ⟨g5,0,none⟩) j cap5) j (vals (L.take j)) rfl hO5 ⟨BN,0,none⟩ 1 1 (v3 ⟨2,0,s⟩) rfl rfl (World.news_of_block hqN) (vals_one [⟨2,0,s⟩]) (by omega) (by unfold maxLen;omega) (by omega) jH.size _ rfl ?_;intro g6 cap6 v hO6 hgr6 hat6 hlt6;refine hK.out _ _ (gB jH hgr6 hlt5) (fun jH=>?_);clear hK K hgr6 hat6;try simp only [zS]
     refine tk 8 qUf8 (fun x jS=>by go_simp<;>rfl) jH ?_
     try simp only [zS]
     refine wpAnyH_done (by kernel_rfl) ?_ _
   case' w6_c1=>
    have hqN:=heap_alloc_new v (.cells #[.int .i64 (2),.int .i64 (0),.string (s)] 66);have hbN:=bal v (.cells #[.int .i64 (2),.int .i64 (0),.string (s)] 66);have hsN:=jH.size;go_simp;refine hK.out _ _ (bstep jH (bal _ _)) (fun jH=>?_);clear hK K;try simp only [zS]
    generalize v.heap.size=BN at hqN hsN ⊢;generalize v.alloc (.cells #[.int .i64 (2),.int .i64 (0),.string (s)] 66)=v at hqN hbN  jH ⊢;clear hbN;refine rd 0 qUf4 (fun K hK=>?_);have hqE:=heap_alloc_new v (.cells #[] 66);have hbE:=bal v (.cells #[] 66);have hsE:=jH.size;have hE:(v.alloc (.cells #[] 66)).ownsRow w4.heap.size 66 3 (.slice (some ⟨v.heap.size,0,none⟩) 0 0) 0 []:=World.ownsRow_made v #[] 0 jH.size (by unfold maxLen;omega) rfl;go_simp;refine hK.out _ _ (bstep jH (bal _ _)) (fun jH=>?_);clear hK K;try simp only [zS]
    have hnNE:BN≠v.heap.size:=Nat.ne_of_lt (Array.getElem?_eq_some_iff.1 hqN).1;generalize v.heap.size=BE at hqE hsE hE hnNE ⊢;generalize v.alloc (.cells #[] 66)=v at hqE hbE hE jH ⊢;replace hqN:=rowL hqN hbE;clear hbE;refine rd 4 qUf6 (fun K hK=>?_);rw [if_pos (by kernel_rfl)];refine wp_append_own _ _ _ _ rfl w4.heap.size 66 j0 (.agg #[.int .i64 0,.int .i64 0,.string ByteArray.empty]) 3 32 Tryz.underlying41 HI.out hz0 hz1 hz2 rfl (by omega) (.slice (some ⟨BE,0,none⟩) 0 0) 0 [] rfl hE ⟨g,0,none⟩ j cap (vals (L.take j)) rfl (by rw [vals_len,List.length_take];omega) (Sv.news (own_below hO4 jH)) (vals_one _) (by unfold maxLen;omega) (by omega) jH.size ?_;intro v5 v hO5 hgr5 hnil5;obtain⟨g5,cap5,rfl⟩:=own_some hO5 (fun e=>by have:=hnil5.1 e;simp at this);rw [Nat.zero_add,List.nil_append] at hO5;have hlt5:=(hO5.lt g5 rfl).1;refine hK.out _ _ (gB jH hgr5 hsE) (fun jH=>?_);clear hK K hnil5;try simp only [zS]
    try simp only [Nat.zero_add]
    replace hqN:=rowK hqN hgr5 hnNE;clear hgr5 hE;refine rd 7 qUf7 (fun K hK=>?_);rw [if_pos (by kernel_rfl)];refine wp_append_lies _ _ _ _ rfl w4.heap.size 66 j0 (.agg #[.int .i64 0,.int .i64 0,.string ByteArray.empty]) 3 32 Tryz.underlying41 HI.out hz0 hz1 hz2 rfl (by omega) (.slice (some ⟨g5,0,none⟩) j cap5) j (vals (L.take j)) rfl hO5 ⟨BN,0,none⟩ 1 1 (v3 ⟨2,0,s⟩) rfl rfl (World.news_of_block hqN) (vals_one [⟨2,0,s⟩]) (by omega) (by unfold maxLen;omega) (by omega) jH.size _ rfl ?_;intro g6 cap6 v hO6 hgr6 hat6 hlt6;refine hK.out _ _ (gB jH hgr6 hlt5) (fun jH=>?_);clear hK K hgr6 hat6;try simp only [zS]
    refine tk 8 qUf8 (fun x jS=>by go_simp<;>rfl) jH ?_
    try simp only [zS]
    refine wpAnyH_done (by kernel_rfl) ?_ _
   all_goals
    obtain⟨q1,q2⟩:=sv_end (r:=⟨2,0,s⟩) hjl (own_weak hO6 hb4.size);have hb6:=bstep hb4 jH;go_wp2;go_roundw
    case rel=>exact⟨k+1,g6,cap6,L.take j ++ [⟨2,0,s⟩],by omega,by go_num,by rw [q1],by rw [HST.out,HT.out],q2,hb6⟩
    case measure=>simp [intOf];omega
  by_cases o3:o=3
  ·
   subst o3;obtain⟨q,hcol⟩:=HCOL.out rfl;have HT:Hid (itV C n R ⟨3,mm,s⟩ (L.drop j)=⟨(R q).o,(R q).m,(R q).s⟩):=by show _=_;simp [itV,hcol]
   have HZ:colZ (colI C s n)=(q:Int):=by rw [hcol];rfl
   have hq:=(colI_lt hcol).1;have hq0:(0:Int)<=(q:Int):=by omega
   have hq1:(q:Int)<n:=by omega
   clear hcol;obtain⟨b2,off2,rfl,-⟩:=hRU q hq;have hbW:Below wr.heap.size wr ((wr.alloc (.cells #[.int .i64 3,.int .i64 mm,.string s] 108)).alloc (.cells #[.int .i64 1,.int .i64 mm,.string ⟨#[]⟩] 66)):=bstep (bal _ _) (bal _ _);have hrW:((wr.alloc (.cells #[.int .i64 3,.int .i64 mm,.string s] 108)).alloc (.cells #[.int .i64 1,.int .i64 mm,.string ⟨#[]⟩] 66)).heap[wr.heap.size+1]?=some _:=(by have q:=heap_alloc_new (wr.alloc (.cells #[.int .i64 3,.int .i64 mm,.string s] 108)) (.cells #[.int .i64 1,.int .i64 mm,.string ⟨#[]⟩] 66);rw [World.size_alloc] at q;exact q);go_upto_region 14 with first | (go_at_call 67;refine(sCol2 ac n cc C s _ (hCU.later (bstep hb hbW)) hn).mono ?_;rintro e w5 ⟨rfl,hb5⟩;rw [HZ];have hB5:=bstep hbW hb5;have hr5:=rowL hrW hb5;obtain⟨r0,r1,r2,f0,f1,f2⟩:=box3 hr5;obtain⟨b3,off3,e3,t0,t1,t2,hs3⟩:=hRU.later (bstep hb hB5) q hq;obtain⟨rfl,rfl⟩:b2=b3/\off2=off3:=(by simpa using e3);clear e3) | (go_at_call 66;refine(sArity (3) _).mono ?_;rintro e w3 ⟨rfl,rfl⟩)
   have hrow:(((w5.setCell ⟨wr.heap.size+1,0,none⟩ (.int .i64 (R q).o)).setCell ⟨wr.heap.size+1,1,none⟩ (.int .i64 (R q).m)).setCell ⟨wr.heap.size+1,2,none⟩ (.string (R q).s)).heap[wr.heap.size+1]?=some (.cells #[.int .i64 ((R q).o),.int .i64 ((R q).m),.string ((R q).s)] 66 (0,0)):=row3 hr5 _ _ _;have hB4:Below wr.heap.size wr (((w5.setCell ⟨wr.heap.size+1,0,none⟩ (.int .i64 (R q).o)).setCell ⟨wr.heap.size+1,1,none⟩ (.int .i64 (R q).m)).setCell ⟨wr.heap.size+1,2,none⟩ (.string (R q).s)):=bset3 hB5 (by omega) _ _ _;generalize (((w5.setCell ⟨wr.heap.size+1,0,none⟩ (.int .i64 (R q).o)).setCell ⟨wr.heap.size+1,1,none⟩ (.int .i64 (R q).m)).setCell ⟨wr.heap.size+1,2,none⟩ (.string (R q).s))=w4 at hrow hB4 ⊢;have hO4:Sv w4 _ g cap L:=own_below hO hB4;have hb4:=bstep hb hB4;obtain⟨q0,q1,q2,-⟩:=box3 hrow;clear hB4;refine wp_region_held_drew (S:=fun x=>Below w4.heap.size w4 x) (by kernel_rfl) (bdrV _) (fun jH=>?_);generalize w4.drew=v at jH ⊢;refine tk 1 qUf0 (fun x jS=>by go_simp<;>rfl) jH ?_
   try simp only [zS]
   refine tk 2 qUf1 (fun x jS=>by go_simp<;>rfl) jH ?_
   try simp only [zS]
   refine tk 3 qUf2 (fun x jS=>by go_simp<;>rfl) jH ?_
   try simp only [zS]
   refine tk 5 qUf3 (fun x jS=>by have k0:=keepB jS q0;have k1:=keepB jS q1;have k2:=keepB jS q2;go_simp<;>rfl) jH ?_
   try simp only [zS]
   refine wpAnyH_ready (rs:=[0,6]) (by kernel_rfl) (by simp) ?_;refine(AllReadyH.cons (o:=qUf4) rfl (fun K hK=>?w7_c2) (AllReadyH.cons (o:=qUf5) rfl (fun K hK=>?w7_c1) AllReadyH.nil));case' w7_c2=>
    have hqE:=heap_alloc_new v (.cells #[] 66);have hbE:=bal v (.cells #[] 66);have hsE:=jH.size;have hE:(v.alloc (.cells #[] 66)).ownsRow w4.heap.size 66 3 (.slice (some ⟨v.heap.size,0,none⟩) 0 0) 0 []:=World.ownsRow_made v #[] 0 jH.size (by unfold maxLen;omega) rfl;go_simp;refine hK.out _ _ (bstep jH (bal _ _)) (fun jH=>?_);clear hK K;try simp only [zS]
    generalize v.heap.size=BE at hqE hsE hE ⊢;generalize v.alloc (.cells #[] 66)=v at hqE hbE hE jH ⊢;clear hbE;refine wpAnyH_ready (rs:=[4,6]) (by kernel_rfl) (by simp) ?_;refine(AllReadyH.cons (o:=qUf6) rfl (fun K hK=>?w7_c4) (AllReadyH.cons (o:=qUf5) rfl (fun K hK=>?w7_c3) AllReadyH.nil));case' w7_c4=>
     rw [if_pos (by kernel_rfl)];refine wp_append_own _ _ _ _ rfl w4.heap.size 66 j0 (.agg #[.int .i64 0,.int .i64 0,.string ByteArray.empty]) 3 32 Tryz.underlying41 HI.out hz0 hz1 hz2 rfl (by omega) (.slice (some ⟨BE,0,none⟩) 0 0) 0 [] rfl hE ⟨g,0,none⟩ j cap (vals (L.take j)) rfl (by rw [vals_len,List.length_take];omega) (Sv.news (own_below hO4 jH)) (vals_one _) (by unfold maxLen;omega) (by omega) jH.size ?_;intro v5 v hO5 hgr5 hnil5;obtain⟨g5,cap5,rfl⟩:=own_some hO5 (fun e=>by have:=hnil5.1 e;simp at this);rw [Nat.zero_add,List.nil_append] at hO5;have hlt5:=(hO5.lt g5 rfl).1;refine hK.out _ _ (gB jH hgr5 hsE) (fun jH=>?_);clear hK K hnil5;try simp only [zS]
     try simp only [Nat.zero_add]
     clear hgr5 hE;refine rd 6 qUf5 (fun K hK=>?_);have hqN:=heap_alloc_new v (.cells #[.int .i64 ((R q).o),.int .i64 ((R q).m),.string ((R q).s)] 66);have hbN:=bal v (.cells #[.int .i64 ((R q).o),.int .i64 ((R q).m),.string ((R q).s)] 66);have hsN:=jH.size;go_simp;refine hK.out _ _ (bstep jH (bal _ _)) (fun jH=>?_);clear hK K;try simp only [zS]
     generalize v.heap.size=BN at hqN hsN ⊢;generalize v.alloc (.cells #[.int .i64 ((R q).o),.int .i64 ((R q).m),.string ((R q).s)] 66)=v at hqN hbN  jH ⊢;replace hO5:=own_below hO5 hbN;clear hbN;refine rd 7 qUf7 (fun K hK=>?_);rw [if_pos (by kernel_rfl)];refine wp_append_lies _ _ _ _ rfl w4.heap.size 66 j0 (.agg #[.int .i64 0,.int .i64 0,.string ByteArray.empty]) 3 32 Tryz.underlying41 HI.out hz0 hz1 hz2 rfl (by omega) (.slice (some ⟨g5,0,none⟩) j cap5) j (vals (L.take j)) rfl hO5 ⟨BN,0,none⟩ 1 1 (v3 ⟨(R q).o,(R q).m,(R q).s⟩) rfl rfl (World.news_of_block hqN) (vals_one [⟨(R q).o,(R q).m,(R q).s⟩]) (by omega) (by unfold maxLen;omega) (by omega) jH.size _ rfl ?_;intro g6 cap6 v hO6 hgr6 hat6 hlt6;refine hK.out _ _ (gB jH hgr6 hlt5) (fun jH=>?_);clear hK K hgr6 hat6;try simp only [zS]
     refine tk 8 qUf8 (fun x jS=>by go_simp<;>rfl) jH ?_
     try simp only [zS]
     refine wpAnyH_done (by kernel_rfl) ?_ _
    case' w7_c3=>
     have hqN:=heap_alloc_new v (.cells #[.int .i64 ((R q).o),.int .i64 ((R q).m),.string ((R q).s)] 66);have hbN:=bal v (.cells #[.int .i64 ((R q).o),.int .i64 ((R q).m),.string ((R q).s)] 66);have hsN:=jH.size;go_simp;refine hK.out _ _ (bstep jH (bal _ _)) (fun jH=>?_);clear hK K;try simp only [zS]
     have hnEN:BE≠v.heap.size:=Nat.ne_of_lt (Array.getElem?_eq_some_iff.1 hqE).1;generalize v.heap.size=BN at hqN hsN hnEN ⊢;generalize v.alloc (.cells #[.int .i64 ((R q).o),.int .i64 ((R q).m),.string ((R q).s)] 66)=v at hqN hbN  jH ⊢;replace hE:=own_below hE hbN;clear hbN;refine rd 4 qUf6 (fun K hK=>?_);rw [if_pos (by kernel_rfl)];refine wp_append_own _ _ _ _ rfl w4.heap.size 66 j0 (.agg #[.int .i64 0,.int .i64 0,.string ByteArray.empty]) 3 32 Tryz.underlying41 HI.out hz0 hz1 hz2 rfl (by omega) (.slice (some ⟨BE,0,none⟩) 0 0) 0 [] rfl hE ⟨g,0,none⟩ j cap (vals (L.take j)) rfl (by rw [vals_len,List.length_take];omega) (Sv.news (own_below hO4 jH)) (vals_one _) (by unfold maxLen;omega) (by omega) jH.size ?_;intro v5 v hO5 hgr5 hnil5;obtain⟨g5,cap5,rfl⟩:=own_some hO5 (fun e=>by have:=hnil5.1 e;simp at this);rw [Nat.zero_add,List.nil_append] at hO5;have hlt5:=(hO5.lt g5 rfl).1;refine hK.out _ _ (gB jH hgr5 hsE) (fun jH=>?_);clear hK K hnil5;try simp only [zS]
     try simp only [Nat.zero_add]
     replace hqN:=rowK hqN hgr5 hnEN.symm;clear hgr5 hE;refine rd 7 qUf7 (fun K hK=>?_);rw [if_pos (by kernel_rfl)];refine wp_append_lies _ _ _ _ rfl w4.heap.size 66 j0 (.agg #[.int .i64 0,.int .i64 0,.string ByteArray.empty]) 3 32 Tryz.underlying41 HI.out hz0 hz1 hz2 rfl (by omega) (.slice (some ⟨g5,0,none⟩) j cap5) j (vals (L.take j)) rfl hO5 ⟨BN,0,none⟩ 1 1 (v3 ⟨(R q).o,(R q).m,(R q).s⟩) rfl rfl (World.news_of_block hqN) (vals_one [⟨(R q).o,(R q).m,(R q).s⟩]) (by omega) (by unfold maxLen;omega) (by omega) jH.size _ rfl ?_;intro g6 cap6 v hO6 hgr6 hat6 hlt6;refine hK.out _ _ (gB jH hgr6 hlt5) (fun jH=>?_);clear hK K hgr6 hat6;try simp only [zS]
     refine tk 8 qUf8 (fun x jS=>by go_simp<;>rfl) jH ?_
     try simp only [zS]
     refine wpAnyH_done (by kernel_rfl) ?_ _
   case' w7_c1=>
    have hqN:=heap_alloc_new v (.cells #[.int .i64 ((R q).o),.int .i64 ((R q).m),.string ((R q).s)] 66);have hbN:=bal v (.cells #[.int .i64 ((R q).o),.int .i64 ((R q).m),.string ((R q).s)] 66);have hsN:=jH.size;go_simp;refine hK.out _ _ (bstep jH (bal _ _)) (fun jH=>?_);clear hK K;try simp only [zS]
    generalize v.heap.size=BN at hqN hsN ⊢;generalize v.alloc (.cells #[.int .i64 ((R q).o),.int .i64 ((R q).m),.string ((R q).s)] 66)=v at hqN hbN  jH ⊢;clear hbN;refine rd 0 qUf4 (fun K hK=>?_);have hqE:=heap_alloc_new v (.cells #[] 66);have hbE:=bal v (.cells #[] 66);have hsE:=jH.size;have hE:(v.alloc (.cells #[] 66)).ownsRow w4.heap.size 66 3 (.slice (some ⟨v.heap.size,0,none⟩) 0 0) 0 []:=World.ownsRow_made v #[] 0 jH.size (by unfold maxLen;omega) rfl;go_simp;refine hK.out _ _ (bstep jH (bal _ _)) (fun jH=>?_);clear hK K;try simp only [zS]
    have hnNE:BN≠v.heap.size:=Nat.ne_of_lt (Array.getElem?_eq_some_iff.1 hqN).1;generalize v.heap.size=BE at hqE hsE hE hnNE ⊢;generalize v.alloc (.cells #[] 66)=v at hqE hbE hE jH ⊢;replace hqN:=rowL hqN hbE;clear hbE;refine rd 4 qUf6 (fun K hK=>?_);rw [if_pos (by kernel_rfl)];refine wp_append_own _ _ _ _ rfl w4.heap.size 66 j0 (.agg #[.int .i64 0,.int .i64 0,.string ByteArray.empty]) 3 32 Tryz.underlying41 HI.out hz0 hz1 hz2 rfl (by omega) (.slice (some ⟨BE,0,none⟩) 0 0) 0 [] rfl hE ⟨g,0,none⟩ j cap (vals (L.take j)) rfl (by rw [vals_len,List.length_take];omega) (Sv.news (own_below hO4 jH)) (vals_one _) (by unfold maxLen;omega) (by omega) jH.size ?_;intro v5 v hO5 hgr5 hnil5;obtain⟨g5,cap5,rfl⟩:=own_some hO5 (fun e=>by have:=hnil5.1 e;simp at this);rw [Nat.zero_add,List.nil_append] at hO5;have hlt5:=(hO5.lt g5 rfl).1;refine hK.out _ _ (gB jH hgr5 hsE) (fun jH=>?_);clear hK K hnil5;try simp only [zS]
    try simp only [Nat.zero_add]
    replace hqN:=rowK hqN hgr5 hnNE;clear hgr5 hE;refine rd 7 qUf7 (fun K hK=>?_);rw [if_pos (by kernel_rfl)];refine wp_append_lies _ _ _ _ rfl w4.heap.size 66 j0 (.agg #[.int .i64 0,.int .i64 0,.string ByteArray.empty]) 3 32 Tryz.underlying41 HI.out hz0 hz1 hz2 rfl (by omega) (.slice (some ⟨g5,0,none⟩) j cap5) j (vals (L.take j)) rfl hO5 ⟨BN,0,none⟩ 1 1 (v3 ⟨(R q).o,(R q).m,(R q).s⟩) rfl rfl (World.news_of_block hqN) (vals_one [⟨(R q).o,(R q).m,(R q).s⟩]) (by omega) (by unfold maxLen;omega) (by omega) jH.size _ rfl ?_;intro g6 cap6 v hO6 hgr6 hat6 hlt6;refine hK.out _ _ (gB jH hgr6 hlt5) (fun jH=>?_);clear hK K hgr6 hat6;try simp only [zS]
    refine tk 8 qUf8 (fun x jS=>by go_simp<;>rfl) jH ?_
    try simp only [zS]
    refine wpAnyH_done (by kernel_rfl) ?_ _
   all_goals
    obtain⟨q1,q2⟩:=sv_end (r:=⟨(R q).o,(R q).m,(R q).s⟩) hjl (own_weak hO6 hb4.size);have hb6:=bstep hb4 jH;go_wp2;go_roundw
    case rel=>exact⟨k+1,g6,cap6,L.take j ++ [⟨(R q).o,(R q).m,(R q).s⟩],by omega,by go_num,by rw [q1],by rw [HST.out,HT.out],q2,hb6⟩
    case measure=>simp [intOf];omega
  obtain⟨x,hx⟩:∃ x,appI o (L.getD j d0) (L.getD (j+1) d0)=x:=⟨_,rfl⟩;have HT:Hid (itV C n R ⟨o,mm,s⟩ (L.drop j)=⟨x.o,x.m,x.s⟩):=by show _=_;rw [←hx];simp only [itV];rw [if_neg o1,if_neg o2,if_neg o3];simp
  have n1:(o == 1)=false:=by simpa using o1
  have n2:(o == 2)=false:=by simpa using o2
  have n3:(o == 3)=false:=by simpa using o3
  have h4:4<=o:=by omega
  have h13:=hop.2;have har:1<=arity o:=by unfold arity;split <;> (try split) <;> omega
  have hjL:j<L.length:=by have:=HLE.out;omega
  have hjc3:j<cap:=by omega
  have hjc4:(j:Int)<cap:=by omega
  have hbW:Below wr.heap.size wr ((wr.alloc (.cells #[.int .i64 o,.int .i64 mm,.string s] 108)).alloc (.cells #[.int .i64 1,.int .i64 mm,.string ⟨#[]⟩] 66)):=bstep (bal _ _) (bal _ _);have hrW:((wr.alloc (.cells #[.int .i64 o,.int .i64 mm,.string s] 108)).alloc (.cells #[.int .i64 1,.int .i64 mm,.string ⟨#[]⟩] 66)).heap[wr.heap.size+1]?=some _:=(by have q:=heap_alloc_new (wr.alloc (.cells #[.int .i64 o,.int .i64 mm,.string s] 108)) (.cells #[.int .i64 1,.int .i64 mm,.string ⟨#[]⟩] 66);rw [World.size_alloc] at q;exact q);have i9:((wr.alloc (.cells #[.int .i64 o,.int .i64 mm,.string s] 108)).alloc (.cells #[.int .i64 1,.int .i64 mm,.string ⟨#[]⟩] 66)).cell? ⟨wr.heap.size,0,none⟩=some (.int .i64 o):=keepB (bal _ _) ((box3 (heap_alloc_new wr _)).1);clear o1 o2 o3 har;go_upto_region 8 with (go_at_call 66;refine(sArity (o) _).mono ?_;rintro e w3 ⟨rfl,rfl⟩)
  refine wp_region_held_drew (S:=fun x=>Below wr.heap.size wr x/\x.cell? ⟨wr.heap.size,0,none⟩=some (.int .i64 o)) (by kernel_rfl) (⟨bstep hbW (bdrV _),i9⟩) (fun jH=>?_);refine tk 0 (⟨some 30,.fieldAddr 108 (.tmp 9) 0,0,"l5_replay.go:180",#[],none⟩:Oper) (fun x jS=>by go_simp<;>rfl) jH ?_
  try simp only [zS]
  refine tk 1 (⟨some 31,.load 3 (.tmp 30),3,"l5_replay.go:180",#[⟨0,.data⟩],none⟩:Oper) (fun x jS=>by have k0:=jS.2;go_simp<;>rfl) jH ?_
  try simp only [zS]
  refine tk 2 (⟨some 32,.move (.tmp 7),41,"l5_replay.go:180",#[],none⟩:Oper) (fun x jS=>by go_simp<;>rfl) jH ?_
  try simp only [zS]
  refine tk 3 (⟨some 33,.move (.tmp 10),3,"l5_replay.go:180",#[],none⟩:Oper) (fun x jS=>by go_simp<;>rfl) jH ?_
  try simp only [zS]
  refine tk 4 (⟨some 34,.slice 41 (.tmp 32) (some (.tmp 33)) none none,41,"l5_replay.go:180",#[⟨2,.data⟩,⟨3,.data⟩],none⟩:Oper) (fun x jS=>by go_simp<;>rfl) jH ?_
  try simp only [zS]
  refine rd 5 (⟨some 35,.call ⟨.value (.func 68),#[.tmp 31,.tmp 34],#[3,41]⟩,66,"l5_replay.go:180",#[⟨1,.data⟩,⟨4,.data⟩],none⟩:Oper) (fun K hK=>?_);go_simp;rw [if_neg (show ¬cap=j by omega)];have hApp:=sApply o (some ⟨g,j * 3,none⟩) (L.length - j) (cap - j) (fun i=>L.getD (j+i) d0) _ (Sv.il (own_below hO jH.1) (by omega) j) HLE.out.2.2.2 (by omega) h4 h13;rw [show appI o (L.getD (j+0) d0) (L.getD (j+1) d0)=x from hx] at hApp
  refine(hApp).mono ?_;rintro e w5 ⟨rfl,hb5⟩;have hr5:=rowL hrW (bstep (bdrV _) hb5);have hB5:=bstep jH.1 hb5;obtain⟨r0,r1,r2,f0,f1,f2⟩:=box3 hr5;refine hK.out _ _ (⟨hB5,keepB hb5 jH.2⟩) (fun jH=>?_);clear hK K;try simp only [zS]
  refine rd 6 (⟨none,.store 66 (.tmp 11) (.tmp 35),0,"l5_replay.go:180",#[⟨5,.data⟩,⟨5,.chain⟩,⟨0,.phase⟩,⟨1,.phase⟩,⟨2,.phase⟩,⟨3,.phase⟩,⟨4,.phase⟩,⟨5,.phase⟩],none⟩:Oper) (fun K hK=>?_);skip
  go_simp;refine hK.out _ _ (⟨bset3 jH.1 (by omega) _ _ _,cell3_other (by omega) jH.2⟩) (fun jH=>?_);clear hK K;try simp only [zS]
  refine wpAnyH_done (by kernel_rfl) ?_ _;clear jH;go_wp2;have hrow:(((w5.setCell ⟨wr.heap.size+1,0,none⟩ (.int .i64 x.o)).setCell ⟨wr.heap.size+1,1,none⟩ (.int .i64 x.m)).setCell ⟨wr.heap.size+1,2,none⟩ (.string x.s)).heap[wr.heap.size+1]?=some (.cells #[.int .i64 (x.o),.int .i64 (x.m),.string (x.s)] 66 (0,0)):=row3 hr5 _ _ _;have hB4:Below wr.heap.size wr (((w5.setCell ⟨wr.heap.size+1,0,none⟩ (.int .i64 x.o)).setCell ⟨wr.heap.size+1,1,none⟩ (.int .i64 x.m)).setCell ⟨wr.heap.size+1,2,none⟩ (.string x.s)):=bset3 hB5 (by omega) _ _ _;generalize (((w5.setCell ⟨wr.heap.size+1,0,none⟩ (.int .i64 x.o)).setCell ⟨wr.heap.size+1,1,none⟩ (.int .i64 x.m)).setCell ⟨wr.heap.size+1,2,none⟩ (.string x.s))=w4 at hrow hB4 ⊢;have hO4:Sv w4 _ g cap L:=own_below hO hB4;have hb4:=bstep hb hB4;obtain⟨q0,q1,q2,-⟩:=box3 hrow;clear hB4;refine wp_region_held_drew (S:=fun x=>Below w4.heap.size w4 x) (by kernel_rfl) (bdrV _) (fun jH=>?_);generalize w4.drew=v at jH ⊢;refine tk 1 qUf0 (fun x jS=>by go_simp<;>rfl) jH ?_
  try simp only [zS]
  refine tk 2 qUf1 (fun x jS=>by go_simp<;>rfl) jH ?_
  try simp only [zS]
  refine tk 3 qUf2 (fun x jS=>by go_simp<;>rfl) jH ?_
  try simp only [zS]
  refine tk 5 qUf3 (fun x jS=>by have k0:=keepB jS q0;have k1:=keepB jS q1;have k2:=keepB jS q2;go_simp<;>rfl) jH ?_
  try simp only [zS]
  refine wpAnyH_ready (rs:=[0,6]) (by kernel_rfl) (by simp) ?_;refine(AllReadyH.cons (o:=qUf4) rfl (fun K hK=>?w8_c2) (AllReadyH.cons (o:=qUf5) rfl (fun K hK=>?w8_c1) AllReadyH.nil));case' w8_c2=>
   have hqE:=heap_alloc_new v (.cells #[] 66);have hbE:=bal v (.cells #[] 66);have hsE:=jH.size;have hE:(v.alloc (.cells #[] 66)).ownsRow w4.heap.size 66 3 (.slice (some ⟨v.heap.size,0,none⟩) 0 0) 0 []:=World.ownsRow_made v #[] 0 jH.size (by unfold maxLen;omega) rfl;go_simp;refine hK.out _ _ (bstep jH (bal _ _)) (fun jH=>?_);clear hK K;try simp only [zS]
   generalize v.heap.size=BE at hqE hsE hE ⊢;generalize v.alloc (.cells #[] 66)=v at hqE hbE hE jH ⊢;clear hbE;refine wpAnyH_ready (rs:=[4,6]) (by kernel_rfl) (by simp) ?_;refine(AllReadyH.cons (o:=qUf6) rfl (fun K hK=>?w8_c4) (AllReadyH.cons (o:=qUf5) rfl (fun K hK=>?w8_c3) AllReadyH.nil));case' w8_c4=>
    rw [if_pos (by kernel_rfl)];refine wp_append_own _ _ _ _ rfl w4.heap.size 66 j0 (.agg #[.int .i64 0,.int .i64 0,.string ByteArray.empty]) 3 32 Tryz.underlying41 HI.out hz0 hz1 hz2 rfl (by omega) (.slice (some ⟨BE,0,none⟩) 0 0) 0 [] rfl hE ⟨g,0,none⟩ j cap (vals (L.take j)) rfl (by rw [vals_len,List.length_take];omega) (Sv.news (own_below hO4 jH)) (vals_one _) (by unfold maxLen;omega) (by omega) jH.size ?_;intro v5 v hO5 hgr5 hnil5;obtain⟨g5,cap5,rfl⟩:=own_some hO5 (fun e=>by have:=hnil5.1 e;simp at this);rw [Nat.zero_add,List.nil_append] at hO5;have hlt5:=(hO5.lt g5 rfl).1;refine hK.out _ _ (gB jH hgr5 hsE) (fun jH=>?_);clear hK K hnil5;try simp only [zS]
    try simp only [Nat.zero_add]
    clear hgr5 hE;refine rd 6 qUf5 (fun K hK=>?_);have hqN:=heap_alloc_new v (.cells #[.int .i64 (x.o),.int .i64 (x.m),.string (x.s)] 66);have hbN:=bal v (.cells #[.int .i64 (x.o),.int .i64 (x.m),.string (x.s)] 66);have hsN:=jH.size;go_simp;refine hK.out _ _ (bstep jH (bal _ _)) (fun jH=>?_);clear hK K;try simp only [zS]
    generalize v.heap.size=BN at hqN hsN ⊢;generalize v.alloc (.cells #[.int .i64 (x.o),.int .i64 (x.m),.string (x.s)] 66)=v at hqN hbN  jH ⊢;replace hO5:=own_below hO5 hbN;clear hbN;refine rd 7 qUf7 (fun K hK=>?_);rw [if_pos (by kernel_rfl)];refine wp_append_lies _ _ _ _ rfl w4.heap.size 66 j0 (.agg #[.int .i64 0,.int .i64 0,.string ByteArray.empty]) 3 32 Tryz.underlying41 HI.out hz0 hz1 hz2 rfl (by omega) (.slice (some ⟨g5,0,none⟩) j cap5) j (vals (L.take j)) rfl hO5 ⟨BN,0,none⟩ 1 1 (v3 ⟨x.o,x.m,x.s⟩) rfl rfl (World.news_of_block hqN) (vals_one [⟨x.o,x.m,x.s⟩]) (by omega) (by unfold maxLen;omega) (by omega) jH.size _ rfl ?_;intro g6 cap6 v hO6 hgr6 hat6 hlt6;refine hK.out _ _ (gB jH hgr6 hlt5) (fun jH=>?_);clear hK K hgr6 hat6;try simp only [zS]
    refine tk 8 qUf8 (fun x jS=>by go_simp<;>rfl) jH ?_
    try simp only [zS]
    refine wpAnyH_done (by kernel_rfl) ?_ _
   case' w8_c3=>
    have hqN:=heap_alloc_new v (.cells #[.int .i64 (x.o),.int .i64 (x.m),.string (x.s)] 66);have hbN:=bal v (.cells #[.int .i64 (x.o),.int .i64 (x.m),.string (x.s)] 66);have hsN:=jH.size;go_simp;refine hK.out _ _ (bstep jH (bal _ _)) (fun jH=>?_);clear hK K;try simp only [zS]
    have hnEN:BE≠v.heap.size:=Nat.ne_of_lt (Array.getElem?_eq_some_iff.1 hqE).1;generalize v.heap.size=BN at hqN hsN hnEN ⊢;generalize v.alloc (.cells #[.int .i64 (x.o),.int .i64 (x.m),.string (x.s)] 66)=v at hqN hbN  jH ⊢;replace hE:=own_below hE hbN;clear hbN;refine rd 4 qUf6 (fun K hK=>?_);rw [if_pos (by kernel_rfl)];refine wp_append_own _ _ _ _ rfl w4.heap.size 66 j0 (.agg #[.int .i64 0,.int .i64 0,.string ByteArray.empty]) 3 32 Tryz.underlying41 HI.out hz0 hz1 hz2 rfl (by omega) (.slice (some ⟨BE,0,none⟩) 0 0) 0 [] rfl hE ⟨g,0,none⟩ j cap (vals (L.take j)) rfl (by rw [vals_len,List.length_take];omega) (Sv.news (own_below hO4 jH)) (vals_one _) (by unfold maxLen;omega) (by omega) jH.size ?_;intro v5 v hO5 hgr5 hnil5;obtain⟨g5,cap5,rfl⟩:=own_some hO5 (fun e=>by have:=hnil5.1 e;simp at this);rw [Nat.zero_add,List.nil_append] at hO5;have hlt5:=(hO5.lt g5 rfl).1;refine hK.out _ _ (gB jH hgr5 hsE) (fun jH=>?_);clear hK K hnil5;try simp only [zS]
    try simp only [Nat.zero_add]
    replace hqN:=rowK hqN hgr5 hnEN.symm;clear hgr5 hE;refine rd 7 qUf7 (fun K hK=>?_);rw [if_pos (by kernel_rfl)];refine wp_append_lies _ _ _ _ rfl w4.heap.size 66 j0 (.agg #[.int .i64 0,.int .i64 0,.string ByteArray.empty]) 3 32 Tryz.underlying41 HI.out hz0 hz1 hz2 rfl (by omega) (.slice (some ⟨g5,0,none⟩) j cap5) j (vals (L.take j)) rfl hO5 ⟨BN,0,none⟩ 1 1 (v3 ⟨x.o,x.m,x.s⟩) rfl rfl (World.news_of_block hqN) (vals_one [⟨x.o,x.m,x.s⟩]) (by omega) (by unfold maxLen;omega) (by omega) jH.size _ rfl ?_;intro g6 cap6 v hO6 hgr6 hat6 hlt6;refine hK.out _ _ (gB jH hgr6 hlt5) (fun jH=>?_);clear hK K hgr6 hat6;try simp only [zS]
    refine tk 8 qUf8 (fun x jS=>by go_simp<;>rfl) jH ?_
    try simp only [zS]
    refine wpAnyH_done (by kernel_rfl) ?_ _
  case' w8_c1=>
   have hqN:=heap_alloc_new v (.cells #[.int .i64 (x.o),.int .i64 (x.m),.string (x.s)] 66);have hbN:=bal v (.cells #[.int .i64 (x.o),.int .i64 (x.m),.string (x.s)] 66);have hsN:=jH.size;go_simp;refine hK.out _ _ (bstep jH (bal _ _)) (fun jH=>?_);clear hK K;try simp only [zS]
   generalize v.heap.size=BN at hqN hsN ⊢;generalize v.alloc (.cells #[.int .i64 (x.o),.int .i64 (x.m),.string (x.s)] 66)=v at hqN hbN  jH ⊢;clear hbN;refine rd 0 qUf4 (fun K hK=>?_);have hqE:=heap_alloc_new v (.cells #[] 66);have hbE:=bal v (.cells #[] 66);have hsE:=jH.size;have hE:(v.alloc (.cells #[] 66)).ownsRow w4.heap.size 66 3 (.slice (some ⟨v.heap.size,0,none⟩) 0 0) 0 []:=World.ownsRow_made v #[] 0 jH.size (by unfold maxLen;omega) rfl;go_simp;refine hK.out _ _ (bstep jH (bal _ _)) (fun jH=>?_);clear hK K;try simp only [zS]
   have hnNE:BN≠v.heap.size:=Nat.ne_of_lt (Array.getElem?_eq_some_iff.1 hqN).1;generalize v.heap.size=BE at hqE hsE hE hnNE ⊢;generalize v.alloc (.cells #[] 66)=v at hqE hbE hE jH ⊢;replace hqN:=rowL hqN hbE;clear hbE;refine rd 4 qUf6 (fun K hK=>?_);rw [if_pos (by kernel_rfl)];refine wp_append_own _ _ _ _ rfl w4.heap.size 66 j0 (.agg #[.int .i64 0,.int .i64 0,.string ByteArray.empty]) 3 32 Tryz.underlying41 HI.out hz0 hz1 hz2 rfl (by omega) (.slice (some ⟨BE,0,none⟩) 0 0) 0 [] rfl hE ⟨g,0,none⟩ j cap (vals (L.take j)) rfl (by rw [vals_len,List.length_take];omega) (Sv.news (own_below hO4 jH)) (vals_one _) (by unfold maxLen;omega) (by omega) jH.size ?_;intro v5 v hO5 hgr5 hnil5;obtain⟨g5,cap5,rfl⟩:=own_some hO5 (fun e=>by have:=hnil5.1 e;simp at this);rw [Nat.zero_add,List.nil_append] at hO5;have hlt5:=(hO5.lt g5 rfl).1;refine hK.out _ _ (gB jH hgr5 hsE) (fun jH=>?_);clear hK K hnil5;try simp only [zS]
   try simp only [Nat.zero_add]
   replace hqN:=rowK hqN hgr5 hnNE;clear hgr5 hE;refine rd 7 qUf7 (fun K hK=>?_);rw [if_pos (by kernel_rfl)];refine wp_append_lies _ _ _ _ rfl w4.heap.size 66 j0 (.agg #[.int .i64 0,.int .i64 0,.string ByteArray.empty]) 3 32 Tryz.underlying41 HI.out hz0 hz1 hz2 rfl (by omega) (.slice (some ⟨g5,0,none⟩) j cap5) j (vals (L.take j)) rfl hO5 ⟨BN,0,none⟩ 1 1 (v3 ⟨x.o,x.m,x.s⟩) rfl rfl (World.news_of_block hqN) (vals_one [⟨x.o,x.m,x.s⟩]) (by omega) (by unfold maxLen;omega) (by omega) jH.size _ rfl ?_;intro g6 cap6 v hO6 hgr6 hat6 hlt6;refine hK.out _ _ (gB jH hgr6 hlt5) (fun jH=>?_);clear hK K hgr6 hat6;try simp only [zS]
   refine tk 8 qUf8 (fun x jS=>by go_simp<;>rfl) jH ?_
   try simp only [zS]
   refine wpAnyH_done (by kernel_rfl) ?_ _
  all_goals
   obtain⟨q1,q2⟩:=sv_end (r:=⟨x.o,x.m,x.s⟩) hjl (own_weak hO6 hb4.size);have hb6:=bstep hb4 jH;go_wp2;go_roundw
   case rel=>exact⟨k+1,g6,cap6,L.take j ++ [⟨x.o,x.m,x.s⟩],by omega,by go_num,by rw [q1],by rw [HST.out,HT.out],q2,hb6⟩
   case measure=>simp [intOf];omega
end Go.Proofs.YtgeiamgeclbiaaaGreatDoor
