import Derived.Test.YtgeiamgeclbiaaaGreatDoorUra
namespace Go.Proofs.YtgeiamgeclbiaaaGreatDoor
open Go.RowKit Go.Maps Go.WideMaps
set_option maxRecDepth 20000
set_option maxHeartbeats 16000000
theorem vlR_size{C:Nat->Clm}{n:Nat}{R I:Nat->Itm}{m:Nat}(hR:∀ j,j<n->(R j).s.size<=200)(hx:ex I m=some 1)(hm:m<=100)(h0:0<m):(vlR C n R I m).s.size<=1048576:=by
 have h1:=vl_sum (C:=C) hR hx m (Nat.le_refl _);have h2:=vl_len (C:=C) (n:=n) (R:=R) hx;have h3:=sumS_mem (L:=vl C n R I m) (k:=0) (by omega);unfold vlR;omega
theorem own_row{w:World}{G g cap n e sz:Nat}{xs:List Value}(h:w.ownsRow G e sz (.slice (some ⟨g,0,none⟩) n cap) n xs):∃ cur,w.heap[g]?=some (.cells cur e (0,0)):=by
 rcases h.2 with ⟨e,-⟩ | ⟨g',cap',cur,e,-,hrow,-⟩
 · simp at e
 ·
  obtain⟨rfl,rfl⟩:g=g'/\cap=cap':=by simpa using e
  exact⟨cur,hrow⟩
theorem own_froz{w:World}{G g cap n e sz:Nat}{xs:List Value}(h:w.ownsRow G e sz (.slice (some ⟨g,0,none⟩) n cap) n xs)(i:Nat):w.frozen? ⟨g,i,none⟩=false/\w.frozen? ⟨g,i+1,none⟩=false/\w.frozen? ⟨g,i+2,none⟩=false:=by
 obtain⟨cur,hr⟩:=own_row h;exact⟨frozen_of_row _ _ _ _ _ hr,frozen_of_row _ _ _ _ _ hr,frozen_of_row _ _ _ _ _ hr⟩
theorem il_cells{w:World}{g n q:Nat}{I:Nat->Itm}(h:IL w (some ⟨g,0,none⟩) n I)(hq:q<n):w.cell? ⟨g,q * 3,none⟩=some (.int .i64 (I q).o)/\w.cell? ⟨g,q * 3+1,none⟩=some (.int .i64 (I q).m)/\w.cell? ⟨g,q * 3+2,none⟩=some (.string (I q).s):=by
 obtain⟨b,off,e,c0,c1,c2,-⟩:=h q hq;obtain⟨rfl,rfl⟩:g=b/\0=off:=by simpa using e
 rw [Nat.zero_add] at c0 c1 c2;exact⟨c0,c1,c2⟩
theorem upd_same(F:Nat->Itm)(q:Nat)(v:Itm):upd F q v q=v:=if_pos rfl
theorem bigS_no{C:Nat->Clm}{n:Nat}{R:Nat->Nat->Itm}{E:Nat->Itm}{n5:Nat}{W:Nat->Itm}{n6:Nat}:∀ {k:Nat},bigS C n R E n5 W n6 k=false->∀ j,j<k->fitB C n (R j) W n6=true->(vlR C n (R j) E n5).s.size<=200
 | 0,_,j,hj,_=>by omega
 | k+1,h,j,hj,hf=>by
  rw [bigS,Bool.or_eq_false_iff] at h;by_cases e:j=k
  ·
   subst e;have h2:=h.2;rw [hf] at h2;simp only [Bool.true_and,decide_eq_false_iff_not] at h2
   omega
  · exact bigS_no h.1 j (by omega) hf
theorem chS_mem{C:Nat->Clm}{n:Nat}{m:Nat->Nat}{R:Nat->Nat->Itm}{q:Nat}{E:Nat->Itm}{n5:Nat}{W:Nat->Itm}{n6:Nat}{P:Rw->Prop}:∀ {k:Nat},(∀ j,j<k->P (m j,if fitB C n (R j) W n6=true then upd (R j) q (vlR C n (R j) E n5) else R j))->∀ x∈chS C n m R q E n5 W n6 k,P x
 | 0,_,x,hx=>by cases hx
 | k+1,h,x,hx=>by
  rw [chS,List.mem_append] at hx;rcases hx with hx | hx
  · exact chS_mem (fun j hj=>h j (by omega)) x hx
  ·
   simp only [List.mem_cons,List.not_mem_nil,or_false] at hx
   rw [hx];exact h k (by omega)
theorem ch_rows{C:Nat->Clm}{n:Nat}{m:Nat->Nat}{R:Nat->Nat->Itm}{q:Nat}{E:Nat->Itm}{n5:Nat}{W:Nat->Itm}{n6 k:Nat}(hN:Nice n k m R)(hb:bigS C n R E n5 W n6 k=false):∀ x∈chS C n m R q E n5 W n6 k,x.1=n/\∀ j,j<n->(x.2 j).s.size<=200:=by
 refine chS_mem (P:=fun x=>x.1=n/\∀ j,j<n->(x.2 j).s.size<=200) (fun j hj=>⟨hN.len j hj,fun i hi=>?_⟩);show ((if fitB C n (R j) W n6=true then upd (R j) q (vlR C n (R j) E n5) else R j) i).s.size<=200
 split
 ·
  rename_i hf
  unfold upd;split
  · exact bigS_no hb j hj hf
  · exact hN.txt j hj i hi
 · exact hN.txt j hj i hi
theorem sUpdate(a:Option Addr)(n c:Nat)(T:Nat->Td)(ds:ByteArray)(dn:Nat)(dC:Nat->Clm)(dr:Nat)(dm:Nat->Nat)(dR:Nat->Nat->Itm)(ac:Option Addr)(cc:Nat)(ar:Option Addr)(cr:Nat)(k0:Int)(tb:ByteArray)(a2:Option Addr)(n2 c2:Nat)(a3:Option Addr)(n3 c3:Nat)(col:ByteArray)(a5:Option Addr)(n5 c5:Nat)(a6:Option Addr)(n6 c6:Nat)(a7:Option Addr)(n7 c7:Nat)(E W:Nat->Itm)(w:World)(h:TL w a n T)(hC:CL w ac dn dC)(hR:OL w ar dr dm dR)(hE:IL w a5 n5 E)(hW:IL w a6 n6 W)(hn:n<=1000000)(hF:Fil n T)(hN:Nice dn dr dm dR)(hds:ds.size<=1048576)(hokE:okExp E n5=true)(hok:okWhere W n6=true) :
 Calls Tryz.prog 55 #[.agg #[.slice a n c],.agg #[.string ds,.slice ac dn cc,.slice ar dr cr],.agg #[.int .i64 k0,.string tb,.slice a2 n2 c2,.slice a3 n3 c3,.string col,.slice a5 n5 c5,.slice a6 n6 c6,.slice a7 n7 c7]] w (Ans w (upA T n ds dn dC dr dm dR col E n5 W n6).1 (upA T n ds dn dC dr dm dR col E n5 W n6).2):=by
 have HF:Hid (Fil n T):=hF;have HN:Hid (Nice dn dr dm dR):=hN;have HOK:Hid (okWhere W n6=true):=hok;obtain⟨h5a,h5b,h5c⟩:=okExp_out hokE;have H5:Hid (ex E n5=some 1):=h5c;have hn0:=hN.n0;have hn1:=hN.n1;have hr1:=hN.r1;clear hF hN hok hokE h5c;obtain⟨ek,ec,hck⟩:∃ ek ec,ckR dC dn E n5=(ek,ec):=⟨_,_,rfl⟩;obtain⟨cw,hcw⟩:∃ cw,cwR dC dn W n6=cw:=⟨_,rfl⟩;have HCK:Hid (∀ W',Below w.heap.size w W'->Calls Tryz.prog 57 #[.slice ac dn cc,.slice a5 n5 c5] W' (fun e w'=>e=.returned (.tuple #[.int .i64 ek,.int .i64 ec])/\Below W'.heap.size W' w')):=fun W' hW'=>by
  have:=sCheck ac dn cc dC a5 n5 c5 E W' (hC.later hW') (hE.later hW') hn1 h5a H5.out;rwa [hck] at this
 have HCW:Hid (∀ W',Below w.heap.size w W'->Calls Tryz.prog 58 #[.slice ac dn cc,.slice a6 n6 c6] W' (fun e w'=>e=.returned (.int .i64 cw)/\Below W'.heap.size W' w')):=fun W' hW'=>by
  have:=sCheckW ac dn cc dC a6 n6 c6 W W' (hC.later hW') (hW.later hW') hn1 HOK.out;rwa [hcw] at this
 have HCR:Hid (ckR dC dn E n5=(ek,ec)/\cwR dC dn W n6=cw):=⟨hck,hcw⟩;clear hck hcw;have hbU:Below w.heap.size w ((((w.alloc (.cells #[.slice a n c] 38)).alloc (.cells #[.string ds,.slice ac dn cc,.slice ar dr cr] 62)).alloc (.cells #[.int .i64 k0,.string tb,.slice a2 n2 c2,.slice a3 n3 c3,.string col,.slice a5 n5 c5,.slice a6 n6 c6,.slice a7 n7 c7] 45)).alloc (.cells #[.slice none 0 0] 38)):=bstep (below3 _ _ _ _) (bal _ _);have hsU:((((w.alloc (.cells #[.slice a n c] 38)).alloc (.cells #[.string ds,.slice ac dn cc,.slice ar dr cr] 62)).alloc (.cells #[.int .i64 k0,.string tb,.slice a2 n2 c2,.slice a3 n3 c3,.string col,.slice a5 n5 c5,.slice a6 n6 c6,.slice a7 n7 c7] 45)).alloc (.cells #[.slice none 0 0] 38)).heap.size=w.heap.size+4:=by rw [World.size_alloc,World.size_alloc,World.size_alloc,World.size_alloc]
 have hq0:((((w.alloc (.cells #[.slice a n c] 38)).alloc (.cells #[.string ds,.slice ac dn cc,.slice ar dr cr] 62)).alloc (.cells #[.int .i64 k0,.string tb,.slice a2 n2 c2,.slice a3 n3 c3,.string col,.slice a5 n5 c5,.slice a6 n6 c6,.slice a7 n7 c7] 45)).alloc (.cells #[.slice none 0 0] 38)).heap[w.heap.size]?=some (.cells #[.slice a n c] 38 (0,0)):=rowL (rowL (rowL (heap_alloc_new w _) (bal _ _)) (bal _ _)) (bal _ _);have hq1:((((w.alloc (.cells #[.slice a n c] 38)).alloc (.cells #[.string ds,.slice ac dn cc,.slice ar dr cr] 62)).alloc (.cells #[.int .i64 k0,.string tb,.slice a2 n2 c2,.slice a3 n3 c3,.string col,.slice a5 n5 c5,.slice a6 n6 c6,.slice a7 n7 c7] 45)).alloc (.cells #[.slice none 0 0] 38)).heap[w.heap.size+1]?=some (.cells #[.string ds,.slice ac dn cc,.slice ar dr cr] 62 (0,0)):=by
  have q:=heap_alloc_new (w.alloc (.cells #[.slice a n c] 38)) (.cells #[.string ds,.slice ac dn cc,.slice ar dr cr] 62);rw [World.size_alloc] at q;exact rowL (rowL q (bal _ _)) (bal _ _)
 have hq2:((((w.alloc (.cells #[.slice a n c] 38)).alloc (.cells #[.string ds,.slice ac dn cc,.slice ar dr cr] 62)).alloc (.cells #[.int .i64 k0,.string tb,.slice a2 n2 c2,.slice a3 n3 c3,.string col,.slice a5 n5 c5,.slice a6 n6 c6,.slice a7 n7 c7] 45)).alloc (.cells #[.slice none 0 0] 38)).heap[w.heap.size+1+1]?=some (.cells #[.int .i64 k0,.string tb,.slice a2 n2 c2,.slice a3 n3 c3,.string col,.slice a5 n5 c5,.slice a6 n6 c6,.slice a7 n7 c7] 45 (0,0)):=by
  have q:=heap_alloc_new ((w.alloc (.cells #[.slice a n c] 38)).alloc (.cells #[.string ds,.slice ac dn cc,.slice ar dr cr] 62)) (.cells #[.int .i64 k0,.string tb,.slice a2 n2 c2,.slice a3 n3 c3,.string col,.slice a5 n5 c5,.slice a6 n6 c6,.slice a7 n7 c7] 45);rw [World.size_alloc,World.size_alloc] at q;exact rowL q (bal _ _)
 have hq3:((((w.alloc (.cells #[.slice a n c] 38)).alloc (.cells #[.string ds,.slice ac dn cc,.slice ar dr cr] 62)).alloc (.cells #[.int .i64 k0,.string tb,.slice a2 n2 c2,.slice a3 n3 c3,.string col,.slice a5 n5 c5,.slice a6 n6 c6,.slice a7 n7 c7] 45)).alloc (.cells #[.slice none 0 0] 38)).heap[w.heap.size+1+1+1]?=some (.cells #[.slice none 0 0] 38 (0,0)):=by
  have q:=heap_alloc_new (((w.alloc (.cells #[.slice a n c] 38)).alloc (.cells #[.string ds,.slice ac dn cc,.slice ar dr cr] 62)).alloc (.cells #[.int .i64 k0,.string tb,.slice a2 n2 c2,.slice a3 n3 c3,.string col,.slice a5 n5 c5,.slice a6 n6 c6,.slice a7 n7 c7] 45)) (.cells #[.slice none 0 0] 38);rw [World.size_alloc,World.size_alloc,World.size_alloc] at q;exact q
 obtain⟨p0,-⟩:=box1 hq0;obtain⟨p1,p2,p3,-⟩:=box3 hq1;obtain⟨-,-,-,-,p4,p5,p6,-⟩:=box8 hq2;rcases hcol:colI dC col dn with _ | q
 ·
  have hz:colZ (colI dC col dn)=-1:=by rw [hcol];rfl
  have HA:Hid (upA T n ds dn dC dr dm dR col E n5 W n6=(tlL T n,3)):=by show _=_;unfold upA;rw [hcol]
  clear hcol;go_enter Tryz.func55,Tryz.ntmps55
  go_wp2_with (first | (go_at_call 67;refine(sCol2 _ dn cc dC col _ (hC.later hbU) hn1).mono ?_;rintro e w1 ⟨rfl,hb1⟩;rw [hz];have hB1:=bstep hbU hb1;have hs1:=hB1.size;have x0:=rowL hq0 hb1;have x1:=rowL hq1 hb1;have x2:=rowL hq2 hb1;have x3:=rowL hq3 hb1;obtain⟨xa,-⟩:=box1 x0;obtain⟨xb,xc,xd,-⟩:=box3 x1;obtain⟨-,-,-,-,xe,xf,xg,-⟩:=box8 x2) | (go_at_call 53;refine(sSame a n c T _ (h.later (hB1)) (by omega) HF.out).mono ?_;rintro e w9 ⟨a8,c8,rfl,hL8,hb8⟩;have s2:=rowL x3 hb8;obtain⟨z2,f2⟩:=box1 s2))
  refine bodyPost_ret (results_cell_tmp Tryz.results55 _ _ (w.heap.size+1+1+1) 38 _ (0,0) _ rfl (row1 s2 _) Tryz.underlying38 rfl (by kernel_rfl)) rfl ?_;rw [HA.out];exact ans_same hB1 hL8 hb8 (by omega) (by have:=hb1.size;omega) _
 have hz:colZ (colI dC col dn)=(q:Int):=by rw [hcol];rfl
 have hq:=(colI_lt hcol).1;have HUA:Hid (upA T n ds dn dC dr dm dR col E n5 W n6=if ¬upC dC dn q E n5 W n6=0 then (tlL T n,upC dC dn q E n5 W n6) else if bigS dC dn dR E n5 W n6 dr=true then (tlL T n,6) else if dupB (upRows dn dC dr dm dR q E n5 W n6) dr=true then (tlL T n,5) else (wtL T (tabR ds dn dC (upRows dn dC dr dm dR q E n5 W n6)) n,0)):=by show _=_;unfold upA;rw [hcol]
 clear hcol;have hqn:¬(q:Int)<0:=by omega
 have hqn0:(0:Int)<=q:=by omega
 have hqd:(q:Int)<dn:=by omega
 obtain⟨b2,off2,rfl,-⟩:=hC 0 hn0;by_cases e0:ec=0
 rotate_left
 ·
  have n0:(ec == 0)=false:=by simpa using e0
  have n1:(ec != 0)=true:=by simpa using e0
  have HA:Hid (upA T n ds dn dC dr dm dR col E n5 W n6=(tlL T n,ec)):=by
   show _=_
   have e1:upC dC dn q E n5 W n6=ec:=by unfold upC;rw [HCR.out.1,if_pos e0]
   rw [HUA.out,e1,if_pos e0]
  clear e0;go_enter Tryz.func55,Tryz.ntmps55
  go_wp2_with (first | (go_at_call 67;refine(sCol2 _ dn cc dC col _ (hC.later hbU) hn1).mono ?_;rintro e w1 ⟨rfl,hb1⟩;rw [hz];have hB1:=bstep hbU hb1;have hs1:=hB1.size;have x0:=rowL hq0 hb1;have x1:=rowL hq1 hb1;have x2:=rowL hq2 hb1;have x3:=rowL hq3 hb1;obtain⟨xa,-⟩:=box1 x0;obtain⟨xb,xc,xd,-⟩:=box3 x1;obtain⟨-,-,-,-,xe,xf,xg,-⟩:=box8 x2) | (go_at_call 57;refine(HCK.out _ hB1).mono ?_;rintro e w2 ⟨rfl,hb2⟩;have hB2:=bstep hB1 hb2;have hs2:=hB2.size;have hss2:=hb2.size;have y0:=rowL x0 hb2;have y1:=rowL x1 hb2;have y2:=rowL x2 hb2;have y3:=rowL x3 hb2;obtain⟨ya,-⟩:=box1 y0;obtain⟨yb,yc,yd,-⟩:=box3 y1;obtain⟨-,-,-,-,ye,yf,yg,-⟩:=box8 y2;obtain⟨b3,off3,e3,t0_,t1_,-⟩:=hC.later hB2 q hq;obtain⟨rfl,rfl⟩:b2=b3/\off2=off3:=(by simpa using e3);clear e3) | (go_at_call 53;refine(sSame a n c T _ (h.later (hB2)) (by omega) HF.out).mono ?_;rintro e w9 ⟨a8,c8,rfl,hL8,hb8⟩;have s2:=rowL y3 hb8;obtain⟨z2,f2⟩:=box1 s2))
  refine bodyPost_ret (results_cell_tmp Tryz.results55 _ _ (w.heap.size+1+1+1) 38 _ (0,0) _ rfl (row1 s2 _) Tryz.underlying38 rfl (by kernel_rfl)) rfl ?_;rw [HA.out];exact ans_same hB2 hL8 hb8 (by omega) (by have:=hb1.size;omega) _
 subst e0;obtain⟨tq,htq⟩:∃ tq,(dC q).t=tq:=⟨_,rfl⟩;by_cases e1:ek=tq
 rotate_left
 ·
  have n1:(ek != tq)=true:=by simpa using e1
  have HA:Hid (upA T n ds dn dC dr dm dR col E n5 W n6=(tlL T n,4)):=by
   show _=_
   have e2:upC dC dn q E n5 W n6=4:=by unfold upC;rw [HCR.out.1,htq,if_neg (by simp),if_pos e1]
   rw [HUA.out,e2,if_pos (by omega)]
  clear e1;go_enter Tryz.func55,Tryz.ntmps55
  go_wp2_with (first | (go_at_call 67;refine(sCol2 _ dn cc dC col _ (hC.later hbU) hn1).mono ?_;rintro e w1 ⟨rfl,hb1⟩;rw [hz];have hB1:=bstep hbU hb1;have hs1:=hB1.size;have x0:=rowL hq0 hb1;have x1:=rowL hq1 hb1;have x2:=rowL hq2 hb1;have x3:=rowL hq3 hb1;obtain⟨xa,-⟩:=box1 x0;obtain⟨xb,xc,xd,-⟩:=box3 x1;obtain⟨-,-,-,-,xe,xf,xg,-⟩:=box8 x2) | (go_at_call 57;refine(HCK.out _ hB1).mono ?_;rintro e w2 ⟨rfl,hb2⟩;have hB2:=bstep hB1 hb2;have hs2:=hB2.size;have hss2:=hb2.size;have y0:=rowL x0 hb2;have y1:=rowL x1 hb2;have y2:=rowL x2 hb2;have y3:=rowL x3 hb2;obtain⟨ya,-⟩:=box1 y0;obtain⟨yb,yc,yd,-⟩:=box3 y1;obtain⟨-,-,-,-,ye,yf,yg,-⟩:=box8 y2;obtain⟨b3,off3,e3,t0_,t1_,-⟩:=hC.later hB2 q hq;obtain⟨rfl,rfl⟩:b2=b3/\off2=off3:=(by simpa using e3);clear e3;rw [htq] at t1_) | (go_at_call 53;refine(sSame a n c T _ (h.later (hB2)) (by omega) HF.out).mono ?_;rintro e w9 ⟨a8,c8,rfl,hL8,hb8⟩;have s2:=rowL y3 hb8;obtain⟨z2,f2⟩:=box1 s2))
  refine bodyPost_ret (results_cell_tmp Tryz.results55 _ _ (w.heap.size+1+1+1) 38 _ (0,0) _ rfl (row1 s2 _) Tryz.underlying38 rfl (by kernel_rfl)) rfl ?_;rw [HA.out];exact ans_same hB2 hL8 hb8 (by omega) (by have:=hb1.size;omega) _
 subst e1;have HUC:Hid (upC dC dn q E n5 W n6=cw):=by show _=_;unfold upC;rw [HCR.out.1,HCR.out.2,htq,if_neg (by simp),if_neg (by simp)]
 by_cases e2:cw=0
 rotate_left
 ·
  have n1:(cw != 0)=true:=by simpa using e2
  have HA:Hid (upA T n ds dn dC dr dm dR col E n5 W n6=(tlL T n,cw)):=by show _=_;rw [HUA.out,HUC.out,if_pos e2]
  clear e2;go_enter Tryz.func55,Tryz.ntmps55
  go_wp2_with (first | (go_at_call 67;refine(sCol2 _ dn cc dC col _ (hC.later hbU) hn1).mono ?_;rintro e w1 ⟨rfl,hb1⟩;rw [hz];have hB1:=bstep hbU hb1;have hs1:=hB1.size;have x0:=rowL hq0 hb1;have x1:=rowL hq1 hb1;have x2:=rowL hq2 hb1;have x3:=rowL hq3 hb1;obtain⟨xa,-⟩:=box1 x0;obtain⟨xb,xc,xd,-⟩:=box3 x1;obtain⟨-,-,-,-,xe,xf,xg,-⟩:=box8 x2) | (go_at_call 57;refine(HCK.out _ hB1).mono ?_;rintro e w2 ⟨rfl,hb2⟩;have hB2:=bstep hB1 hb2;have hs2:=hB2.size;have hss2:=hb2.size;have y0:=rowL x0 hb2;have y1:=rowL x1 hb2;have y2:=rowL x2 hb2;have y3:=rowL x3 hb2;obtain⟨ya,-⟩:=box1 y0;obtain⟨yb,yc,yd,-⟩:=box3 y1;obtain⟨-,-,-,-,ye,yf,yg,-⟩:=box8 y2;obtain⟨b3,off3,e3,t0_,t1_,-⟩:=hC.later hB2 q hq;obtain⟨rfl,rfl⟩:b2=b3/\off2=off3:=(by simpa using e3);clear e3;rw [htq] at t1_) | (go_at_call 58;refine(HCW.out _ hB2).mono ?_;rintro e w3 ⟨rfl,hb3⟩;have hB3:=bstep hB2 hb3;have hs3:=hB3.size;have hss3:=hb3.size;have z0:=rowL y0 hb3;have z1:=rowL y1 hb3;have z2:=rowL y2 hb3;have z3:=rowL y3 hb3;obtain⟨za,-⟩:=box1 z0;obtain⟨zb,zc,zd,-⟩:=box3 z1;obtain⟨-,-,-,-,ze,zf,zg,-⟩:=box8 z2) | (go_at_call 53;refine(sSame a n c T _ (h.later (hB3)) (by omega) HF.out).mono ?_;rintro e w9 ⟨a8,c8,rfl,hL8,hb8⟩;have s2:=rowL z3 hb8;obtain⟨z2,f2⟩:=box1 s2))
  refine bodyPost_ret (results_cell_tmp Tryz.results55 _ _ (w.heap.size+1+1+1) 38 _ (0,0) _ rfl (row1 s2 _) Tryz.underlying38 rfl (by kernel_rfl)) rfl ?_;rw [HA.out];exact ans_same hB3 hL8 hb8 (by omega) (by have:=hb1.size;omega) _
 subst e2;have HC0:Hid (cwR dC dn W n6=0):=HCR.out.2;have HE0:Hid ((ck dC dn E n5).2=0):=ckR_ok (by rw [HCR.out.1]);obtain⟨jr,hir,hzr0,hzr1,hzr2⟩:=info_parts Tryz.infoRow;have HIr:Hid (Tryz.prog.info? 41=some jr):=hir;obtain⟨j3,hi3,hz30,hz31,hz32⟩:=info_parts Tryz.infoVal;have HI3:Hid (Tryz.prog.info? 66=some j3):=hi3;clear hir hi3;go_enter Tryz.func55,Tryz.ntmps55
 go_wp2_with (first | (go_at_call 67;refine(sCol2 _ dn cc dC col _ (hC.later hbU) hn1).mono ?_;rintro e w1 ⟨rfl,hb1⟩;rw [hz];have hB1:=bstep hbU hb1;have hs1:=hB1.size;have x0:=rowL hq0 hb1;have x1:=rowL hq1 hb1;have x2:=rowL hq2 hb1;have x3:=rowL hq3 hb1;obtain⟨xa,-⟩:=box1 x0;obtain⟨xb,xc,xd,-⟩:=box3 x1;obtain⟨-,-,-,-,xe,xf,xg,-⟩:=box8 x2) | (go_at_call 57;refine(HCK.out _ hB1).mono ?_;rintro e w2 ⟨rfl,hb2⟩;have hB2:=bstep hB1 hb2;have hs2:=hB2.size;have hss2:=hb2.size;have y0:=rowL x0 hb2;have y1:=rowL x1 hb2;have y2:=rowL x2 hb2;have y3:=rowL x3 hb2;obtain⟨ya,-⟩:=box1 y0;obtain⟨yb,yc,yd,-⟩:=box3 y1;obtain⟨-,-,-,-,ye,yf,yg,-⟩:=box8 y2;obtain⟨b3,off3,e3,t0_,t1_,-⟩:=hC.later hB2 q hq;obtain⟨rfl,rfl⟩:b2=b3/\off2=off3:=(by simpa using e3);clear e3;rw [htq] at t1_) | (go_at_call 58;refine(HCW.out _ hB2).mono ?_;rintro e w3 ⟨rfl,hb3⟩;have hB3:=bstep hB2 hb3;have hs3:=hB3.size;have hss3:=hb3.size;have z0:=rowL y0 hb3;have z1:=rowL y1 hb3;have z2:=rowL y2 hb3;have z3:=rowL y3 hb3;obtain⟨za,-⟩:=box1 z0;obtain⟨zb,zc,zd,-⟩:=box3 z1;obtain⟨-,-,-,-,ze,zf,zg,-⟩:=box8 z2;obtain⟨zz1,zz2,zz3,-⟩:=box3 (rowL z1 (bal w3 (.cells #[] 41)))))
 have hO0:(w3.alloc (.cells #[] 41)).ownsRow w3.heap.size 41 1 (.slice (some ⟨w3.heap.size,0,none⟩) 0 0) 0 []:=World.ownsRow_made w3 #[] 0 (Nat.le_refl _) (by unfold maxLen;omega) rfl;have hw3:w.heap.size+4<=w3.heap.size:=by have:=hb1.size;omega
 go_loopw [11,13,14,62] (fun v _ _ i wr=>∃ (k:Nat) (A:List Rw) (g cap:Nat) (f:Nat->List Value),k<=dr/\i=.int .i64 k/\v=.slice (some ⟨g,0,none⟩) A.length cap/\chS dC dn dm dR q E n5 W n6 k=A/\bigS dC dn dR E n5 W n6 k=false/\RO w3.heap.size (fun b=>w3.heap.size<=b) wr (.slice (some ⟨g,0,none⟩) A.length cap) A.length (fun i=>A.getD i _root_.Go.Proofs.YtgeiamgeclbiaaaGreatDoor.r0) f/\Below w3.heap.size w3 wr) (fun _ _ _ i _=>dr - (intOf i).toNat)
 case atStart=>exact⟨0,[],w3.heap.size,0,fun _=>[],by omega,rfl,rfl,rfl,rfl,GO.nil hO0,bal _ _⟩
 case round=>
  obtain⟨k,A,g,cap,f,hk,rfl,rfl,hch,hbg,hRO,hbr⟩:=hrel;have HCH:Hid (chS dC dn dm dR q E n5 W n6 k=A/\A.length=k/\bigS dC dn dR E n5 W n6 k=false):=⟨hch,by rw [←hch];exact chS_len,hbg⟩;have hAl:A.length<=1000000:=by rw [←hch,chS_len];omega
  clear hch hbg;have hbw:=bstep hB3 hbr;have hsr:=hbr.size;have q0:=rowL z0 hbr;have q1:=rowL z1 hbr;have q2:=rowL z2 hbr;have q3:=rowL z3 hbr;have hgl:=hRO.own.lt g rfl;by_cases hlt:k<dr
  ·
   obtain⟨bR,offR,ai,ci,rfl,d1,-,hI⟩:=ER.of hR hlt;have hmk:=HN.out.len k hlt;have d2:=keepB hbw d1;rw [hmk] at d2 hI;have HMK:Hid (dm k=dn):=hmk;clear hmk d1;obtain⟨br,offr,rfl,-⟩:=hI 0 hn0;have hkr:(k:Int)<dr:=by omega
   have HTX:=HN.out.txt k hlt;have HTXH:Hid (∀ j,j<dn->(dR k j).s.size<=200):=HTX;clear HTX;have HFT:Hid (∀ W',Below w.heap.size w W'->Calls Tryz.prog 27 #[.slice (some ⟨b2,off2,none⟩) dn cc,.slice (some ⟨br,offr,none⟩) dn ci,.slice a6 n6 c6] W' (fun e w'=>e=.returned (.bool (fitB dC dn (dR k) W n6))/\Below W'.heap.size W' w')):=fun W' hW'=>sFits _ dn cc dC _ ci (dR k) a6 n6 c6 W W' (hC.later hW') (hI.later hW') (hW.later hW') hn1 HOK.out HC0.out HTXH.out;have HVL:Hid (∀ W',Below w.heap.size w W'->Calls Tryz.prog 28 #[.slice (some ⟨b2,off2,none⟩) dn cc,.slice (some ⟨br,offr,none⟩) dn ci,.slice a5 n5 c5] W' (fun e w'=>e=.returned (.agg #[.int .i64 (vlR dC dn (dR k) E n5).o,.int .i64 (vlR dC dn (dR k) E n5).m,.string (vlR dC dn (dR k) E n5).s])/\Below W'.heap.size W' w')):=fun W' hW'=>sVal5 _ dn cc dC _ ci (dR k) a5 n5 c5 E W' (hC.later hW') (hI.later hW') (hE.later hW') hn1 h5a H5.out HE0.out HTXH.out;have hvx:(vlR dC dn (dR k) E n5).s.size<=1048576:=vlR_size HTXH.out H5.out h5a h5b;obtain⟨xo,xm,xs,hx⟩:∃ xo xm xs,vlR dC dn (dR k) E n5=⟨xo,xm,xs⟩:=⟨_,_,_,rfl⟩;obtain⟨fb,hfb⟩:∃ fb,fitB dC dn (dR k) W n6=fb:=⟨_,rfl⟩;have HST:Hid (chS dC dn dm dR q E n5 W n6 (k+1)=A ++ [(dm k,if fb=true then upd (dR k) q ⟨xo,xm,xs⟩ else dR k)]/\bigS dC dn dR E n5 W n6 (k+1)=(fb && decide (200<xs.size))):=by
    refine⟨?_,?_⟩
    · rw [chS,HCH.out.1,hfb,hx]
    · rw [bigS,HCH.out.2.2,hfb,hx];rfl
   rw [hfb] at HFT;rw [hx] at HVL hvx;simp only at HVL hvx
   clear hx hfb;have HOE:Hid ((wr.alloc (.cells #[] 66)).ownsRow wr.heap.size 66 3 (.slice (some ⟨wr.heap.size,0,none⟩) 0 0) 0 []):=World.ownsRow_made wr #[] 0 (Nat.le_refl _) (by unfold maxLen;omega) rfl;cases fb
   ·
    skip
    go_wp2_with (first | (at_builtin;have _h:=hRO6;refine wpList_append_lies _ rfl _ _ _ rfl w3.heap.size 41 jr (.slice none 0 0) 1 24 Tryz.underlying33 HIr.out hzr0 hzr1 hzr2 rfl (by omega) (.slice (some ⟨g,0,none⟩) A.length cap) A.length (flt f A.length) rfl (hRO6.later (bal _ _)).own ⟨w6.heap.size,0,none⟩ 1 1 [.slice (some ⟨g5,0,none⟩) dn cap5] rfl rfl HNW.out (ones _ rfl) (by omega) (by unfold maxLen;omega) (by omega) (by simp;omega) _ rfl ?_;intro g8 cap8 w8 hO8 hgr8 hat8 hlt8) | (go_at_call 27;have _h:=hb5;refine(HFT.out _ (bstep hbw hb5)).mono ?_;rintro e w6 ⟨rfl,hb6⟩;have hss6:=hb6.size;have v0:=rowL u0 hb6;have v1:=rowL u1 hb6;have v2:=rowL u2 hb6;have v3:=rowL u3 hb6;obtain⟨va,-⟩:=box1 v0;obtain⟨vb,vc,vd,-⟩:=box3 v1;obtain⟨-,-,-,-,ve,vf,vg,-⟩:=box8 v2;have hRO6:=hRO.later (bstep hb5 hb6);have HNW:Hid (∀ j u,([.slice (some ⟨g5,0,none⟩) dn cap5]:List Value)[j]?=some u->(w6.alloc (.cells #[.slice (some ⟨g5,0,none⟩) dn cap5] 41)).cell? ((⟨w6.heap.size,0,none⟩:Addr).add j)=some u):=World.news_of_block (heap_alloc_new w6 _)) | (at_builtin;refine wpList_append_own _ rfl _ _ 41 rfl wr.heap.size 66 j3 (.agg #[.int .i64 0,.int .i64 0,.string ByteArray.empty]) 3 32 Tryz.underlying41 HI3.out hz30 hz31 hz32 rfl (by omega) (.slice (some ⟨wr.heap.size,0,none⟩) 0 0) 0 [] rfl HOE.out ⟨br,offr,none⟩ dn ci (flt (fun j=>v3 (dR k j)) dn) rfl (len3 _ _) (IL.news (hI.later (bstep hbw (bal _ _)))) (one3 _ _) (by unfold maxLen;omega) (by omega) (by simp) ?_;intro v1 w5 hO5 hgr5 hnil5;obtain⟨g5,cap5,rfl⟩:=own_some hO5 (fun e=>by have:=hnil5.1 e;simp at this);rw [Nat.zero_add,List.nil_append] at hO5;replace hgr5:World.grownBy _ w5 (some wr.heap.size):=hgr5;have hb5:Below wr.heap.size wr w5:=gB (bal _ _) hgr5 (Nat.le_refl _);have hg5:=(hO5.lt g5 rfl).1;have hss5:=hb5.size;clear hnil5;have u0:=rowL q0 hb5;have u1:=rowL q1 hb5;have u2:=rowL q2 hb5;have u3:=rowL q3 hb5;obtain⟨ua,-⟩:=box1 u0;obtain⟨ub,uc,ud,-⟩:=box3 u1;obtain⟨-,-,-,-,ue,uf,ug,-⟩:=box8 u2))
    have hLt:Liv (fun b=>w3.heap.size<=b/\some b≠(Value.slice (some ⟨g,0,none⟩) A.length cap).ownBlock) w6 (ER [.slice (some ⟨g5,0,none⟩) dn cap5] (dm k,dR k)):=((own_il (own_below hO5 hb6) (fun j hj=>by have:=HTXH.out j hj;omega)).liv (fun b off e=>by
     obtain⟨rfl,-⟩:g5=b/\0=off:=by simpa using e
     refine⟨by omega,?_⟩;show some g5≠some g
     intro e2;have e3:g5=g:=Option.some.inj e2;omega)).imp (fun _ h=>⟨_,_,by rw [HMK.out],by rw [HMK.out];exact h,by rw [HMK.out];exact hn1⟩)
    have hP:=GO.snoc (x:=(dm k,dR k)) (hRO6.later (bal _ _)) (c:=[.slice (some ⟨g5,0,none⟩) dn cap5]) rfl (hLt.later (bal _ _)) hO8 hgr8 hat8;have hb8:=gB (bstep (bstep hbr (bstep hb5 hb6)) (bal _ _)) (r:=g) hgr8 hgl.1;have eA:(A ++ [(dm k,dR k)]).length=A.length+1:=by simp
    go_roundw
    case rel=>exact⟨k+1,A ++ [(dm k,dR k)],g8,cap8,_,by omega,by go_num,by rw [eA],by rw [HST.out.1];rfl,by rw [HST.out.2];rfl,hP,hb8⟩
    case measure=>simp [intOf];omega
   ·
    skip
    by_cases hbig:200<xs.size
    ·
     have hbig2:(200:Int)<xs.size:=by omega
     have HA:Hid (upA T n ds dn dC dr dm dR col E n5 W n6=(tlL T n,6)):=by
      show _=_
      rw [HUA.out,HUC.out,if_neg (by simp),if_pos (bigS_mono (k:=k+1) (by rw [HST.out.2];simpa using hbig) dr (by omega))]
     go_wp2_with (first | (go_at_call 53;refine(sSame a n c T _ (h.later (bstep hbw hbY)) (by omega) HF.out).mono ?_;rintro e w9 ⟨a8,c8,rfl,hL8,hb8⟩;have s2:=rowL t3 hb8;obtain⟨z2,f2⟩:=box1 s2) | (go_at_call 28;have _h:=hb6;refine(HVL.out _ (bstep hbw (bstep hb5 hb6))).mono ?_;rintro e w7 ⟨rfl,hb7⟩;have hss7:=hb7.size;have hO7:=own_below hO5 (bstep hb6 hb7);have hrow7:=own_row hO7;obtain⟨k0_,k1_,k2_⟩:=il_cells (own_il hO7 (fun j hj=>by have:=HTXH.out j hj;omega)) hq;obtain⟨fz0,fz1,fz2⟩:=own_froz hO7 (q * 3);have hbY:Below wr.heap.size wr (((w7.setCell ⟨g5,q * 3,none⟩ (.int .i64 xo)).setCell ⟨g5,q * 3+1,none⟩ (.int .i64 xm)).setCell ⟨g5,q * 3+2,none⟩ (.string xs)):=bset (bset (bset (bstep hb5 (bstep hb6 hb7)) hg5) hg5) hg5;have hILY:IL (((w7.setCell ⟨g5,q * 3,none⟩ (.int .i64 xo)).setCell ⟨g5,q * 3+1,none⟩ (.int .i64 xm)).setCell ⟨g5,q * 3+2,none⟩ (.string xs)) (some ⟨g5,0,none⟩) dn (upd (dR k) q ⟨xo,xm,xs⟩):=own_upd (I:=dR k) (x:=⟨xo,xm,xs⟩) hO7 (fun j hj=>by have:=HTXH.out j hj;omega) hvx hq;have hx2:=(il_cells hILY hq).2.2;rw [upd_same] at hx2;have hROY:=hRO.later hbY;have hsY:(((w7.setCell ⟨g5,q * 3,none⟩ (.int .i64 xo)).setCell ⟨g5,q * 3+1,none⟩ (.int .i64 xm)).setCell ⟨g5,q * 3+2,none⟩ (.string xs)).heap.size=w7.heap.size:=(by rw [World.size_setCell,World.size_setCell,World.size_setCell]);have t0:=rowL q0 hbY;have t1:=rowL q1 hbY;have t2:=rowL q2 hbY;have t3:=rowL q3 hbY;obtain⟨ta,-⟩:=box1 t0;obtain⟨tb,tc,td,-⟩:=box3 t1;obtain⟨-,-,-,-,te,tf,tg,-⟩:=box8 t2;have HNW:Hid (∀ j u,([.slice (some ⟨g5,0,none⟩) dn cap5]:List Value)[j]?=some u->((((w7.setCell ⟨g5,q * 3,none⟩ (.int .i64 xo)).setCell ⟨g5,q * 3+1,none⟩ (.int .i64 xm)).setCell ⟨g5,q * 3+2,none⟩ (.string xs)).alloc (.cells #[.slice (some ⟨g5,0,none⟩) dn cap5] 41)).cell? ((⟨w7.heap.size,0,none⟩:Addr).add j)=some u):=(by have:=World.news_of_block (heap_alloc_new (((w7.setCell ⟨g5,q * 3,none⟩ (.int .i64 xo)).setCell ⟨g5,q * 3+1,none⟩ (.int .i64 xm)).setCell ⟨g5,q * 3+2,none⟩ (.string xs)) (.cells #[.slice (some ⟨g5,0,none⟩) dn cap5] 41));rw [hsY] at this;exact this)) | (go_at_call 27;have _h:=hb5;refine(HFT.out _ (bstep hbw hb5)).mono ?_;rintro e w6 ⟨rfl,hb6⟩;have hss6:=hb6.size;have v0:=rowL u0 hb6;have v1:=rowL u1 hb6;have v2:=rowL u2 hb6;have v3:=rowL u3 hb6;obtain⟨va,-⟩:=box1 v0;obtain⟨vb,vc,vd,-⟩:=box3 v1;obtain⟨-,-,-,-,ve,vf,vg,-⟩:=box8 v2) | (at_builtin;refine wpList_append_own _ rfl _ _ 41 rfl wr.heap.size 66 j3 (.agg #[.int .i64 0,.int .i64 0,.string ByteArray.empty]) 3 32 Tryz.underlying41 HI3.out hz30 hz31 hz32 rfl (by omega) (.slice (some ⟨wr.heap.size,0,none⟩) 0 0) 0 [] rfl HOE.out ⟨br,offr,none⟩ dn ci (flt (fun j=>v3 (dR k j)) dn) rfl (len3 _ _) (IL.news (hI.later (bstep hbw (bal _ _)))) (one3 _ _) (by unfold maxLen;omega) (by omega) (by simp) ?_;intro v1 w5 hO5 hgr5 hnil5;obtain⟨g5,cap5,rfl⟩:=own_some hO5 (fun e=>by have:=hnil5.1 e;simp at this);rw [Nat.zero_add,List.nil_append] at hO5;replace hgr5:World.grownBy _ w5 (some wr.heap.size):=hgr5;have hb5:Below wr.heap.size wr w5:=gB (bal _ _) hgr5 (Nat.le_refl _);have hg5:=(hO5.lt g5 rfl).1;have hss5:=hb5.size;clear hnil5;have u0:=rowL q0 hb5;have u1:=rowL q1 hb5;have u2:=rowL q2 hb5;have u3:=rowL q3 hb5;obtain⟨ua,-⟩:=box1 u0;obtain⟨ub,uc,ud,-⟩:=box3 u1;obtain⟨-,-,-,-,ue,uf,ug,-⟩:=box8 u2))
     refine bodyPost_ret (results_cell_tmp Tryz.results55 _ _ (w.heap.size+1+1+1) 38 _ (0,0) _ rfl (row1 s2 _) Tryz.underlying38 rfl (by kernel_rfl)) rfl ?_;rw [HA.out];exact ans_same (bstep hbw hbY) hL8 hb8 (by omega) (by omega) _
    ·
     have hbig2:¬(200:Int)<xs.size:=by omega
     go_wp2_with (first | (at_builtin;have _h:=hROY;refine wpList_append_lies _ rfl _ _ _ rfl w3.heap.size 41 jr (.slice none 0 0) 1 24 Tryz.underlying33 HIr.out hzr0 hzr1 hzr2 rfl (by omega) (.slice (some ⟨g,0,none⟩) A.length cap) A.length (flt f A.length) rfl (hROY.later (bal _ _)).own ⟨w7.heap.size,0,none⟩ 1 1 [.slice (some ⟨g5,0,none⟩) dn cap5] rfl rfl HNW.out (ones _ rfl) (by omega) (by unfold maxLen;omega) (by omega) (by simp;omega) _ rfl ?_;intro g8 cap8 w8 hO8 hgr8 hat8 hlt8) | (go_at_call 28;have _h:=hb6;refine(HVL.out _ (bstep hbw (bstep hb5 hb6))).mono ?_;rintro e w7 ⟨rfl,hb7⟩;have hss7:=hb7.size;have hO7:=own_below hO5 (bstep hb6 hb7);have hrow7:=own_row hO7;obtain⟨k0_,k1_,k2_⟩:=il_cells (own_il hO7 (fun j hj=>by have:=HTXH.out j hj;omega)) hq;obtain⟨fz0,fz1,fz2⟩:=own_froz hO7 (q * 3);have hbY:Below wr.heap.size wr (((w7.setCell ⟨g5,q * 3,none⟩ (.int .i64 xo)).setCell ⟨g5,q * 3+1,none⟩ (.int .i64 xm)).setCell ⟨g5,q * 3+2,none⟩ (.string xs)):=bset (bset (bset (bstep hb5 (bstep hb6 hb7)) hg5) hg5) hg5;have hILY:IL (((w7.setCell ⟨g5,q * 3,none⟩ (.int .i64 xo)).setCell ⟨g5,q * 3+1,none⟩ (.int .i64 xm)).setCell ⟨g5,q * 3+2,none⟩ (.string xs)) (some ⟨g5,0,none⟩) dn (upd (dR k) q ⟨xo,xm,xs⟩):=own_upd (I:=dR k) (x:=⟨xo,xm,xs⟩) hO7 (fun j hj=>by have:=HTXH.out j hj;omega) hvx hq;have hx2:=(il_cells hILY hq).2.2;rw [upd_same] at hx2;have hROY:=hRO.later hbY;have hsY:(((w7.setCell ⟨g5,q * 3,none⟩ (.int .i64 xo)).setCell ⟨g5,q * 3+1,none⟩ (.int .i64 xm)).setCell ⟨g5,q * 3+2,none⟩ (.string xs)).heap.size=w7.heap.size:=(by rw [World.size_setCell,World.size_setCell,World.size_setCell]);have t0:=rowL q0 hbY;have t1:=rowL q1 hbY;have t2:=rowL q2 hbY;have t3:=rowL q3 hbY;obtain⟨ta,-⟩:=box1 t0;obtain⟨tb,tc,td,-⟩:=box3 t1;obtain⟨-,-,-,-,te,tf,tg,-⟩:=box8 t2;have HNW:Hid (∀ j u,([.slice (some ⟨g5,0,none⟩) dn cap5]:List Value)[j]?=some u->((((w7.setCell ⟨g5,q * 3,none⟩ (.int .i64 xo)).setCell ⟨g5,q * 3+1,none⟩ (.int .i64 xm)).setCell ⟨g5,q * 3+2,none⟩ (.string xs)).alloc (.cells #[.slice (some ⟨g5,0,none⟩) dn cap5] 41)).cell? ((⟨w7.heap.size,0,none⟩:Addr).add j)=some u):=(by have:=World.news_of_block (heap_alloc_new (((w7.setCell ⟨g5,q * 3,none⟩ (.int .i64 xo)).setCell ⟨g5,q * 3+1,none⟩ (.int .i64 xm)).setCell ⟨g5,q * 3+2,none⟩ (.string xs)) (.cells #[.slice (some ⟨g5,0,none⟩) dn cap5] 41));rw [hsY] at this;exact this)) | (go_at_call 27;have _h:=hb5;refine(HFT.out _ (bstep hbw hb5)).mono ?_;rintro e w6 ⟨rfl,hb6⟩;have hss6:=hb6.size;have v0:=rowL u0 hb6;have v1:=rowL u1 hb6;have v2:=rowL u2 hb6;have v3:=rowL u3 hb6;obtain⟨va,-⟩:=box1 v0;obtain⟨vb,vc,vd,-⟩:=box3 v1;obtain⟨-,-,-,-,ve,vf,vg,-⟩:=box8 v2) | (at_builtin;refine wpList_append_own _ rfl _ _ 41 rfl wr.heap.size 66 j3 (.agg #[.int .i64 0,.int .i64 0,.string ByteArray.empty]) 3 32 Tryz.underlying41 HI3.out hz30 hz31 hz32 rfl (by omega) (.slice (some ⟨wr.heap.size,0,none⟩) 0 0) 0 [] rfl HOE.out ⟨br,offr,none⟩ dn ci (flt (fun j=>v3 (dR k j)) dn) rfl (len3 _ _) (IL.news (hI.later (bstep hbw (bal _ _)))) (one3 _ _) (by unfold maxLen;omega) (by omega) (by simp) ?_;intro v1 w5 hO5 hgr5 hnil5;obtain⟨g5,cap5,rfl⟩:=own_some hO5 (fun e=>by have:=hnil5.1 e;simp at this);rw [Nat.zero_add,List.nil_append] at hO5;replace hgr5:World.grownBy _ w5 (some wr.heap.size):=hgr5;have hb5:Below wr.heap.size wr w5:=gB (bal _ _) hgr5 (Nat.le_refl _);have hg5:=(hO5.lt g5 rfl).1;have hss5:=hb5.size;clear hnil5;have u0:=rowL q0 hb5;have u1:=rowL q1 hb5;have u2:=rowL q2 hb5;have u3:=rowL q3 hb5;obtain⟨ua,-⟩:=box1 u0;obtain⟨ub,uc,ud,-⟩:=box3 u1;obtain⟨-,-,-,-,ue,uf,ug,-⟩:=box8 u2))
     have hLt:Liv (fun b=>w3.heap.size<=b/\some b≠(Value.slice (some ⟨g,0,none⟩) A.length cap).ownBlock) (((w7.setCell ⟨g5,q * 3,none⟩ (.int .i64 xo)).setCell ⟨g5,q * 3+1,none⟩ (.int .i64 xm)).setCell ⟨g5,q * 3+2,none⟩ (.string xs)) (ER [.slice (some ⟨g5,0,none⟩) dn cap5] (dm k,upd (dR k) q ⟨xo,xm,xs⟩)):=((hILY).liv (fun b off e=>by
      obtain⟨rfl,-⟩:g5=b/\0=off:=by simpa using e
      refine⟨by omega,?_⟩;show some g5≠some g
      intro e2;have e3:g5=g:=Option.some.inj e2;omega)).imp (fun _ h=>⟨_,_,by rw [HMK.out],by rw [HMK.out];exact h,by rw [HMK.out];exact hn1⟩)
     have hP:=GO.snoc (x:=(dm k,upd (dR k) q ⟨xo,xm,xs⟩)) (hROY.later (bal _ _)) (c:=[.slice (some ⟨g5,0,none⟩) dn cap5]) rfl (hLt.later (bal _ _)) hO8 hgr8 hat8;have hb8:=gB (bstep (bstep hbr hbY) (bal _ _)) (r:=g) hgr8 hgl.1;have eA:(A ++ [(dm k,upd (dR k) q ⟨xo,xm,xs⟩)]).length=A.length+1:=by simp
     go_roundw
     case rel=>exact⟨k+1,A ++ [(dm k,upd (dR k) q ⟨xo,xm,xs⟩)],g8,cap8,_,by omega,by go_num,by rw [eA],by rw [HST.out.1];rfl,by rw [HST.out.2];simpa using hbig,hP,hb8⟩
     case measure=>simp [intOf];omega
  ·
   obtain rfl:k=dr:=by omega
   obtain⟨S,hS⟩:∃ S,srt k A=S:=⟨_,rfl⟩;have HAM:Hid (∀ x∈A,x.1=dn/\∀ j,j<dn->(x.2 j).s.size<=200):=by
    have:=ch_rows (C:=dC) (q:=q) (E:=E) (n5:=n5) (W:=W) (n6:=n6) HN.out HCH.out.2.2;rwa [HCH.out.1] at this
   have HSM:Hid (∀ x∈S,x.1=dn/\∀ j,j<dn->(x.2 j).s.size<=200):=by rw [←hS];exact srt_mem _ _ HAM.out
   have HSN:Hid (∀ x∈S,0<x.1):=fun x hx=>by rw [(HSM.out x hx).1];exact hn0
   have HUR:Hid (upRows dn dC k dm dR q E n5 W n6=S/\S.length=k):=by
    refine⟨?_,?_⟩
    · unfold upRows;rw [HCH.out.1];exact hS
    · rw [←hS,srt_len];exact HCH.out.2.1
   have hSl:S.length<=1000000:=by have:=HUR.out.2;omega
   obtain⟨a',c',e',hOD⟩:=RO.od (D':=fun b=>w3.heap.size<=b) hRO (fun b h=>h) (fun b h=>h);obtain⟨rfl,rfl⟩:some ⟨g,0,none⟩=a'/\cap=c':=by simpa using e'
   have HSort:=sSort (fun b=>w3.heap.size<=b) k A (some ⟨g,0,none⟩) cap wr (by have:=HCH.out.2.1;omega) hAl (own_cap2 hRO.own) hOD (fun x hx=>by rw [(HAM.out x hx).1];exact hn0) (fun b hb=>by omega);rw [hS] at HSort;clear hS hOD e';obtain⟨wo,hwo⟩:∃ v,v=wr:=⟨_,rfl⟩;subst hwo;go_wp2_with (first | (go_at_call 105;refine HSort.mono ?_;rintro e w10 ⟨a10,c10,rfl,hc10,hOD10,hb10⟩))
   have hss10:=hb10.size;go_loopw [16] (fun v wr=>∃ i:Nat,1<=i/\(i<=S.length∨i=1)/\v=.int .i64 i/\dupB S i=false/\Below w10.heap.size w10 wr) (fun v _=>S.length - (intOf v).toNat)
   case atStart=>exact⟨1,Nat.le_refl _,Or.inr rfl,rfl,by simp [dupB],Below.refl _ _⟩
   case round=>
    obtain⟨i,hi1,hi2,rfl,hdp,hbq⟩:=hrel;have HDP:Hid (dupB S i=false/\(i<=S.length∨i=1)):=⟨hdp,hi2⟩;clear hdp hi2;have hbt:=bstep hb10 hbq;have hbW:=bstep hbw hbt;have hsq:=hbq.size;have t0:=rowL q0 hbt;have t1:=rowL q1 hbt;have t3:=rowL q3 hbt;obtain⟨ta,-⟩:=box1 t0;obtain⟨tb_,tc_,td_,tf1,tf2,tf3⟩:=box3 t1;have hODq:=hOD10.later hbq;by_cases hil:i<S.length
    ·
     obtain⟨p,hp⟩:∃ p,i=p+1:=⟨i - 1,by omega⟩;obtain⟨bA,offA,cA,bqA,offqA,mA,FA,oA,mmA,sA,hxA,hFA,hm0A,rfl,e0A,y0A,y1A,y2A,-⟩:=hODq.at (k:=p) (by omega) HSN.out;obtain⟨bB,offB,cB,bqB,offqB,mB,FB,oB,mmB,sB,hxB,hFB,hm0B,eB,e0B,y0B,y1B,y2B,-⟩:=hODq.at hil HSN.out;obtain⟨rfl,rfl⟩:bA=bB/\offA=offB:=by simpa using eB
     clear eB;have HXA:Hid (S.getD p _root_.Go.Proofs.YtgeiamgeclbiaaaGreatDoor.r0=(mA,FA)/\FA 0=⟨oA,mmA,sA⟩):=⟨hxA,hFA⟩;have HXB:Hid (S.getD i _root_.Go.Proofs.YtgeiamgeclbiaaaGreatDoor.r0=(mB,FB)/\FB 0=⟨oB,mmB,sB⟩):=⟨hxB,hFB⟩;have HIP:Hid (i=p+1):=hp;clear hxA hFA hxB hFB;have hmA:(0:Int)<mA:=by omega
     have hmB:(0:Int)<mB:=by omega
     have hi0:(0:Int)<=i:=by omega
     have hp0:(0:Int)<=p:=by omega
     have hil2:(i:Int)<S.length:=by omega
     have hpl2:(p:Int)<S.length:=by omega
     have hpl3:p<S.length:=by omega
     obtain⟨cz,hcz⟩:∃ cz,cmpV mmA sA mmB sB=cz:=⟨_,rfl⟩;have HCZ:Hid (dupB S (i+1)=decide (cz=0)):=by
      show _=_
      rw [dupB,HDP.out.1,show i - 1=p from by omega]
      unfold keyC;rw [HXA.out.1,HXB.out.1];show (false || (decide (0<i) && decide (cmpV (FA 0).m (FA 0).s (FB 0).m (FB 0).s=0)))=_
      rw [HXA.out.2,HXB.out.2,hcz];simp [show 0<i from by omega]
     have hCmp:=fun W=>sCompare2 oA mmA sA oB mmB sB W;simp only [hcz] at hCmp
     clear hcz hp;have d4:IntKind.i64.wrap ((i:Int) - 1)=(p:Int):=by rw [IntKind.wrap_i64,HIP.out];omega
     go_upto_region 26 with (fail)
     refine wp_region_held_drew (S:=fun x=>Below wr.heap.size wr x) (by kernel_rfl) (bdrew _) (fun jH=>?_);refine tk 0 (⟨some 106,.move (.tmp 15),33,"l5_replay.go:324",#[],none⟩:Oper) (fun x jS=>by go_simp<;>rfl) jH ?_
     try simp only [zS]
     refine tk 1 (⟨some 107,.move (.tmp 16),3,"l5_replay.go:324",#[],none⟩:Oper) (fun x jS=>by go_simp<;>rfl) jH ?_
     try simp only [zS]
     refine tk 2 (⟨some 108,.binOp .sub 3 (.tmp 107) (.const (.int .i64 1)) 3,3,"l5_replay.go:324",#[⟨1,.data⟩],none⟩:Oper) (fun x jS=>by go_simp<;>rfl) jH ?_
     try simp only [zS]
     refine tk 3 (⟨some 109,.indexAddr 33 (.tmp 106) (.tmp 108),0,"l5_replay.go:324",#[⟨0,.data⟩,⟨2,.data⟩],none⟩:Oper) (fun x jS=>by go_simp<;>rfl) jH ?_
     try simp only [zS]
     refine tk 4 (⟨some 110,.load 41 (.tmp 109),41,"l5_replay.go:324",#[⟨3,.data⟩],none⟩:Oper) (fun x jS=>by have k0:=keepB jS e0A;have k1:=keepB jS y0A;have k2:=keepB jS y1A;have k3:=keepB jS y2A;have k4:=keepB jS e0B;have k5:=keepB jS y0B;have k6:=keepB jS y1B;have k7:=keepB jS y2B;go_simp<;>rfl) jH ?_
     try simp only [zS]
     refine tk 5 (⟨some 111,.indexAddr 41 (.tmp 110) (.const (.int .i64 0)),0,"l5_replay.go:324",#[⟨4,.data⟩],none⟩:Oper) (fun x jS=>by go_simp<;>rfl) jH ?_
     try simp only [zS]
     refine tk 6 (⟨some 112,.load 66 (.tmp 111),66,"l5_replay.go:324",#[⟨5,.data⟩],none⟩:Oper) (fun x jS=>by have k0:=keepB jS e0A;have k1:=keepB jS y0A;have k2:=keepB jS y1A;have k3:=keepB jS y2A;have k4:=keepB jS e0B;have k5:=keepB jS y0B;have k6:=keepB jS y1B;have k7:=keepB jS y2B;go_simp<;>rfl) jH ?_
     try simp only [zS]
     refine tk 7 (⟨some 113,.move (.tmp 15),33,"l5_replay.go:324",#[],none⟩:Oper) (fun x jS=>by go_simp<;>rfl) jH ?_
     try simp only [zS]
     refine tk 8 (⟨some 114,.move (.tmp 16),3,"l5_replay.go:324",#[],none⟩:Oper) (fun x jS=>by go_simp<;>rfl) jH ?_
     try simp only [zS]
     refine tk 9 (⟨some 115,.indexAddr 33 (.tmp 113) (.tmp 114),0,"l5_replay.go:324",#[⟨7,.data⟩,⟨8,.data⟩],none⟩:Oper) (fun x jS=>by go_simp<;>rfl) jH ?_
     try simp only [zS]
     refine tk 10 (⟨some 116,.load 41 (.tmp 115),41,"l5_replay.go:324",#[⟨9,.data⟩],none⟩:Oper) (fun x jS=>by have k0:=keepB jS e0A;have k1:=keepB jS y0A;have k2:=keepB jS y1A;have k3:=keepB jS y2A;have k4:=keepB jS e0B;have k5:=keepB jS y0B;have k6:=keepB jS y1B;have k7:=keepB jS y2B;go_simp<;>rfl) jH ?_
     try simp only [zS]
     refine tk 11 (⟨some 117,.indexAddr 41 (.tmp 116) (.const (.int .i64 0)),0,"l5_replay.go:324",#[⟨10,.data⟩],none⟩:Oper) (fun x jS=>by go_simp<;>rfl) jH ?_
     try simp only [zS]
     refine tk 12 (⟨some 118,.load 66 (.tmp 117),66,"l5_replay.go:324",#[⟨11,.data⟩],none⟩:Oper) (fun x jS=>by have k0:=keepB jS e0A;have k1:=keepB jS y0A;have k2:=keepB jS y1A;have k3:=keepB jS y2A;have k4:=keepB jS e0B;have k5:=keepB jS y0B;have k6:=keepB jS y1B;have k7:=keepB jS y2B;go_simp<;>rfl) jH ?_
     try simp only [zS]
     refine rd 13 (⟨some 119,.call ⟨.value (.func 106),#[.tmp 112,.tmp 118],#[66,66]⟩,3,"l5_replay.go:324",#[⟨6,.data⟩,⟨12,.data⟩],none⟩:Oper) (fun K hK=>?_);go_simp;refine(hCmp _).mono ?_;rintro e w4 ⟨rfl,hb4⟩;refine hK.out _ _ (bstep jH hb4) (fun jH=>?_);clear hK K;try simp only [zS]
     refine tk 14 (⟨some 120,.binOp .eql 3 (.tmp 119) (.const (.int .i64 0)) 3,4,"l5_replay.go:324",#[⟨13,.data⟩],none⟩:Oper) (fun x jS=>by go_simp<;>rfl) jH ?_
     try simp only [zS]
     refine wpAnyH_done (by kernel_rfl) ?_ _;clear d4;have hbx:Below wr.heap.size wr w4:=jH;clear jH;have hsx:=hbx.size;by_cases hc0:cz=0
     ·
      subst hc0;have HA:Hid (upA T n ds dn dC k dm dR col E n5 W n6=(tlL T n,5)):=by
       show _=_
       rw [HUA.out,HUC.out,if_neg (by simp),HCH.out.2.2,if_neg (by simp),HUR.out.1,if_pos (dupB_mono (k:=i+1) (by rw [HCZ.out];rfl) k (by have:=HUR.out.2;omega))]
      have s0:=rowL t0 hbx;have s3:=rowL t3 hbx;obtain⟨sa,-⟩:=box1 s0;go_wp2_with (first | (go_at_call 53;refine(sSame a n c T _ (h.later (bstep hbW hbx)) (by omega) HF.out).mono ?_;rintro e w9 ⟨a8,c8,rfl,hL8,hb8⟩;have s2:=rowL s3 hb8;obtain⟨z2,f2⟩:=box1 s2))
      refine bodyPost_ret (results_cell_tmp Tryz.results55 _ _ (w.heap.size+1+1+1) 38 _ (0,0) _ rfl (row1 s2 _) Tryz.underlying38 rfl (by kernel_rfl)) rfl ?_;rw [HA.out];exact ans_same (bstep hbW hbx) hL8 hb8 (by omega) (by omega) _
     ·
      have n0:(cz == 0)=false:=by simpa using hc0
      go_wp2;go_roundw
      case rel=>exact⟨i+1,by omega,Or.inl (by omega),by go_num,by rw [HCZ.out];simpa using hc0,bstep hbq hbx⟩
      case measure=>simp [intOf];omega
    ·
     have hil2:¬(i:Int)<S.length:=by omega
     have HA:Hid (upA T n ds dn dC k dm dR col E n5 W n6=(wtL T (tabR ds dn dC S) n,0)):=by
      show _=_
      rw [HUA.out,HUC.out,if_neg (by simp),HCH.out.2.2,if_neg (by simp),HUR.out.1,if_neg (fun hd=>by have:=dupB_mono hd i (by have:=HUR.out.2;omega);rw [HDP.out.1] at this;cases this)]
     have qY:(wr.setCell ⟨w.heap.size+1,2,none⟩ (.slice a10 S.length c10)).heap[w.heap.size+1]?=some (.cells #[.string ds,.slice (some ⟨b2,off2,none⟩) dn cc,.slice a10 S.length c10] 62 (0,0)):=heap_setCell_same _ _ 2 _ _ _ t1;have hbY:Below w.heap.size w (wr.setCell ⟨w.heap.size+1,2,none⟩ (.slice a10 S.length c10)):=bset hbW (by omega);have hsY:(wr.setCell ⟨w.heap.size+1,2,none⟩ (.slice a10 S.length c10)).heap.size=wr.heap.size:=World.size_setCell _ _ _;obtain⟨o1,o2,o3,-⟩:=box3 qY;obtain⟨o0,-⟩:=box1 (rowO (i:=2) (v:=.slice a10 S.length c10) t0 (show w.heap.size≠w.heap.size+1 by omega));have q3Y:=rowO (B:=w.heap.size+1) (i:=2) (v:=.slice a10 S.length c10) t3 (by omega);have hOL:=(hODq.set (B:=w.heap.size+1) (i:=2) (v:=.slice a10 S.length c10) (by omega)).ol;have HSM3:Hid (Sm3 (tabR ds dn dC S)):=⟨hds,⟨hn1,fun j hj=>by obtain⟨_,_,_,_,_,hz⟩:=hC j hj;exact hz⟩,⟨by show S.length<=_;omega,fun j hj=>⟨by show (S.getD j _).1<=_;rw [(HSM.out _ (getD_mem hj)).1];exact hn1,fun u hu=>by
      have e1:=HSM.out _ (getD_mem (y:=_root_.Go.Proofs.YtgeiamgeclbiaaaGreatDoor.r0) hj);have e2:u<dn:=by rw [←e1.1];exact hu
      have:=e1.2 u e2;show ((S.getD j _).2 u).s.size<=_
      omega⟩⟩⟩
     have HNN:Hid (0<(tabR ds dn dC S).n/\∀ i,i<(tabR ds dn dC S).r->0<(tabR ds dn dC S).m i):=⟨hn0,fun i hi=>HSN.out _ (getD_mem hi)⟩;go_wp2_with (first | (go_at_call 103;refine(sWith_as a n c T ds dn dC S.length (fun i=>(S.getD i _root_.Go.Proofs.YtgeiamgeclbiaaaGreatDoor.r0).1) (fun i=>(S.getD i _root_.Go.Proofs.YtgeiamgeclbiaaaGreatDoor.r0).2) (some ⟨b2,off2,none⟩) cc a10 c10 (tabR ds dn dC S) rfl _ (h.later hbY) (hC.later hbY) hOL HSM3.out hn HF.out HNN.out).mono ?_;rintro e w9 ⟨a8,c8,rfl,hL8,hb8⟩;have s2:=rowL q3Y hb8;obtain⟨z2_,f2⟩:=box1 s2))
     refine bodyPost_ret (results_cell_tmp Tryz.results55 _ _ (w.heap.size+1+1+1) 38 _ (0,0) _ rfl (row1 s2 _) Tryz.underlying38 rfl (by kernel_rfl)) rfl ?_;rw [HA.out];exact ans_with hbY hL8 hb8 (by omega) (by omega) 0
end Go.Proofs.YtgeiamgeclbiaaaGreatDoor
