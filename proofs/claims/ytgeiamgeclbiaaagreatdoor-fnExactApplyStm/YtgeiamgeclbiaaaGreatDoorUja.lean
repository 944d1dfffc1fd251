import Derived.Test.YtgeiamgeclbiaaaGreatDoorUh
namespace Go.Proofs.YtgeiamgeclbiaaaGreatDoor
open Go.RowKit Go.Maps Go.WideMaps
set_option maxRecDepth 20000
set_option maxHeartbeats 16000000
theorem row1{W:World}{R:Nat}{x:Value}{t:TypeId}(h:W.heap[R]?=some (.cells #[x] t (0,0)))(v:Value):(W.setCell ⟨R,0,none⟩ v).heap[R]?=some (.cells #[v] t (0,0)):=heap_setCell_same _ _ 0 _ _ v h
theorem box1{W:World}{R:Nat}{x:Value}{t:TypeId}(h:W.heap[R]?=some (.cells #[x] t (0,0))):W.cell? ⟨R,0,none⟩=some x/\W.frozen? ⟨R,0,none⟩=false:=⟨cell_of_row _ _ 0 _ _ _ h,frozen_of_row _ _ 0 _ _ h⟩
def Fil(n:Nat)(T:Nat->Td):Prop:=∀ k,k<n->0<(T k).n/\∀ i,i<(T k).r->0<(T k).m i
theorem own_set{w:World}{base e size n B i:Nat}{v u:Value}{xs:List Value}(h:w.ownsRow base e size v n xs)(hB:B<base):(w.setCell ⟨B,i,none⟩ u).ownsRow base e size v n xs:=by
 obtain⟨hl,hh⟩:=h;refine⟨hl,?_⟩;rcases hh with hh | ⟨g,cap,cur,e1,e2,e3,e4⟩
 · exact Or.inl hh
 · exact Or.inr ⟨g,cap,cur,e1,e2,rowO e3 (by omega),e4⟩
theorem GO.set{α:Type}{T sz G B i:Nat}{D:Nat->Prop}{E:List Value->α->World->Prop}{w:World}{v u:Value}{n:Nat}{x:Nat->α}{f:Nat->List Value}(h:GO T sz G D E w v n x f)(hG:B<G)(hD:¬D B):GO T sz G D E (w.setCell ⟨B,i,none⟩ u) v n x f:=
 ⟨own_set h.own hG,h.len,fun i hi=>(h.liv i hi).set (fun hx=>hD hx.1)⟩
theorem rowR{w w':World}{q:Nat}{o:Obj}{r:Option Nat}(h:w.heap[q]?=some o)(hg:w.grownBy w' r)(hne:some q≠r):w'.heap[q]?=some o:=(hg.block q (Array.getElem?_eq_some_iff.1 h).1 hne).trans h
theorem gBr{W a b:World}{r:Option Nat}(h:Below W.heap.size W a)(g:a.grownBy b r)(hB:∀ x,x<W.heap.size->some x≠r):Below W.heap.size W b:=
 ⟨g.os.trans h.os,g.tape.trans h.tape,g.output.trans h.output,Nat.le_trans h.size g.size,fun k hk=>(g.block k (Nat.lt_of_lt_of_le hk h.size) (hB k hk)).trans (h.block k hk)⟩
theorem TO.tlv{G:Nat}{D:Nat->Prop}{w:World}{a:Option Addr}{n c:Nat}{x:Nat->Td}{f:Nat->List Value}(h:TO G D w (.slice a n c) n x f)(hG:∀ b,G<=b->D b):Liv D w (fun w=>TL w a n x):=fun w' k i hi=>by
 rcases own_shape h.own with ⟨-,rfl⟩ | ⟨g,cap,e⟩
 · omega
 obtain⟨rfl,-,rfl⟩:a=some ⟨g,0,none⟩/\n=n/\c=cap:=by simpa using e
 have hl:=(h.own.lt g rfl).1;obtain⟨ac,cc,ar,cr,e,hC,hR,hs⟩:=(h.liv i hi) w' (fun p u hp hc=>k p u hp.1 hc);have h0:=h.cell (j:=0) hi (by omega);have h1:=h.cell (j:=1) hi (by omega);have h2:=h.cell (j:=2) hi (by omega);rw [e] at h0 h1 h2;refine⟨g,0,ac,cc,ar,cr,rfl,k _ _ (hG _ hl) ?_,k _ _ (hG _ hl) ?_,k _ _ (hG _ hl) ?_,hC,hR,hs⟩
 · rw [Nat.zero_add];simpa using h0
 · rw [Nat.zero_add];simpa using h1
 · rw [Nat.zero_add];simpa using h2
theorem sSame(a:Option Addr)(n c:Nat)(T:Nat->Td)(w:World)(h:TL w a n T)(hn:n<=1048576)(hF:Fil n T) :
 Calls Tryz.prog 53 #[.agg #[.slice a n c]] w fun e w'=>∃ a' c',e=.returned (.agg #[.slice a' n c'])/\Liv (fun b=>w.heap.size<=b) w' (fun v=>TL v a' n T)/\Below w.heap.size w w':=by
 obtain⟨j2,hi2,hz20,hz21,hz22⟩:=info_parts Tryz.infoCol;have HI2:Hid (Tryz.prog.info? 113=some j2):=hi2;obtain⟨j3,hi3,hz30,hz31,hz32⟩:=info_parts Tryz.infoVal;have HI3:Hid (Tryz.prog.info? 66=some j3):=hi3;obtain⟨jr,hir,hzr0,hzr1,hzr2⟩:=info_parts Tryz.infoRow;have HIr:Hid (Tryz.prog.info? 41=some jr):=hir;obtain⟨jt,hit,hzt0,hzt1,hzt2⟩:=info_parts Tryz.infoTab;have HIt:Hid (Tryz.prog.info? 62=some jt):=hit;clear hi2 hi3 hir hit;have HF:Hid (Fil n T):=hF;clear hF;have hbU:Below w.heap.size w (((w.alloc (.cells #[.slice a n c] 38)).alloc (.cells #[.slice none 0 0] 38)).alloc (.cells #[.slice none 0 0] 38)):=below3 _ _ _ _;have hsU:(((w.alloc (.cells #[.slice a n c] 38)).alloc (.cells #[.slice none 0 0] 38)).alloc (.cells #[.slice none 0 0] 38)).heap.size=w.heap.size+3:=by rw [World.size_alloc,World.size_alloc,World.size_alloc]
 have hq2:(((w.alloc (.cells #[.slice a n c] 38)).alloc (.cells #[.slice none 0 0] 38)).alloc (.cells #[.slice none 0 0] 38)).heap[w.heap.size+1]?=some (.cells #[.slice none 0 0] 38 (0,0)):=by
  have q:=heap_alloc_new (w.alloc (.cells #[.slice a n c] 38)) (.cells #[.slice none 0 0] 38);rw [World.size_alloc] at q;exact rowL q (bal _ _)
 have hq3:(((w.alloc (.cells #[.slice a n c] 38)).alloc (.cells #[.slice none 0 0] 38)).alloc (.cells #[.slice none 0 0] 38)).heap[w.heap.size+1+1]?=some (.cells #[.slice none 0 0] 38 (0,0)):=by
  have q:=heap_alloc_new ((w.alloc (.cells #[.slice a n c] 38)).alloc (.cells #[.slice none 0 0] 38)) (.cells #[.slice none 0 0] 38);rw [World.size_alloc,World.size_alloc] at q;exact q
 go_enter Tryz.func53,Tryz.ntmps53
 go_wp2;go_loopw [5,6,8,13] (fun _ _ _ i wr=>∃ (k:Nat) (v:Value) (f:Nat->List Value),k<=n/\i=.int .i64 k/\TO (w.heap.size+3) (fun b=>w.heap.size+3<=b) wr v k T f/\wr.heap[w.heap.size+1]?=some (.cells #[.slice none 0 0] 38 (0,0))/\wr.heap[w.heap.size+1+1]?=some (.cells #[v] 38 (0,0))/\Below w.heap.size w wr/\w.heap.size+3<=wr.heap.size) (fun _ _ _ i _=>n - (intOf i).toNat)
 case atStart=>exact⟨0,.slice none 0 0,fun _=>[],by omega,rfl,GO.nil (World.ownsRow_nil _ _ _ _),hq2,hq3,hbU,by rw [hsU];exact Nat.le_refl _⟩
 case round=>
  obtain⟨k,v,f,hk,rfl,hTO,hr2,hr3,hb,hsz⟩:=hrel;obtain⟨x2,y2⟩:=box1 hr2;obtain⟨x3,y3⟩:=box1 hr3;by_cases hlt:k<n
  rotate_left
  ·
   obtain rfl:k=n:=by omega
   obtain⟨a',c',rfl,-⟩:=TO.tl hTO;go_wp2;refine bodyPost_ret (v:=.agg #[.slice a' k c']) ?_ rfl ?_
   · exact results_cell_row Tryz.results53 _ _ (w.heap.size+1) 38 _ (0,0) _ rfl (row1 hr2 _) Tryz.underlying38 rfl (by kernel_rfl)
   · exact⟨a',c',rfl,(TO.tlv (hTO.set (B:=w.heap.size+1) (i:=0) (u:=.slice a' k c') (by omega) (by omega)) (fun _ h=>h)).wide (fun b hb _=>by omega),bset hb (by omega)⟩
  obtain⟨wo,hwo⟩:∃ v,v=wr:=⟨_,rfl⟩;subst hwo;have hp:=HF.out k hlt;obtain⟨b,off,ac,cc,ar,cr,rfl,e0,e1,e2,hC,hR,hS3⟩:=h.later hb k hlt;obtain⟨s,nc,C,r,m,R,hTk⟩:∃ s nc C r m R,T k=⟨s,nc,C,r,m,R⟩:=⟨_,_,_,_,_,_,rfl⟩;rw [hTk] at e0 e1 e2 hC hR hS3 hp;simp only at e0 e1 e2 hC hR hp
  have HTK:Hid (T k=⟨s,nc,C,r,m,R⟩):=hTk;clear hTk;obtain⟨hp1,hp2⟩:=hp;have HP2:Hid (∀ i,i<r->0<m i):=hp2;clear hp2;obtain⟨b1,off1,rfl,-⟩:=hC 0 hp1;have hnc:=hS3.co.1;have hrr:=hS3.ro.1;simp only at hnc hrr
  have HsA:Hid ((wo.alloc (.cells #[.string s,.slice (some ⟨b1,off1,none⟩) nc cc,.slice ar r cr] 62)).heap.size=wo.heap.size+1):=World.size_alloc _ _;have HRA:Hid (((wo.alloc (.cells #[.string s,.slice (some ⟨b1,off1,none⟩) nc cc,.slice ar r cr] 62)).alloc (.cells #[] 113)).heap[wo.heap.size]?=some (.cells #[.string s,.slice (some ⟨b1,off1,none⟩) nc cc,.slice ar r cr] 62 (0,0))):=rowL (heap_alloc_new wo _) (bal _ _);have HOE:Hid (((wo.alloc (.cells #[.string s,.slice (some ⟨b1,off1,none⟩) nc cc,.slice ar r cr] 62)).alloc (.cells #[] 113)).ownsRow (wo.heap.size+1) 113 2 (.slice (some ⟨wo.heap.size+1,0,none⟩) 0 0) 0 []):=by
   have q:=World.ownsRow_made (base:=wo.heap.size+1) (e:=113) (size:=2) (wo.alloc (.cells #[.string s,.slice (some ⟨b1,off1,none⟩) nc cc,.slice ar r cr] 62)) #[] 0 (by rw [HsA.out];omega) (by unfold maxLen;omega) rfl;rw [HsA.out] at q;exact q
  go_wp2_with (first | (at_builtin;refine wpList_append_own _ rfl _ _ 40 rfl (wo.heap.size+1) 113 j2 (.agg #[.string ByteArray.empty,.int .i64 0]) 2 24 Tryz.underlying40 HI2.out hz20 hz21 hz22 rfl (by omega) (.slice (some ⟨wo.heap.size+1,0,none⟩) 0 0) 0 [] rfl HOE.out ⟨b1,off1,none⟩ nc cc (flt (fun k=>c2 (C k)) nc) rfl (len2 _ _) (CL.news (hC.later (bstep (bal _ _) (bal _ _)))) (one2 _ _) (by unfold maxLen;omega) (by omega) (by simp <;> omega) ?_;intro v1 w5 hO5 hgr5 hnil5;obtain⟨g5,cap5,rfl⟩:=own_some hO5 (fun e=>by have:=hnil5.1 e;simp at this);rw [Nat.zero_add,List.nil_append] at hO5;replace hgr5:World.grownBy _ w5 (some (wo.heap.size+1)):=hgr5;have hr5:=rowK HRA.out hgr5 (by omega);have hg5:=(hO5.lt g5 rfl);have hb5:Below wo.heap.size wo w5:=gB (bstep (bal _ _) (bal _ _)) hgr5 (by omega);obtain⟨p0,p1,p2,pf0,pf1,pf2⟩:=box3 hr5;have HRZ:Hid ((w5.setCell ⟨wo.heap.size,1,none⟩ (.slice (some ⟨g5,0,none⟩) nc cap5)).heap[wo.heap.size]?=some (.cells #[.string s,.slice (some ⟨g5,0,none⟩) nc cap5,.slice ar r cr] 62 (0,0))):=heap_setCell_same _ _ 1 _ _ _ hr5;have p9:=keepB (bal (w5.setCell ⟨wo.heap.size,1,none⟩ (.slice (some ⟨g5,0,none⟩) nc cap5)) (.cells #[] 41)) (box3 HRZ.out).2.2.1;clear hnil5))
  have hbZ:Below wo.heap.size wo (w5.setCell ⟨wo.heap.size,1,none⟩ (.slice (some ⟨g5,0,none⟩) nc cap5)):=bset hb5 (Nat.le_refl _);have HCZ:Hid (CL (w5.setCell ⟨wo.heap.size,1,none⟩ (.slice (some ⟨g5,0,none⟩) nc cap5)) (some ⟨g5,0,none⟩) nc C):=own_cl (own_set hO5 (by omega)) hS3.co.2;have hzs:(w5.setCell ⟨wo.heap.size,1,none⟩ (.slice (some ⟨g5,0,none⟩) nc cap5)).heap.size=w5.heap.size:=World.size_setCell _ _ _;clear p9;generalize (w5.setCell ⟨wo.heap.size,1,none⟩ (.slice (some ⟨g5,0,none⟩) nc cap5))=z at hbZ HRZ HCZ hzs ⊢;clear p0 p1 p2 pf0 pf1 pf2 hr5 hb5;have hsz5:=hbZ.size;have hO6:(z.alloc (.cells #[] 41)).ownsRow z.heap.size 41 1 (.slice (some ⟨z.heap.size,0,none⟩) 0 0) 0 []:=World.ownsRow_made z #[] 0 (Nat.le_refl _) (by unfold maxLen;omega) rfl;go_loopw [6,8,26] (fun v6 _ i wr=>∃ (q g cap:Nat) (f6:Nat->List Value),q<=r/\i=.int .i64 q/\v6=.slice (some ⟨g,0,none⟩) q cap/\RO z.heap.size (fun b=>z.heap.size<=b) wr (.slice (some ⟨g,0,none⟩) q cap) q (fun i=>(m i,R i)) f6/\Below z.heap.size z wr) (fun _ _ i _=>r - (intOf i).toNat)
  case atStart=>exact⟨0,z.heap.size,0,fun _=>[],by omega,rfl,by rw [hzs],GO.nil hO6,bal _ _⟩
  case round=>
   obtain⟨q,g,cap,f6,hq,rfl,rfl,hRO,hbx⟩:=hrel;have hbxr:=bstep hbZ hbx;have hgl:=hRO.own.lt g rfl;by_cases hql:q<r
   ·
    obtain⟨bR,offR,ai,ci,rfl,d0,hI,hmI⟩:=hR.later hbxr q hql;obtain⟨b7,off7,rfl,-⟩:=hI 0 (HP2.out q hql);have HOE7:Hid ((wr.alloc (.cells #[] 66)).ownsRow wr.heap.size 66 3 (.slice (some ⟨wr.heap.size,0,none⟩) 0 0) 0 []):=World.ownsRow_made wr #[] 0 (Nat.le_refl _) (by unfold maxLen;omega) rfl;have hqr:(q:Int)<r:=by omega
    go_wp2_with (first | (at_builtin;have _h:=hb7;refine wpList_append_lies _ rfl _ _ _ rfl z.heap.size 41 jr (.slice none 0 0) 1 24 Tryz.underlying33 HIr.out hzr0 hzr1 hzr2 rfl (by omega) (.slice (some ⟨g,0,none⟩) q cap) q (flt f6 q) rfl (hRO7.later (bal _ _)).own ⟨w7.heap.size,0,none⟩ 1 1 [(Value.slice (some ⟨g7,0,none⟩) (m q) cap7)] rfl rfl (World.news_of_block (heap_alloc_new w7 _)) (ones _ rfl) (by omega) (by unfold maxLen;omega) (by omega) (by have:=hb7.size;have:=hbx.size;simp;omega) _ rfl ?_;intro g8 cap8 w8 hO8 hgr8 hat8 hlt8) | (at_builtin;refine wpList_append_own _ rfl _ _ 41 rfl wr.heap.size 66 j3 (.agg #[.int .i64 0,.int .i64 0,.string ByteArray.empty]) 3 32 Tryz.underlying41 HI3.out hz30 hz31 hz32 rfl (by omega) (.slice (some ⟨wr.heap.size,0,none⟩) 0 0) 0 [] rfl HOE7.out ⟨b7,off7,none⟩ (m q) ci (flt (fun k=>v3 (R q k)) (m q)) rfl (len3 _ _) (IL.news (hI.later (bal _ _))) (one3 _ _) (by unfold maxLen;omega) (by omega) (by simp) ?_;intro v1 w7 hO7 hgr7 hnil7;obtain⟨g7,cap7,rfl⟩:=own_some hO7 (fun e=>by have:=hnil7.1 e;simp at this);rw [Nat.zero_add,List.nil_append] at hO7;replace hgr7:World.grownBy _ w7 (some wr.heap.size):=hgr7;have hb7:Below wr.heap.size wr w7:=gB (bal _ _) hgr7 (Nat.le_refl _);have hRO7:=hRO.later hb7;have hg7:=(hO7.lt g7 rfl).1;clear hnil7))
    have hIL:=own_il hO7 (hS3.ro.2 q hql).2;have hL7:Liv (fun b=>z.heap.size<=b/\some b≠(Value.slice (some ⟨g,0,none⟩) q cap).ownBlock) w7 (ER [(Value.slice (some ⟨g7,0,none⟩) (m q) cap7)] (m q,R q)):=(hIL.liv (fun b off e=>by
     obtain⟨rfl,-⟩:g7=b/\0=off:=by simpa using e
     refine⟨by have:=hbx.size;omega,?_⟩;show some g7≠some g
     intro e2;have e3:g7=g:=Option.some.inj e2;omega)).imp (fun _ h=>⟨_,_,rfl,h,hmI⟩)
    have hP:=GO.push (x:=fun i=>(m i,R i)) (hRO7.later (bal _ _)) (c:=[(Value.slice (some ⟨g7,0,none⟩) (m q) cap7)]) rfl (hL7.later (bal _ _)) hO8 hgr8 hat8;have hb8:=gB (bstep (bstep hbx hb7) (bal _ _)) (r:=g) hgr8 hgl.1;go_roundw
    case rel=>exact⟨q+1,g8,cap8,_,by omega,by go_num,rfl,hP,hb8⟩
    case measure=>simp [intOf];omega
   ·
    obtain rfl:q=r:=by omega
    have hRx:=rowL HRZ.out hbx;obtain⟨p0,p1,p2,pf0,pf1,pf2⟩:=box3 hRx;have hRY:(wr.setCell ⟨wo.heap.size,2,none⟩ (.slice (some ⟨g,0,none⟩) q cap)).heap[wo.heap.size]?=some (.cells #[.string s,.slice (some ⟨g5,0,none⟩) nc cap5,.slice (some ⟨g,0,none⟩) q cap] 62 (0,0)):=heap_setCell_same _ _ 2 _ _ _ hRx;obtain⟨y0,y1,y2,-⟩:=box3 hRY;have hbY:Below wo.heap.size wo (wr.setCell ⟨wo.heap.size,2,none⟩ (.slice (some ⟨g,0,none⟩) q cap)):=bset hbxr (Nat.le_refl _);have hr3Y:=rowL hr3 hbY;have hr2Y:=rowL hr2 hbY;obtain⟨z3,-⟩:=box1 hr3Y;have hTOY:=hTO.later hbY;have hsY:(wr.setCell ⟨wo.heap.size,2,none⟩ (.slice (some ⟨g,0,none⟩) q cap)).heap.size=wr.heap.size:=World.size_setCell _ _ _;have HNW:Hid (∀ j u,([Value.string s,Value.slice (some ⟨g5,0,none⟩) nc cap5,Value.slice (some ⟨g,0,none⟩) q cap]:List Value)[j]?=some u->((wr.setCell ⟨wo.heap.size,2,none⟩ (.slice (some ⟨g,0,none⟩) q cap)).alloc (.cells #[.string s,.slice (some ⟨g5,0,none⟩) nc cap5,.slice (some ⟨g,0,none⟩) q cap] 62)).cell? ((⟨wr.heap.size,0,none⟩:Addr).add j)=some u):=by
     have:=World.news_of_block (heap_alloc_new (wr.setCell ⟨wo.heap.size,2,none⟩ (.slice (some ⟨g,0,none⟩) q cap)) (.cells #[.string s,.slice (some ⟨g5,0,none⟩) nc cap5,.slice (some ⟨g,0,none⟩) q cap] 62));rw [hsY] at this;exact this
    have HVB:Hid (∀ b,wo.heap.size<=b∨b<w.heap.size+3->some b≠v.ownBlock):=by
     intro b hbb;rcases own_shape hTO.own with ⟨rfl,-⟩ | ⟨g0,cap0,rfl⟩
     · intro e;cases e
     · have:=hTO.own.lt g0 rfl;intro e;have e3:b=g0:=Option.some.inj e;omega
    go_wp2_with (first | (at_builtin;refine wpList_append_lies _ rfl _ _ _ rfl (w.heap.size+3) 62 jt (.agg #[.string ByteArray.empty,.slice none 0 0,.slice none 0 0]) 3 64 Tryz.underlying36 HIt.out hzt0 hzt1 hzt2 rfl (by omega) v k (flt f k) rfl (hTOY.later (bal _ _)).own ⟨wr.heap.size,0,none⟩ 1 1 [Value.string s,Value.slice (some ⟨g5,0,none⟩) nc cap5,Value.slice (some ⟨g,0,none⟩) q cap] rfl rfl HNW.out (by intro u hu;simp only [List.mem_cons,List.not_mem_nil,or_false] at hu;rcases hu with rfl | rfl | rfl <;> rfl) (by omega) (by unfold maxLen;omega) (by omega) (by have:=hbxr.size;simp;omega) _ rfl ?_;intro g9 cap9 w9 hO9 hgr9 hat9 hlt9;have hr9:=rowR (rowL hr3Y (bal _ _)) hgr9 (HVB.out _ (by omega));obtain⟨m9,n9⟩:=box1 hr9))
    have hsx:=hbxr.size;have hCY:=(((HCZ.out.later hbx).liv (X:=fun b=>wo.heap.size<b) (fun b off e=>by
     obtain⟨rfl,-⟩:g5=b/\0=off:=by simpa using e
     omega)).set (B:=wo.heap.size) (i:=2) (v:=.slice (some ⟨g,0,none⟩) q cap) (by omega)).wide (Y:=fun b=>w.heap.size+3<=b/\some b≠v.ownBlock) (fun b hx _=>⟨by omega,HVB.out b (by omega)⟩)
    have hOY:=((RO.olv hRO (fun _ h=>h)).set (B:=wo.heap.size) (i:=2) (v:=.slice (some ⟨g,0,none⟩) q cap) (by omega)).wide (Y:=fun b=>w.heap.size+3<=b/\some b≠v.ownBlock) (fun b hx _=>⟨by omega,HVB.out b (by omega)⟩);have hLT:Liv (fun b=>w.heap.size+3<=b/\some b≠v.ownBlock) (wr.setCell ⟨wo.heap.size,2,none⟩ (.slice (some ⟨g,0,none⟩) q cap)) (ET [Value.string s,Value.slice (some ⟨g5,0,none⟩) nc cap5,Value.slice (some ⟨g,0,none⟩) q cap] (T k)):=(hCY.and hOY).imp (fun _ h=>by rw [HTK.out];exact⟨_,_,_,_,rfl,h.1,h.2,hS3⟩);have hP:=GO.push (hTOY.later (bal _ _)) (c:=[Value.string s,Value.slice (some ⟨g5,0,none⟩) nc cap5,Value.slice (some ⟨g,0,none⟩) q cap]) rfl (hLT.later (bal _ _)) hO9 hgr9 (by rw [World.size_alloc] at hat9 ⊢;exact hat9);go_roundw
    case rel=>exact⟨k+1,_,_,by omega,by go_num,hP.set (by omega) (by omega),rowO (rowR (rowL hr2Y (bal _ _)) hgr9 (HVB.out _ (by omega))) (by omega),row1 hr9 _,bset (gBr (bstep hb (bstep hbY (bal _ _))) hgr9 (fun x hx=>HVB.out x (by omega))) (by omega),by rw [World.size_setCell];exact Nat.le_trans hsz (Nat.le_trans (bstep hbY (bal _ _)).size hgr9.size)⟩
    case measure=>simp [intOf];omega
def t0:Td:=⟨⟨#[]⟩,0,fun _=>⟨⟨#[]⟩,0⟩,0,fun _=>0,fun _ _=>d0⟩
def leS(a b:ByteArray):Bool:=Op.bytesLess a.toList b.toList || a.toList == b.toList
def opt{α:Type}(b:Bool)(x:α):List α:=if b=true then [x] else []
theorem opt_mem{α:Type}{b:Bool}{x y:α}(h:y∈opt b x):y=x:=by
 unfold opt at h;split at h
 · simpa using h
 · cases h
theorem opt_len{α:Type}(b:Bool)(x:α):(opt b x).length=if b=true then 1 else 0:=by
 cases b <;> rfl
def wtS(T:Nat->Td)(d:Td):Nat->List Td×Bool
 | 0=>([],false)
 | k+1=>(((wtS T d k).1 ++ opt (!(wtS T d k).2 && leS d.s (T k).s) d) ++ opt (!((T k).s.toList == d.s.toList)) (T k),(wtS T d k).2 || leS d.s (T k).s)
def wtL(T:Nat->Td)(d:Td)(n:Nat):List Td:=(wtS T d n).1 ++ opt (!(wtS T d n).2) d
theorem wtS_mem{T:Nat->Td}{d:Td}{P:Td->Prop}(hd:P d):∀ {k:Nat},(∀ j,j<k->P (T j))->∀ x∈(wtS T d k).1,P x
 | 0,_,x,hx=>by cases hx
 | k+1,h,x,hx=>by
  simp only [wtS,List.mem_append] at hx
  rcases hx with (hx | hx) | hx
  · exact wtS_mem hd (fun j hj=>h j (by omega)) x hx
  · rw [opt_mem hx];exact hd
  · rw [opt_mem hx];exact h k (by omega)
theorem wtL_mem{T:Nat->Td}{d:Td}{P:Td->Prop}(hd:P d){k:Nat}(h:∀ j,j<k->P (T j)):∀ x∈wtL T d k,P x:=fun x hx=>by
 simp only [wtL,List.mem_append] at hx
 rcases hx with hx | hx
 · exact wtS_mem hd h x hx
 · rw [opt_mem hx];exact hd
theorem wtS_len{T:Nat->Td}{d:Td}:∀ {k:Nat},(wtS T d k).1.length<=k+(opt (wtS T d k).2 d).length
 | 0=>by simp [wtS]
 | k+1=>by
  have ih:=wtS_len (T:=T) (d:=d) (k:=k);simp only [wtS,List.length_append,opt_len] at ih ⊢
  generalize wtS T d k=q at ih ⊢;obtain⟨A,p⟩:=q;generalize leS d.s (T k).s=b at ih ⊢;simp only at ih ⊢
  have hx:(if (!((T k).s.toList == d.s.toList))=true then 1 else 0)<=1:=by split <;> omega
  cases p <;> cases b <;> simp at ih hx⊢<;> omega
theorem app_getD{α:Type}(A:List α)(x y:α){i:Nat}(h:i<A.length):(A ++ [x]).getD i y=A.getD i y:=by
 simp [List.getElem?_append_left h]
theorem app_last{α:Type}(A:List α)(x y:α):(A ++ [x]).getD A.length y=x:=by simp
theorem GO.snoc{α:Type}{T sz G:Nat}{D:Nat->Prop}{E:List Value->α->World->Prop}{w w':World}{v:Value}{A:List α}{x y:α}{g' cap':Nat}{f:Nat->List Value}{c:List Value}(h:GO T sz G D E w v A.length (fun i=>A.getD i y) f)(hc:c.length=sz)(hl:Liv (fun b=>D b/\some b≠v.ownBlock) w (E c x))
 (hO:w'.ownsRow G T sz (.slice (some ⟨g',0,none⟩) (A.length+1) cap') (A.length+1) (flt f A.length ++ c)) (hgr:w.grownBy w' v.ownBlock) (hat:v.ownBlock=some g'∨g'=w.heap.size) :
 GO T sz G D E w' (.slice (some ⟨g',0,none⟩) (A ++ [x]).length cap') (A ++ [x]).length (fun i=>(A ++ [x]).getD i y) (fun i=>if i<A.length then f i else c):=by
 have h2:GO T sz G D E w v A.length (fun i=>(A ++ [x]).getD i y) f:=h.congr (fun i hi=>app_getD A x y hi);have h3:=GO.push h2 hc (by rw [app_last];exact hl) hO hgr hat;rw [show (A ++ [x]).length=A.length+1 from by simp]
 exact h3
structure WS(w:World)(X:Array Value)(W:World)(A:List Td)(v:Value)(f:Nat->List Value):Prop where
 tt:TO (w.heap.size+4) (fun b=>b<w.heap.size) W v A.length (fun i=>A.getD i t0) f
 r1:W.heap[w.heap.size+1]?=some (.cells X 62 (0,0))
 r2:W.heap[w.heap.size+1+1]?=some (.cells #[.slice none 0 0] 38 (0,0))
 r3:W.heap[w.heap.size+1+1+1]?=some (.cells #[v] 38 (0,0))
 be:Below w.heap.size w W
 sz:w.heap.size+4<=W.heap.size
theorem WS.later{w W W':World}{X:Array Value}{A:List Td}{v:Value}{f:Nat->List Value}(h:WS w X W A v f)(hb:Below W.heap.size W W'):WS w X W' A v f:=
 ⟨h.tt.later hb,rowL h.r1 hb,rowL h.r2 hb,rowL h.r3 hb,bstep h.be hb,Nat.le_trans h.sz hb.size⟩
theorem WS.vb{w W:World}{X:Array Value}{A:List Td}{v:Value}{f:Nat->List Value}(h:WS w X W A v f):∀ b,b<w.heap.size+4∨W.heap.size<=b->some b≠v.ownBlock:=by
 intro b hbb;rcases own_shape h.tt.own with ⟨rfl,-⟩ | ⟨g0,cap0,rfl⟩
 · intro e;cases e
 · have:=h.tt.own.lt g0 rfl;intro e;have e3:b=g0:=Option.some.inj e;omega
theorem WS.push{w W w6:World}{X:Array Value}{A:List Td}{v:Value}{f:Nat->List Value}{C:Obj}{c:List Value}{x:Td}{g6 cap6:Nat}(h:WS w X W A v f)(hl:Liv (fun b=>b<w.heap.size) W (ET c x))(hc:c.length=3)
 (hO:w6.ownsRow (w.heap.size+4) 62 3 (.slice (some ⟨g6,0,none⟩) (A.length+1) cap6) (A.length+1) (flt f A.length ++ c)) (hgr:(W.alloc C).grownBy w6 v.ownBlock) (hat:v.ownBlock=some g6∨g6=(W.alloc C).heap.size) :
 WS w X (w6.setCell ⟨w.heap.size+1+1+1,0,none⟩ (.slice (some ⟨g6,0,none⟩) (A.length+1) cap6)) (A ++ [x]) (.slice (some ⟨g6,0,none⟩) (A.length+1) cap6) (fun i=>if i<A.length then f i else c):=by
 have h2:=h.later (bal W C);have hl2:=(hl.wide (Y:=fun b=>b<w.heap.size/\some b≠v.ownBlock) (fun b hx _=>⟨hx,h.vb _ (by omega)⟩)).later (bal W C);have hp:=GO.snoc (x:=x) h2.tt hc hl2 hO hgr hat;have e:(A ++ [x]).length=A.length+1:=by simp
 have hp2:TO (w.heap.size+4) (fun b=>b<w.heap.size) w6 (.slice (some ⟨g6,0,none⟩) (A.length+1) cap6) (A ++ [x]).length (fun i=>(A ++ [x]).getD i t0) (fun i=>if i<A.length then f i else c):=by rw [e] at hp ⊢;exact hp
 refine⟨hp2.set (by omega) (by omega),rowO (rowR h2.r1 hgr (h.vb _ (by omega))) (by omega),rowO (rowR h2.r2 hgr (h.vb _ (by omega))) (by omega),row1 (rowR h2.r3 hgr (h.vb _ (by omega))) _,bset (gBr h2.be hgr (fun x hx=>h.vb _ (by omega))) (by omega),?_⟩;rw [World.size_setCell];exact Nat.le_trans h2.sz hgr.size
theorem ws_row{w W w6:World}{v u:Value}{C:Obj}{q:Nat}{o:Obj}(hq:W.heap[q]?=some o)(hgr:(W.alloc C).grownBy w6 v.ownBlock)(hv:some q≠v.ownBlock)(h3:q≠w.heap.size+1+1+1):(w6.setCell ⟨w.heap.size+1+1+1,0,none⟩ u).heap[q]?=some o:=
 rowO (rowR (rowL hq (bal _ _)) hgr hv) h3
end Go.Proofs.YtgeiamgeclbiaaaGreatDoor
