import Derived.Test.YtgeiamgeclbiaaaGreatDoorUja
namespace Go.Proofs.YtgeiamgeclbiaaaGreatDoor
open Go.RowKit Go.Maps Go.WideMaps
set_option maxRecDepth 20000
set_option maxHeartbeats 16000000
theorem ones3{x y z:Value}(h:x.oneCell'=true)(h2:y.oneCell'=true)(h3:z.oneCell'=true):∀ u∈[x,y,z],u.oneCell'=true:=by
 intro u hu;simp only [List.mem_cons,List.not_mem_nil,or_false] at hu
 rcases hu with rfl | rfl | rfl
 · exact h
 · exact h2
 · exact h3
theorem news3{W:World}{q:Nat}{x y z:Value}{t:TypeId}(hq:W.heap.size=q):∀ j u,[x,y,z][j]?=some u->(W.alloc (.cells #[x,y,z] t)).cell? ((⟨q,0,none⟩:Addr).add j)=some u:=by
 subst hq;exact World.news_of_block (heap_alloc_new W _)
theorem sWith_as(a:Option Addr)(n c:Nat)(T:Nat->Td)(ds:ByteArray)(dn:Nat)(dC:Nat->Clm)(dr:Nat)(dm:Nat->Nat)(dR:Nat->Nat->Itm)(ac:Option Addr)(cc:Nat)(ar:Option Addr)(cr:Nat)(d:Td)(hd:(⟨ds,dn,dC,dr,dm,dR⟩:Td)=d)(w:World)(h:TL w a n T)(hC:CL w ac dn dC)(hR:OL w ar dr dm dR)(hS:Sm3 d)(hn:n<=1000000)(hF:Fil n T)(hdF:0<d.n/\∀ i,i<d.r->0<d.m i) :
 Calls Tryz.prog 103 #[.agg #[.slice a n c],.agg #[.string ds,.slice ac dn cc,.slice ar dr cr]] w fun e w'=>∃ a' c',e=.returned (.agg #[.slice a' (wtL T d n).length c'])/\Liv (fun b=>w.heap.size<=b) w' (fun v=>TL v a' (wtL T d n).length (fun i=>(wtL T d n).getD i t0))/\Below w.heap.size w w':=by
 have HD:Hid (d=⟨ds,dn,dC,dr,dm,dR⟩):=hd.symm;have HS:Hid (Sm3 d):=hS;have HdC:=hC.lb;have HdR:=hR.lb;have HFL:Hid (Fil (wtL T d n).length (fun i=>(wtL T d n).getD i t0)):=by
  intro k hk;have e:(wtL T d n).getD k t0=(wtL T d n)[k]:=by simp [hk]
  show 0<((wtL T d n).getD k t0).n/\∀ i,i<((wtL T d n).getD k t0).r->0<((wtL T d n).getD k t0).m i
  rw [e];exact wtL_mem (P:=fun x=>0<x.n/\∀ i,i<x.r->0<x.m i) hdF hF _ (List.getElem_mem hk)
 have hds:d.s=ds:=by rw [←hd]
 have HDS:Hid (d.s=ds):=hds;have hwl:(wtL T d n).length<=1000002:=by
  have:=wtS_len (T:=T) (d:=d) (k:=n);simp only [wtL,List.length_append,opt_len] at this ⊢
  split at this <;> split <;> omega
 have HWLN:Hid ((wtL T d n).length<=1000002):=hwl;clear hd hC hR hS hF hdF hds hwl;obtain⟨jt,hit,hzt0,hzt1,hzt2⟩:=info_parts Tryz.infoTab;have HIt:Hid (Tryz.prog.info? 62=some jt):=hit;clear hit;have hbU:Below w.heap.size w ((((w.alloc (.cells #[.slice a n c] 38)).alloc (.cells #[.string ds,.slice ac dn cc,.slice ar dr cr] 62)).alloc (.cells #[.slice none 0 0] 38)).alloc (.cells #[.slice none 0 0] 38)):=bstep (below3 _ _ _ _) (bal _ _);have hsU:((((w.alloc (.cells #[.slice a n c] 38)).alloc (.cells #[.string ds,.slice ac dn cc,.slice ar dr cr] 62)).alloc (.cells #[.slice none 0 0] 38)).alloc (.cells #[.slice none 0 0] 38)).heap.size=w.heap.size+4:=by rw [World.size_alloc,World.size_alloc,World.size_alloc,World.size_alloc]
 have hq1:((((w.alloc (.cells #[.slice a n c] 38)).alloc (.cells #[.string ds,.slice ac dn cc,.slice ar dr cr] 62)).alloc (.cells #[.slice none 0 0] 38)).alloc (.cells #[.slice none 0 0] 38)).heap[w.heap.size+1]?=some (.cells #[.string ds,.slice ac dn cc,.slice ar dr cr] 62 (0,0)):=by
  have q:=heap_alloc_new (w.alloc (.cells #[.slice a n c] 38)) (.cells #[.string ds,.slice ac dn cc,.slice ar dr cr] 62);rw [World.size_alloc] at q;exact rowL (rowL q (bal _ _)) (bal _ _)
 have hq2:((((w.alloc (.cells #[.slice a n c] 38)).alloc (.cells #[.string ds,.slice ac dn cc,.slice ar dr cr] 62)).alloc (.cells #[.slice none 0 0] 38)).alloc (.cells #[.slice none 0 0] 38)).heap[w.heap.size+1+1]?=some (.cells #[.slice none 0 0] 38 (0,0)):=by
  have q:=heap_alloc_new ((w.alloc (.cells #[.slice a n c] 38)).alloc (.cells #[.string ds,.slice ac dn cc,.slice ar dr cr] 62)) (.cells #[.slice none 0 0] 38);rw [World.size_alloc,World.size_alloc] at q;exact rowL q (bal _ _)
 have hq3:((((w.alloc (.cells #[.slice a n c] 38)).alloc (.cells #[.string ds,.slice ac dn cc,.slice ar dr cr] 62)).alloc (.cells #[.slice none 0 0] 38)).alloc (.cells #[.slice none 0 0] 38)).heap[w.heap.size+1+1+1]?=some (.cells #[.slice none 0 0] 38 (0,0)):=by
  have q:=heap_alloc_new (((w.alloc (.cells #[.slice a n c] 38)).alloc (.cells #[.string ds,.slice ac dn cc,.slice ar dr cr] 62)).alloc (.cells #[.slice none 0 0] 38)) (.cells #[.slice none 0 0] 38);rw [World.size_alloc,World.size_alloc,World.size_alloc] at q;exact q
 have hWS0:WS w #[.string ds,.slice ac dn cc,.slice ar dr cr] ((((w.alloc (.cells #[.slice a n c] 38)).alloc (.cells #[.string ds,.slice ac dn cc,.slice ar dr cr] 62)).alloc (.cells #[.slice none 0 0] 38)).alloc (.cells #[.slice none 0 0] 38)) [] (.slice none 0 0) (fun _=>[]):=⟨GO.nil (World.ownsRow_nil _ _ _ _),hq1,hq2,hq3,hbU,by rw [hsU];exact Nat.le_refl _⟩;clear hq1 hq2 hq3 hbU hsU;go_enter Tryz.func103,Tryz.ntmps103
 go_wp2;go_loopw [6,8,13] (fun pb _ i wr=>∃ (k:Nat) (A:List Td) (p:Bool) (v:Value) (f:Nat->List Value),k<=n/\i=.int .i64 k/\pb=.bool p/\wtS T d k=(A,p)/\WS w #[.string ds,.slice ac dn cc,.slice ar dr cr] wr A v f) (fun _ _ i _=>n - (intOf i).toNat)
 case atStart=>exact⟨0,[],false,.slice none 0 0,fun _=>[],by omega,rfl,rfl,rfl,hWS0⟩
 case round=>
  obtain⟨k,A,p,v,f,hk,rfl,rfl,hwt,hWS⟩:=hrel;have HWT:Hid (wtS T d k=(A,p)):=hwt;have hAl:A.length<=k+1:=by
   have:=wtS_len (T:=T) (d:=d) (k:=k);rw [hwt] at this;simp only [opt_len] at this
   split at this <;> omega
  clear hwt;have hb:=hWS.be;have hsz:=hWS.sz;have HLD:Hid (∀ W,Below w.heap.size w W->Liv (fun b=>b<w.heap.size) W (ET [.string ds,.slice ac dn cc,.slice ar dr cr] d)):=fun W hW=>((HdC.and HdR).later hW).imp (fun _ h=>by rw [HD.out];have:=HS.out;rw [HD.out] at this;exact⟨_,_,_,_,rfl,h.1,h.2,this⟩);by_cases hlt:k<n
  rotate_left
  ·
   obtain rfl:k=n:=by omega
   have HWL:Hid (wtL T d k=A ++ opt (!p) d):=by show _=_;unfold wtL;rw [HWT.out]
   obtain⟨x0,x1,x2,-⟩:=box3 hWS.r1;obtain⟨y0,yf0⟩:=box1 hWS.r2;obtain⟨z0,zf0⟩:=box1 hWS.r3;cases p
   ·
    go_wp2_with (first | (go_at_call 53;have _h:=hW6;refine(sSame (some ⟨g6,0,none⟩) (A.length+1) cap6 (fun i=>(wtL T d k).getD i t0) _ hTL (by omega) (by rw [←HLN.out];exact HFL.out)).mono ?_;rintro e w8 ⟨a8,c8,rfl,hTL8,hb8⟩;have hr8:=rowL hW6.r2 hb8;obtain⟨m8,n8⟩:=box1 hr8) | (at_builtin;refine wpList_append_lies _ rfl _ _ _ rfl (w.heap.size+4) 62 jt (.agg #[.string ByteArray.empty,.slice none 0 0,.slice none 0 0]) 3 64 Tryz.underlying36 HIt.out hzt0 hzt1 hzt2 rfl (by omega) (v) A.length (flt f A.length) rfl (hWS.later (bal _ _)).tt.own ⟨wr.heap.size,0,none⟩ 1 1 [.string ds,.slice ac dn cc,.slice ar dr cr] rfl rfl (news3 (by first | rfl | simp)) (ones3 rfl rfl rfl) (by omega) (by unfold maxLen;omega) (by omega) (hWS.later (bal _ _)).sz _ rfl ?_;intro g6 cap6 w6 hO6 hgr6 hat6 hlt6;have hm6:=rowR (rowL hWS.r3 (bal _ _)) hgr6 (hWS.vb _ (by omega));obtain⟨mm6,nn6⟩:=box1 hm6;have hW6:=hWS.push (x:=d) (HLD.out _ hWS.be) rfl hO6 hgr6 hat6;obtain⟨l0,lf0⟩:=box1 hW6.r3;obtain⟨a1,c1,hv,hTL⟩:=TO.tl hW6.tt;obtain⟨rfl,rfl⟩:some ⟨g6,0,none⟩=a1/\cap6=c1:=(by simpa using hv);have hwe:A ++ [d]=wtL T d k:=(by rw [HWL.out];simp [opt]);rw [show (A ++ [d]).length=A.length+1 from (by simp),hwe] at hTL;have HLN:Hid ((wtL T d k).length=A.length+1):=(by show _=_;rw [←hwe];simp);clear hwe hv))
    rw [HLN.out];refine bodyPost_ret (v:=.agg #[.slice a8 (A.length+1) c8]) ?_ rfl ?_
    · exact results_cell_row Tryz.results103 _ _ (w.heap.size+1+1) 38 _ (0,0) _ rfl (row1 hr8 _) Tryz.underlying38 rfl (by kernel_rfl)
    · exact⟨a8,c8,rfl,(hTL8.wide (Y:=fun b=>w.heap.size+4<=b) (fun b hb _=>Nat.le_trans hW6.sz hb)).set (by omega) |>.wide (fun b hb _=>by omega),bset (bstep hW6.be hb8) (by omega)⟩
   ·
    obtain⟨a1,c1,hv,hTL⟩:=TO.tl hWS.tt;rw [show A=wtL T d k from by rw [HWL.out];simp [opt]] at hTL hv
    subst hv;go_wp2_with (first | (go_at_call 53;refine(sSame a1 (wtL T d k).length c1 (fun i=>(wtL T d k).getD i t0) _ hTL (by have:=HWLN.out;omega) HFL.out).mono ?_;rintro e w8 ⟨a8,c8,rfl,hTL8,hb8⟩;have hr8:=rowL hWS.r2 hb8;obtain⟨m8,n8⟩:=box1 hr8))
    refine bodyPost_ret (v:=.agg #[.slice a8 (wtL T d k).length c8]) ?_ rfl ?_
    · exact results_cell_row Tryz.results103 _ _ (w.heap.size+1+1) 38 _ (0,0) _ rfl (row1 hr8 _) Tryz.underlying38 rfl (by kernel_rfl)
    · exact⟨a8,c8,rfl,(hTL8.wide (Y:=fun b=>w.heap.size+4<=b) (fun b hb _=>Nat.le_trans hWS.sz hb)).set (by omega) |>.wide (fun b hb _=>by omega),bset (bstep hWS.be hb8) (by omega)⟩
  obtain⟨b,off,kc,kcc,kr,kcr,rfl,e0,e1,e2,hkC,hkR,hkS⟩:=h k hlt;have hLK:=hkC.lb.and hkR.lb;obtain⟨ks,kn,kC,kR,km,kO,hTk⟩:∃ s nc C r m R,T k=⟨s,nc,C,r,m,R⟩:=⟨_,_,_,_,_,_,rfl⟩;have HTK:Hid (T k=⟨ks,kn,kC,kR,km,kO⟩):=hTk;have HLK:Hid (∀ W,Below w.heap.size w W->Liv (fun b=>b<w.heap.size) W (ET [.string ks,.slice kc kn kcc,.slice kr kR kcr] (T k))):=fun W hW=>(hLK.later hW).imp (fun _ h=>by rw [hTk] at h hkS ⊢;exact⟨_,_,_,_,rfl,h.1,h.2,hkS⟩);rw [hTk] at e0 e1 e2;simp only at e0 e1 e2
  have f0:=keepB hb e0;have f1:=keepB hb e1;have f2:=keepB hb e2;clear e0 e1 e2 hTk hkC hkR hkS hLK;have hkn:(k:Int)<n:=by omega
  have hW5:=hWS.later (bal wr (.cells #[.string ks,.slice kc kn kcc,.slice kr kR kcr] 62));have hrT:=heap_alloc_new wr (.cells #[.string ks,.slice kc kn kcc,.slice kr kR kcr] 62);have hs5:(wr.alloc (.cells #[.string ks,.slice kc kn kcc,.slice kr kR kcr] 62)).heap.size=wr.heap.size+1:=World.size_alloc _ _;obtain⟨x0,x1,x2,-⟩:=box3 hW5.r1;obtain⟨z0,zf0⟩:=box1 hW5.r3;cases p
  ·
   rcases hb1:Op.bytesLess ds.toList ks.toList
   ·
    rcases hb2:ds.toList == ks.toList
    ·
     rcases he:ks.toList == ds.toList
     ·
      skip
      go_wp2_with (first | (at_builtin;refine wpList_append_lies _ rfl _ _ _ rfl (w.heap.size+4) 62 jt (.agg #[.string ByteArray.empty,.slice none 0 0,.slice none 0 0]) 3 64 Tryz.underlying36 HIt.out hzt0 hzt1 hzt2 rfl (by omega) (v) A.length (flt f A.length) rfl (hW5.later (bal _ _)).tt.own ⟨wr.heap.size+1,0,none⟩ 1 1 [.string ks,.slice kc kn kcc,.slice kr kR kcr] rfl rfl (news3 (by first | rfl | simp)) (ones3 rfl rfl rfl) (by omega) (by unfold maxLen;omega) (by omega) (hW5.later (bal _ _)).sz _ rfl ?_;intro g6 cap6 w6 hO6 hgr6 hat6 hlt6;have hm6:=rowR (rowL hW5.r3 (bal _ _)) hgr6 (hW5.vb _ (by omega));obtain⟨mm6,nn6⟩:=box1 hm6))
      have hW6:=hW5.push (x:=T k) (HLK.out _ hW5.be) rfl hO6 hgr6 hat6;go_roundw
      case rel=>exact⟨k+1,A ++ [T k],false,_,_,by omega,by go_num,rfl,by simp only [wtS];rw [HWT.out,HTK.out,HDS.out];simp [opt,leS,hb1,hb2,he],hW6⟩
      case measure=>simp [intOf];omega
     ·
      exfalso
      have:=eq_of_beq he;rw [this] at hb2;simp at hb2
    ·
     rcases he:ks.toList == ds.toList
     ·
      exfalso
      have:=eq_of_beq hb2;rw [this] at he;simp at he
     ·
      skip
      go_wp2_with (first | (at_builtin;refine wpList_append_lies _ rfl _ _ _ rfl (w.heap.size+4) 62 jt (.agg #[.string ByteArray.empty,.slice none 0 0,.slice none 0 0]) 3 64 Tryz.underlying36 HIt.out hzt0 hzt1 hzt2 rfl (by omega) (v) A.length (flt f A.length) rfl (hW5.later (bal _ _)).tt.own ⟨wr.heap.size+1,0,none⟩ 1 1 [.string ds,.slice ac dn cc,.slice ar dr cr] rfl rfl (news3 (by first | rfl | simp)) (ones3 rfl rfl rfl) (by omega) (by unfold maxLen;omega) (by omega) (hW5.later (bal _ _)).sz _ rfl ?_;intro g6 cap6 w6 hO6 hgr6 hat6 hlt6;have hm6:=rowR (rowL hW5.r3 (bal _ _)) hgr6 (hW5.vb _ (by omega));obtain⟨mm6,nn6⟩:=box1 hm6;have hW6:=hW5.push (x:=d) (HLD.out _ hW5.be) rfl hO6 hgr6 hat6;have hT6:=ws_row (w:=w) (u:=.slice (some ⟨g6,0,none⟩) (A.length+1) cap6) hrT hgr6 (hWS.vb _ (by omega)) (by omega);obtain⟨t0,t1,t2,-⟩:=box3 hT6;obtain⟨d0_,d1_,d2_,-⟩:=box3 hW6.r1;obtain⟨l0,lf0⟩:=box1 hW6.r3))
      go_roundw
      case rel=>exact⟨k+1,A ++ [d],true,_,_,by omega,by go_num,rfl,by simp only [wtS];rw [HWT.out,HTK.out,HDS.out];simp [opt,leS,hb1,hb2,he],hW6⟩
      case measure=>simp [intOf];omega
   ·
    rcases he:ks.toList == ds.toList
    ·
     skip
     go_wp2_with (first | (at_builtin;have _h:=hW6;refine wpList_append_lies _ rfl _ _ _ rfl (w.heap.size+4) 62 jt (.agg #[.string ByteArray.empty,.slice none 0 0,.slice none 0 0]) 3 64 Tryz.underlying36 HIt.out hzt0 hzt1 hzt2 rfl (by omega) (.slice (some ⟨g6,0,none⟩) (A.length+1) cap6) (A ++ [d]).length (flt (fun i=>if i<A.length then f i else [.string ds,.slice ac dn cc,.slice ar dr cr]) (A ++ [d]).length) rfl (hW6.later (bal _ _)).tt.own ⟨w6.heap.size,0,none⟩ 1 1 [.string ks,.slice kc kn kcc,.slice kr kR kcr] rfl rfl (news3 (by first | rfl | simp)) (ones3 rfl rfl rfl) (by omega) (by unfold maxLen;simp;omega) (by simp;omega) (hW6.later (bal _ _)).sz _ rfl ?_;intro g7 cap7 w7 hO7 hgr7 hat7 hlt7;have hm7:=rowR (rowL hW6.r3 (bal _ _)) hgr7 (hW6.vb _ (by omega));obtain⟨mm7,nn7⟩:=box1 hm7) | (at_builtin;refine wpList_append_lies _ rfl _ _ _ rfl (w.heap.size+4) 62 jt (.agg #[.string ByteArray.empty,.slice none 0 0,.slice none 0 0]) 3 64 Tryz.underlying36 HIt.out hzt0 hzt1 hzt2 rfl (by omega) (v) A.length (flt f A.length) rfl (hW5.later (bal _ _)).tt.own ⟨wr.heap.size+1,0,none⟩ 1 1 [.string ds,.slice ac dn cc,.slice ar dr cr] rfl rfl (news3 (by first | rfl | simp)) (ones3 rfl rfl rfl) (by omega) (by unfold maxLen;omega) (by omega) (hW5.later (bal _ _)).sz _ rfl ?_;intro g6 cap6 w6 hO6 hgr6 hat6 hlt6;have hm6:=rowR (rowL hW5.r3 (bal _ _)) hgr6 (hW5.vb _ (by omega));obtain⟨mm6,nn6⟩:=box1 hm6;have hW6:=hW5.push (x:=d) (HLD.out _ hW5.be) rfl hO6 hgr6 hat6;have hT6:=ws_row (w:=w) (u:=.slice (some ⟨g6,0,none⟩) (A.length+1) cap6) hrT hgr6 (hWS.vb _ (by omega)) (by omega);obtain⟨t0,t1,t2,-⟩:=box3 hT6;obtain⟨d0_,d1_,d2_,-⟩:=box3 hW6.r1;obtain⟨l0,lf0⟩:=box1 hW6.r3))
     have hW7:=hW6.push (x:=T k) (HLK.out _ hW6.be) rfl hO7 hgr7 hat7;rw [show (A ++ [d]).length+1=A.length+1+1 from by simp] at hW7
     go_roundw
     case rel=>exact⟨k+1,A ++ [d] ++ [T k],true,_,_,by omega,by go_num,rfl,by simp only [wtS];rw [HWT.out,HTK.out,HDS.out];simp [opt,leS,hb1,he],hW7⟩
     case measure=>simp [intOf];omega
    ·
     skip
     go_wp2_with (first | (at_builtin;refine wpList_append_lies _ rfl _ _ _ rfl (w.heap.size+4) 62 jt (.agg #[.string ByteArray.empty,.slice none 0 0,.slice none 0 0]) 3 64 Tryz.underlying36 HIt.out hzt0 hzt1 hzt2 rfl (by omega) (v) A.length (flt f A.length) rfl (hW5.later (bal _ _)).tt.own ⟨wr.heap.size+1,0,none⟩ 1 1 [.string ds,.slice ac dn cc,.slice ar dr cr] rfl rfl (news3 (by first | rfl | simp)) (ones3 rfl rfl rfl) (by omega) (by unfold maxLen;omega) (by omega) (hW5.later (bal _ _)).sz _ rfl ?_;intro g6 cap6 w6 hO6 hgr6 hat6 hlt6;have hm6:=rowR (rowL hW5.r3 (bal _ _)) hgr6 (hW5.vb _ (by omega));obtain⟨mm6,nn6⟩:=box1 hm6;have hW6:=hW5.push (x:=d) (HLD.out _ hW5.be) rfl hO6 hgr6 hat6;have hT6:=ws_row (w:=w) (u:=.slice (some ⟨g6,0,none⟩) (A.length+1) cap6) hrT hgr6 (hWS.vb _ (by omega)) (by omega);obtain⟨t0,t1,t2,-⟩:=box3 hT6;obtain⟨d0_,d1_,d2_,-⟩:=box3 hW6.r1;obtain⟨l0,lf0⟩:=box1 hW6.r3))
     go_roundw
     case rel=>exact⟨k+1,A ++ [d],true,_,_,by omega,by go_num,rfl,by simp only [wtS];rw [HWT.out,HTK.out,HDS.out];simp [opt,leS,hb1,he],hW6⟩
     case measure=>simp [intOf];omega
  ·
   rcases he:ks.toList == ds.toList
   ·
    skip
    go_wp2_with (first | (at_builtin;refine wpList_append_lies _ rfl _ _ _ rfl (w.heap.size+4) 62 jt (.agg #[.string ByteArray.empty,.slice none 0 0,.slice none 0 0]) 3 64 Tryz.underlying36 HIt.out hzt0 hzt1 hzt2 rfl (by omega) (v) A.length (flt f A.length) rfl (hW5.later (bal _ _)).tt.own ⟨wr.heap.size+1,0,none⟩ 1 1 [.string ks,.slice kc kn kcc,.slice kr kR kcr] rfl rfl (news3 (by first | rfl | simp)) (ones3 rfl rfl rfl) (by omega) (by unfold maxLen;omega) (by omega) (hW5.later (bal _ _)).sz _ rfl ?_;intro g6 cap6 w6 hO6 hgr6 hat6 hlt6;have hm6:=rowR (rowL hW5.r3 (bal _ _)) hgr6 (hW5.vb _ (by omega));obtain⟨mm6,nn6⟩:=box1 hm6))
    have hW6:=hW5.push (x:=T k) (HLK.out _ hW5.be) rfl hO6 hgr6 hat6;go_roundw
    case rel=>exact⟨k+1,A ++ [T k],true,_,_,by omega,by go_num,rfl,by simp only [wtS];rw [HWT.out,HTK.out,HDS.out];simp [opt,leS,he],hW6⟩
    case measure=>simp [intOf];omega
   ·
    skip
    go_wp2;go_roundw
    case rel=>exact⟨k+1,A,true,v,f,by omega,by go_num,rfl,by simp only [wtS];rw [HWT.out,HTK.out,HDS.out];simp [opt,leS,he],hW5⟩
    case measure=>simp [intOf];omega
set_option maxRecDepth 20000
set_option maxHeartbeats 16000000
def tlL(T:Nat->Td)(n:Nat):List Td:=(List.range n).map T
theorem tlL_len(T:Nat->Td)(n:Nat):(tlL T n).length=n:=by simp [tlL]
theorem tlL_get(T:Nat->Td){n i:Nat}(h:i<n):(tlL T n).getD i t0=T i:=by simp [tlL,h]
def Ans(w:World)(A:List Td)(cd:Int)(e:Ending)(w':World):Prop:=∃ a' c',e=.returned (.tuple #[.agg #[.slice a' A.length c'],.int .i64 cd])/\Liv (fun b=>w.heap.size<=b) w' (fun v=>TL v a' A.length (fun i=>A.getD i t0))/\Below w.heap.size w w'
theorem TL.congr{w:World}{a:Option Addr}{n:Nat}{T T':Nat->Td}(h:TL w a n T)(e:∀ k,k<n->T' k=T k):TL w a n T':=fun k hk=>by
 rw [e k hk];exact h k hk
theorem TL.list{w:World}{a:Option Addr}{n:Nat}{T:Nat->Td}(h:TL w a n T):TL w a (tlL T n).length (fun i=>(tlL T n).getD i t0):=by
 rw [tlL_len];exact h.congr (fun k hk=>tlL_get T hk)
theorem results_cell_tmp{P:Program}{fn:Func}{p t0:Tmp}{ty:TypeId}(h:fn.results=#[.cell p ty,.tmp t0])(tmps:Array Value)(w:World)(g:Nat)(t:TypeId)(cs:Array Value)(fr:Nat×Nat)(d:TypeDesc)
 (hp:tmps.getD p undef=.pointer (some ⟨g,0,none⟩)) (hg:w.heap[g]?=some (.cells cs t fr))
 (hu:P.underlying ty=some d) (hd:(match d with | .struct _ | .array _ _=>true | _=>false)=true) (hi:(P.info? ty).map (·.size)=some cs.size) :
 (results fn tmps).run P w=.ok (.tuple #[.agg cs,tmps.getD t0 undef]) w:=by
 have hp':tmps[p]?.getD undef=.pointer (some ⟨g,0,none⟩):=by simpa using hp
 simp [results,h,hp',asAddr,run_loadVar_row w g t ty cs fr d hg hu hd hi]
theorem ans_same{w W w2:World}{a':Option Addr}{c' R n:Nat}{T:Nat->Td}{v:Value}(hW:Below w.heap.size w W)(hL:Liv (fun b=>W.heap.size<=b) w2 (fun v=>TL v a' n T))(hb:Below W.heap.size W w2)(hR:w.heap.size<=R)(hR2:R<W.heap.size)(cd:Int):Ans w (tlL T n) cd (.returned (.tuple #[.agg #[.slice a' n c'],.int .i64 cd])) (w2.setCell ⟨R,0,none⟩ v):=
 ⟨a',c',by rw [tlL_len],((hL.set (B:=R) (by omega)).wide (fun b hb' _=>by have:=hW.size;omega)).imp (fun _ h=>h.list),bset (bstep hW hb) hR⟩
theorem ans_with{w W w2:World}{a':Option Addr}{c' R:Nat}{A:List Td}{v:Value}(hW:Below w.heap.size w W)(hL:Liv (fun b=>W.heap.size<=b) w2 (fun v=>TL v a' A.length (fun i=>A.getD i t0)))(hb:Below W.heap.size W w2)(hR:w.heap.size<=R)(hR2:R<W.heap.size)(cd:Int):Ans w A cd (.returned (.tuple #[.agg #[.slice a' A.length c'],.int .i64 cd])) (w2.setCell ⟨R,0,none⟩ v):=
 ⟨a',c',rfl,(hL.set (B:=R) (by omega)).wide (fun b hb' _=>by have:=hW.size;omega),bset (bstep hW hb) hR⟩
def crA(T:Nat->Td)(n:Nat)(tb:ByteArray)(n2:Nat)(C:Nat->Clm):List Td×Int:=
 if (tabI T tb n).isSome=true then (tlL T n,2) else if difB C n2=false then (tlL T n,3) else if n=100 then (tlL T n,6) else (wtL T ⟨tb,n2,C,0,fun _=>0,fun _ _=>d0⟩ n,0)
theorem difB_no{C:Nat->Clm}{n j:Nat}(hj:j<n)(h:hasCol C (C j).s j=true):difB C n=false:=allN_false hj (by rw [h];rfl)
theorem box8{W:World}{R:Nat}{x0 x1 x2 x3 x4 x5 x6 x7:Value}{t:TypeId}(h:W.heap[R]?=some (.cells #[x0,x1,x2,x3,x4,x5,x6,x7] t (0,0))):W.cell? ⟨R,0,none⟩=some x0/\W.cell? ⟨R,1,none⟩=some x1/\W.cell? ⟨R,2,none⟩=some x2/\W.cell? ⟨R,3,none⟩=some x3/\W.cell? ⟨R,4,none⟩=some x4/\W.cell? ⟨R,5,none⟩=some x5/\W.cell? ⟨R,6,none⟩=some x6/\W.cell? ⟨R,7,none⟩=some x7:=
 ⟨cell_of_row _ _ 0 _ _ _ h,cell_of_row _ _ 1 _ _ _ h,cell_of_row _ _ 2 _ _ _ h,cell_of_row _ _ 3 _ _ _ h,cell_of_row _ _ 4 _ _ _ h,cell_of_row _ _ 5 _ _ _ h,cell_of_row _ _ 6 _ _ _ h,cell_of_row _ _ 7 _ _ _ h⟩
theorem sCreate(a:Option Addr)(n c:Nat)(T:Nat->Td)(k0:Int)(tb:ByteArray)(a2:Option Addr)(n2 c2:Nat)(a3:Option Addr)(n3 c3:Nat)(col:ByteArray)(a5:Option Addr)(n5 c5:Nat)(a6:Option Addr)(n6 c6:Nat)(a7:Option Addr)(n7 c7:Nat)(C:Nat->Clm)(w:World)(h:TL w a n T)(hC:CL w a2 n2 C)(hn:n<=1000000)(hF:Fil n T)(h20:0<n2)(h2m:n2<=1048576)(hcap:n2<=c2)(htb:tb.size<=1048576) :
 Calls Tryz.prog 52 #[.agg #[.slice a n c],.agg #[.int .i64 k0,.string tb,.slice a2 n2 c2,.slice a3 n3 c3,.string col,.slice a5 n5 c5,.slice a6 n6 c6,.slice a7 n7 c7]] w (Ans w (crA T n tb n2 C).1 (crA T n tb n2 C).2):=by
 have HF:Hid (Fil n T):=hF;clear hF;have hbU:Below w.heap.size w (((w.alloc (.cells #[.slice a n c] 38)).alloc (.cells #[.int .i64 k0,.string tb,.slice a2 n2 c2,.slice a3 n3 c3,.string col,.slice a5 n5 c5,.slice a6 n6 c6,.slice a7 n7 c7] 45)).alloc (.cells #[.slice none 0 0] 38)):=below3 _ _ _ _;have hsU:(((w.alloc (.cells #[.slice a n c] 38)).alloc (.cells #[.int .i64 k0,.string tb,.slice a2 n2 c2,.slice a3 n3 c3,.string col,.slice a5 n5 c5,.slice a6 n6 c6,.slice a7 n7 c7] 45)).alloc (.cells #[.slice none 0 0] 38)).heap.size=w.heap.size+3:=by rw [World.size_alloc,World.size_alloc,World.size_alloc]
 have hq0:(((w.alloc (.cells #[.slice a n c] 38)).alloc (.cells #[.int .i64 k0,.string tb,.slice a2 n2 c2,.slice a3 n3 c3,.string col,.slice a5 n5 c5,.slice a6 n6 c6,.slice a7 n7 c7] 45)).alloc (.cells #[.slice none 0 0] 38)).heap[w.heap.size]?=some (.cells #[.slice a n c] 38 (0,0)):=rowL (rowL (heap_alloc_new w _) (bal _ _)) (bal _ _);have hq1:(((w.alloc (.cells #[.slice a n c] 38)).alloc (.cells #[.int .i64 k0,.string tb,.slice a2 n2 c2,.slice a3 n3 c3,.string col,.slice a5 n5 c5,.slice a6 n6 c6,.slice a7 n7 c7] 45)).alloc (.cells #[.slice none 0 0] 38)).heap[w.heap.size+1]?=some (.cells #[.int .i64 k0,.string tb,.slice a2 n2 c2,.slice a3 n3 c3,.string col,.slice a5 n5 c5,.slice a6 n6 c6,.slice a7 n7 c7] 45 (0,0)):=by
  have q:=heap_alloc_new (w.alloc (.cells #[.slice a n c] 38)) (.cells #[.int .i64 k0,.string tb,.slice a2 n2 c2,.slice a3 n3 c3,.string col,.slice a5 n5 c5,.slice a6 n6 c6,.slice a7 n7 c7] 45);rw [World.size_alloc] at q;exact rowL q (bal _ _)
 have hq2:(((w.alloc (.cells #[.slice a n c] 38)).alloc (.cells #[.int .i64 k0,.string tb,.slice a2 n2 c2,.slice a3 n3 c3,.string col,.slice a5 n5 c5,.slice a6 n6 c6,.slice a7 n7 c7] 45)).alloc (.cells #[.slice none 0 0] 38)).heap[w.heap.size+1+1]?=some (.cells #[.slice none 0 0] 38 (0,0)):=by
  have q:=heap_alloc_new ((w.alloc (.cells #[.slice a n c] 38)).alloc (.cells #[.int .i64 k0,.string tb,.slice a2 n2 c2,.slice a3 n3 c3,.string col,.slice a5 n5 c5,.slice a6 n6 c6,.slice a7 n7 c7] 45)) (.cells #[.slice none 0 0] 38);rw [World.size_alloc,World.size_alloc] at q;exact q
 rcases ht:tabI T tb n with _ | j
 rotate_left
 ·
  have HA:Hid (crA T n tb n2 C=(tlL T n,2)):=by show _=_;unfold crA;rw [ht];rfl
  have hz:colZ (tabI T tb n)=(j:Int):=by rw [ht];rfl
  clear ht;have hj0:(0:Int)<=(j:Int):=by omega
  go_enter Tryz.func52,Tryz.ntmps52
  go_wp2_with (first | (go_at_call 26;refine(sTable a n c T tb _ (h.later hbU) (by omega)).mono ?_;rintro e w1 ⟨rfl,hb1⟩;rw [hz];have r0:=rowL hq0 hb1;have r2:=rowL hq2 hb1;obtain⟨m0,-⟩:=box1 r0) | (go_at_call 53;refine(sSame a n c T _ (h.later (bstep hbU hb1)) (by omega) HF.out).mono ?_;rintro e w2 ⟨a8,c8,rfl,hL8,hb8⟩;have s2:=rowL r2 hb8;obtain⟨m2,f2⟩:=box1 s2))
  refine bodyPost_ret (results_cell_tmp Tryz.results52 _ _ (w.heap.size+1+1) 38 _ (0,0) _ rfl (row1 s2 _) Tryz.underlying38 rfl (by kernel_rfl)) rfl ?_;rw [HA.out];exact ans_same (bstep hbU hb1) hL8 hb8 (by omega) (by have:=hb1.size;omega) 2
 have HT:Hid (tabI T tb n=none):=ht;have hz:colZ (tabI T tb n)=-1:=by rw [ht];rfl
 clear ht;obtain⟨b2,off2,rfl,-⟩:=hC 0 h20;go_enter Tryz.func52,Tryz.ntmps52
 go_wp2_with (first | (go_at_call 26;refine(sTable a n c T tb _ (h.later hbU) (by omega)).mono ?_;rintro e w1 ⟨rfl,hb1⟩;rw [hz];have r0:=rowL hq0 hb1;have r1:=rowL hq1 hb1;have r2:=rowL hq2 hb1;obtain⟨m0,-⟩:=box1 r0;obtain⟨-,m1,m2,-⟩:=box8 r1))
 have hb10:=bstep hbU hb1;have hs1:=hb1.size;go_loopw [6,7,18] (fun _ _ i wr=>∃ k:Nat,k<=n2/\i=.int .i64 k/\(∀ j,j<k->hasCol C (C j).s j=false)/\Below w1.heap.size w1 wr) (fun _ _ i _=>n2 - (intOf i).toNat)
 case atStart=>exact⟨0,by omega,rfl,fun j hj=>by omega,Below.refl _ _⟩
 case round=>
  obtain⟨k,hk,rfl,hno,hbr⟩:=hrel;have HNO:Hid (∀ j,j<k->hasCol C (C j).s j=false):=hno;clear hno;have q0:=rowL r0 hbr;have q1:=rowL r1 hbr;have q2:=rowL r2 hbr;obtain⟨u0,-⟩:=box1 q0;obtain⟨-,u1,u2,-⟩:=box8 q1;have hbw:=bstep hb10 hbr;have hsr:=hbr.size;by_cases hlt:k<n2
  ·
   obtain⟨b3,off3,e3,c0,c1,hs3⟩:=hC.later hbw k hlt;obtain⟨rfl,rfl⟩:b2=b3/\off2=off3:=by simpa using e3
   clear e3;have hkn:(k:Int)<n2:=by omega
   have hkc:(k:Int)<=c2:=by omega
   have hkc2:k<=c2:=by omega
   have hk0:(0:Int)<=k:=by omega
   have v2:=keepB (bal wr (.cells #[.string (C k).s,.int .i64 (C k).t] 113)) u2;have hnew:=(cell_of_row _ _ 0 _ _ _ (heap_alloc_new wr (.cells #[.string (C k).s,.int .i64 (C k).t] 113)));have hCk:=hC.later (bstep hbw (bal wr (.cells #[.string (C k).s,.int .i64 (C k).t] 113)));go_upto_region 6 with (go_at_call 67;fail)
   refine wp_region_held_drew (S:=fun x=>Below (wr.alloc (.cells #[.string (C k).s,.int .i64 (C k).t] 113)).heap.size (wr.alloc (.cells #[.string (C k).s,.int .i64 (C k).t] 113)) x) (by kernel_rfl) (bdrew _) (fun jH=>?_);refine tk 0 (⟨some 23,.fieldAddr 45 (.tmp 3) 2,0,"l5_replay.go:266",#[],none⟩:Oper) (fun x jS=>by go_simp<;>rfl) jH ?_
   try simp only [zS]
   refine tk 1 (⟨some 24,.load 40 (.tmp 23),40,"l5_replay.go:266",#[⟨0,.data⟩],none⟩:Oper) (fun x jS=>by have k0:=keepB jS v2;have k1:=keepB jS hnew;go_simp<;>rfl) jH ?_
   try simp only [zS]
   refine tk 2 (⟨some 25,.move (.tmp 6),3,"l5_replay.go:266",#[],none⟩:Oper) (fun x jS=>by go_simp<;>rfl) jH ?_
   try simp only [zS]
   refine tk 3 (⟨some 26,.slice 40 (.tmp 24) none (some (.tmp 25)) none,40,"l5_replay.go:266",#[⟨1,.data⟩,⟨2,.data⟩],none⟩:Oper) (fun x jS=>by go_simp<;>rfl) jH ?_
   try simp only [zS]
   refine tk 4 (⟨some 27,.fieldAddr 113 (.tmp 7) 0,0,"l5_replay.go:266",#[],none⟩:Oper) (fun x jS=>by go_simp<;>rfl) jH ?_
   try simp only [zS]
   refine tk 5 (⟨some 28,.load 9 (.tmp 27),9,"l5_replay.go:266",#[⟨4,.data⟩],none⟩:Oper) (fun x jS=>by have k0:=keepB jS v2;have k1:=keepB jS hnew;go_simp<;>rfl) jH ?_
   try simp only [zS]
   refine rd 6 (⟨some 29,.call ⟨.value (.func 67),#[.tmp 26,.tmp 28],#[40,9]⟩,3,"l5_replay.go:266",#[⟨3,.data⟩,⟨5,.data⟩],none⟩:Oper) (fun K hK=>?_);go_simp;refine(sCol (some ⟨b2,off2,none⟩) k c2 C (C k).s _ ((hCk.later jH).take (by omega)) (by omega)).mono ?_;rintro e w4 ⟨r4,rfl,hr4,hb4⟩;refine hK.out _ _ (bstep jH hb4) (fun jH=>?_);clear hK K;try simp only [zS]
   refine tk 7 (⟨some 30,.binOp .geq 3 (.tmp 29) (.const (.int .i64 0)) 3,4,"l5_replay.go:266",#[⟨6,.data⟩],none⟩:Oper) (fun x jS=>by go_simp<;>rfl) jH ?_
   try simp only [zS]
   refine wpAnyH_done (by kernel_rfl) ?_ _;have hb5:=bstep (bal wr (.cells #[.string (C k).s,.int .i64 (C k).t] 113)) jH;clear jH;rcases hh:hasCol C (C k).s k
   ·
    have hr5:¬(0:Int)<=r4:=by rw [hr4,hh];simp
    go_wp2;go_roundw
    case rel=>exact⟨k+1,by omega,by go_num,fun j hj=>by
     by_cases e:j=k
     · rw [e];exact hh
     · exact HNO.out j (by omega),bstep hbr hb5⟩
    case measure=>simp [intOf];omega
   ·
    have hr5:(0:Int)<=r4:=hr4.2 hh;have HA:Hid (crA T n tb n2 C=(tlL T n,3)):=by show _=_;unfold crA;rw [HT.out,difB_no hlt hh];rfl
    have s0:=rowL q0 hb5;have s1:=rowL q2 hb5;obtain⟨y0,-⟩:=box1 s0;have hs5:=hb5.size;go_wp2_with (first | (go_at_call 53;refine(sSame a n c T _ (h.later (bstep hbw hb5)) (by omega) HF.out).mono ?_;rintro e w2 ⟨a8,c8,rfl,hL8,hb8⟩;have s2:=rowL s1 hb8;obtain⟨y2,f2⟩:=box1 s2))
    refine bodyPost_ret (results_cell_tmp Tryz.results52 _ _ (w.heap.size+1+1) 38 _ (0,0) _ rfl (row1 s2 _) Tryz.underlying38 rfl (by kernel_rfl)) rfl ?_;rw [HA.out];exact ans_same (bstep hbw hb5) hL8 hb8 (by omega) (by omega) 3
  ·
   obtain rfl:k=n2:=by omega
   have HDF:Hid (difB C k=true):=allN_true (fun j hj=>by rw [HNO.out j hj];rfl);by_cases hN:n=100
   ·
    subst hN;have HA:Hid (crA T 100 tb k C=(tlL T 100,6)):=by show _=_;unfold crA;rw [HT.out,HDF.out];rfl
    go_wp2_with (first | (go_at_call 53;refine(sSame a 100 c T _ (h.later hbw) (by omega) HF.out).mono ?_;rintro e w2 ⟨a8,c8,rfl,hL8,hb8⟩;have s2:=rowL q2 hb8;obtain⟨y2,f2⟩:=box1 s2))
    refine bodyPost_ret (results_cell_tmp Tryz.results52 _ _ (w.heap.size+1+1) 38 _ (0,0) _ rfl (row1 s2 _) Tryz.underlying38 rfl (by kernel_rfl)) rfl ?_;rw [HA.out];exact ans_same hbw hL8 hb8 (by omega) (by omega) 6
   ·
    have nN:((n:Int) == 100)=false:=by simp;omega
    have HA:Hid (crA T n tb k C=(wtL T ⟨tb,k,C,0,fun _=>0,fun _ _=>d0⟩ n,0)):=by show _=_;unfold crA;rw [HT.out,HDF.out,if_neg (by simp),if_neg (by simp),if_neg hN]
    clear hN;have HSM:Hid (Sm3 ⟨tb,k,C,0,fun _=>0,fun _ _=>d0⟩):=⟨htb,⟨h2m,fun j hj=>by obtain⟨_,_,_,_,_,hz⟩:=hC j hj;exact hz⟩,⟨by show (0:Nat)<=_;omega,fun j hj=>absurd hj (Nat.not_lt_zero j)⟩⟩;go_wp2_with (first | (go_at_call 103;refine(sWith_as a n c T tb k C 0 (fun _=>0) (fun _ _=>d0) (some ⟨b2,off2,none⟩) c2 none 0 _ rfl _ (h.later hbw) (hC.later hbw) (fun j hj=>absurd hj (Nat.not_lt_zero j)) HSM.out hn HF.out ⟨h20,fun j hj=>absurd hj (Nat.not_lt_zero j)⟩).mono ?_;rintro e w2 ⟨a8,c8,rfl,hL8,hb8⟩;have s2:=rowL q2 hb8;obtain⟨y2,f2⟩:=box1 s2))
    refine bodyPost_ret (results_cell_tmp Tryz.results52 _ _ (w.heap.size+1+1) 38 _ (0,0) _ rfl (row1 s2 _) Tryz.underlying38 rfl (by kernel_rfl)) rfl ?_;rw [HA.out];exact ans_with hbw hL8 hb8 (by omega) (by omega) 0
end Go.Proofs.YtgeiamgeclbiaaaGreatDoor
