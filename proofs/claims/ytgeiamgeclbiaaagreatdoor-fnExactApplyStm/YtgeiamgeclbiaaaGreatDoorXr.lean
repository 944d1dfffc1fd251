import Derived.Test.YtgeiamgeclbiaaaGreatDoorXq
namespace Go.Proofs.YtgeiamgeclbiaaaGreatDoor
open Go.RowKit Go.Maps Go.WideMaps
set_option maxRecDepth 20000
set_option maxHeartbeats 8000000
def rg(z:Int):Prop:=(Lit.int .i64 z).wf=true
def ChP(L0:List Ro)(rows:List Rw)(cd:Int)(w:World)(e:Ending)(w':World):Prop:=∃ (g c:Nat) (S:List Ro),e=.returned (.tuple #[.slice (some ⟨g,0,none⟩) S.length c,.int .i64 cd])/\(cd=0->S.map Ro.x=rows)/\(∃ cur,w'.heap[g]?=some (.cells cur 41 (0,0))/\∀ j,j<S.length->cur[j]?=some (S.getD j o0).v)/\w.heap.size<=g/\g<w'.heap.size/\(∀ r∈S,RoAt w' r/\(r∈L0∨w.heap.size<=r.b)/\r.b≠g/\r.b<w'.heap.size)/\(cd=0->(S.map Ro.b).Nodup)/\Below w.heap.size w w'
theorem RoAt.lt{w:World}{r:Ro}(h:RoAt w r):r.b<w.heap.size:=by
 obtain⟨⟨cur,h1,-⟩,-⟩:=h;exact(Array.getElem?_eq_some_iff.1 h1).1
theorem TdA.ch{le:Ro->Ro->Bool}{LL L0:List Ro}{rows:List Rw}{cd:Int}{w0 w:World}{e:Ending}{w':World}(h:TdA le LL cd w e w')(hb:Below w0.heap.size w0 w)(h1:∀ r∈LL,r∈L0∨w0.heap.size<=r.b)(h2:cd=0->(LL.map Ro.b).Nodup)(h3:cd=0->(LL.mergeSort le).map Ro.x=rows):ChP L0 rows cd w0 e w':=by
 obtain⟨g,c,he,hO,hr,hbb⟩:=h;have hp:=List.mergeSort_perm LL le;have hl:(LL.mergeSort le).length=LL.length:=List.length_mergeSort LL;have hg:=World.ownsRow.lt hO g rfl;have hs:=hb.size;obtain⟨-,h | ⟨g',cap',cur,e',-,c1,c2,-,c3,c4⟩⟩:=hO
 · cases h.1
 injection e' with e1 e2 e3;injection e1 with e1;injection e1 with e1;subst e1;refine⟨g,c,LL.mergeSort le,by rw [hl];exact he,h3,⟨cur,c1,fun j hj=>?_⟩,by omega,hg.2,fun r hm=>?_,fun hc=>?_,bstep hb hbb⟩
 ·
  have hj2:j<LL.length:=by omega
  have z:=congrArg (fun l=>l[j]?) c4;simp only [Nat.mul_one,List.getElem?_take,if_pos hj2,List.getElem?_map,Array.getElem?_toList] at z
  rw [z];have:(LL.mergeSort le)[j]?=some ((LL.mergeSort le).getD j o0):=by rw [List.getD_eq_getElem?_getD,List.getElem?_eq_getElem hj];rfl
  rw [this];rfl
 · have hm2:=hp.mem_iff.1 hm;have hro:=hr r hm2;refine⟨hro,h1 r hm2,fun e=>?_,hro.lt⟩;obtain⟨⟨cur2,q1,-⟩,-⟩:=hro;rw [e,c1] at q1;simp at q1
 · exact((hp.map Ro.b).nodup_iff).2 (h2 hc)
theorem key_i{x:Rw}(h:rg (x.2 0).m):keyOf Tryz.prog 3 (.int .i64 (x.2 0).m)=some (kI x):=keyOf_int_mk Tryz.underlying3 h
theorem key_s{x:Rw}(h:(x.2 0).s.size<=1048576):keyOf Tryz.prog 9 (.string (x.2 0).s)=some (kS x):=keyOf_string_mk Tryz.underlying9 (by unfold maxLen;omega)
structure Rh(w:World)(ac:Option Addr)(n:Nat)(C:Nat->Clm)(ar:Option Addr)(dr:Nat)(dm:Nat->Nat)(dR:Nat->Nat->Itm)(L0:List Ro):Prop where
 hC:CL w ac n C
 hdp:∀ k,k<n->hasCol C (C k).s k=false
 hR:OL w ar dr dm dR
 hS:RS w ar L0
 hRo:∀ r∈L0,RoAt w r/\0<r.x.1
 hlen:L0.length=dr
 hdr:dr<=1000
 hN:Nice n dr dm dR
 hg:∀ k,k<dr->goodR n C (dR k)
 hx:L0.map Ro.x=rwL dr dm dR
 hnb:(L0.map Ro.b).Nodup
 hsd:Sd (C 0).t dr dm dR
 hrg:∀ i,i<dr->rg (dR i 0).m
theorem Rh.later{w w':World}{ac:Option Addr}{n:Nat}{C:Nat->Clm}{ar:Option Addr}{dr:Nat}{dm:Nat->Nat}{dR:Nat->Nat->Itm}{L0:List Ro}(h:Rh w ac n C ar dr dm dR L0)(hb:Below w.heap.size w w'):Rh w' ac n C ar dr dm dR L0:=
 ⟨h.hC.later hb,h.hdp,h.hR.later hb,h.hS.all (AllC.below hb),fun r hr=>⟨(h.hRo r hr).1.all (BlkC.below hb),(h.hRo r hr).2⟩,h.hlen,h.hdr,h.hN,h.hg,h.hx,h.hnb,h.hsd,h.hrg⟩
theorem Rh.ki{w:World}{ac:Option Addr}{n:Nat}{C:Nat->Clm}{ar:Option Addr}{dr:Nat}{dm:Nat->Nat}{dR:Nat->Nat->Itm}{L0:List Ro}(h:Rh w ac n C ar dr dm dR L0):∀ r∈L0,keyOf Tryz.prog 3 (.int .i64 (r.x.2 0).m)=some (kI r.x):=fun r hr=>by
 have h1:r.x∈rwL dr dm dR:=by rw [←h.hx];exact List.mem_map_of_mem hr
 obtain⟨i,hi,e⟩:=rwL_mem h1;exact key_i (by rw [e];exact h.hrg i hi)
theorem Rh.ks{w:World}{ac:Option Addr}{n:Nat}{C:Nat->Clm}{ar:Option Addr}{dr:Nat}{dm:Nat->Nat}{dR:Nat->Nat->Itm}{L0:List Ro}(h:Rh w ac n C ar dr dm dR L0):∀ r∈L0,keyOf Tryz.prog 9 (.string (r.x.2 0).s)=some (kS r.x):=fun r hr=>by
 have h1:r.x∈rwL dr dm dR:=by rw [←h.hx];exact List.mem_map_of_mem hr
 obtain⟨i,hi,e⟩:=rwL_mem h1;exact key_s (by rw [e];have:=h.hN.txt i hi 0 h.hN.n0;show (dR i 0).s.size<=_;omega)
theorem addL_true{key:Rw->Lit}:∀ {L' A:List Ro},(addL key A L').1=true->(addL key A L').2=A ++ L'
 | [],A,_=>by simp [addL]
 | r :: L',A,h=>by
  unfold addL at h ⊢;split at h
  · cases h
  ·
   rename_i hc
   rw [if_neg hc,addL_true h,List.append_assoc];rfl
theorem nd_app{L Cs:List Ro}{B:Nat}(h1:(L.map Ro.b).Nodup)(h2:(Cs.map Ro.b).Nodup)(h3:∀ r∈L,r.b<B)(h4:∀ r∈Cs,B<=r.b):((L ++ Cs).map Ro.b).Nodup:=by
 rw [List.map_append,List.nodup_append];refine⟨h1,h2,fun a ha b hb=>?_⟩;obtain⟨p,hp,rfl⟩:=List.mem_map.1 ha;obtain⟨q,hq,rfl⟩:=List.mem_map.1 hb;have:=h3 p hp;have:=h4 q hq;omega
theorem nd_sub{L M:List Ro}(h:L.Sublist M)(hn:(M.map Ro.b).Nodup):(L.map Ro.b).Nodup:=hn.sublist (h.map _)
theorem delL_sub(key:Rw->Lit)(X:List Rw)(L:List Ro):(delL key L X).Sublist L:=by rw [delL_eq];exact List.filter_sublist
theorem ft_keysI{w:World}{ac:Option Addr}{n:Nat}{C:Nat->Clm}{ar:Option Addr}{dr:Nat}{dm:Nat->Nat}{dR:Nat->Nat->Itm}{L0:List Ro}(h:Rh w ac n C ar dr dm dR L0){W:Nat->Itm}{n6:Nat}:∀ x∈ftS C n dm dR W n6 dr,keyOf Tryz.prog 3 (.int .i64 (x.2 0).m)=some (kI x):=ftS_mem (fun j hj=>key_i (h.hrg j hj))
theorem ft_keysS{w:World}{ac:Option Addr}{n:Nat}{C:Nat->Clm}{ar:Option Addr}{dr:Nat}{dm:Nat->Nat}{dR:Nat->Nat->Itm}{L0:List Ro}(h:Rh w ac n C ar dr dm dR L0){W:Nat->Itm}{n6:Nat}:∀ x∈ftS C n dm dR W n6 dr,keyOf Tryz.prog 9 (.string (x.2 0).s)=some (kS x):=ftS_mem (fun j hj=>key_s (by have:=h.hN.txt j hj 0 h.hN.n0;show (dR j 0).s.size<=_;omega))
theorem iChg2(ds:ByteArray)(ac:Option Addr)(n cc:Nat)(C:Nat->Clm)(ar:Option Addr)(dr cr:Nat)(dm:Nat->Nat)(dR:Nat->Nat->Itm)(tb:ByteArray)(a2:Option Addr)(n2 c2:Nat)(a3:Option Addr)(n3 c3:Nat)(col:ByteArray)(a5:Option Addr)(n5 c5:Nat)(a6:Option Addr)(n6 c6:Nat)(a7:Option Addr)(n7 c7:Nat)(V:Nat->Itm)(L0:List Ro)(w:World)(hH:Rh w ac n C ar dr dm dR L0)(hV:IL w a3 n3 V)(hn3:0<n3)(hn3m:n3<=20)(hVk:Kt (C 0).t (n3,V))(hVr:rg (V 0).m) :
 Calls Tryz.prog 108 #[.agg #[.string ds,.slice ac n cc,.slice ar dr cr],.agg #[.int .i64 2,.string tb,.slice a2 n2 c2,.slice a3 n3 c3,.string col,.slice a5 n5 c5,.slice a6 n6 c6,.slice a7 n7 c7]] w (ChP L0 ((List.range (dr+1)).map (putL dm dR (n3,V) (putN dR (V 0).m (V 0).s dr))) (if putN dR (V 0).m (V 0).s dr<dr/\cmpV (dR (putN dR (V 0).m (V 0).s dr) 0).m (dR (putN dR (V 0).m (V 0).s dr) 0).s (V 0).m (V 0).s=0 then 5 else if dr=1000 then 6 else 0) w):=by
 have hbU:Below w.heap.size w ((w.alloc (.cells #[.string ds,.slice ac n cc,.slice ar dr cr] 62)).alloc (.cells #[.int .i64 2,.string tb,.slice a2 n2 c2,.slice a3 n3 c3,.string col,.slice a5 n5 c5,.slice a6 n6 c6,.slice a7 n7 c7] 45)):=bstep (bal _ _) (bal _ _);have hq0:((w.alloc (.cells #[.string ds,.slice ac n cc,.slice ar dr cr] 62)).alloc (.cells #[.int .i64 2,.string tb,.slice a2 n2 c2,.slice a3 n3 c3,.string col,.slice a5 n5 c5,.slice a6 n6 c6,.slice a7 n7 c7] 45)).heap[w.heap.size]?=some (.cells #[.string ds,.slice ac n cc,.slice ar dr cr] 62 (0,0)):=rowL (heap_alloc_new w _) (bal _ _);have hq1:((w.alloc (.cells #[.string ds,.slice ac n cc,.slice ar dr cr] 62)).alloc (.cells #[.int .i64 2,.string tb,.slice a2 n2 c2,.slice a3 n3 c3,.string col,.slice a5 n5 c5,.slice a6 n6 c6,.slice a7 n7 c7] 45)).heap[w.heap.size+1]?=some (.cells #[.int .i64 2,.string tb,.slice a2 n2 c2,.slice a3 n3 c3,.string col,.slice a5 n5 c5,.slice a6 n6 c6,.slice a7 n7 c7] 45 (0,0)):=by
  have z:=heap_alloc_new (w.alloc (.cells #[.string ds,.slice ac n cc,.slice ar dr cr] 62)) (.cells #[.int .i64 2,.string tb,.slice a2 n2 c2,.slice a3 n3 c3,.string col,.slice a5 n5 c5,.slice a6 n6 c6,.slice a7 n7 c7] 45);rw [World.size_alloc] at z;exact z
 have hU:=hH.later hbU;have hbl:∀ r∈L0,r.b<w.heap.size:=fun r hr=>(hH.hRo r hr).1.lt;have hn0:=hH.hN.n0;obtain⟨b,off,rfl,d0_,d1_,-⟩:=hU.hC 0 hn0;rw [Nat.zero_mul,Nat.add_zero] at d0_ d1_;obtain⟨y0_,y1_,y2_,-,-,-⟩:=box3 hq0;obtain⟨x0_,x1_,x2_,x3_,x4_,x5_,x6_,x7_⟩:=box8 hq1;have hn0i:(0:Int)<(n:Int):=by omega
 by_cases ht1:(C 0).t=1
 ·
  have hKW:KeyW (C 0).t kI leRI:=by rw [ht1];exact keyI
  have HB:Calls Tryz.prog 147 #[.agg #[.string ds,.slice (some ⟨b,off,none⟩) n cc,.slice ar dr cr],.agg #[.int .i64 2,.string tb,.slice a2 n2 c2,.slice a3 n3 c3,.string col,.slice a5 n5 c5,.slice a6 n6 c6,.slice a7 n7 c7],.func (.func 119) #[] #[]] ((w.alloc (.cells #[.string ds,.slice (some ⟨b,off,none⟩) n cc,.slice ar dr cr] 62)).alloc (.cells #[.int .i64 2,.string tb,.slice a2 n2 c2,.slice a3 n3 c3,.string col,.slice a5 n5 c5,.slice a6 n6 c6,.slice a7 n7 c7] 45)) (ChP L0 ((List.range (dr+1)).map (putL dm dR (n3,V) (putN dR (V 0).m (V 0).s dr))) (if putN dR (V 0).m (V 0).s dr<dr/\cmpV (dR (putN dR (V 0).m (V 0).s dr) 0).m (dR (putN dR (V 0).m (V 0).s dr) 0).s (V 0).m (V 0).s=0 then 5 else if dr=1000 then 6 else 0) w):=by
   refine(iByI2 ds (some ⟨b,off,none⟩) n cc C ar dr cr dm dR tb a2 n2 c2 a3 n3 c3 col a5 n5 c5 a6 n6 c6 a7 n7 c7 V L0 ((w.alloc (.cells #[.string ds,.slice (some ⟨b,off,none⟩) n cc,.slice ar dr cr] 62)).alloc (.cells #[.int .i64 2,.string tb,.slice a2 n2 c2,.slice a3 n3 c3,.string col,.slice a5 n5 c5,.slice a6 n6 c6,.slice a7 n7 c7] 45)) hU.hC hU.hdp hU.hR hU.hS hU.hRo hU.hlen hU.hdr hU.hN hU.hg hU.ki (add_rows hKW hU.hsd hU.hx) (hV.later hbU) hn3 (by omega) (key_i (x:=(n3,V)) hVr)).mono (fun e w9 hP=>?_);obtain⟨r,hrx,hrb,hT⟩:=hP;have hsz:=hbU.size;have hiff:=(has_iff hKW hH.hsd hH.hx hVk).trans (hit_iff hH.hsd hVk);by_cases hh:hasK kI L0 (kI (n3,V))=true
   · rw [if_pos hh,if_pos hh] at hT;rw [if_pos (hiff.1 hh)];exact hT.ch hbU (fun q hq=>Or.inl hq) (fun hc=>by omega) (fun hc=>by omega)
   ·
    rw [if_neg hh,if_neg hh,hH.hlen] at hT;rw [if_neg (fun z=>hh (hiff.2 z))];refine hT.ch hbU (fun q hq=>?_) (fun _=>nd_app (B:=w.heap.size) hH.hnb (by simp) hbl (fun q hq=>by rw [List.mem_singleton] at hq;subst hq;omega)) (fun _=>?_)
    ·
     rcases List.mem_append.1 hq with h | h
     · exact Or.inl h
     · rw [List.mem_singleton] at h;subst h;exact Or.inr (by omega)
    · have z:=ins_rows hKW hH.hsd hH.hx (q:=r) (by rw [hrx];exact hVk) (by rw [hrx];exact fun z=>hh ((has_iff hKW hH.hsd hH.hx hVk).2 z));rw [hrx] at z;exact z
  have hcm:((C 0).t == 1)=true:=by simpa using ht1
  clear ht1 hKW;generalize ((if putN dR (V 0).m (V 0).s dr<dr/\cmpV (dR (putN dR (V 0).m (V 0).s dr) 0).m (dR (putN dR (V 0).m (V 0).s dr) 0).s (V 0).m (V 0).s=0 then 5 else if dr=1000 then 6 else 0):Int)=cd at HB ⊢
  generalize ((List.range (dr+1)).map (putL dm dR (n3,V) (putN dR (V 0).m (V 0).s dr)))=rows at HB ⊢;go_enter Tryz.func108,Tryz.ntmps108
  go_wp2_with (go_at_call 147;refine HB.mono ?_;rintro e w9 ⟨g,c,S,rfl,h1_,h2_,h3_,h4_,h5_,h6_,h7_⟩)
  refine bodyPost_ret (results_tmp2 rfl _ _ _) rfl ?_;exact⟨g,c,S,rfl,h1_,h2_,h3_,h4_,h5_,h6_,h7_⟩
 ·
  have hKW:KeyW (C 0).t kS leRS:=by exact keyS ht1
  have HB:Calls Tryz.prog 148 #[.agg #[.string ds,.slice (some ⟨b,off,none⟩) n cc,.slice ar dr cr],.agg #[.int .i64 2,.string tb,.slice a2 n2 c2,.slice a3 n3 c3,.string col,.slice a5 n5 c5,.slice a6 n6 c6,.slice a7 n7 c7],.func (.func 121) #[] #[]] ((w.alloc (.cells #[.string ds,.slice (some ⟨b,off,none⟩) n cc,.slice ar dr cr] 62)).alloc (.cells #[.int .i64 2,.string tb,.slice a2 n2 c2,.slice a3 n3 c3,.string col,.slice a5 n5 c5,.slice a6 n6 c6,.slice a7 n7 c7] 45)) (ChP L0 ((List.range (dr+1)).map (putL dm dR (n3,V) (putN dR (V 0).m (V 0).s dr))) (if putN dR (V 0).m (V 0).s dr<dr/\cmpV (dR (putN dR (V 0).m (V 0).s dr) 0).m (dR (putN dR (V 0).m (V 0).s dr) 0).s (V 0).m (V 0).s=0 then 5 else if dr=1000 then 6 else 0) w):=by
   refine(iByS2 ds (some ⟨b,off,none⟩) n cc C ar dr cr dm dR tb a2 n2 c2 a3 n3 c3 col a5 n5 c5 a6 n6 c6 a7 n7 c7 V L0 ((w.alloc (.cells #[.string ds,.slice (some ⟨b,off,none⟩) n cc,.slice ar dr cr] 62)).alloc (.cells #[.int .i64 2,.string tb,.slice a2 n2 c2,.slice a3 n3 c3,.string col,.slice a5 n5 c5,.slice a6 n6 c6,.slice a7 n7 c7] 45)) hU.hC hU.hdp hU.hR hU.hS hU.hRo hU.hlen hU.hdr hU.hN hU.hg hU.ks (add_rows hKW hU.hsd hU.hx) (hV.later hbU) hn3 (by omega) (key_s (x:=(n3,V)) (hV.sz hn3))).mono (fun e w9 hP=>?_);obtain⟨r,hrx,hrb,hT⟩:=hP;have hsz:=hbU.size;have hiff:=(has_iff hKW hH.hsd hH.hx hVk).trans (hit_iff hH.hsd hVk);by_cases hh:hasK kS L0 (kS (n3,V))=true
   · rw [if_pos hh,if_pos hh] at hT;rw [if_pos (hiff.1 hh)];exact hT.ch hbU (fun q hq=>Or.inl hq) (fun hc=>by omega) (fun hc=>by omega)
   ·
    rw [if_neg hh,if_neg hh,hH.hlen] at hT;rw [if_neg (fun z=>hh (hiff.2 z))];refine hT.ch hbU (fun q hq=>?_) (fun _=>nd_app (B:=w.heap.size) hH.hnb (by simp) hbl (fun q hq=>by rw [List.mem_singleton] at hq;subst hq;omega)) (fun _=>?_)
    ·
     rcases List.mem_append.1 hq with h | h
     · exact Or.inl h
     · rw [List.mem_singleton] at h;subst h;exact Or.inr (by omega)
    · have z:=ins_rows hKW hH.hsd hH.hx (q:=r) (by rw [hrx];exact hVk) (by rw [hrx];exact fun z=>hh ((has_iff hKW hH.hsd hH.hx hVk).2 z));rw [hrx] at z;exact z
  have hcm:((C 0).t == 1)=false:=by simpa using ht1
  clear ht1 hKW;generalize ((if putN dR (V 0).m (V 0).s dr<dr/\cmpV (dR (putN dR (V 0).m (V 0).s dr) 0).m (dR (putN dR (V 0).m (V 0).s dr) 0).s (V 0).m (V 0).s=0 then 5 else if dr=1000 then 6 else 0):Int)=cd at HB ⊢
  generalize ((List.range (dr+1)).map (putL dm dR (n3,V) (putN dR (V 0).m (V 0).s dr)))=rows at HB ⊢;go_enter Tryz.func108,Tryz.ntmps108
  go_wp2_with (go_at_call 148;refine HB.mono ?_;rintro e w9 ⟨g,c,S,rfl,h1_,h2_,h3_,h4_,h5_,h6_,h7_⟩)
  refine bodyPost_ret (results_tmp2 rfl _ _ _) rfl ?_;exact⟨g,c,S,rfl,h1_,h2_,h3_,h4_,h5_,h6_,h7_⟩
theorem iChg3(ds:ByteArray)(ac:Option Addr)(n cc:Nat)(C:Nat->Clm)(ar:Option Addr)(dr cr:Nat)(dm:Nat->Nat)(dR:Nat->Nat->Itm)(tb:ByteArray)(a2:Option Addr)(n2 c2:Nat)(a3:Option Addr)(n3 c3:Nat)(col:ByteArray)(a5:Option Addr)(n5 c5:Nat)(a6:Option Addr)(n6 c6:Nat)(a7:Option Addr)(n7 c7:Nat)(E W:Nat->Itm)(q:Nat)(L0:List Ro)(w:World)(hH:Rh w ac n C ar dr dm dR L0)(hE:IL w a5 n5 E)(hW:IL w a6 n6 W)(hok:okWhere W n6=true)(hcw:cwR C n W n6=0)(hokE:okExp E n5=true)(hck:(ck C n E n5).2=0)(hq:colI C col n=some q)(hcs:col.size<=1048576)(hXk:∀ x∈ftS C n dm dR W n6 dr,Kt (C 0).t (chF C n q E n5 x))(hXr:∀ x∈ftS C n dm dR W n6 dr,rg ((chF C n q E n5 x).2 0).m)(hXs:∀ x∈ftS C n dm dR W n6 dr,((chF C n q E n5 x).2 0).s.size<=1048576) :
 Calls Tryz.prog 108 #[.agg #[.string ds,.slice ac n cc,.slice ar dr cr],.agg #[.int .i64 3,.string tb,.slice a2 n2 c2,.slice a3 n3 c3,.string col,.slice a5 n5 c5,.slice a6 n6 c6,.slice a7 n7 c7]] w (ChP L0 (upRows n C dr dm dR q E n5 W n6) (if bigS C n dR E n5 W n6 dr=true then 6 else if dupB (upRows n C dr dm dR q E n5 W n6) dr=true then 5 else 0) w):=by
 have hbU:Below w.heap.size w ((w.alloc (.cells #[.string ds,.slice ac n cc,.slice ar dr cr] 62)).alloc (.cells #[.int .i64 3,.string tb,.slice a2 n2 c2,.slice a3 n3 c3,.string col,.slice a5 n5 c5,.slice a6 n6 c6,.slice a7 n7 c7] 45)):=bstep (bal _ _) (bal _ _);have hq0:((w.alloc (.cells #[.string ds,.slice ac n cc,.slice ar dr cr] 62)).alloc (.cells #[.int .i64 3,.string tb,.slice a2 n2 c2,.slice a3 n3 c3,.string col,.slice a5 n5 c5,.slice a6 n6 c6,.slice a7 n7 c7] 45)).heap[w.heap.size]?=some (.cells #[.string ds,.slice ac n cc,.slice ar dr cr] 62 (0,0)):=rowL (heap_alloc_new w _) (bal _ _);have hq1:((w.alloc (.cells #[.string ds,.slice ac n cc,.slice ar dr cr] 62)).alloc (.cells #[.int .i64 3,.string tb,.slice a2 n2 c2,.slice a3 n3 c3,.string col,.slice a5 n5 c5,.slice a6 n6 c6,.slice a7 n7 c7] 45)).heap[w.heap.size+1]?=some (.cells #[.int .i64 3,.string tb,.slice a2 n2 c2,.slice a3 n3 c3,.string col,.slice a5 n5 c5,.slice a6 n6 c6,.slice a7 n7 c7] 45 (0,0)):=by
  have z:=heap_alloc_new (w.alloc (.cells #[.string ds,.slice ac n cc,.slice ar dr cr] 62)) (.cells #[.int .i64 3,.string tb,.slice a2 n2 c2,.slice a3 n3 c3,.string col,.slice a5 n5 c5,.slice a6 n6 c6,.slice a7 n7 c7] 45);rw [World.size_alloc] at z;exact z
 have hU:=hH.later hbU;have hbl:∀ r∈L0,r.b<w.heap.size:=fun r hr=>(hH.hRo r hr).1.lt;have hn0:=hH.hN.n0;obtain⟨b,off,rfl,d0_,d1_,-⟩:=hU.hC 0 hn0;rw [Nat.zero_mul,Nat.add_zero] at d0_ d1_;obtain⟨y0_,y1_,y2_,-,-,-⟩:=box3 hq0;obtain⟨x0_,x1_,x2_,x3_,x4_,x5_,x6_,x7_⟩:=box8 hq1;have hn0i:(0:Int)<(n:Int):=by omega
 by_cases ht1:(C 0).t=1
 ·
  have hKW:KeyW (C 0).t kI leRI:=by rw [ht1];exact keyI
  have HB:Calls Tryz.prog 147 #[.agg #[.string ds,.slice (some ⟨b,off,none⟩) n cc,.slice ar dr cr],.agg #[.int .i64 3,.string tb,.slice a2 n2 c2,.slice a3 n3 c3,.string col,.slice a5 n5 c5,.slice a6 n6 c6,.slice a7 n7 c7],.func (.func 119) #[] #[]] ((w.alloc (.cells #[.string ds,.slice (some ⟨b,off,none⟩) n cc,.slice ar dr cr] 62)).alloc (.cells #[.int .i64 3,.string tb,.slice a2 n2 c2,.slice a3 n3 c3,.string col,.slice a5 n5 c5,.slice a6 n6 c6,.slice a7 n7 c7] 45)) (ChP L0 (upRows n C dr dm dR q E n5 W n6) (if bigS C n dR E n5 W n6 dr=true then 6 else if dupB (upRows n C dr dm dR q E n5 W n6) dr=true then 5 else 0) w):=by
   refine(iByI3 ds (some ⟨b,off,none⟩) n cc C ar dr cr dm dR tb a2 n2 c2 a3 n3 c3 col a5 n5 c5 a6 n6 c6 a7 n7 c7 E W q _ L0 ((w.alloc (.cells #[.string ds,.slice (some ⟨b,off,none⟩) n cc,.slice ar dr cr] 62)).alloc (.cells #[.int .i64 3,.string tb,.slice a2 n2 c2,.slice a3 n3 c3,.string col,.slice a5 n5 c5,.slice a6 n6 c6,.slice a7 n7 c7] 45)) hU.hC hU.hdp hU.hR hU.hS hU.hRo hU.hlen hU.hdr hU.hN hU.hg hU.ki (add_rows hKW hU.hsd hU.hx) (hE.later hbU) (hW.later hbU) hok hcw hokE hck hq hcs rfl (ft_keysI hH) (fun x hx=>key_i (hXr x hx))).mono (fun e w9 hP=>?_);have hsz:=hbU.size;have hbg:=bigS_any C n dm dR E n5 W n6 dr;rcases hP with ⟨h1,hT⟩ | ⟨h1,Cs,h2,h3,h4,hT⟩
   · rw [hbg,if_pos h1];exact hT.ch hbU (fun q hq=>Or.inl hq) (fun hc=>by omega) (fun hc=>by omega)
   ·
    obtain⟨hu1,hu2⟩:=up_rows hKW hH.hsd hH.hx C n q E n5 W n6 hXk h2;rw [hbg,h1,if_neg (by simp)];have hsb:∀ r∈(addL kI (delL kI L0 (ftS C n dm dR W n6 dr)) Cs).2,r∈L0∨w.heap.size<=r.b:=fun r hr=>by
     rcases addL_mem hr with h | h
     · exact Or.inl (delL_mem h)
     · have:=h3 r h;exact Or.inr (by omega)
    by_cases hA:(addL kI (delL kI L0 (ftS C n dm dR W n6 dr)) Cs).1=true
    · rw [if_pos hA] at hT;rw [hu1.1 hA,if_neg (by simp)];exact hT.ch hbU hsb (fun _=>by rw [addL_true hA];exact nd_app (B:=w.heap.size) (nd_sub (delL_sub _ _ _) hH.hnb) h4 (fun r hr=>hbl r (delL_mem hr)) (fun r hr=>by have:=h3 r hr;omega)) (fun _=>hu2 hA)
    ·
     rw [if_neg hA] at hT;have hd:dupB (upRows n C dr dm dR q E n5 W n6) dr=true:=by
      rcases z:dupB (upRows n C dr dm dR q E n5 W n6) dr with _ | _
      · exact absurd (hu1.2 z) hA
      · rfl
     rw [if_pos hd];exact hT.ch hbU hsb (fun hc=>by omega) (fun hc=>by omega)
  have hcm:((C 0).t == 1)=true:=by simpa using ht1
  clear ht1 hKW;generalize ((if bigS C n dR E n5 W n6 dr=true then 6 else if dupB (upRows n C dr dm dR q E n5 W n6) dr=true then 5 else 0):Int)=cd at HB ⊢
  generalize (upRows n C dr dm dR q E n5 W n6)=rows at HB ⊢;go_enter Tryz.func108,Tryz.ntmps108
  go_wp2_with (go_at_call 147;refine HB.mono ?_;rintro e w9 ⟨g,c,S,rfl,h1_,h2_,h3_,h4_,h5_,h6_,h7_⟩)
  refine bodyPost_ret (results_tmp2 rfl _ _ _) rfl ?_;exact⟨g,c,S,rfl,h1_,h2_,h3_,h4_,h5_,h6_,h7_⟩
 ·
  have hKW:KeyW (C 0).t kS leRS:=by exact keyS ht1
  have HB:Calls Tryz.prog 148 #[.agg #[.string ds,.slice (some ⟨b,off,none⟩) n cc,.slice ar dr cr],.agg #[.int .i64 3,.string tb,.slice a2 n2 c2,.slice a3 n3 c3,.string col,.slice a5 n5 c5,.slice a6 n6 c6,.slice a7 n7 c7],.func (.func 121) #[] #[]] ((w.alloc (.cells #[.string ds,.slice (some ⟨b,off,none⟩) n cc,.slice ar dr cr] 62)).alloc (.cells #[.int .i64 3,.string tb,.slice a2 n2 c2,.slice a3 n3 c3,.string col,.slice a5 n5 c5,.slice a6 n6 c6,.slice a7 n7 c7] 45)) (ChP L0 (upRows n C dr dm dR q E n5 W n6) (if bigS C n dR E n5 W n6 dr=true then 6 else if dupB (upRows n C dr dm dR q E n5 W n6) dr=true then 5 else 0) w):=by
   refine(iByS3 ds (some ⟨b,off,none⟩) n cc C ar dr cr dm dR tb a2 n2 c2 a3 n3 c3 col a5 n5 c5 a6 n6 c6 a7 n7 c7 E W q _ L0 ((w.alloc (.cells #[.string ds,.slice (some ⟨b,off,none⟩) n cc,.slice ar dr cr] 62)).alloc (.cells #[.int .i64 3,.string tb,.slice a2 n2 c2,.slice a3 n3 c3,.string col,.slice a5 n5 c5,.slice a6 n6 c6,.slice a7 n7 c7] 45)) hU.hC hU.hdp hU.hR hU.hS hU.hRo hU.hlen hU.hdr hU.hN hU.hg hU.ks (add_rows hKW hU.hsd hU.hx) (hE.later hbU) (hW.later hbU) hok hcw hokE hck hq hcs rfl (ft_keysS hH) (fun x hx=>key_s (hXs x hx))).mono (fun e w9 hP=>?_);have hsz:=hbU.size;have hbg:=bigS_any C n dm dR E n5 W n6 dr;rcases hP with ⟨h1,hT⟩ | ⟨h1,Cs,h2,h3,h4,hT⟩
   · rw [hbg,if_pos h1];exact hT.ch hbU (fun q hq=>Or.inl hq) (fun hc=>by omega) (fun hc=>by omega)
   ·
    obtain⟨hu1,hu2⟩:=up_rows hKW hH.hsd hH.hx C n q E n5 W n6 hXk h2;rw [hbg,h1,if_neg (by simp)];have hsb:∀ r∈(addL kS (delL kS L0 (ftS C n dm dR W n6 dr)) Cs).2,r∈L0∨w.heap.size<=r.b:=fun r hr=>by
     rcases addL_mem hr with h | h
     · exact Or.inl (delL_mem h)
     · have:=h3 r h;exact Or.inr (by omega)
    by_cases hA:(addL kS (delL kS L0 (ftS C n dm dR W n6 dr)) Cs).1=true
    · rw [if_pos hA] at hT;rw [hu1.1 hA,if_neg (by simp)];exact hT.ch hbU hsb (fun _=>by rw [addL_true hA];exact nd_app (B:=w.heap.size) (nd_sub (delL_sub _ _ _) hH.hnb) h4 (fun r hr=>hbl r (delL_mem hr)) (fun r hr=>by have:=h3 r hr;omega)) (fun _=>hu2 hA)
    ·
     rw [if_neg hA] at hT;have hd:dupB (upRows n C dr dm dR q E n5 W n6) dr=true:=by
      rcases z:dupB (upRows n C dr dm dR q E n5 W n6) dr with _ | _
      · exact absurd (hu1.2 z) hA
      · rfl
     rw [if_pos hd];exact hT.ch hbU hsb (fun hc=>by omega) (fun hc=>by omega)
  have hcm:((C 0).t == 1)=false:=by simpa using ht1
  clear ht1 hKW;generalize ((if bigS C n dR E n5 W n6 dr=true then 6 else if dupB (upRows n C dr dm dR q E n5 W n6) dr=true then 5 else 0):Int)=cd at HB ⊢
  generalize (upRows n C dr dm dR q E n5 W n6)=rows at HB ⊢;go_enter Tryz.func108,Tryz.ntmps108
  go_wp2_with (go_at_call 148;refine HB.mono ?_;rintro e w9 ⟨g,c,S,rfl,h1_,h2_,h3_,h4_,h5_,h6_,h7_⟩)
  refine bodyPost_ret (results_tmp2 rfl _ _ _) rfl ?_;exact⟨g,c,S,rfl,h1_,h2_,h3_,h4_,h5_,h6_,h7_⟩
theorem iChg4(ds:ByteArray)(ac:Option Addr)(n cc:Nat)(C:Nat->Clm)(ar:Option Addr)(dr cr:Nat)(dm:Nat->Nat)(dR:Nat->Nat->Itm)(tb:ByteArray)(a2:Option Addr)(n2 c2:Nat)(a3:Option Addr)(n3 c3:Nat)(col:ByteArray)(a5:Option Addr)(n5 c5:Nat)(a6:Option Addr)(n6 c6:Nat)(a7:Option Addr)(n7 c7:Nat)(W:Nat->Itm)(L0:List Ro)(w:World)(hH:Rh w ac n C ar dr dm dR L0)(hW:IL w a6 n6 W)(hok:okWhere W n6=true)(hcw:cwR C n W n6=0) :
 Calls Tryz.prog 108 #[.agg #[.string ds,.slice ac n cc,.slice ar dr cr],.agg #[.int .i64 4,.string tb,.slice a2 n2 c2,.slice a3 n3 c3,.string col,.slice a5 n5 c5,.slice a6 n6 c6,.slice a7 n7 c7]] w (ChP L0 (dlS C n dm dR W n6 dr) 0 w):=by
 have hbU:Below w.heap.size w ((w.alloc (.cells #[.string ds,.slice ac n cc,.slice ar dr cr] 62)).alloc (.cells #[.int .i64 4,.string tb,.slice a2 n2 c2,.slice a3 n3 c3,.string col,.slice a5 n5 c5,.slice a6 n6 c6,.slice a7 n7 c7] 45)):=bstep (bal _ _) (bal _ _);have hq0:((w.alloc (.cells #[.string ds,.slice ac n cc,.slice ar dr cr] 62)).alloc (.cells #[.int .i64 4,.string tb,.slice a2 n2 c2,.slice a3 n3 c3,.string col,.slice a5 n5 c5,.slice a6 n6 c6,.slice a7 n7 c7] 45)).heap[w.heap.size]?=some (.cells #[.string ds,.slice ac n cc,.slice ar dr cr] 62 (0,0)):=rowL (heap_alloc_new w _) (bal _ _);have hq1:((w.alloc (.cells #[.string ds,.slice ac n cc,.slice ar dr cr] 62)).alloc (.cells #[.int .i64 4,.string tb,.slice a2 n2 c2,.slice a3 n3 c3,.string col,.slice a5 n5 c5,.slice a6 n6 c6,.slice a7 n7 c7] 45)).heap[w.heap.size+1]?=some (.cells #[.int .i64 4,.string tb,.slice a2 n2 c2,.slice a3 n3 c3,.string col,.slice a5 n5 c5,.slice a6 n6 c6,.slice a7 n7 c7] 45 (0,0)):=by
  have z:=heap_alloc_new (w.alloc (.cells #[.string ds,.slice ac n cc,.slice ar dr cr] 62)) (.cells #[.int .i64 4,.string tb,.slice a2 n2 c2,.slice a3 n3 c3,.string col,.slice a5 n5 c5,.slice a6 n6 c6,.slice a7 n7 c7] 45);rw [World.size_alloc] at z;exact z
 have hU:=hH.later hbU;have hbl:∀ r∈L0,r.b<w.heap.size:=fun r hr=>(hH.hRo r hr).1.lt;have hn0:=hH.hN.n0;obtain⟨b,off,rfl,d0_,d1_,-⟩:=hU.hC 0 hn0;rw [Nat.zero_mul,Nat.add_zero] at d0_ d1_;obtain⟨y0_,y1_,y2_,-,-,-⟩:=box3 hq0;obtain⟨x0_,x1_,x2_,x3_,x4_,x5_,x6_,x7_⟩:=box8 hq1;have hn0i:(0:Int)<(n:Int):=by omega
 by_cases ht1:(C 0).t=1
 ·
  have hKW:KeyW (C 0).t kI leRI:=by rw [ht1];exact keyI
  have HB:Calls Tryz.prog 147 #[.agg #[.string ds,.slice (some ⟨b,off,none⟩) n cc,.slice ar dr cr],.agg #[.int .i64 4,.string tb,.slice a2 n2 c2,.slice a3 n3 c3,.string col,.slice a5 n5 c5,.slice a6 n6 c6,.slice a7 n7 c7],.func (.func 119) #[] #[]] ((w.alloc (.cells #[.string ds,.slice (some ⟨b,off,none⟩) n cc,.slice ar dr cr] 62)).alloc (.cells #[.int .i64 4,.string tb,.slice a2 n2 c2,.slice a3 n3 c3,.string col,.slice a5 n5 c5,.slice a6 n6 c6,.slice a7 n7 c7] 45)) (ChP L0 (dlS C n dm dR W n6 dr) 0 w):=(iByI4 ds (some ⟨b,off,none⟩) n cc C ar dr cr dm dR tb a2 n2 c2 a3 n3 c3 col a5 n5 c5 a6 n6 c6 a7 n7 c7 W _ L0 ((w.alloc (.cells #[.string ds,.slice (some ⟨b,off,none⟩) n cc,.slice ar dr cr] 62)).alloc (.cells #[.int .i64 4,.string tb,.slice a2 n2 c2,.slice a3 n3 c3,.string col,.slice a5 n5 c5,.slice a6 n6 c6,.slice a7 n7 c7] 45)) hU.hC hU.hdp hU.hR hU.hS hU.hRo hU.hlen hU.hdr hU.hN hU.hg hU.ki (add_rows hKW hU.hsd hU.hx) (hW.later hbU) hok hcw rfl (ft_keysI hH)).mono (fun e w9 hP=>hP.ch hbU (fun r hr=>Or.inl (delL_mem hr)) (fun _=>nd_sub (delL_sub _ _ _) hH.hnb) (fun _=>del_rows hKW hH.hsd hH.hx C n W n6));have hcm:((C 0).t == 1)=true:=by simpa using ht1
  clear ht1 hKW;generalize (dlS C n dm dR W n6 dr)=rows at HB ⊢;go_enter Tryz.func108,Tryz.ntmps108
  go_wp2_with (go_at_call 147;refine HB.mono ?_;rintro e w9 ⟨g,c,S,rfl,h1_,h2_,h3_,h4_,h5_,h6_,h7_⟩)
  refine bodyPost_ret (results_tmp2 rfl _ _ _) rfl ?_;exact⟨g,c,S,rfl,fun _=>h1_ trivial,h2_,h3_,h4_,h5_,fun _=>h6_ trivial,h7_⟩
 ·
  have hKW:KeyW (C 0).t kS leRS:=by exact keyS ht1
  have HB:Calls Tryz.prog 148 #[.agg #[.string ds,.slice (some ⟨b,off,none⟩) n cc,.slice ar dr cr],.agg #[.int .i64 4,.string tb,.slice a2 n2 c2,.slice a3 n3 c3,.string col,.slice a5 n5 c5,.slice a6 n6 c6,.slice a7 n7 c7],.func (.func 121) #[] #[]] ((w.alloc (.cells #[.string ds,.slice (some ⟨b,off,none⟩) n cc,.slice ar dr cr] 62)).alloc (.cells #[.int .i64 4,.string tb,.slice a2 n2 c2,.slice a3 n3 c3,.string col,.slice a5 n5 c5,.slice a6 n6 c6,.slice a7 n7 c7] 45)) (ChP L0 (dlS C n dm dR W n6 dr) 0 w):=(iByS4 ds (some ⟨b,off,none⟩) n cc C ar dr cr dm dR tb a2 n2 c2 a3 n3 c3 col a5 n5 c5 a6 n6 c6 a7 n7 c7 W _ L0 ((w.alloc (.cells #[.string ds,.slice (some ⟨b,off,none⟩) n cc,.slice ar dr cr] 62)).alloc (.cells #[.int .i64 4,.string tb,.slice a2 n2 c2,.slice a3 n3 c3,.string col,.slice a5 n5 c5,.slice a6 n6 c6,.slice a7 n7 c7] 45)) hU.hC hU.hdp hU.hR hU.hS hU.hRo hU.hlen hU.hdr hU.hN hU.hg hU.ks (add_rows hKW hU.hsd hU.hx) (hW.later hbU) hok hcw rfl (ft_keysS hH)).mono (fun e w9 hP=>hP.ch hbU (fun r hr=>Or.inl (delL_mem hr)) (fun _=>nd_sub (delL_sub _ _ _) hH.hnb) (fun _=>del_rows hKW hH.hsd hH.hx C n W n6));have hcm:((C 0).t == 1)=false:=by simpa using ht1
  clear ht1 hKW;generalize (dlS C n dm dR W n6 dr)=rows at HB ⊢;go_enter Tryz.func108,Tryz.ntmps108
  go_wp2_with (go_at_call 148;refine HB.mono ?_;rintro e w9 ⟨g,c,S,rfl,h1_,h2_,h3_,h4_,h5_,h6_,h7_⟩)
  refine bodyPost_ret (results_tmp2 rfl _ _ _) rfl ?_;exact⟨g,c,S,rfl,fun _=>h1_ trivial,h2_,h3_,h4_,h5_,fun _=>h6_ trivial,h7_⟩
theorem iChg5(ds:ByteArray)(ac:Option Addr)(n cc:Nat)(C:Nat->Clm)(ar:Option Addr)(dr cr:Nat)(dm:Nat->Nat)(dR:Nat->Nat->Itm)(tb:ByteArray)(a2:Option Addr)(n2 c2:Nat)(a3:Option Addr)(n3 c3:Nat)(col:ByteArray)(a5:Option Addr)(n5 c5:Nat)(a6:Option Addr)(n6 c6:Nat)(a7:Option Addr)(n7 c7:Nat) (L0:List Ro)(w:World)(hH:Rh w ac n C ar dr dm dR L0)  :
 Calls Tryz.prog 108 #[.agg #[.string ds,.slice ac n cc,.slice ar dr cr],.agg #[.int .i64 5,.string tb,.slice a2 n2 c2,.slice a3 n3 c3,.string col,.slice a5 n5 c5,.slice a6 n6 c6,.slice a7 n7 c7]] w (ChP L0 (rwL dr dm dR) 0 w):=by
 have hbU:Below w.heap.size w ((w.alloc (.cells #[.string ds,.slice ac n cc,.slice ar dr cr] 62)).alloc (.cells #[.int .i64 5,.string tb,.slice a2 n2 c2,.slice a3 n3 c3,.string col,.slice a5 n5 c5,.slice a6 n6 c6,.slice a7 n7 c7] 45)):=bstep (bal _ _) (bal _ _);have hq0:((w.alloc (.cells #[.string ds,.slice ac n cc,.slice ar dr cr] 62)).alloc (.cells #[.int .i64 5,.string tb,.slice a2 n2 c2,.slice a3 n3 c3,.string col,.slice a5 n5 c5,.slice a6 n6 c6,.slice a7 n7 c7] 45)).heap[w.heap.size]?=some (.cells #[.string ds,.slice ac n cc,.slice ar dr cr] 62 (0,0)):=rowL (heap_alloc_new w _) (bal _ _);have hq1:((w.alloc (.cells #[.string ds,.slice ac n cc,.slice ar dr cr] 62)).alloc (.cells #[.int .i64 5,.string tb,.slice a2 n2 c2,.slice a3 n3 c3,.string col,.slice a5 n5 c5,.slice a6 n6 c6,.slice a7 n7 c7] 45)).heap[w.heap.size+1]?=some (.cells #[.int .i64 5,.string tb,.slice a2 n2 c2,.slice a3 n3 c3,.string col,.slice a5 n5 c5,.slice a6 n6 c6,.slice a7 n7 c7] 45 (0,0)):=by
  have z:=heap_alloc_new (w.alloc (.cells #[.string ds,.slice ac n cc,.slice ar dr cr] 62)) (.cells #[.int .i64 5,.string tb,.slice a2 n2 c2,.slice a3 n3 c3,.string col,.slice a5 n5 c5,.slice a6 n6 c6,.slice a7 n7 c7] 45);rw [World.size_alloc] at z;exact z
 have hU:=hH.later hbU;have hbl:∀ r∈L0,r.b<w.heap.size:=fun r hr=>(hH.hRo r hr).1.lt;have hn0:=hH.hN.n0;obtain⟨b,off,rfl,d0_,d1_,-⟩:=hU.hC 0 hn0;rw [Nat.zero_mul,Nat.add_zero] at d0_ d1_;obtain⟨y0_,y1_,y2_,-,-,-⟩:=box3 hq0;obtain⟨x0_,x1_,x2_,x3_,x4_,x5_,x6_,x7_⟩:=box8 hq1;have hn0i:(0:Int)<(n:Int):=by omega
 by_cases ht1:(C 0).t=1
 ·
  have hKW:KeyW (C 0).t kI leRI:=by rw [ht1];exact keyI
  have HB:Calls Tryz.prog 147 #[.agg #[.string ds,.slice (some ⟨b,off,none⟩) n cc,.slice ar dr cr],.agg #[.int .i64 5,.string tb,.slice a2 n2 c2,.slice a3 n3 c3,.string col,.slice a5 n5 c5,.slice a6 n6 c6,.slice a7 n7 c7],.func (.func 119) #[] #[]] ((w.alloc (.cells #[.string ds,.slice (some ⟨b,off,none⟩) n cc,.slice ar dr cr] 62)).alloc (.cells #[.int .i64 5,.string tb,.slice a2 n2 c2,.slice a3 n3 c3,.string col,.slice a5 n5 c5,.slice a6 n6 c6,.slice a7 n7 c7] 45)) (ChP L0 (rwL dr dm dR) 0 w):=(iByI5 ds (some ⟨b,off,none⟩) n cc C ar dr cr dm dR tb a2 n2 c2 a3 n3 c3 col a5 n5 c5 a6 n6 c6 a7 n7 c7 L0 ((w.alloc (.cells #[.string ds,.slice (some ⟨b,off,none⟩) n cc,.slice ar dr cr] 62)).alloc (.cells #[.int .i64 5,.string tb,.slice a2 n2 c2,.slice a3 n3 c3,.string col,.slice a5 n5 c5,.slice a6 n6 c6,.slice a7 n7 c7] 45)) hU.hC hU.hdp hU.hR hU.hS hU.hRo hU.hlen hU.hdr hU.hN hU.hg hU.ki (add_rows hKW hU.hsd hU.hx)).mono (fun e w9 hP=>hP.ch hbU (fun r hr=>Or.inl hr) (fun _=>hH.hnb) (fun _=>keep_rows hKW hH.hsd hH.hx));have hcm:((C 0).t == 1)=true:=by simpa using ht1
  clear ht1 hKW;generalize (rwL dr dm dR)=rows at HB ⊢;go_enter Tryz.func108,Tryz.ntmps108
  go_wp2_with (go_at_call 147;refine HB.mono ?_;rintro e w9 ⟨g,c,S,rfl,h1_,h2_,h3_,h4_,h5_,h6_,h7_⟩)
  refine bodyPost_ret (results_tmp2 rfl _ _ _) rfl ?_;exact⟨g,c,S,rfl,fun _=>h1_ trivial,h2_,h3_,h4_,h5_,fun _=>h6_ trivial,h7_⟩
 ·
  have hKW:KeyW (C 0).t kS leRS:=by exact keyS ht1
  have HB:Calls Tryz.prog 148 #[.agg #[.string ds,.slice (some ⟨b,off,none⟩) n cc,.slice ar dr cr],.agg #[.int .i64 5,.string tb,.slice a2 n2 c2,.slice a3 n3 c3,.string col,.slice a5 n5 c5,.slice a6 n6 c6,.slice a7 n7 c7],.func (.func 121) #[] #[]] ((w.alloc (.cells #[.string ds,.slice (some ⟨b,off,none⟩) n cc,.slice ar dr cr] 62)).alloc (.cells #[.int .i64 5,.string tb,.slice a2 n2 c2,.slice a3 n3 c3,.string col,.slice a5 n5 c5,.slice a6 n6 c6,.slice a7 n7 c7] 45)) (ChP L0 (rwL dr dm dR) 0 w):=(iByS5 ds (some ⟨b,off,none⟩) n cc C ar dr cr dm dR tb a2 n2 c2 a3 n3 c3 col a5 n5 c5 a6 n6 c6 a7 n7 c7 L0 ((w.alloc (.cells #[.string ds,.slice (some ⟨b,off,none⟩) n cc,.slice ar dr cr] 62)).alloc (.cells #[.int .i64 5,.string tb,.slice a2 n2 c2,.slice a3 n3 c3,.string col,.slice a5 n5 c5,.slice a6 n6 c6,.slice a7 n7 c7] 45)) hU.hC hU.hdp hU.hR hU.hS hU.hRo hU.hlen hU.hdr hU.hN hU.hg hU.ks (add_rows hKW hU.hsd hU.hx)).mono (fun e w9 hP=>hP.ch hbU (fun r hr=>Or.inl hr) (fun _=>hH.hnb) (fun _=>keep_rows hKW hH.hsd hH.hx));have hcm:((C 0).t == 1)=false:=by simpa using ht1
  clear ht1 hKW;generalize (rwL dr dm dR)=rows at HB ⊢;go_enter Tryz.func108,Tryz.ntmps108
  go_wp2_with (go_at_call 148;refine HB.mono ?_;rintro e w9 ⟨g,c,S,rfl,h1_,h2_,h3_,h4_,h5_,h6_,h7_⟩)
  refine bodyPost_ret (results_tmp2 rfl _ _ _) rfl ?_;exact⟨g,c,S,rfl,fun _=>h1_ trivial,h2_,h3_,h4_,h5_,fun _=>h6_ trivial,h7_⟩
end Go.Proofs.YtgeiamgeclbiaaaGreatDoor
