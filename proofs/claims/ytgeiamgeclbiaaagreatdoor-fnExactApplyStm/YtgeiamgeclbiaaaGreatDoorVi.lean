import Derived.Test.YtgeiamgeclbiaaaGreatDoorVh
namespace Go.Proofs.YtgeiamgeclbiaaaGreatDoor
open Go.RowKit Go.Maps Go.WideMaps
set_option maxRecDepth 20000
set_option maxHeartbeats 16000000
abbrev qVi0:Oper:=⟨some 28,.move (.tmp 1),179,"l5_replay.go:245",#[],none⟩
abbrev qVi1:Oper:=⟨some 29,.load 108 (.tmp 9),108,"l5_replay.go:245",#[],none⟩
abbrev qVi2:Oper:=⟨some 30,.move (.tmp 7),41,"l5_replay.go:245",#[],none⟩
abbrev qVi3:Oper:=⟨some 31,.move (.tmp 10),3,"l5_replay.go:245",#[],none⟩
abbrev qVi4:Oper:=⟨some 32,.slice 41 (.tmp 30) (some (.tmp 31)) none none,41,"l5_replay.go:245",#[⟨2,.data⟩,⟨3,.data⟩],none⟩
abbrev qVi5:Oper:=⟨some 33,.call ⟨.value (.tmp 28),#[.tmp 29,.tmp 32],#[108,41]⟩,176,"l5_replay.go:245",#[⟨0,.data⟩,⟨1,.data⟩,⟨4,.data⟩],none⟩
abbrev qVi6:Oper:=⟨some 11,.alloc 66,0,"l5_replay.go:245",#[],none⟩
abbrev qVi7:Oper:=⟨some 27,.move (.tmp 33),176,"l5_replay.go:245",#[⟨5,.data⟩],none⟩
abbrev qVi8:Oper:=⟨some 34,.extract (.tmp 27) 0,66,"l5_replay.go:245",#[⟨6,.data⟩],none⟩
abbrev qVi9:Oper:=⟨some 35,.extract (.tmp 27) 1,3,"l5_replay.go:245",#[⟨6,.data⟩,⟨10,.gcOnly .lateStores⟩],none⟩
abbrev qVi10:Oper:=⟨none,.store 66 (.tmp 11) (.tmp 34),0,"l5_replay.go:245",#[⟨9,.data⟩,⟨7,.data⟩,⟨5,.chain⟩,⟨0,.phase⟩,⟨1,.phase⟩,⟨2,.phase⟩,⟨3,.phase⟩,⟨4,.phase⟩,⟨5,.phase⟩,⟨6,.phase⟩,⟨7,.phase⟩,⟨8,.textOnly .lateStores⟩,⟨9,.phase⟩],none⟩
abbrev qVi11:Oper:=⟨some 12,.assign (.tmp 35),3,"l5_replay.go:245",#[⟨8,.data⟩,⟨10,.chain⟩,⟨0,.phase⟩,⟨1,.phase⟩,⟨2,.phase⟩,⟨3,.phase⟩,⟨4,.phase⟩,⟨5,.phase⟩,⟨6,.phase⟩,⟨7,.phase⟩,⟨8,.phase⟩,⟨9,.phase⟩,⟨10,.phase⟩],none⟩
abbrev qVi12:Oper:=⟨some 41,.move (.tmp 7),41,"l5_replay.go:250",#[],none⟩
abbrev qVi13:Oper:=⟨some 42,.move (.tmp 10),3,"l5_replay.go:250",#[],none⟩
abbrev qVi14:Oper:=⟨some 43,.slice 41 (.tmp 41) none (some (.tmp 42)) none,41,"l5_replay.go:250",#[⟨0,.data⟩,⟨1,.data⟩],none⟩
abbrev qVi15:Oper:=⟨some 44,.load 66 (.tmp 11),66,"l5_replay.go:250",#[],none⟩
abbrev qVi16:Oper:=⟨some 45,.buildSlice 41 1 #[(0,.tmp 44)],41,"l5_replay.go:250",#[⟨3,.data⟩],none⟩
abbrev qVi17:Oper:=⟨some 46,.call ⟨.builtin .append,#[.tmp 43,.tmp 45],#[41,41]⟩,41,"l5_replay.go:250",#[⟨2,.data⟩,⟨4,.data⟩],none⟩
abbrev qVi18:Oper:=⟨some 7,.assign (.tmp 46),41,"l5_replay.go:250",#[⟨5,.data⟩,⟨5,.chain⟩,⟨0,.phase⟩,⟨1,.phase⟩,⟨2,.phase⟩,⟨3,.phase⟩,⟨4,.phase⟩,⟨5,.phase⟩],none⟩
theorem own_take3{w:World}{base g cap j:Nat}{L:List Itm}(h:Sv w base g cap L)(hj:j<=L.length):w.ownsRow base 66 3 (.slice (some ⟨g,0,none⟩) j cap) j (vals (L.take j)):=by
 obtain⟨hl,hh⟩:=h;refine⟨by rw [vals_len,List.length_take];omega,?_⟩;rcases hh with ⟨hh,_⟩ | ⟨gg,cap',cur,e1,e2,e3,e4,e5,e6,e7⟩
 · simp at hh
 ·
  simp only [Value.slice.injEq,Option.some.injEq,Addr.mk.injEq,and_true,true_and] at e1
  obtain⟨rfl,rfl⟩:=e1;refine Or.inr ⟨g,cap,cur,rfl,e2,e3,by omega,e5,e6,?_⟩;obtain⟨r,hr⟩:=vals_take L j;have h1:(vals L).take (j * 3)=vals (L.take j):=by
   rw [←hr,List.take_append_of_le_length (by rw [vals_len,List.length_take];omega),List.take_of_length_le (by rw [vals_len,List.length_take];omega)]
  rw [←h1,←e7,List.take_take,Nat.min_eq_left (by omega)]
theorem itm1{L:List Itm}(h:L.length=1):∃ x,L=[x]:=List.length_eq_one_iff.1 h
theorem dropI_getD(L:List Itm)(j q:Nat):(L.drop j).getD q d0=L.getD (j+q) d0:=by simp
theorem Sv.ilA{w:World}{base g cap:Nat}{L:List Itm}(h:Sv w base g cap L)(hs:sumS L<=1048576)(j:Nat):IL w (some ⟨g,j * 3,none⟩) (L.length - j) (fun i=>(L.drop j).getD i d0):=fun k hk=>by
 have:=h.il hs j k hk;simpa [dropI_getD] using this
theorem iWalkV(n:Nat)(C:Nat->Clm)(mb:Nat)(ar:Option Addr)(cr:Nat)(R:Nat->Itm)(p5 p3:Nat)(a:Option Addr)(m c:Nat)(I:Nat->Itm)(w:World)(hP:PlAt w mb n C)(hdp:∀ k,k<n->hasCol C (C k).s k=false)(hR:IL w ar n R)(h5:w.cell? ⟨p5,0,none⟩=some (.slice ar n cr))(h31:w.cell? ⟨p3,1,none⟩=some (.map (some mb)))(hI:IL w a m I)(hm:m<=100)(hx:ex I m=some 1)(hk0:(ck C n I m).2=0)(hz:∀ j,j<n->(R j).s.size<=200)(hgR:∀ j,j<n->goodV (R j)/\(R j).o=(C j).t) :
 Calls Tryz.prog 134 #[.slice a m c,.func (.func 135) #[] #[.pointer (some ⟨p5,0,none⟩),.pointer (some ⟨p3,0,none⟩)]] w fun e w'=>e=.returned (.tuple #[.agg #[.int .i64 (vlR C n R I m).o,.int .i64 (vlR C n R I m).m,.string (vlR C n R I m).s],.int .i64 0])/\Below w.heap.size w w':=by
 have HX:Hid (ex I m=some 1):=hx;have HK0:Hid ((ck C n I m).2=0):=hk0;have HSZ:Hid (∀ k,k<=m->sumS (vl C n R I k)<=200 * k):=vl_sum hz hx;have HTY:Hid (∀ k,k<=m->typed (vl C n R I k) (ck C n I k).1):=vl_ty hgR hx hk0;have HDP:Hid (∀ k,k<n->hasCol C (C k).s k=false):=hdp;clear hx hk0 hz hgR hdp;obtain⟨j3,hi3,hz30,hz31,hz32⟩:=info_parts Tryz.infoVal;have HI3:Hid (Tryz.prog.info? 66=some j3):=hi3;clear hi3;have hsU:((w.alloc (.cells #[.int .i64 0,.int .i64 0,.string ⟨#[]⟩] 66)).alloc (.cells #[.int .i64 0,.int .i64 0,.string ⟨#[]⟩] 66)).heap.size=w.heap.size+2:=by rw [World.size_alloc,World.size_alloc]
 have hmk:=make_cap Tryz.underlying41 Tryz.infoVal m (by omega) (by omega) ((w.alloc (.cells #[.int .i64 0,.int .i64 0,.string ⟨#[]⟩] 66)).alloc (.cells #[.int .i64 0,.int .i64 0,.string ⟨#[]⟩] 66));have hO0:Sv (((w.alloc (.cells #[.int .i64 0,.int .i64 0,.string ⟨#[]⟩] 66)).alloc (.cells #[.int .i64 0,.int .i64 0,.string ⟨#[]⟩] 66)).alloc (.cells (madeCells (Value.agg #[.int .i64 0,.int .i64 0,.string ByteArray.empty]).cells (m * 3)) 66)) (w.heap.size+2) ((w.alloc (.cells #[.int .i64 0,.int .i64 0,.string ⟨#[]⟩] 66)).alloc (.cells #[.int .i64 0,.int .i64 0,.string ⟨#[]⟩] 66)).heap.size m []:=World.ownsRow_made ((w.alloc (.cells #[.int .i64 0,.int .i64 0,.string ⟨#[]⟩] 66)).alloc (.cells #[.int .i64 0,.int .i64 0,.string ⟨#[]⟩] 66)) _ m (by rw [hsU];exact Nat.le_refl _) (by unfold maxLen;omega) (made_size _ _);rw [hsU] at hO0;have hb0:Below w.heap.size w (((w.alloc (.cells #[.int .i64 0,.int .i64 0,.string ⟨#[]⟩] 66)).alloc (.cells #[.int .i64 0,.int .i64 0,.string ⟨#[]⟩] 66)).alloc (.cells (madeCells (Value.agg #[.int .i64 0,.int .i64 0,.string ByteArray.empty]).cells (m * 3)) 66)):=bstep (bstep (bal _ _) (bal _ _)) (bal _ _);have hq0:(((w.alloc (.cells #[.int .i64 0,.int .i64 0,.string ⟨#[]⟩] 66)).alloc (.cells #[.int .i64 0,.int .i64 0,.string ⟨#[]⟩] 66)).alloc (.cells (madeCells (Value.agg #[.int .i64 0,.int .i64 0,.string ByteArray.empty]).cells (m * 3)) 66)).heap[w.heap.size]?=some (.cells #[.int .i64 0,.int .i64 0,.string ⟨#[]⟩] 66 (0,0)):=rowL (rowL (heap_alloc_new w _) (bal _ _)) (bal _ _);have hq1:(((w.alloc (.cells #[.int .i64 0,.int .i64 0,.string ⟨#[]⟩] 66)).alloc (.cells #[.int .i64 0,.int .i64 0,.string ⟨#[]⟩] 66)).alloc (.cells (madeCells (Value.agg #[.int .i64 0,.int .i64 0,.string ByteArray.empty]).cells (m * 3)) 66)).heap[w.heap.size+1]?=some (.cells #[.int .i64 0,.int .i64 0,.string ⟨#[]⟩] 66 (0,0)):=by
  have q:=heap_alloc_new (w.alloc (.cells #[.int .i64 0,.int .i64 0,.string ⟨#[]⟩] 66)) (.cells #[.int .i64 0,.int .i64 0,.string ⟨#[]⟩] 66);rw [World.size_alloc] at q;exact rowL q (bal _ _)
 have hs0:w.heap.size+2<=(((w.alloc (.cells #[.int .i64 0,.int .i64 0,.string ⟨#[]⟩] 66)).alloc (.cells #[.int .i64 0,.int .i64 0,.string ⟨#[]⟩] 66)).alloc (.cells (madeCells (Value.agg #[.int .i64 0,.int .i64 0,.string ByteArray.empty]).cells (m * 3)) 66)).heap.size:=by rw [World.size_alloc,hsU];omega
 rw [hsU] at hmk;generalize ((w.alloc (.cells #[.int .i64 0,.int .i64 0,.string ⟨#[]⟩] 66)).alloc (.cells #[.int .i64 0,.int .i64 0,.string ⟨#[]⟩] 66)).alloc (.cells (madeCells (Value.agg #[.int .i64 0,.int .i64 0,.string ByteArray.empty]).cells (m * 3)) 66)=w0 at hmk hO0 hb0 hq0 hq1 hs0;go_enter Tryz.func134,Tryz.ntmps134
 go_wp2;clear hmk;go_loopw [7,9,10,11,12,18] (fun v7 _ _ _ _ i wr=>∃ (k g cap:Nat) (L:List Itm) (lst:Itm),k<=m/\i=.int .i64 k/\v7=.slice (some ⟨g,0,none⟩) L.length cap/\vl C n R I k=L/\Sv wr (w.heap.size+2) g cap L/\(0<k->L.getLast?=some lst)/\wr.heap[w.heap.size]?=some (.cells #[.int .i64 0,.int .i64 0,.string ⟨#[]⟩] 66 (0,0))/\wr.heap[w.heap.size+1]?=some (.cells #[.int .i64 lst.o,.int .i64 lst.m,.string lst.s] 66 (0,0))/\Below w.heap.size w wr/\w.heap.size+2<=wr.heap.size) (fun _ _ _ _ _ i _=>m - (intOf i).toNat)
 case atStart=>exact⟨0,w.heap.size+2,m,[],d0,by omega,rfl,rfl,rfl,hO0,fun h=>by omega,hq0,hq1,hb0,hs0⟩
 case round=>
  obtain⟨k,g,cap,L,lst,hk,rfl,rfl,hvl,hO,hlst,hr0,hr1,hb,hsz⟩:=hrel;have HVL:Hid (vl C n R I k=L/\(0<k->L.getLast?=some lst)):=⟨hvl,hlst⟩;clear hvl hlst;obtain⟨lo,lm,ls⟩:=lst;by_cases hlt:k<m
  rotate_left
  ·
   obtain rfl:k=m:=by omega
   have e:Hid (vlR C n R I k=⟨lo,lm,ls⟩):=by
    show _=_
    have hl1:=vl_len (C:=C) (n:=n) (R:=R) HX.out;rw [HVL.out.1] at hl1;have hk1:0<k:=by
     have:=ex_le HX.out;omega
    have h3:=HVL.out.2 hk1;obtain⟨x,rfl⟩:=itm1 (L:=L) (by omega);simp at h3
    unfold vlR;rw [HVL.out.1,h3];rfl
   obtain⟨a0,a1,a2,af0,af1,af2⟩:=box3 hr0;obtain⟨b0,b1,b2,-⟩:=box3 hr1;go_wp2;refine bodyPost_ret (results_cell_tmp Tryz.results134 _ _ w.heap.size 66 _ (0,0) _ rfl (row3 hr0 _ _ _) Tryz.underlying66 rfl (by kernel_rfl)) rfl ?_;exact⟨by rw [e.out];rfl,bset3 hb (Nat.le_refl _) _ _ _⟩
  obtain⟨d,hd,hok,had⟩:=ex_at HX.out hlt;have hlen:((L.length:Nat):Int)=d:=by
   have:=vl_len (C:=C) (n:=n) (R:=R) hd;rwa [HVL.out.1] at this
  have hll:=ex_le hd;have hsum:sumS L<=200 * k:=by
   have:=HSZ.out k (by omega);rwa [HVL.out.1] at this
  have hst:vl C n R I (k+1)=L.take (L.length - arN (I k).o) ++ [itV C n R (I k) (L.drop (L.length - arN (I k).o))]:=by
   rw [vl,HVL.out.1]
  have hcol:(I k).o=3->∃ j,colI C (I k).s n=some j:=fun ho=>ck_col hlt HK0.out ho;have htyk:=HTY.out k (by omega);rw [HVL.out.1] at htyk;have hstp:=(ck_step (ck_ok HK0.out (show k+1<=m by omega)) (ck_ok HK0.out (show k<=m by omega))).1;obtain⟨b,off,rfl,c0,c1,c2,hs⟩:=hI.later hb k hlt;obtain⟨o,mm,s,hIk⟩:∃ o mm s,I k=⟨o,mm,s⟩:=⟨_,_,_,rfl⟩;unfold stp at hstp;rw [hIk] at hok had hst c0 c1 c2 hs hcol hstp;simp only at hok had hst c0 c1 c2 hs hcol hstp
  have hop:=okItem_op hok;have HOPN:Hid (opn o mm s=arity o):=opn_ok hok;have ha:=arN_eq o;have hal:=arity_le o;obtain⟨j,hj⟩:∃ j:Nat,L.length - arN o=j:=⟨_,rfl⟩;rw [←htyk.1,hj] at hstp;rw [hj] at hst;have hgood:(o=7∨o=8)->goodV ((L.drop j).getD 0 d0)/\goodV ((L.drop j).getD 1 d0)/\((L.drop j).getD 0 d0).o=((L.drop j).getD 1 d0).o:=fun h78=>by
   have h2:arity o=2:=by rcases h78 with rfl | rfl <;> rfl
   rw [dropI_getD,dropI_getD];have t0:=htyk.2 (j+0) (by omega);have t1:=htyk.2 (j+1) (by omega);refine⟨t0.2,t1.2,?_⟩;rw [t0.1,t1.1];unfold tyI at hstp;simp only at hstp
   rw [if_neg (by omega),if_neg (by omega),if_pos h78] at hstp;by_cases e:((ck C n I k).1.drop j).getD 0 0=((ck C n I k).1.drop j).getD 1 0
   · rwa [drop_getD,drop_getD] at e
   · rw [if_neg e] at hstp;simp at hstp
  have hj1:((L.length:Nat):Int) - arity o=(j:Nat):=by omega
  have hjl:j<=L.length:=by omega
  have hcp:=own_capV hO;have hjj:(j:Int)<=L.length:=by omega
  have hjc:(j:Int)<=cap:=by omega
  have hjc2:j<=cap:=by omega
  have hj0:(0:Int)<=j:=by omega
  have hj100:j<=100:=by omega
  obtain⟨x,hx⟩:∃ x,itV C n R ⟨o,mm,s⟩ (L.drop j)=x:=⟨_,rfl⟩;have hszd:∀ i,i<(L.drop j).length->((L.drop j).getD i d0).s.size<=1000000:=fun i hi=>by
   rw [List.length_drop] at hi;rw [dropI_getD];have:=sumS_mem (L:=L) (k:=j+i) (by omega);omega
  have HV0:∀ (ad:Option Addr) (cx:Nat) W',Below w.heap.size w W'->IL W' ad (L.length - j) (fun i=>(L.drop j).getD i d0)->Calls Tryz.prog 135 #[.agg #[.int .i64 o,.int .i64 mm,.string s],.slice ad (L.length - j) cx,.pointer (some ⟨p5,0,none⟩),.pointer (some ⟨p3,0,none⟩)] W' (fun e w'=>e=.returned (.tuple #[.agg #[.int .i64 x.o,.int .i64 x.m,.string x.s],.int .i64 0])/\Below W'.heap.size W' w'):=fun ad cx W' hW hIA=>by
   have hln:(L.drop j).length=L.length - j:=List.length_drop;have:=iVal1 n C mb ar cr R p5 p3 o mm s ad cx (L.drop j) W' (hP.later hW) HDP.out (hR.later hW) (keepB hW h5) (keepB hW h31) (by rw [hln];exact hIA) (by rw [hln];omega) (by rw [hln];omega) hop hcol hgood hszd hs;rwa [hx,hln] at this
  have HV:Hid (∀ (ad:Option Addr) (cx:Nat) W',Below w.heap.size w W'->IL W' ad (L.length - j) (fun i=>(L.drop j).getD i d0)->Calls Tryz.prog 135 #[.agg #[.int .i64 o,.int .i64 mm,.string s],.slice ad (L.length - j) cx,.pointer (some ⟨p5,0,none⟩),.pointer (some ⟨p3,0,none⟩)] W' (fun e w'=>e=.returned (.tuple #[.agg #[.int .i64 x.o,.int .i64 x.m,.string x.s],.int .i64 0])/\Below W'.heap.size W' w')):=HV0;have HST:Hid (vl C n R I (k+1)=L.take j ++ [x]):=by show _=_;rw [hst,hx]
  have HLE:Hid (((L.length:Nat):Int)=d/\L.length - arN o=j/\L.length<=100):=⟨hlen,hj,by omega⟩;have hsumL:sumS L<=1048576:=by omega
  have HIL1:Hid (∀ W',Below wr.heap.size wr W'->IL W' (some ⟨g,j * 3,none⟩) (L.length - j) (fun i=>(L.drop j).getD i d0)):=fun W' hW=>Sv.ilA (own_below hO hW) hsumL j;have HIL0:Hid (cap=j->∀ W',IL W' (some ⟨g,0,none⟩) (L.length - j) (fun i=>(L.drop j).getD i d0)):=fun hc W' q hq=>by omega
  clear hst hIk hj ha had hd hok hlen hx HV0 hgood hstp htyk hcol hszd;have hB1:Below wr.heap.size wr (wr.alloc (.cells #[.int .i64 o,.int .i64 mm,.string s] 108)):=bal _ _;obtain⟨y0,y1,y2,-⟩:=box3 (heap_alloc_new wr (.cells #[.int .i64 o,.int .i64 mm,.string s] 108));by_cases hcj:cap=j
  ·
   have hOj:Sv wr (w.heap.size+2) g j L:=by rw [←hcj];exact hO
   go_upto_region 7 with (go_at_call 158;refine(iOperands o mm s _).mono ?_;rintro e w3 ⟨rfl,hb3⟩;rw [HOPN.out];have y0_:=keepB hb3 y0;have y1_:=keepB hb3 y1;have y2_:=keepB hb3 y2)
   have hb03:=bstep hB1 hb3;have hs03:=hb03.size;refine wp_region_held_drew (S:=fun x_=>Below w3.heap.size w3 x_) (by kernel_rfl) (bdrV _) (fun jH=>?_);generalize w3.drew=v at jH ⊢;refine tk 0 qVi0 (fun x jS=>by go_simp<;>rfl) jH ?_
   try simp only [zS]
   refine tk 1 qVi1 (fun x jS=>by have k0:=keepB jS y0_;have k1:=keepB jS y1_;have k2:=keepB jS y2_;go_simp<;>rfl) jH ?_
   try simp only [zS]
   refine tk 2 qVi2 (fun x jS=>by go_simp<;>rfl) jH ?_
   try simp only [zS]
   refine tk 3 qVi3 (fun x jS=>by go_simp<;>rfl) jH ?_
   try simp only [zS]
   refine tk 4 qVi4 (fun x jS=>by go_simp<;>rfl) jH ?_
   try simp only [zS]
   refine wpAnyH_ready (rs:=[5,9]) (by kernel_rfl) (by simp) ?_;refine(AllReadyH.cons (o:=qVi5) rfl (fun K hK=>?w1_c2) (AllReadyH.cons (o:=qVi6) rfl (fun K hK=>?w1_c1) AllReadyH.nil));case' w1_c2=>
    go_simp;refine(HV.out (some ⟨g,0,none⟩) 0 _ (bstep hb (bstep hb03 jH)) (HIL0.out hcj _)).mono ?_;rintro e v ⟨rfl,hb5⟩;refine hK.out _ _ (bstep jH hb5) (fun jH=>?_);clear hK K;try simp only [zS]
    clear hb5;refine tk 6 qVi7 (fun x jS=>by go_simp<;>rfl) jH ?_
    try simp only [zS]
    refine tk 7 qVi8 (fun x jS=>by go_simp<;>rfl) jH ?_
    try simp only [zS]
    refine tk 8 qVi9 (fun x jS=>by go_simp<;>rfl) jH ?_
    try simp only [zS]
    refine rd 9 qVi6 (fun K hK=>?_);have hqT:=heap_alloc_new v (.cells #[.int .i64 0,.int .i64 0,.string ⟨#[]⟩] 66);have hbT:=bal v (.cells #[.int .i64 0,.int .i64 0,.string ⟨#[]⟩] 66);have hsT:=jH.size;go_simp;refine hK.out _ _ (bstep jH (bal _ _)) (fun jH=>?_);clear hK K;try simp only [zS]
    generalize v.heap.size=BT at hqT hsT ⊢;generalize v.alloc (.cells #[.int .i64 0,.int .i64 0,.string ⟨#[]⟩] 66)=v at hqT hbT  jH ⊢;clear hbT;refine rd 10 qVi10 (fun K hK=>?_);obtain⟨s0_,s1_,s2_,sf0_,sf1_,sf2_⟩:=box3 hqT;go_simp;refine hK.out _ _ (bset3 jH hsT _ _ _) (fun jH=>?_);clear hK K s0_ s1_ s2_ sf0_ sf1_ sf2_;try simp only [zS]
    replace hqT:=row3t hqT (.int .i64 x.o) (.int .i64 x.m) (.string x.s);refine tk 11 qVi11 (fun x jS=>by go_simp<;>rfl) jH ?_
    try simp only [zS]
    refine wpAnyH_done (by kernel_rfl) ?_ _;generalize (((v.setCell ⟨BT,0,none⟩ (.int .i64 x.o)).setCell ⟨BT,1,none⟩ (.int .i64 x.m)).setCell ⟨BT,2,none⟩ (.string x.s))=w6 at hqT jH ⊢;have hb6:=bstep hb03 jH;have h6s:=hb6.size;clear jH;have q1:=rowL hr1 hb6;obtain⟨l0_,l1_,l2_,lf0,lf1,lf2⟩:=box3 q1;obtain⟨u0_,u1_,u2_,-⟩:=box3 hqT;go_upto_region 11 with (fail)
    have p1:(((w6.setCell ⟨w.heap.size+1,0,none⟩ (.int .i64 x.o)).setCell ⟨w.heap.size+1,1,none⟩ (.int .i64 x.m)).setCell ⟨w.heap.size+1,2,none⟩ (.string x.s)).heap[w.heap.size+1]?=some (.cells #[.int .i64 x.o,.int .i64 x.m,.string x.s] 66 (0,0)):=row3t q1 _ _ _;have p0:(((w6.setCell ⟨w.heap.size+1,0,none⟩ (.int .i64 x.o)).setCell ⟨w.heap.size+1,1,none⟩ (.int .i64 x.m)).setCell ⟨w.heap.size+1,2,none⟩ (.string x.s)).heap[w.heap.size]?=some (.cells #[.int .i64 0,.int .i64 0,.string ⟨#[]⟩] 66 (0,0)):=rowO (rowO (rowO (rowL hr0 hb6) (by omega)) (by omega)) (by omega);have pT:(((w6.setCell ⟨w.heap.size+1,0,none⟩ (.int .i64 x.o)).setCell ⟨w.heap.size+1,1,none⟩ (.int .i64 x.m)).setCell ⟨w.heap.size+1,2,none⟩ (.string x.s)).heap[BT]?=some (.cells #[.int .i64 x.o,.int .i64 x.m,.string x.s] 66 (0,0)):=rowO (rowO (rowO hqT (by omega)) (by omega)) (by omega);have hO7:Sv (((w6.setCell ⟨w.heap.size+1,0,none⟩ (.int .i64 x.o)).setCell ⟨w.heap.size+1,1,none⟩ (.int .i64 x.m)).setCell ⟨w.heap.size+1,2,none⟩ (.string x.s)) (w.heap.size+2) g j L:=own_set (own_set (own_set (own_below hOj hb6) (by omega)) (by omega)) (by omega);have hb7:Below w.heap.size w (((w6.setCell ⟨w.heap.size+1,0,none⟩ (.int .i64 x.o)).setCell ⟨w.heap.size+1,1,none⟩ (.int .i64 x.m)).setCell ⟨w.heap.size+1,2,none⟩ (.string x.s)):=bset3 (bstep hb hb6) (by omega) _ _ _;have hs7:wr.heap.size<=(((w6.setCell ⟨w.heap.size+1,0,none⟩ (.int .i64 x.o)).setCell ⟨w.heap.size+1,1,none⟩ (.int .i64 x.m)).setCell ⟨w.heap.size+1,2,none⟩ (.string x.s)).heap.size:=by rw [World.size_setCell,World.size_setCell,World.size_setCell];exact h6s
    generalize (((w6.setCell ⟨w.heap.size+1,0,none⟩ (.int .i64 x.o)).setCell ⟨w.heap.size+1,1,none⟩ (.int .i64 x.m)).setCell ⟨w.heap.size+1,2,none⟩ (.string x.s))=w7 at p1 p0 pT hO7 hb7 hs7 ⊢;clear l0_ l1_ l2_ lf0 lf1 lf2 u0_ u1_ u2_ q1 hqT;have hTg:BT≠g:=by have:=(hO.lt g rfl).2;omega
    refine wp_region_held_drew (S:=fun x_=>x_.heap[BT]?=some (.cells #[.int .i64 x.o,.int .i64 x.m,.string x.s] 66 (0,0))) (by kernel_rfl) (pT) (fun jH=>?_);replace p0:w7.drew.heap[w.heap.size]?=_:=p0;replace p1:w7.drew.heap[w.heap.size+1]?=_:=p1;replace hO7:Sv w7.drew (w.heap.size+2) g j L:=hO7;replace hb7:Below w.heap.size w w7.drew:=bstep hb7 (bdrV _);replace hs7:wr.heap.size<=w7.drew.heap.size:=hs7;generalize w7.drew=v at jH p0 p1 hO7 hb7 hs7 ⊢;refine tk 0 qVi12 (fun x jS=>by go_simp<;>rfl) jH ?_
    try simp only [zS]
    refine tk 1 qVi13 (fun x jS=>by go_simp<;>rfl) jH ?_
    try simp only [zS]
    refine tk 2 qVi14 (fun x jS=>by go_simp<;>rfl) jH ?_
    try simp only [zS]
    refine tk 3 qVi15 (fun x jS=>by obtain⟨k0_,k1_,k2_,-⟩:=box3 jS;go_simp<;>rfl) jH ?_
    try simp only [zS]
    refine rd 4 qVi16 (fun K hK=>?_);have hqN:=heap_alloc_new v (.cells #[.int .i64 x.o,.int .i64 x.m,.string x.s] 66);have hbN:=bal v (.cells #[.int .i64 x.o,.int .i64 x.m,.string x.s] 66);go_simp;refine hK.out _ _ (rowL jH hbN) (fun jH=>?_);clear hK K;try simp only [zS]
    replace p0:=rowL p0 hbN;replace p1:=rowL p1 hbN;replace hO7:Sv _ (w.heap.size+2) g j L:=own_below hO7 hbN;replace hb7:=bstep hb7 hbN;replace hs7:=Nat.le_trans hs7 hbN.size;generalize v.heap.size=BN at hqN ⊢;generalize v.alloc (.cells #[.int .i64 x.o,.int .i64 x.m,.string x.s] 66)=v at hqN jH p0 p1 hO7 hb7 hs7 hbN ⊢;clear hbN;refine rd 5 qVi17 (fun K hK=>?_);rw [if_pos (by kernel_rfl)];refine wp_append_lies _ _ _ _ rfl (w.heap.size+2) 66 j3 (.agg #[.int .i64 0,.int .i64 0,.string ByteArray.empty]) 3 32 Tryz.underlying41 HI3.out hz30 hz31 hz32 rfl (by omega) (.slice (some ⟨g,0,none⟩) j j) j (vals (L.take j)) rfl (own_take3 hO7 hjl) ⟨BN,0,none⟩ 1 1 (v3 x) rfl rfl (World.news_of_block hqN) (vals_one [x]) (by omega) (by unfold maxLen;omega) (by omega) (by omega) _ rfl ?_;intro g8 cap8 v hO8 hgr8 hat8 hlt8;have hgl:=(hO7.lt g rfl).1;have hgb:∀ b,b<w.heap.size+2->some b≠(Value.slice (some ⟨g,0,none⟩) j j).ownBlock:=fun b hb e=>by have e3:b=g:=Option.some.inj e;omega
    have hTne:some BT≠(Value.slice (some ⟨g,0,none⟩) j j).ownBlock:=fun e=>hTg (Option.some.inj e);refine hK.out _ _ (rowR jH hgr8 hTne) (fun jH=>?_);clear hK K hat8;try simp only [zS]
    replace p0:=rowR p0 hgr8 (hgb _ (by omega));replace p1:=rowR p1 hgr8 (hgb _ (by omega));replace hb7:=gBr hb7 hgr8 (fun y hy=>hgb _ (by omega));replace hs7:=Nat.le_trans hs7 hgr8.size;clear hgr8;refine tk 6 qVi18 (fun x jS=>by go_simp<;>rfl) jH ?_
    try simp only [zS]
    refine wpAnyH_done (by kernel_rfl) ?_ _;obtain⟨e1_,e2_⟩:=sv_end (r:=x) hjl hO8;go_wp2;go_roundw
    case rel=>exact⟨k+1,g8,cap8,L.take j ++ [x],x,by omega,by go_num,by rw [e1_],HST.out,e2_,fun _=>by simp,p0,p1,hb7,by omega⟩
    case measure=>simp [intOf];omega
   case' w1_c1=>
    have hqT:=heap_alloc_new v (.cells #[.int .i64 0,.int .i64 0,.string ⟨#[]⟩] 66);have hbT:=bal v (.cells #[.int .i64 0,.int .i64 0,.string ⟨#[]⟩] 66);have hsT:=jH.size;go_simp;refine hK.out _ _ (bstep jH (bal _ _)) (fun jH=>?_);clear hK K;try simp only [zS]
    generalize v.heap.size=BT at hqT hsT ⊢;generalize v.alloc (.cells #[.int .i64 0,.int .i64 0,.string ⟨#[]⟩] 66)=v at hqT hbT  jH ⊢;clear hbT;refine rd 5 qVi5 (fun K hK=>?_);go_simp;refine(HV.out (some ⟨g,0,none⟩) 0 _ (bstep hb (bstep hb03 jH)) (HIL0.out hcj _)).mono ?_;rintro e v ⟨rfl,hb5⟩;refine hK.out _ _ (bstep jH hb5) (fun jH=>?_);clear hK K;try simp only [zS]
    replace hqT:=rowL hqT hb5;clear hb5;refine tk 6 qVi7 (fun x jS=>by go_simp<;>rfl) jH ?_
    try simp only [zS]
    refine tk 7 qVi8 (fun x jS=>by go_simp<;>rfl) jH ?_
    try simp only [zS]
    refine tk 8 qVi9 (fun x jS=>by go_simp<;>rfl) jH ?_
    try simp only [zS]
    refine rd 10 qVi10 (fun K hK=>?_);obtain⟨s0_,s1_,s2_,sf0_,sf1_,sf2_⟩:=box3 hqT;go_simp;refine hK.out _ _ (bset3 jH hsT _ _ _) (fun jH=>?_);clear hK K s0_ s1_ s2_ sf0_ sf1_ sf2_;try simp only [zS]
    replace hqT:=row3t hqT (.int .i64 x.o) (.int .i64 x.m) (.string x.s);refine tk 11 qVi11 (fun x jS=>by go_simp<;>rfl) jH ?_
    try simp only [zS]
    refine wpAnyH_done (by kernel_rfl) ?_ _;generalize (((v.setCell ⟨BT,0,none⟩ (.int .i64 x.o)).setCell ⟨BT,1,none⟩ (.int .i64 x.m)).setCell ⟨BT,2,none⟩ (.string x.s))=w6 at hqT jH ⊢;have hb6:=bstep hb03 jH;have h6s:=hb6.size;clear jH;have q1:=rowL hr1 hb6;obtain⟨l0_,l1_,l2_,lf0,lf1,lf2⟩:=box3 q1;obtain⟨u0_,u1_,u2_,-⟩:=box3 hqT;go_upto_region 11 with (fail)
    have p1:(((w6.setCell ⟨w.heap.size+1,0,none⟩ (.int .i64 x.o)).setCell ⟨w.heap.size+1,1,none⟩ (.int .i64 x.m)).setCell ⟨w.heap.size+1,2,none⟩ (.string x.s)).heap[w.heap.size+1]?=some (.cells #[.int .i64 x.o,.int .i64 x.m,.string x.s] 66 (0,0)):=row3t q1 _ _ _;have p0:(((w6.setCell ⟨w.heap.size+1,0,none⟩ (.int .i64 x.o)).setCell ⟨w.heap.size+1,1,none⟩ (.int .i64 x.m)).setCell ⟨w.heap.size+1,2,none⟩ (.string x.s)).heap[w.heap.size]?=some (.cells #[.int .i64 0,.int .i64 0,.string ⟨#[]⟩] 66 (0,0)):=rowO (rowO (rowO (rowL hr0 hb6) (by omega)) (by omega)) (by omega);have pT:(((w6.setCell ⟨w.heap.size+1,0,none⟩ (.int .i64 x.o)).setCell ⟨w.heap.size+1,1,none⟩ (.int .i64 x.m)).setCell ⟨w.heap.size+1,2,none⟩ (.string x.s)).heap[BT]?=some (.cells #[.int .i64 x.o,.int .i64 x.m,.string x.s] 66 (0,0)):=rowO (rowO (rowO hqT (by omega)) (by omega)) (by omega);have hO7:Sv (((w6.setCell ⟨w.heap.size+1,0,none⟩ (.int .i64 x.o)).setCell ⟨w.heap.size+1,1,none⟩ (.int .i64 x.m)).setCell ⟨w.heap.size+1,2,none⟩ (.string x.s)) (w.heap.size+2) g j L:=own_set (own_set (own_set (own_below hOj hb6) (by omega)) (by omega)) (by omega);have hb7:Below w.heap.size w (((w6.setCell ⟨w.heap.size+1,0,none⟩ (.int .i64 x.o)).setCell ⟨w.heap.size+1,1,none⟩ (.int .i64 x.m)).setCell ⟨w.heap.size+1,2,none⟩ (.string x.s)):=bset3 (bstep hb hb6) (by omega) _ _ _;have hs7:wr.heap.size<=(((w6.setCell ⟨w.heap.size+1,0,none⟩ (.int .i64 x.o)).setCell ⟨w.heap.size+1,1,none⟩ (.int .i64 x.m)).setCell ⟨w.heap.size+1,2,none⟩ (.string x.s)).heap.size:=by rw [World.size_setCell,World.size_setCell,World.size_setCell];exact h6s
    generalize (((w6.setCell ⟨w.heap.size+1,0,none⟩ (.int .i64 x.o)).setCell ⟨w.heap.size+1,1,none⟩ (.int .i64 x.m)).setCell ⟨w.heap.size+1,2,none⟩ (.string x.s))=w7 at p1 p0 pT hO7 hb7 hs7 ⊢;clear l0_ l1_ l2_ lf0 lf1 lf2 u0_ u1_ u2_ q1 hqT;have hTg:BT≠g:=by have:=(hO.lt g rfl).2;omega
    refine wp_region_held_drew (S:=fun x_=>x_.heap[BT]?=some (.cells #[.int .i64 x.o,.int .i64 x.m,.string x.s] 66 (0,0))) (by kernel_rfl) (pT) (fun jH=>?_);replace p0:w7.drew.heap[w.heap.size]?=_:=p0;replace p1:w7.drew.heap[w.heap.size+1]?=_:=p1;replace hO7:Sv w7.drew (w.heap.size+2) g j L:=hO7;replace hb7:Below w.heap.size w w7.drew:=bstep hb7 (bdrV _);replace hs7:wr.heap.size<=w7.drew.heap.size:=hs7;generalize w7.drew=v at jH p0 p1 hO7 hb7 hs7 ⊢;refine tk 0 qVi12 (fun x jS=>by go_simp<;>rfl) jH ?_
    try simp only [zS]
    refine tk 1 qVi13 (fun x jS=>by go_simp<;>rfl) jH ?_
    try simp only [zS]
    refine tk 2 qVi14 (fun x jS=>by go_simp<;>rfl) jH ?_
    try simp only [zS]
    refine tk 3 qVi15 (fun x jS=>by obtain⟨k0_,k1_,k2_,-⟩:=box3 jS;go_simp<;>rfl) jH ?_
    try simp only [zS]
    refine rd 4 qVi16 (fun K hK=>?_);have hqN:=heap_alloc_new v (.cells #[.int .i64 x.o,.int .i64 x.m,.string x.s] 66);have hbN:=bal v (.cells #[.int .i64 x.o,.int .i64 x.m,.string x.s] 66);go_simp;refine hK.out _ _ (rowL jH hbN) (fun jH=>?_);clear hK K;try simp only [zS]
    replace p0:=rowL p0 hbN;replace p1:=rowL p1 hbN;replace hO7:Sv _ (w.heap.size+2) g j L:=own_below hO7 hbN;replace hb7:=bstep hb7 hbN;replace hs7:=Nat.le_trans hs7 hbN.size;generalize v.heap.size=BN at hqN ⊢;generalize v.alloc (.cells #[.int .i64 x.o,.int .i64 x.m,.string x.s] 66)=v at hqN jH p0 p1 hO7 hb7 hs7 hbN ⊢;clear hbN;refine rd 5 qVi17 (fun K hK=>?_);rw [if_pos (by kernel_rfl)];refine wp_append_lies _ _ _ _ rfl (w.heap.size+2) 66 j3 (.agg #[.int .i64 0,.int .i64 0,.string ByteArray.empty]) 3 32 Tryz.underlying41 HI3.out hz30 hz31 hz32 rfl (by omega) (.slice (some ⟨g,0,none⟩) j j) j (vals (L.take j)) rfl (own_take3 hO7 hjl) ⟨BN,0,none⟩ 1 1 (v3 x) rfl rfl (World.news_of_block hqN) (vals_one [x]) (by omega) (by unfold maxLen;omega) (by omega) (by omega) _ rfl ?_;intro g8 cap8 v hO8 hgr8 hat8 hlt8;have hgl:=(hO7.lt g rfl).1;have hgb:∀ b,b<w.heap.size+2->some b≠(Value.slice (some ⟨g,0,none⟩) j j).ownBlock:=fun b hb e=>by have e3:b=g:=Option.some.inj e;omega
    have hTne:some BT≠(Value.slice (some ⟨g,0,none⟩) j j).ownBlock:=fun e=>hTg (Option.some.inj e);refine hK.out _ _ (rowR jH hgr8 hTne) (fun jH=>?_);clear hK K hat8;try simp only [zS]
    replace p0:=rowR p0 hgr8 (hgb _ (by omega));replace p1:=rowR p1 hgr8 (hgb _ (by omega));replace hb7:=gBr hb7 hgr8 (fun y hy=>hgb _ (by omega));replace hs7:=Nat.le_trans hs7 hgr8.size;clear hgr8;refine tk 6 qVi18 (fun x jS=>by go_simp<;>rfl) jH ?_
    try simp only [zS]
    refine wpAnyH_done (by kernel_rfl) ?_ _;obtain⟨e1_,e2_⟩:=sv_end (r:=x) hjl hO8;go_wp2;go_roundw
    case rel=>exact⟨k+1,g8,cap8,L.take j ++ [x],x,by omega,by go_num,by rw [e1_],HST.out,e2_,fun _=>by simp,p0,p1,hb7,by omega⟩
    case measure=>simp [intOf];omega
  ·
   have hOj:Sv wr (w.heap.size+2) g cap L:=hO;go_upto_region 7 with (go_at_call 158;refine(iOperands o mm s _).mono ?_;rintro e w3 ⟨rfl,hb3⟩;rw [HOPN.out];have y0_:=keepB hb3 y0;have y1_:=keepB hb3 y1;have y2_:=keepB hb3 y2)
   have hb03:=bstep hB1 hb3;have hs03:=hb03.size;refine wp_region_held_drew (S:=fun x_=>Below w3.heap.size w3 x_) (by kernel_rfl) (bdrV _) (fun jH=>?_);generalize w3.drew=v at jH ⊢;refine tk 0 qVi0 (fun x jS=>by go_simp<;>rfl) jH ?_
   try simp only [zS]
   refine tk 1 qVi1 (fun x jS=>by have k0:=keepB jS y0_;have k1:=keepB jS y1_;have k2:=keepB jS y2_;go_simp<;>rfl) jH ?_
   try simp only [zS]
   refine tk 2 qVi2 (fun x jS=>by go_simp<;>rfl) jH ?_
   try simp only [zS]
   refine tk 3 qVi3 (fun x jS=>by go_simp<;>rfl) jH ?_
   try simp only [zS]
   refine tk 4 qVi4 (fun x jS=>by go_simp<;>rfl) jH ?_
   try simp only [zS]
   refine wpAnyH_ready (rs:=[5,9]) (by kernel_rfl) (by simp) ?_;refine(AllReadyH.cons (o:=qVi5) rfl (fun K hK=>?w4_c2) (AllReadyH.cons (o:=qVi6) rfl (fun K hK=>?w4_c1) AllReadyH.nil));case' w4_c2=>
    go_simp;refine(HV.out (some ⟨g,j * 3,none⟩) (cap - j) _ (bstep hb (bstep hb03 jH)) (HIL1.out _ (bstep hb03 jH))).mono ?_;rintro e v ⟨rfl,hb5⟩;refine hK.out _ _ (bstep jH hb5) (fun jH=>?_);clear hK K;try simp only [zS]
    clear hb5;refine tk 6 qVi7 (fun x jS=>by go_simp<;>rfl) jH ?_
    try simp only [zS]
    refine tk 7 qVi8 (fun x jS=>by go_simp<;>rfl) jH ?_
    try simp only [zS]
    refine tk 8 qVi9 (fun x jS=>by go_simp<;>rfl) jH ?_
    try simp only [zS]
    refine rd 9 qVi6 (fun K hK=>?_);have hqT:=heap_alloc_new v (.cells #[.int .i64 0,.int .i64 0,.string ⟨#[]⟩] 66);have hbT:=bal v (.cells #[.int .i64 0,.int .i64 0,.string ⟨#[]⟩] 66);have hsT:=jH.size;go_simp;refine hK.out _ _ (bstep jH (bal _ _)) (fun jH=>?_);clear hK K;try simp only [zS]
    generalize v.heap.size=BT at hqT hsT ⊢;generalize v.alloc (.cells #[.int .i64 0,.int .i64 0,.string ⟨#[]⟩] 66)=v at hqT hbT  jH ⊢;clear hbT;refine rd 10 qVi10 (fun K hK=>?_);obtain⟨s0_,s1_,s2_,sf0_,sf1_,sf2_⟩:=box3 hqT;go_simp;refine hK.out _ _ (bset3 jH hsT _ _ _) (fun jH=>?_);clear hK K s0_ s1_ s2_ sf0_ sf1_ sf2_;try simp only [zS]
    replace hqT:=row3t hqT (.int .i64 x.o) (.int .i64 x.m) (.string x.s);refine tk 11 qVi11 (fun x jS=>by go_simp<;>rfl) jH ?_
    try simp only [zS]
    refine wpAnyH_done (by kernel_rfl) ?_ _;generalize (((v.setCell ⟨BT,0,none⟩ (.int .i64 x.o)).setCell ⟨BT,1,none⟩ (.int .i64 x.m)).setCell ⟨BT,2,none⟩ (.string x.s))=w6 at hqT jH ⊢;have hb6:=bstep hb03 jH;have h6s:=hb6.size;clear jH;have q1:=rowL hr1 hb6;obtain⟨l0_,l1_,l2_,lf0,lf1,lf2⟩:=box3 q1;obtain⟨u0_,u1_,u2_,-⟩:=box3 hqT;go_upto_region 11 with (fail)
    have p1:(((w6.setCell ⟨w.heap.size+1,0,none⟩ (.int .i64 x.o)).setCell ⟨w.heap.size+1,1,none⟩ (.int .i64 x.m)).setCell ⟨w.heap.size+1,2,none⟩ (.string x.s)).heap[w.heap.size+1]?=some (.cells #[.int .i64 x.o,.int .i64 x.m,.string x.s] 66 (0,0)):=row3t q1 _ _ _;have p0:(((w6.setCell ⟨w.heap.size+1,0,none⟩ (.int .i64 x.o)).setCell ⟨w.heap.size+1,1,none⟩ (.int .i64 x.m)).setCell ⟨w.heap.size+1,2,none⟩ (.string x.s)).heap[w.heap.size]?=some (.cells #[.int .i64 0,.int .i64 0,.string ⟨#[]⟩] 66 (0,0)):=rowO (rowO (rowO (rowL hr0 hb6) (by omega)) (by omega)) (by omega);have pT:(((w6.setCell ⟨w.heap.size+1,0,none⟩ (.int .i64 x.o)).setCell ⟨w.heap.size+1,1,none⟩ (.int .i64 x.m)).setCell ⟨w.heap.size+1,2,none⟩ (.string x.s)).heap[BT]?=some (.cells #[.int .i64 x.o,.int .i64 x.m,.string x.s] 66 (0,0)):=rowO (rowO (rowO hqT (by omega)) (by omega)) (by omega);have hO7:Sv (((w6.setCell ⟨w.heap.size+1,0,none⟩ (.int .i64 x.o)).setCell ⟨w.heap.size+1,1,none⟩ (.int .i64 x.m)).setCell ⟨w.heap.size+1,2,none⟩ (.string x.s)) (w.heap.size+2) g cap L:=own_set (own_set (own_set (own_below hOj hb6) (by omega)) (by omega)) (by omega);have hb7:Below w.heap.size w (((w6.setCell ⟨w.heap.size+1,0,none⟩ (.int .i64 x.o)).setCell ⟨w.heap.size+1,1,none⟩ (.int .i64 x.m)).setCell ⟨w.heap.size+1,2,none⟩ (.string x.s)):=bset3 (bstep hb hb6) (by omega) _ _ _;have hs7:wr.heap.size<=(((w6.setCell ⟨w.heap.size+1,0,none⟩ (.int .i64 x.o)).setCell ⟨w.heap.size+1,1,none⟩ (.int .i64 x.m)).setCell ⟨w.heap.size+1,2,none⟩ (.string x.s)).heap.size:=by rw [World.size_setCell,World.size_setCell,World.size_setCell];exact h6s
    generalize (((w6.setCell ⟨w.heap.size+1,0,none⟩ (.int .i64 x.o)).setCell ⟨w.heap.size+1,1,none⟩ (.int .i64 x.m)).setCell ⟨w.heap.size+1,2,none⟩ (.string x.s))=w7 at p1 p0 pT hO7 hb7 hs7 ⊢;clear l0_ l1_ l2_ lf0 lf1 lf2 u0_ u1_ u2_ q1 hqT;have hTg:BT≠g:=by have:=(hO.lt g rfl).2;omega
    refine wp_region_held_drew (S:=fun x_=>x_.heap[BT]?=some (.cells #[.int .i64 x.o,.int .i64 x.m,.string x.s] 66 (0,0))) (by kernel_rfl) (pT) (fun jH=>?_);replace p0:w7.drew.heap[w.heap.size]?=_:=p0;replace p1:w7.drew.heap[w.heap.size+1]?=_:=p1;replace hO7:Sv w7.drew (w.heap.size+2) g cap L:=hO7;replace hb7:Below w.heap.size w w7.drew:=bstep hb7 (bdrV _);replace hs7:wr.heap.size<=w7.drew.heap.size:=hs7;generalize w7.drew=v at jH p0 p1 hO7 hb7 hs7 ⊢;refine tk 0 qVi12 (fun x jS=>by go_simp<;>rfl) jH ?_
    try simp only [zS]
    refine tk 1 qVi13 (fun x jS=>by go_simp<;>rfl) jH ?_
    try simp only [zS]
    refine tk 2 qVi14 (fun x jS=>by go_simp<;>rfl) jH ?_
    try simp only [zS]
    refine tk 3 qVi15 (fun x jS=>by obtain⟨k0_,k1_,k2_,-⟩:=box3 jS;go_simp<;>rfl) jH ?_
    try simp only [zS]
    refine rd 4 qVi16 (fun K hK=>?_);have hqN:=heap_alloc_new v (.cells #[.int .i64 x.o,.int .i64 x.m,.string x.s] 66);have hbN:=bal v (.cells #[.int .i64 x.o,.int .i64 x.m,.string x.s] 66);go_simp;refine hK.out _ _ (rowL jH hbN) (fun jH=>?_);clear hK K;try simp only [zS]
    replace p0:=rowL p0 hbN;replace p1:=rowL p1 hbN;replace hO7:Sv _ (w.heap.size+2) g cap L:=own_below hO7 hbN;replace hb7:=bstep hb7 hbN;replace hs7:=Nat.le_trans hs7 hbN.size;generalize v.heap.size=BN at hqN ⊢;generalize v.alloc (.cells #[.int .i64 x.o,.int .i64 x.m,.string x.s] 66)=v at hqN jH p0 p1 hO7 hb7 hs7 hbN ⊢;clear hbN;refine rd 5 qVi17 (fun K hK=>?_);rw [if_pos (by kernel_rfl)];refine wp_append_lies _ _ _ _ rfl (w.heap.size+2) 66 j3 (.agg #[.int .i64 0,.int .i64 0,.string ByteArray.empty]) 3 32 Tryz.underlying41 HI3.out hz30 hz31 hz32 rfl (by omega) (.slice (some ⟨g,0,none⟩) j cap) j (vals (L.take j)) rfl (own_take3 hO7 hjl) ⟨BN,0,none⟩ 1 1 (v3 x) rfl rfl (World.news_of_block hqN) (vals_one [x]) (by omega) (by unfold maxLen;omega) (by omega) (by omega) _ rfl ?_;intro g8 cap8 v hO8 hgr8 hat8 hlt8;have hgl:=(hO7.lt g rfl).1;have hgb:∀ b,b<w.heap.size+2->some b≠(Value.slice (some ⟨g,0,none⟩) j cap).ownBlock:=fun b hb e=>by have e3:b=g:=Option.some.inj e;omega
    have hTne:some BT≠(Value.slice (some ⟨g,0,none⟩) j cap).ownBlock:=fun e=>hTg (Option.some.inj e);refine hK.out _ _ (rowR jH hgr8 hTne) (fun jH=>?_);clear hK K hat8;try simp only [zS]
    replace p0:=rowR p0 hgr8 (hgb _ (by omega));replace p1:=rowR p1 hgr8 (hgb _ (by omega));replace hb7:=gBr hb7 hgr8 (fun y hy=>hgb _ (by omega));replace hs7:=Nat.le_trans hs7 hgr8.size;clear hgr8;refine tk 6 qVi18 (fun x jS=>by go_simp<;>rfl) jH ?_
    try simp only [zS]
    refine wpAnyH_done (by kernel_rfl) ?_ _;obtain⟨e1_,e2_⟩:=sv_end (r:=x) hjl hO8;go_wp2;go_roundw
    case rel=>exact⟨k+1,g8,cap8,L.take j ++ [x],x,by omega,by go_num,by rw [e1_],HST.out,e2_,fun _=>by simp,p0,p1,hb7,by omega⟩
    case measure=>simp [intOf];omega
   case' w4_c1=>
    have hqT:=heap_alloc_new v (.cells #[.int .i64 0,.int .i64 0,.string ⟨#[]⟩] 66);have hbT:=bal v (.cells #[.int .i64 0,.int .i64 0,.string ⟨#[]⟩] 66);have hsT:=jH.size;go_simp;refine hK.out _ _ (bstep jH (bal _ _)) (fun jH=>?_);clear hK K;try simp only [zS]
    generalize v.heap.size=BT at hqT hsT ⊢;generalize v.alloc (.cells #[.int .i64 0,.int .i64 0,.string ⟨#[]⟩] 66)=v at hqT hbT  jH ⊢;clear hbT;refine rd 5 qVi5 (fun K hK=>?_);go_simp;refine(HV.out (some ⟨g,j * 3,none⟩) (cap - j) _ (bstep hb (bstep hb03 jH)) (HIL1.out _ (bstep hb03 jH))).mono ?_;rintro e v ⟨rfl,hb5⟩;refine hK.out _ _ (bstep jH hb5) (fun jH=>?_);clear hK K;try simp only [zS]
    replace hqT:=rowL hqT hb5;clear hb5;refine tk 6 qVi7 (fun x jS=>by go_simp<;>rfl) jH ?_
    try simp only [zS]
    refine tk 7 qVi8 (fun x jS=>by go_simp<;>rfl) jH ?_
    try simp only [zS]
    refine tk 8 qVi9 (fun x jS=>by go_simp<;>rfl) jH ?_
    try simp only [zS]
    refine rd 10 qVi10 (fun K hK=>?_);obtain⟨s0_,s1_,s2_,sf0_,sf1_,sf2_⟩:=box3 hqT;go_simp;refine hK.out _ _ (bset3 jH hsT _ _ _) (fun jH=>?_);clear hK K s0_ s1_ s2_ sf0_ sf1_ sf2_;try simp only [zS]
    replace hqT:=row3t hqT (.int .i64 x.o) (.int .i64 x.m) (.string x.s);refine tk 11 qVi11 (fun x jS=>by go_simp<;>rfl) jH ?_
    try simp only [zS]
    refine wpAnyH_done (by kernel_rfl) ?_ _;generalize (((v.setCell ⟨BT,0,none⟩ (.int .i64 x.o)).setCell ⟨BT,1,none⟩ (.int .i64 x.m)).setCell ⟨BT,2,none⟩ (.string x.s))=w6 at hqT jH ⊢;have hb6:=bstep hb03 jH;have h6s:=hb6.size;clear jH;have q1:=rowL hr1 hb6;obtain⟨l0_,l1_,l2_,lf0,lf1,lf2⟩:=box3 q1;obtain⟨u0_,u1_,u2_,-⟩:=box3 hqT;go_upto_region 11 with (fail)
    have p1:(((w6.setCell ⟨w.heap.size+1,0,none⟩ (.int .i64 x.o)).setCell ⟨w.heap.size+1,1,none⟩ (.int .i64 x.m)).setCell ⟨w.heap.size+1,2,none⟩ (.string x.s)).heap[w.heap.size+1]?=some (.cells #[.int .i64 x.o,.int .i64 x.m,.string x.s] 66 (0,0)):=row3t q1 _ _ _;have p0:(((w6.setCell ⟨w.heap.size+1,0,none⟩ (.int .i64 x.o)).setCell ⟨w.heap.size+1,1,none⟩ (.int .i64 x.m)).setCell ⟨w.heap.size+1,2,none⟩ (.string x.s)).heap[w.heap.size]?=some (.cells #[.int .i64 0,.int .i64 0,.string ⟨#[]⟩] 66 (0,0)):=rowO (rowO (rowO (rowL hr0 hb6) (by omega)) (by omega)) (by omega);have pT:(((w6.setCell ⟨w.heap.size+1,0,none⟩ (.int .i64 x.o)).setCell ⟨w.heap.size+1,1,none⟩ (.int .i64 x.m)).setCell ⟨w.heap.size+1,2,none⟩ (.string x.s)).heap[BT]?=some (.cells #[.int .i64 x.o,.int .i64 x.m,.string x.s] 66 (0,0)):=rowO (rowO (rowO hqT (by omega)) (by omega)) (by omega);have hO7:Sv (((w6.setCell ⟨w.heap.size+1,0,none⟩ (.int .i64 x.o)).setCell ⟨w.heap.size+1,1,none⟩ (.int .i64 x.m)).setCell ⟨w.heap.size+1,2,none⟩ (.string x.s)) (w.heap.size+2) g cap L:=own_set (own_set (own_set (own_below hOj hb6) (by omega)) (by omega)) (by omega);have hb7:Below w.heap.size w (((w6.setCell ⟨w.heap.size+1,0,none⟩ (.int .i64 x.o)).setCell ⟨w.heap.size+1,1,none⟩ (.int .i64 x.m)).setCell ⟨w.heap.size+1,2,none⟩ (.string x.s)):=bset3 (bstep hb hb6) (by omega) _ _ _;have hs7:wr.heap.size<=(((w6.setCell ⟨w.heap.size+1,0,none⟩ (.int .i64 x.o)).setCell ⟨w.heap.size+1,1,none⟩ (.int .i64 x.m)).setCell ⟨w.heap.size+1,2,none⟩ (.string x.s)).heap.size:=by rw [World.size_setCell,World.size_setCell,World.size_setCell];exact h6s
    generalize (((w6.setCell ⟨w.heap.size+1,0,none⟩ (.int .i64 x.o)).setCell ⟨w.heap.size+1,1,none⟩ (.int .i64 x.m)).setCell ⟨w.heap.size+1,2,none⟩ (.string x.s))=w7 at p1 p0 pT hO7 hb7 hs7 ⊢;clear l0_ l1_ l2_ lf0 lf1 lf2 u0_ u1_ u2_ q1 hqT;have hTg:BT≠g:=by have:=(hO.lt g rfl).2;omega
    refine wp_region_held_drew (S:=fun x_=>x_.heap[BT]?=some (.cells #[.int .i64 x.o,.int .i64 x.m,.string x.s] 66 (0,0))) (by kernel_rfl) (pT) (fun jH=>?_);replace p0:w7.drew.heap[w.heap.size]?=_:=p0;replace p1:w7.drew.heap[w.heap.size+1]?=_:=p1;replace hO7:Sv w7.drew (w.heap.size+2) g cap L:=hO7;replace hb7:Below w.heap.size w w7.drew:=bstep hb7 (bdrV _);replace hs7:wr.heap.size<=w7.drew.heap.size:=hs7;generalize w7.drew=v at jH p0 p1 hO7 hb7 hs7 ⊢;refine tk 0 qVi12 (fun x jS=>by go_simp<;>rfl) jH ?_
    try simp only [zS]
    refine tk 1 qVi13 (fun x jS=>by go_simp<;>rfl) jH ?_
    try simp only [zS]
    refine tk 2 qVi14 (fun x jS=>by go_simp<;>rfl) jH ?_
    try simp only [zS]
    refine tk 3 qVi15 (fun x jS=>by obtain⟨k0_,k1_,k2_,-⟩:=box3 jS;go_simp<;>rfl) jH ?_
    try simp only [zS]
    refine rd 4 qVi16 (fun K hK=>?_);have hqN:=heap_alloc_new v (.cells #[.int .i64 x.o,.int .i64 x.m,.string x.s] 66);have hbN:=bal v (.cells #[.int .i64 x.o,.int .i64 x.m,.string x.s] 66);go_simp;refine hK.out _ _ (rowL jH hbN) (fun jH=>?_);clear hK K;try simp only [zS]
    replace p0:=rowL p0 hbN;replace p1:=rowL p1 hbN;replace hO7:Sv _ (w.heap.size+2) g cap L:=own_below hO7 hbN;replace hb7:=bstep hb7 hbN;replace hs7:=Nat.le_trans hs7 hbN.size;generalize v.heap.size=BN at hqN ⊢;generalize v.alloc (.cells #[.int .i64 x.o,.int .i64 x.m,.string x.s] 66)=v at hqN jH p0 p1 hO7 hb7 hs7 hbN ⊢;clear hbN;refine rd 5 qVi17 (fun K hK=>?_);rw [if_pos (by kernel_rfl)];refine wp_append_lies _ _ _ _ rfl (w.heap.size+2) 66 j3 (.agg #[.int .i64 0,.int .i64 0,.string ByteArray.empty]) 3 32 Tryz.underlying41 HI3.out hz30 hz31 hz32 rfl (by omega) (.slice (some ⟨g,0,none⟩) j cap) j (vals (L.take j)) rfl (own_take3 hO7 hjl) ⟨BN,0,none⟩ 1 1 (v3 x) rfl rfl (World.news_of_block hqN) (vals_one [x]) (by omega) (by unfold maxLen;omega) (by omega) (by omega) _ rfl ?_;intro g8 cap8 v hO8 hgr8 hat8 hlt8;have hgl:=(hO7.lt g rfl).1;have hgb:∀ b,b<w.heap.size+2->some b≠(Value.slice (some ⟨g,0,none⟩) j cap).ownBlock:=fun b hb e=>by have e3:b=g:=Option.some.inj e;omega
    have hTne:some BT≠(Value.slice (some ⟨g,0,none⟩) j cap).ownBlock:=fun e=>hTg (Option.some.inj e);refine hK.out _ _ (rowR jH hgr8 hTne) (fun jH=>?_);clear hK K hat8;try simp only [zS]
    replace p0:=rowR p0 hgr8 (hgb _ (by omega));replace p1:=rowR p1 hgr8 (hgb _ (by omega));replace hb7:=gBr hb7 hgr8 (fun y hy=>hgb _ (by omega));replace hs7:=Nat.le_trans hs7 hgr8.size;clear hgr8;refine tk 6 qVi18 (fun x jS=>by go_simp<;>rfl) jH ?_
    try simp only [zS]
    refine wpAnyH_done (by kernel_rfl) ?_ _;obtain⟨e1_,e2_⟩:=sv_end (r:=x) hjl hO8;go_wp2;go_roundw
    case rel=>exact⟨k+1,g8,cap8,L.take j ++ [x],x,by omega,by go_num,by rw [e1_],HST.out,e2_,fun _=>by simp,p0,p1,hb7,by omega⟩
    case measure=>simp [intOf];omega
end Go.Proofs.YtgeiamgeclbiaaaGreatDoor
