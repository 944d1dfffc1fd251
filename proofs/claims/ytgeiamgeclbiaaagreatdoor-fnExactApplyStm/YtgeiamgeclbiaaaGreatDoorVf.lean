import Derived.Test.YtgeiamgeclbiaaaGreatDoorVc
namespace Go.Proofs.YtgeiamgeclbiaaaGreatDoor
open Go.RowKit Go.Maps Go.WideMaps
set_option maxRecDepth 20000
set_option maxHeartbeats 16000000
abbrev qVd0:Oper:=⟨some 28,.move (.tmp 1),203,"l5_replay.go:245",#[],none⟩
abbrev qVd1:Oper:=⟨some 29,.load 108 (.tmp 9),108,"l5_replay.go:245",#[],none⟩
abbrev qVd2:Oper:=⟨some 30,.move (.tmp 7),148,"l5_replay.go:245",#[],none⟩
abbrev qVd3:Oper:=⟨some 31,.move (.tmp 10),3,"l5_replay.go:245",#[],none⟩
abbrev qVd4:Oper:=⟨some 32,.slice 148 (.tmp 30) (some (.tmp 31)) none none,148,"l5_replay.go:245",#[⟨2,.data⟩,⟨3,.data⟩],none⟩
abbrev qVd5:Oper:=⟨some 33,.call ⟨.value (.tmp 28),#[.tmp 29,.tmp 32],#[108,148]⟩,75,"l5_replay.go:245",#[⟨0,.data⟩,⟨1,.data⟩,⟨4,.data⟩],none⟩
abbrev qVd6:Oper:=⟨some 27,.move (.tmp 33),75,"l5_replay.go:245",#[⟨5,.data⟩],none⟩
abbrev qVd7:Oper:=⟨some 34,.extract (.tmp 27) 0,3,"l5_replay.go:245",#[⟨6,.data⟩],none⟩
abbrev qVd8:Oper:=⟨some 35,.extract (.tmp 27) 1,3,"l5_replay.go:245",#[⟨6,.data⟩,⟨9,.gcOnly .lateStores⟩],none⟩
abbrev qVd9:Oper:=⟨some 11,.assign (.tmp 34),3,"l5_replay.go:245",#[⟨7,.data⟩,⟨5,.chain⟩,⟨0,.phase⟩,⟨1,.phase⟩,⟨2,.phase⟩,⟨3,.phase⟩,⟨4,.phase⟩,⟨5,.phase⟩,⟨6,.phase⟩,⟨7,.phase⟩,⟨8,.textOnly .lateStores⟩],none⟩
abbrev qVd10:Oper:=⟨some 12,.assign (.tmp 35),3,"l5_replay.go:245",#[⟨8,.data⟩,⟨9,.chain⟩,⟨0,.phase⟩,⟨1,.phase⟩,⟨2,.phase⟩,⟨3,.phase⟩,⟨4,.phase⟩,⟨5,.phase⟩,⟨6,.phase⟩,⟨7,.phase⟩,⟨8,.phase⟩,⟨9,.phase⟩],none⟩
theorem make_cap{t e:TypeId}{z:Value}{size bytes:Nat}(ht:Tryz.prog.underlying t=some (.slice e))(hinfo:(Tryz.prog.info? e).map (fun i=>(i.zero,i.size,i.bytes))=some (some z,size,bytes))(n:Nat)(hn:n<=1048576)(hb:bytes<=1000)(w:World) :
 (Instr.makeSlice t (.int .i64 0) (.int .i64 (n:Int))).run Tryz.prog w=.ok (.slice (some ⟨w.heap.size,0,none⟩) 0 n) (w.alloc (.cells (madeCells z.cells (n * size)) e)):=by
 obtain⟨i,hi,hzz⟩:=Option.map_eq_some_iff.1 hinfo;simp only [Prod.mk.injEq] at hzz
 obtain⟨hz,hs,hbb⟩:=hzz;have h1:((i.bytes:Int) * (n:Int))<=281474976710656:=by
  rw [hbb];have:bytes * n<=1000 * 1048576:=Nat.mul_le_mul hb hn;have h2:((bytes:Int) * (n:Int))=((bytes * n:Nat):Int):=by simp
  omega
 have:=run_make (P:=Tryz.prog) w t e i z ht hi hz .i64 .i64 0 n (by omega) (by omega) h1 (by omega);rw [hs] at this;simp only [Int.toNat_natCast] at this
 exact this
theorem opn_ok{o m:Int}{s:ByteArray}(h:okItem o m s=true):opn o m s=arity o:=by
 simp only [okItem,Bool.or_eq_true,Bool.and_eq_true,decide_eq_true_eq,beq_iff_eq] at h
 unfold opn arity;rcases h with ((⟨⟨rfl,-⟩,hs⟩ | ⟨⟨rfl,hm⟩,-⟩) | ⟨⟨rfl,hm⟩,-⟩) | ⟨⟨hb,hm⟩,hs⟩
 · simp [hs]
 · simp [hm]
 · simp [hm]
 ·
  have hb2:=hb;simp only [btw,Bool.and_eq_true,decide_eq_true_eq] at hb2
  rw [if_neg (by omega)];by_cases h1:o=11∨o=13
  · rw [if_pos ⟨h1,hm,hs⟩,if_neg (by omega),if_pos h1]
  ·
   have hS:isSign o=true:=by
    unfold isSign btw;simp only [Bool.or_eq_true,Bool.and_eq_true,decide_eq_true_eq,beq_iff_eq]
    omega
   rw [if_neg (fun h=>h1 h.1),if_pos ⟨hm,hs,hS⟩,if_neg (by omega),if_neg h1]
theorem ty_fail{C:Nat->Clm}{n:Nat}{t:Itm}{L:List Int}:¬(tyI C n t L).2=0->(tyI C n t L).1=0:=by
 intro h;unfold tyI at h ⊢;by_cases h2:t.o=2
 · rw [if_pos h2] at h;exact absurd rfl h
 rw [if_neg h2] at h ⊢;by_cases h3:t.o=3
 ·
  rw [if_pos h3] at h ⊢;revert h
  cases colI C t.s n <;> simp
 rw [if_neg h3] at h ⊢;by_cases h7:t.o=7∨t.o=8
 ·
  rw [if_pos h7] at h ⊢;by_cases e:L.getD 0 0=L.getD 1 0
  · rw [if_pos e] at h;exact absurd rfl h
  · rw [if_neg e]
 rw [if_neg h7] at h ⊢;by_cases h12:t.o=12
 ·
  rw [if_pos h12] at h ⊢;by_cases e:L.getD 0 0=2/\L.getD 1 0=2
  · rw [if_pos e] at h;exact absurd rfl h
  · rw [if_neg e]
 rw [if_neg h12] at h ⊢;by_cases h13:t.o=13
 ·
  rw [if_pos h13] at h ⊢;by_cases e:L.getD 0 0=2
  · rw [if_pos e] at h;exact absurd rfl h
  · rw [if_neg e]
 rw [if_neg h13] at h ⊢;by_cases e:L.all (fun x=>x == 1)=true
 · rw [if_pos e] at h;exact absurd rfl h
 · rw [if_neg e]
theorem Sk.ni{w:World}{base g cap:Nat}{L:List Int}(h:Sk w base g cap L)(j:Nat):NI w (some ⟨g,j,none⟩) (L.drop j):=fun k hk=>by
 rw [List.length_drop] at hk;refine⟨g,j,rfl,?_⟩;rw [drop_getD];exact h.at (by omega)
theorem own_takeI{w:World}{base g cap j:Nat}{L:List Int}(h:Sk w base g cap L)(hj:j<=L.length):w.ownsRow base 3 1 (.slice (some ⟨g,0,none⟩) j cap) j (ints (L.take j)):=by
 have:=own_take h hj;rwa [show (ints L).take j=ints (L.take j) from by unfold ints;rw [List.map_take]] at this
theorem iWalkI(ac:Option Addr)(n cc:Nat)(C:Nat->Clm)(mb:Nat)(a:Option Addr)(m c:Nat)(I:Nat->Itm)(w:World)(hC:CL w ac n C)(hP:PlAt w mb n C)(hdp:∀ k,k<n->hasCol C (C k).s k=false)(hI:IL w a m I)(hm:m<=100)(hx:ex I m=some 1) :
 Calls Tryz.prog 163 #[.slice a m c,.func (.func 164) #[.agg #[.slice ac n cc,.map (some mb)]] #[]] w fun e w'=>e=.returned (.tuple #[.int .i64 (ckR C n I m).1,.int .i64 (ckR C n I m).2])/\Below w.heap.size w w':=by
 have HX:Hid (ex I m=some 1):=hx;have HDP:Hid (∀ k,k<n->hasCol C (C k).s k=false):=hdp;clear hx hdp;obtain⟨i0,hi,hz0,hz1,hz2⟩:=info_parts Tryz.infoInt;have HI:Hid (Tryz.prog.info? 3=some i0):=hi;clear hi;have hmk:=make_cap Tryz.underlying148 Tryz.infoInt m (by omega) (by omega) w;have hO0:Sk (w.alloc (.cells (madeCells (Value.int .i64 0).cells (m * 1)) 3)) w.heap.size w.heap.size m []:=World.ownsRow_made w _ m (Nat.le_refl _) (by unfold maxLen;omega) (made_size _ _);have hb0:=bal w (.cells (madeCells (Value.int .i64 0).cells (m * 1)) 3);generalize w.alloc (.cells (madeCells (Value.int .i64 0).cells (m * 1)) 3)=w0 at hmk hO0 hb0;go_enter Tryz.func163,Tryz.ntmps163
 go_wp2;clear hmk;go_loopw [6,7,9,10,11,12,18] (fun v6 v7 _ _ _ _ i wr=>∃ (k g cap:Nat) (L:List Int) (lst:Int),k<=m/\i=.int .i64 k/\v6=.int .i64 lst/\v7=.slice (some ⟨g,0,none⟩) L.length cap/\ck C n I k=(L,0)/\Sk wr w.heap.size g cap L/\(0<k->L.getLast?=some lst)/\Below w.heap.size w wr) (fun _ _ _ _ _ _ i _=>m - (intOf i).toNat)
 case atStart=>exact⟨0,w.heap.size,m,[],0,by omega,rfl,rfl,rfl,rfl,hO0,fun h=>by omega,hb0⟩
 case round=>
  obtain⟨k,g,cap,L,lst,hk,rfl,rfl,rfl,hck,hO,hlst,hb⟩:=hrel;have HCK:Hid (ck C n I k=(L,0)/\(0<k->L.getLast?=some lst)):=⟨hck,hlst⟩;clear hck hlst;have hsw:=hb.size;by_cases hlt:k<m
  rotate_left
  ·
   obtain rfl:k=m:=by omega
   have e:Hid (ckR C n I k=(lst,0)):=by
    show _=_
    have hl1:=ck_len (C:=C) (n:=n) HX.out (by rw [HCK.out.1]);rw [HCK.out.1] at hl1;simp only at hl1
    have hk1:0<k:=by
     have:=ex_le HX.out;omega
    have h3:=HCK.out.2 hk1;obtain⟨x,rfl⟩:=len1 (L:=L) (by omega);simp at h3
    unfold ckR;rw [HCK.out.1,h3];rfl
   go_wp2;refine bodyPost_ret (results_tmp2 rfl _ _ _) rfl ⟨by rw [e.out];rfl,hb⟩
  obtain⟨d,hd,hok,had⟩:=ex_at HX.out hlt;have hlen:((L.length:Nat):Int)=d:=by
   have:=ck_len (C:=C) (n:=n) hd (by rw [HCK.out.1]);rwa [HCK.out.1] at this
  have hll:=ex_le hd;have hst:ck C n I (k+1)=if (tyI C n (I k) (L.drop (L.length - arN (I k).o))).2≠0 then (L,(tyI C n (I k) (L.drop (L.length - arN (I k).o))).2) else (L.take (L.length - arN (I k).o) ++ [(tyI C n (I k) (L.drop (L.length - arN (I k).o))).1],0):=by
   rw [ck,HCK.out.1];simp only [stp]
   rw [if_neg (by simp)];rfl
  obtain⟨b,off,rfl,c0,c1,c2,hs⟩:=hI.later hb k hlt;obtain⟨o,mm,s,hIk⟩:∃ o mm s,I k=⟨o,mm,s⟩:=⟨_,_,_,rfl⟩;rw [hIk] at hok had hst c0 c1 c2 hs;simp only at hok had hst c0 c1 c2 hs
  have hop:=okItem_op hok;have HOPN:Hid (opn o mm s=arity o):=opn_ok hok;have ha:=arN_eq o;have hal:=arity_le o;obtain⟨j,hj⟩:∃ j:Nat,L.length - arN o=j:=⟨_,rfl⟩;rw [hj] at hst;have hj1:((L.length:Nat):Int) - arity o=(j:Nat):=by omega
  have hjl:j<=L.length:=by omega
  have hcp:=own_capS hO;have hjj:(j:Int)<=L.length:=by omega
  have hjc:(j:Int)<=cap:=by omega
  have hjc2:j<=cap:=by omega
  have hj0:(0:Int)<=j:=by omega
  have hj100:j<=100:=by omega
  have hdr:(L.drop j).length=arN o:=by rw [List.length_drop];omega
  obtain⟨r1,r2,hr⟩:∃ r1 r2,tyI C n ⟨o,mm,s⟩ (L.drop j)=(r1,r2):=⟨_,_,rfl⟩;have HTY:∀ (ad:Option Addr) (cx:Nat) W',Below wr.heap.size wr W'->NI W' ad (L.drop j)->Calls Tryz.prog 164 #[.agg #[.slice ac n cc,.map (some mb)],.agg #[.int .i64 o,.int .i64 mm,.string s],.slice ad (L.length - j) cx] W' (fun e w'=>e=.returned (.tuple #[.int .i64 r1,.int .i64 r2])/\Below W'.heap.size W' w'):=fun ad cx W' hW hNI=>by
   have:=iTypeOf ac n cc C mb o mm s ad cx (L.drop j) W' (hC.later (bstep hb hW)) (hP.later (bstep hb hW)) HDP.out hNI hdr hop hs;rwa [hr,List.length_drop] at this
  have HTYH:Hid (∀ (ad:Option Addr) (cx:Nat) W',Below wr.heap.size wr W'->NI W' ad (L.drop j)->Calls Tryz.prog 164 #[.agg #[.slice ac n cc,.map (some mb)],.agg #[.int .i64 o,.int .i64 mm,.string s],.slice ad (L.length - j) cx] W' (fun e w'=>e=.returned (.tuple #[.int .i64 r1,.int .i64 r2])/\Below W'.heap.size W' w')):=HTY;have HST:Hid (ck C n I (k+1)=if ¬r2=0 then (L,r2) else (L.take j ++ [r1],0)):=by show _=_;rw [hst,hr]
  have HR1:Hid (¬r2=0->r1=0):=fun h2=>by
   have:=ty_fail (C:=C) (n:=n) (t:=⟨o,mm,s⟩) (L:=L.drop j);rw [hr] at this;exact this h2
  have HLE:Hid (((L.length:Nat):Int)=d/\L.length - arN o=j/\L.length<=100):=⟨hlen,hj,by omega⟩;clear hst hIk hj ha had hd hok hlen hr HTY hdr;have hB1:Below wr.heap.size wr (wr.alloc (.cells #[.int .i64 o,.int .i64 mm,.string s] 108)):=bal _ _;have hrow:=heap_alloc_new wr (.cells #[.int .i64 o,.int .i64 mm,.string s] 108);obtain⟨y0,y1,y2,-⟩:=box3 hrow;have hsW:(wr.alloc (.cells #[.int .i64 o,.int .i64 mm,.string s] 108)).heap.size=wr.heap.size+1:=World.size_alloc _ _;have HNI1:Hid (∀ W',Below wr.heap.size wr W'->NI W' (some ⟨g,j,none⟩) (L.drop j)):=fun W' hW=>Sk.ni (own_below hO hW) j;have HNI0:Hid (cap=j->∀ W',NI W' (some ⟨g,0,none⟩) (L.drop j)):=fun hc W' q hq=>by rw [List.length_drop] at hq;omega
  by_cases hcj:cap=j
  ·
   have hOj:Sk wr w.heap.size g j L:=by rw [←hcj];exact hO
   go_upto_region 7 with (go_at_call 158;refine(iOperands o mm s _).mono ?_;rintro e w3 ⟨rfl,hb3⟩;rw [HOPN.out];have y0_:=keepB hb3 y0;have y1_:=keepB hb3 y1;have y2_:=keepB hb3 y2)
   refine wp_region_held_drew (S:=fun x=>Below w3.heap.size w3 x) (by kernel_rfl) (bdrV _) (fun jH=>?_);refine tk 0 qVd0 (fun x jS=>by go_simp<;>rfl) jH ?_
   try simp only [zS]
   refine tk 1 qVd1 (fun x jS=>by have k0:=keepB jS y0_;have k1:=keepB jS y1_;have k2:=keepB jS y2_;go_simp<;>rfl) jH ?_
   try simp only [zS]
   refine tk 2 qVd2 (fun x jS=>by go_simp<;>rfl) jH ?_
   try simp only [zS]
   refine tk 3 qVd3 (fun x jS=>by go_simp<;>rfl) jH ?_
   try simp only [zS]
   refine tk 4 qVd4 (fun x jS=>by go_simp<;>rfl) jH ?_
   try simp only [zS]
   refine rd 5 qVd5 (fun K hK=>?_);go_simp;refine(HTYH.out (some ⟨g,0,none⟩) 0 _ (bstep hB1 (bstep hb3 jH)) (HNI0.out hcj _)).mono ?_;rintro e w4 ⟨rfl,hb4⟩;refine hK.out _ _ (bstep jH hb4) (fun jH=>?_);clear hK K;try simp only [zS]
   refine tk 6 qVd6 (fun x jS=>by go_simp<;>rfl) jH ?_
   try simp only [zS]
   refine tk 7 qVd7 (fun x jS=>by go_simp<;>rfl) jH ?_
   try simp only [zS]
   refine tk 8 qVd8 (fun x jS=>by go_simp<;>rfl) jH ?_
   try simp only [zS]
   refine tk 9 qVd9 (fun x jS=>by go_simp<;>rfl) jH ?_
   try simp only [zS]
   refine tk 10 qVd10 (fun x jS=>by go_simp<;>rfl) jH ?_
   try simp only [zS]
   refine wpAnyH_done (by kernel_rfl) ?_ _;have hb34:Below wr.heap.size wr w4:=bstep hB1 (bstep hb3 jH);clear jH;have hO4:Sk w4 w.heap.size g j L:=own_below hOj hb34;have hss4:=hb34.size;by_cases he:r2=0
   ·
    subst he;go_wp2_with (at_builtin;refine wpList_append_lies _ rfl _ _ _ rfl w.heap.size 3 i0 (.int .i64 0) 1 8 Tryz.underlying148 HI.out hz0 hz1 hz2 rfl (by omega) (.slice (some ⟨g,0,none⟩) j j) j (ints (L.take j)) rfl (own_below (own_takeI hO4 hjl) (bal _ _)) ⟨w4.heap.size,0,none⟩ 1 1 [.int .i64 r1] rfl rfl (World.news_of_block (heap_alloc_new w4 _)) (ones _ rfl) (by omega) (by unfold maxLen;omega) (by omega) (by simp;omega) _ rfl ?_;intro g6 cap6 w6 hO6 hgr6 hat6 hlt6)
    obtain⟨q1,q2⟩:=sk_end hjl hO6;have hgl:=hO4.lt g rfl;have hb6:=gB (bstep (bstep hb hb34) (bal _ _)) (r:=g) hgr6 hgl.1;go_roundw
    case rel=>exact⟨k+1,g6,cap6,L.take j ++ [r1],r1,by omega,by go_num,rfl,by rw [q1],by rw [HST.out];rfl,q2,fun _=>by simp,hb6⟩
    case measure=>simp [intOf];omega
   ·
    have n0:(r2 != 0)=true:=by simpa using he
    have hE:Hid (ckR C n I m=(r1,r2)):=by
     show _=_
     have e1:ck C n I (k+1)=(L,r2):=by rw [HST.out,if_pos he]
     have e2:=ck_fail (C:=C) (n:=n) (I:=I) (k:=k+1) (by rw [e1];exact he) m hlt;unfold ckR;rw [e2,e1,if_pos he,HR1.out he]
    clear he;go_wp2;refine bodyPost_ret (results_tmp2 rfl _ _ _) rfl ⟨by rw [hE.out];rfl,bstep hb hb34⟩
  ·
   skip
   go_upto_region 7 with (go_at_call 158;refine(iOperands o mm s _).mono ?_;rintro e w3 ⟨rfl,hb3⟩;rw [HOPN.out];have y0_:=keepB hb3 y0;have y1_:=keepB hb3 y1;have y2_:=keepB hb3 y2)
   refine wp_region_held_drew (S:=fun x=>Below w3.heap.size w3 x) (by kernel_rfl) (bdrV _) (fun jH=>?_);refine tk 0 qVd0 (fun x jS=>by go_simp<;>rfl) jH ?_
   try simp only [zS]
   refine tk 1 qVd1 (fun x jS=>by have k0:=keepB jS y0_;have k1:=keepB jS y1_;have k2:=keepB jS y2_;go_simp<;>rfl) jH ?_
   try simp only [zS]
   refine tk 2 qVd2 (fun x jS=>by go_simp<;>rfl) jH ?_
   try simp only [zS]
   refine tk 3 qVd3 (fun x jS=>by go_simp<;>rfl) jH ?_
   try simp only [zS]
   refine tk 4 qVd4 (fun x jS=>by go_simp<;>rfl) jH ?_
   try simp only [zS]
   refine rd 5 qVd5 (fun K hK=>?_);go_simp;refine(HTYH.out (some ⟨g,j,none⟩) (cap - j) _ (bstep hB1 (bstep hb3 jH)) (HNI1.out _ (bstep hB1 (bstep hb3 jH)))).mono ?_;rintro e w4 ⟨rfl,hb4⟩;refine hK.out _ _ (bstep jH hb4) (fun jH=>?_);clear hK K;try simp only [zS]
   refine tk 6 qVd6 (fun x jS=>by go_simp<;>rfl) jH ?_
   try simp only [zS]
   refine tk 7 qVd7 (fun x jS=>by go_simp<;>rfl) jH ?_
   try simp only [zS]
   refine tk 8 qVd8 (fun x jS=>by go_simp<;>rfl) jH ?_
   try simp only [zS]
   refine tk 9 qVd9 (fun x jS=>by go_simp<;>rfl) jH ?_
   try simp only [zS]
   refine tk 10 qVd10 (fun x jS=>by go_simp<;>rfl) jH ?_
   try simp only [zS]
   refine wpAnyH_done (by kernel_rfl) ?_ _;have hb34:Below wr.heap.size wr w4:=bstep hB1 (bstep hb3 jH);clear jH;have hO4:Sk w4 w.heap.size g cap L:=own_below hO hb34;have hss4:=hb34.size;by_cases he:r2=0
   ·
    subst he;go_wp2_with (at_builtin;refine wpList_append_lies _ rfl _ _ _ rfl w.heap.size 3 i0 (.int .i64 0) 1 8 Tryz.underlying148 HI.out hz0 hz1 hz2 rfl (by omega) (.slice (some ⟨g,0,none⟩) j cap) j (ints (L.take j)) rfl (own_below (own_takeI hO4 hjl) (bal _ _)) ⟨w4.heap.size,0,none⟩ 1 1 [.int .i64 r1] rfl rfl (World.news_of_block (heap_alloc_new w4 _)) (ones _ rfl) (by omega) (by unfold maxLen;omega) (by omega) (by simp;omega) _ rfl ?_;intro g6 cap6 w6 hO6 hgr6 hat6 hlt6)
    obtain⟨q1,q2⟩:=sk_end hjl hO6;have hgl:=hO4.lt g rfl;have hb6:=gB (bstep (bstep hb hb34) (bal _ _)) (r:=g) hgr6 hgl.1;go_roundw
    case rel=>exact⟨k+1,g6,cap6,L.take j ++ [r1],r1,by omega,by go_num,rfl,by rw [q1],by rw [HST.out];rfl,q2,fun _=>by simp,hb6⟩
    case measure=>simp [intOf];omega
   ·
    have n0:(r2 != 0)=true:=by simpa using he
    have hE:Hid (ckR C n I m=(r1,r2)):=by
     show _=_
     have e1:ck C n I (k+1)=(L,r2):=by rw [HST.out,if_pos he]
     have e2:=ck_fail (C:=C) (n:=n) (I:=I) (k:=k+1) (by rw [e1];exact he) m hlt;unfold ckR;rw [e2,e1,if_pos he,HR1.out he]
    clear he;go_wp2;refine bodyPost_ret (results_tmp2 rfl _ _ _) rfl ⟨by rw [hE.out];rfl,bstep hb hb34⟩
set_option maxRecDepth 20000
set_option maxHeartbeats 16000000
theorem iCheck5(ac:Option Addr)(n cc:Nat)(C:Nat->Clm)(mb:Nat)(a:Option Addr)(m c:Nat)(I:Nat->Itm)(w:World)(hC:CL w ac n C)(hP:PlAt w mb n C)(hdp:∀ k,k<n->hasCol C (C k).s k=false)(hI:IL w a m I)(hm:m<=100)(hx:ex I m=some 1) :
 Calls Tryz.prog 132 #[.agg #[.slice ac n cc,.map (some mb)],.slice a m c] w fun e w'=>e=.returned (.tuple #[.int .i64 (ckR C n I m).1,.int .i64 (ckR C n I m).2])/\Below w.heap.size w w':=by
 have hb0:=bal w (.cells #[.slice ac n cc,.map (some mb)] 79);have HW:=iWalkI ac n cc C mb a m c I (w.alloc (.cells #[.slice ac n cc,.map (some mb)] 79)) (hC.later hb0) (hP.later hb0) hdp (hI.later hb0) hm hx;obtain⟨ek,ec,hck⟩:∃ ek ec,ckR C n I m=(ek,ec):=⟨_,_,rfl⟩;rw [hck] at HW ⊢;clear hck hx;go_enter Tryz.func132,Tryz.ntmps132
 go_wp2_with (go_at_call 163;refine HW.mono ?_;rintro e w1 ⟨rfl,hb1⟩)
 refine bodyPost_ret (results_tmp2 rfl _ _ _) rfl ⟨rfl,bstep hb0 hb1⟩
def ctR(C:Nat->Clm)(n:Nat)(I:Nat->Itm)(m:Nat)(q:Int):Int:=if (ckR C n I m).2=0/\¬(ckR C n I m).1=q then 4 else (ckR C n I m).2
theorem iCheckT(ac:Option Addr)(n cc:Nat)(C:Nat->Clm)(mb:Nat)(a:Option Addr)(m c:Nat)(I:Nat->Itm)(q:Int)(w:World)(hC:CL w ac n C)(hP:PlAt w mb n C)(hdp:∀ k,k<n->hasCol C (C k).s k=false)(hI:IL w a m I)(hm:m<=100)(hx:ex I m=some 1) :
 Calls Tryz.prog 162 #[.agg #[.slice ac n cc,.map (some mb)],.slice a m c,.int .i64 q] w fun e w'=>e=.returned (.int .i64 (ctR C n I m q))/\Below w.heap.size w w':=by
 have hb0:=bal w (.cells #[.slice ac n cc,.map (some mb)] 79);have HW:=iCheck5 ac n cc C mb a m c I (w.alloc (.cells #[.slice ac n cc,.map (some mb)] 79)) (hC.later hb0) (hP.later hb0) hdp (hI.later hb0) hm hx;obtain⟨ek,ec,hck⟩:∃ ek ec,ckR C n I m=(ek,ec):=⟨_,_,rfl⟩;rw [hck] at HW;have HK:Hid (ckR C n I m=(ek,ec)):=hck;clear hck hx;by_cases e0:ec=0
 ·
  subst e0;by_cases e1:ek=q
  ·
   subst e1;go_enter Tryz.func162,Tryz.ntmps162
   go_wp2_with (go_at_call 132;refine HW.mono ?_;rintro e w1 ⟨rfl,hb1⟩)
   go_ret
   exact⟨by unfold ctR;rw [HK.out,if_neg (by simp)];rfl,bstep hb0 hb1⟩
  ·
   have n2:(ek != q)=true:=by simpa using e1
   have HE:Hid (¬ek=q):=e1;clear e1;go_enter Tryz.func162,Tryz.ntmps162
   go_wp2_with (go_at_call 132;refine HW.mono ?_;rintro e w1 ⟨rfl,hb1⟩)
   go_ret
   exact⟨by unfold ctR;rw [HK.out,if_pos ⟨rfl,HE.out⟩];rfl,bstep hb0 hb1⟩
 ·
  have n1:(ec == 0)=false:=by simpa using e0
  have HE:Hid (¬ec=0):=e0;clear e0;go_enter Tryz.func162,Tryz.ntmps162
  go_wp2_with (go_at_call 132;refine HW.mono ?_;rintro e w1 ⟨rfl,hb1⟩)
  go_ret
  exact⟨by unfold ctR;rw [HK.out,if_neg (fun h=>HE.out h.1)];rfl,bstep hb0 hb1⟩
theorem iCheckWh(ac:Option Addr)(n cc:Nat)(C:Nat->Clm)(mb:Nat)(a:Option Addr)(m c:Nat)(I:Nat->Itm)(w:World)(hC:CL w ac n C)(hP:PlAt w mb n C)(hdp:∀ k,k<n->hasCol C (C k).s k=false)(hI:IL w a m I)(hok:okWhere I m=true) :
 Calls Tryz.prog 133 #[.agg #[.slice ac n cc,.map (some mb)],.slice a m c] w fun e w'=>e=.returned (.int .i64 (cwR C n I m))/\Below w.heap.size w w':=by
 have hb0:=bal w (.cells #[.slice ac n cc,.map (some mb)] 79);by_cases h0:m=0
 ·
  subst h0;go_enter Tryz.func133,Tryz.ntmps133
  go_wp2;go_ret
  exact⟨by simp [cwR],hb0⟩
 ·
  obtain⟨h1,h2,h3⟩:=okWhere_out hok h0;have HW:=iCheckT ac n cc C mb a m c I 1 (w.alloc (.cells #[.slice ac n cc,.map (some mb)] 79)) (hC.later hb0) (hP.later hb0) hdp (hI.later hb0) h1 h3;have HE:Hid (cwR C n I m=ctR C n I m 1):=by show _=_;unfold cwR ctR;rw [if_neg h0]
  have n0:((m:Int) == 0)=false:=by simp;omega
  clear h0 h3 hok;go_enter Tryz.func133,Tryz.ntmps133
  go_wp2_with (go_at_call 162;refine HW.mono ?_;rintro e w1 ⟨rfl,hb1⟩)
  go_ret
  exact⟨by rw [HE.out];rfl,bstep hb0 hb1⟩
theorem iCheckS5(ac:Option Addr)(n cc:Nat)(C:Nat->Clm)(mb:Nat)(tb:ByteArray)(a2:Option Addr)(n2 c2:Nat)(a3:Option Addr)(n3 c3:Nat)(col:ByteArray)(a5:Option Addr)(n5 c5:Nat)(a6:Option Addr)(n6 c6:Nat)(a7:Option Addr)(n7 c7:Nat)(W:Nat->Itm)(m7:Nat->Nat)(O:Nat->Nat->Itm)(w:World)(hC:CL w ac n C)(hP:PlAt w mb n C)(hdp:∀ k,k<n->hasCol C (C k).s k=false)(hO:OL w a7 n7 m7 O)(hW:IL w a6 n6 W)(h7:n7<=1048576)(hex:∀ i,i<n7->okExp (O i) (m7 i)=true)(hok:okWhere W n6=true) :
 Calls Tryz.prog 88 #[.agg #[.slice ac n cc,.map (some mb)],.agg #[.int .i64 5,.string tb,.slice a2 n2 c2,.slice a3 n3 c3,.string col,.slice a5 n5 c5,.slice a6 n6 c6,.slice a7 n7 c7]] w fun e w'=>e=.returned (.int .i64 (slC C n m7 O n7 W n6))/\Below w.heap.size w w':=by
 have HEX:Hid (∀ i,i<n7->okExp (O i) (m7 i)=true):=hex;have HDP:Hid (∀ k,k<n->hasCol C (C k).s k=false):=hdp;have HOK:Hid (okWhere W n6=true):=hok;clear hex hdp hok;have hbU:Below w.heap.size w ((w.alloc (.cells #[.slice ac n cc,.map (some mb)] 79)).alloc (.cells #[.int .i64 5,.string tb,.slice a2 n2 c2,.slice a3 n3 c3,.string col,.slice a5 n5 c5,.slice a6 n6 c6,.slice a7 n7 c7] 45)):=bstep (bal _ _) (bal _ _);have hq0:((w.alloc (.cells #[.slice ac n cc,.map (some mb)] 79)).alloc (.cells #[.int .i64 5,.string tb,.slice a2 n2 c2,.slice a3 n3 c3,.string col,.slice a5 n5 c5,.slice a6 n6 c6,.slice a7 n7 c7] 45)).heap[w.heap.size]?=some (.cells #[.slice ac n cc,.map (some mb)] 79 (0,0)):=rowL (heap_alloc_new w _) (bal _ _);have hq1:((w.alloc (.cells #[.slice ac n cc,.map (some mb)] 79)).alloc (.cells #[.int .i64 5,.string tb,.slice a2 n2 c2,.slice a3 n3 c3,.string col,.slice a5 n5 c5,.slice a6 n6 c6,.slice a7 n7 c7] 45)).heap[w.heap.size+1]?=some (.cells #[.int .i64 5,.string tb,.slice a2 n2 c2,.slice a3 n3 c3,.string col,.slice a5 n5 c5,.slice a6 n6 c6,.slice a7 n7 c7] 45 (0,0)):=by
  have q:=heap_alloc_new (w.alloc (.cells #[.slice ac n cc,.map (some mb)] 79)) (.cells #[.int .i64 5,.string tb,.slice a2 n2 c2,.slice a3 n3 c3,.string col,.slice a5 n5 c5,.slice a6 n6 c6,.slice a7 n7 c7] 45);rw [World.size_alloc] at q;exact q
 go_enter Tryz.func88,Tryz.ntmps88
 go_wp2;go_loopw [7,8,9,36] (fun _ _ _ i wr=>∃ k:Nat,k<=n7/\i=.int .i64 k/\soC C n m7 O k=0/\Below ((w.alloc (.cells #[.slice ac n cc,.map (some mb)] 79)).alloc (.cells #[.int .i64 5,.string tb,.slice a2 n2 c2,.slice a3 n3 c3,.string col,.slice a5 n5 c5,.slice a6 n6 c6,.slice a7 n7 c7] 45)).heap.size ((w.alloc (.cells #[.slice ac n cc,.map (some mb)] 79)).alloc (.cells #[.int .i64 5,.string tb,.slice a2 n2 c2,.slice a3 n3 c3,.string col,.slice a5 n5 c5,.slice a6 n6 c6,.slice a7 n7 c7] 45)) wr) (fun _ _ _ i _=>n7 - (intOf i).toNat)
 case atStart=>exact⟨0,Nat.zero_le _,rfl,rfl,Below.refl _ _⟩
 case round=>
  obtain⟨k,hk,rfl,hso,hbr⟩:=hrel;have HSO:Hid (soC C n m7 O k=0):=hso;clear hso;have hbW:=bstep hbU hbr;have q0:=rowL hq0 hbr;have q1:=rowL hq1 hbr;obtain⟨s0,s1⟩:wr.cell? ⟨w.heap.size,0,none⟩=some (.slice ac n cc)/\wr.cell? ⟨w.heap.size,1,none⟩=some (.map (some mb)):=⟨cell_of_row _ _ 0 _ _ _ q0,cell_of_row _ _ 1 _ _ _ q0⟩;obtain⟨-,-,-,-,-,-,qw,qo⟩:=box8 q1;by_cases hlt:k<n7
  ·
   obtain⟨bO,offO,ai,ci,rfl,d1,hIO,-⟩:=hO.later hbW k hlt;have hkn:(k:Int)<n7:=by omega
   obtain⟨hx1,hx2,hx3⟩:=okExp_out (HEX.out k hlt);obtain⟨ek,ec,hck⟩:∃ ek ec,ckR C n (O k) (m7 k)=(ek,ec):=⟨_,_,rfl⟩;have HCK:=iCheck5 ac n cc C mb ai (m7 k) ci (O k) wr (hC.later hbW) (hP.later hbW) HDP.out hIO hx1 hx3;rw [hck] at HCK;have HNX:Hid (soC C n m7 O (k+1)=ec):=by show _=_;rw [soC,if_pos HSO.out,hck]
   clear hck hx3;by_cases he:ec=0
   ·
    subst he;go_wp2_with (go_at_call 132;refine HCK.mono ?_;rintro e w5 ⟨rfl,hb5⟩)
    go_roundw
    case rel=>exact⟨k+1,by omega,by go_num,HNX.out,bstep hbr hb5⟩
    case measure=>simp [intOf];omega
   ·
    have n0:(ec != 0)=true:=by simpa using he
    have HA2:Hid (slC C n m7 O n7 W n6=ec):=by
     show _=_
     have h1:soC C n m7 O n7=ec:=by rw [soC_stop (k:=k+1) (by rw [HNX.out];exact he) n7 (by omega),HNX.out]
     unfold slC;rw [h1,if_neg he]
    clear he;go_wp2_with (go_at_call 132;refine HCK.mono ?_;rintro e w5 ⟨rfl,hb5⟩)
    go_ret
    exact⟨by rw [HA2.out];rfl,bstep hbW hb5⟩
  ·
   obtain rfl:k=n7:=by omega
   have HA2:Hid (slC C n m7 O k W n6=cwR C n W n6):=by show _=_;unfold slC;rw [if_pos HSO.out]
   have HWH:=iCheckWh ac n cc C mb a6 n6 c6 W wr (hC.later hbW) (hP.later hbW) HDP.out (hW.later hbW) HOK.out;go_wp2_with (go_at_call 133;refine HWH.mono ?_;rintro e w5 ⟨rfl,hb5⟩)
   go_ret
   exact⟨by rw [HA2.out];rfl,bstep hbW hb5⟩
theorem okTd_dif{d:Td}(h:okTd d=true):∀ k,k<d.n->hasCol d.C (d.C k).s k=false:=fun k hk=>by
 obtain⟨-,-,-,-,h5,-⟩:=okTd_out h;have:=allN_at h5 hk;unfold okColAt at this;simp only [Bool.and_eq_true,Bool.not_eq_true'] at this
 exact this.2
set_option maxRecDepth 20000
set_option maxHeartbeats 4000000
theorem iTextV(s:ByteArray)(w:World):Calls Tryz.prog 165 #[.string s] w fun e w'=>e=.returned (.agg #[.int .i64 2,.int .i64 0,.string s])/\Below w.heap.size w w':=by
 go_enter Tryz.func165,Tryz.ntmps165
 go_wp2;exact bodyPost_ret (v:=.agg #[.int .i64 2,.int .i64 0,.string s]) (by simp [results,Tryz.results165,go_sem]) rfl ⟨rfl,by first | exact bal _ _ | exact bstep (bal _ _) (bal _ _)⟩
theorem iTruth(b:Bool)(w:World):Calls Tryz.prog 166 #[.bool b] w fun e w'=>e=.returned (.int .i64 (tvI b))/\w'=w:=by
 cases b
 ·
  go_enter Tryz.func166,Tryz.ntmps166
  go_wp2;go_ret
  exact⟨rfl,rfl⟩
 ·
  go_enter Tryz.func166,Tryz.ntmps166
  go_wp2;go_ret
  exact⟨rfl,rfl⟩
def lesB(o m:Int)(s:ByteArray)(m':Int)(s':ByteArray):Bool:=if o=1 then decide (m<m') else Op.bytesLess s.toList s'.toList
theorem iIsLess(o m:Int)(s:ByteArray)(o' m':Int)(s':ByteArray)(w:World):Calls Tryz.prog 167 #[.agg #[.int .i64 o,.int .i64 m,.string s],.agg #[.int .i64 o',.int .i64 m',.string s']] w fun e w'=>e=.returned (.bool (lesB o m s m' s'))/\Below w.heap.size w w':=by
 have hb0:=bstep (bal w (.cells #[.int .i64 o,.int .i64 m,.string s] 66)) (bal _ (.cells #[.int .i64 o',.int .i64 m',.string s'] 66));by_cases h:o=1
 ·
  subst h;have HE:Hid (lesB 1 m s m' s'=decide (m<m')):=by show _=_;simp [lesB]
  go_enter Tryz.func167,Tryz.ntmps167
  go_wp2_with (go_at_call 152;refine(cmpLessI m m' _).mono ?_;rintro e w1 ⟨rfl,rfl⟩)
  go_ret
  exact⟨by rw [HE.out];rfl,hb0⟩
 ·
  have n1:(o == 1)=false:=by simpa using h
  have HE:Hid (lesB o m s m' s'=Op.bytesLess s.toList s'.toList):=by show _=_;unfold lesB;rw [if_neg h]
  clear h;go_enter Tryz.func167,Tryz.ntmps167
  go_wp2_with (go_at_call 122;refine(cmpLess s s' _).mono ?_;rintro e w1 ⟨rfl,rfl⟩)
  go_ret
  exact⟨by rw [HE.out];rfl,hb0⟩
def caI(o x y:Int):Int:=if o=4 then wrap64 (x+y) else if o=5 then wrap64 (x - y) else if o=6 then wrap64 (x * y) else if o=9 then tvI (!decide (x=0) && !decide (y=0)) else tvI (!decide (x=0) || !decide (y=0))
theorem iCalc(o x y:Int)(w:World):Calls Tryz.prog 168 #[.int .i64 o,.int .i64 x,.int .i64 y] w fun e w'=>e=.returned (.int .i64 (caI o x y))/\w'=w:=by
 by_cases h4:o=4
 ·
  subst h4;go_enter Tryz.func168,Tryz.ntmps168
  go_wp2;go_ret
  exact⟨by simp [caI],rfl⟩
 by_cases h5:o=5
 ·
  subst h5;go_enter Tryz.func168,Tryz.ntmps168
  go_wp2;go_ret
  exact⟨by simp [caI],rfl⟩
 by_cases h6:o=6
 ·
  subst h6;go_enter Tryz.func168,Tryz.ntmps168
  go_wp2;go_ret
  exact⟨by simp [caI],rfl⟩
 have n4:(o == 4)=false:=by simpa using h4
 have n5:(o == 5)=false:=by simpa using h5
 have n6:(o == 6)=false:=by simpa using h6
 have key:∀ b:Bool,b=(x != 0)->∀ c:Bool,c=(y != 0)->b=!decide (x=0)/\c=!decide (y=0):=fun b hb c hc=>by
  subst hb;subst hc;constructor <;> (by_cases h:x=0 <;> by_cases h':y=0 <;> simp [h,h'])
 obtain⟨b,hb⟩:∃ b,(x != 0)=b:=⟨_,rfl⟩;obtain⟨c,hc⟩:∃ c,(y != 0)=c:=⟨_,rfl⟩;obtain⟨k1,k2⟩:=key b hb.symm c hc.symm;by_cases h9:o=9
 ·
  subst h9;have HE:Hid (caI 9 x y=tvI (b && c)):=by show _=_;unfold caI;rw [k1,k2];simp
  clear k1 k2 key h4 h5 h6;cases b <;> cases c
  all_goals
   go_enter Tryz.func168,Tryz.ntmps168
   go_wp2_with (go_at_call 166;first | (refine(iTruth true _).mono ?_;rintro e w1 ⟨rfl,rfl⟩) | (refine(iTruth false _).mono ?_;rintro e w1 ⟨rfl,rfl⟩))
   go_ret
   exact⟨by rw [HE.out];rfl,rfl⟩
 ·
  have n9:(o == 9)=false:=by simpa using h9
  have HE:Hid (caI o x y=tvI (b || c)):=by show _=_;unfold caI;rw [k1,k2,if_neg h4,if_neg h5,if_neg h6,if_neg h9]
  clear k1 k2 key h4 h5 h6 h9;cases b <;> cases c
  all_goals
   go_enter Tryz.func168,Tryz.ntmps168
   go_wp2_with (go_at_call 166;first | (refine(iTruth true _).mono ?_;rintro e w1 ⟨rfl,rfl⟩) | (refine(iTruth false _).mono ?_;rintro e w1 ⟨rfl,rfl⟩))
   go_ret
   exact⟨by rw [HE.out];rfl,rfl⟩
end Go.Proofs.YtgeiamgeclbiaaaGreatDoor
