import Derived.Test.YtgeiamgeclbiaaaGreatDoorXt
namespace Go.Proofs.YtgeiamgeclbiaaaGreatDoor
open Go.RowKit Go.Maps Go.WideMaps
set_option maxRecDepth 20000
set_option maxHeartbeats 4000000
theorem TbAt.rs{w:World}{t:Tb}(h:TbAt w t):RS w t.ar t.L:=fun k hk=>by
 rcases h.row with z | ⟨b,cur,e,h1,h2⟩
 · omega
 · exact⟨b,0,by unfold Tb.ar;rw [e];rfl,by rw [Nat.zero_add];exact(cell_of_row _ _ k _ _ _ h1).trans (h2 k hk)⟩
theorem TbOf.len{t:Tb}{d:Td}(h:TbOf t d):t.L.length=d.r:=by have:=congrArg List.length h.L;simpa using this
theorem nd_mem:∀ {A:List Tb} {t:Tb},(A.flatMap Tb.bl).Nodup->t∈A->t.bl.Nodup
 | [],_,_,h=>by cases h
 | x :: A,t,hn,h=>by
  rw [List.flatMap_cons,List.nodup_append] at hn;rcases List.mem_cons.1 h with e | e
  · rw [e];exact hn.1
  · exact nd_mem hn.2.1 e
theorem typesB_at{n n' j:Nat}{V:Nat->Itm}{C:Nat->Clm}(h:typesB n n' V C=true)(hj:j<n):(V j).o=(C j).t:=by
 unfold typesB at h;simp only [Bool.and_eq_true] at h
 have:=allN_at h.2 hj;simpa using this
theorem Rh.of{lo g n j:Nat}{w:World}{A:List Tb}{T:Nat->Td}(h:DbIn lo w g A)(hl:A.length=n)(hj:j<n)(ho:TbOf (A.getD j b0) (T j))(hok:okTd (T j)=true)(hsm:Sm3 (T j))(hrg:∀ i,i<(T j).r->rg ((T j).R i 0).m):Rh w (some ⟨(A.getD j b0).bc,0,none⟩) (T j).n (T j).C (A.getD j b0).ar (T j).r (T j).m (T j).R (A.getD j b0).L:=by
 have htm:A.getD j b0∈A:=getD_mem (by omega);have hat:=h.1.2.1 _ htm;have hN:=okTd_nice hok;obtain⟨-,-,-,h1000,-,-⟩:=okTd_out hok;have hx:(A.getD j b0).L.map Ro.x=rwL (T j).r (T j).m (T j).R:=ho.L;refine⟨?_,okTd_dif hok,hat.ol ho hsm,hat.rs,fun r hr=>⟨hat.ros r hr,?_⟩,ho.len,h1000,hN,okTd_good hok,hx,?_,Sd.of hok,hrg⟩
 · have:=hat.cl;rwa [ho.n,ho.C] at this
 ·
  have h1:r.x∈rwL (T j).r (T j).m (T j).R:=by rw [←hx];exact List.mem_map_of_mem hr
  obtain⟨i,hi,e⟩:=rwL_mem h1;rw [e];show 0<(T j).m i
  rw [hN.len i hi];exact hN.n0
 · have h1:=(List.nodup_cons.1 h.1.2.2).2;have h2:(A.getD j b0).bl.Nodup:=nd_mem h1 htm;unfold Tb.bl at h2;exact(List.nodup_append.1 (List.nodup_cons.1 h2).2).2.1
structure TdE(d d':Td):Prop where
 s:d.s=d'.s
 n:d.n=d'.n
 C:d.C=d'.C
 L:rwL d.r d.m d.R=rwL d'.r d'.m d'.R
theorem TdE.refl(d:Td):TdE d d:=⟨rfl,rfl,rfl,rfl⟩
theorem TbOf.eq{t:Tb}{d d':Td}(h:TbOf t d)(e:TdE d d'):TbOf t d':=⟨h.s.trans e.s,h.n.trans e.n,h.C.trans e.C,Eq.trans (show t.L.map Ro.x=rwL d.r d.m d.R from h.L) e.L⟩
theorem AnP.eq{lo:Nat}{w:World}{Ad Ad':List Td}{cd:Int}{e:Ending}{w':World}(h:AnP lo w Ad cd e w')(hl:Ad.length=Ad'.length)(he:∀ i,i<Ad.length->TdE (Ad.getD i t0) (Ad'.getD i t0)):AnP lo w Ad' cd e w':=by
 obtain⟨g,c,B,h1,h2,h3,h4,h5⟩:=h;exact⟨g,c,B,by rw [←hl];exact h1,h2,h3.trans hl,fun i hi=>(h4 i (by omega)).eq (he i (by omega)),h5⟩
theorem mid_eq{T:Nat->Td}{n j:Nat}{d d':Td}(hj:j<n)(h:TdE d d'):((tlL T n).take j ++ d :: (tlL T n).drop (j+1)).length=((tlL T n).take j ++ d' :: (tlL T n).drop (j+1)).length/\∀ i,i<((tlL T n).take j ++ d :: (tlL T n).drop (j+1)).length->TdE (((tlL T n).take j ++ d :: (tlL T n).drop (j+1)).getD i t0) (((tlL T n).take j ++ d' :: (tlL T n).drop (j+1)).getD i t0):=by
 refine⟨by simp,fun i _=>?_⟩;rcases Nat.lt_trichotomy i j with z | z | z
 · rw [getD_front (by simp [tlL_len];omega),getD_front (by simp [tlL_len];omega)];exact TdE.refl _
 · subst z;rw [getD_mid (by simp [tlL_len];omega),getD_mid (by simp [tlL_len];omega)];exact h
 · rw [getD_back (i:=j) (by simp [tlL_len];omega) z,getD_back (i:=j) (by simp [tlL_len];omega) z];exact TdE.refl _
theorem rwL_list(A:List Rw):rwL A.length (fun i=>(A.getD i r0).1) (fun i=>(A.getD i r0).2)=A:=by
 unfold rwL;apply List.ext_getElem?
 intro q;rw [List.getElem?_map];by_cases hq:q<A.length
 · rw [List.getElem?_range hq];simp [hq]
 · rw [List.getElem?_eq_none (by simp;omega),List.getElem?_eq_none (by omega)];rfl
theorem tabR_rw(s:ByteArray)(n:Nat)(C:Nat->Clm)(A:List Rw):rwL (tabR s n C A).r (tabR s n C A).m (tabR s n C A).R=A:=rwL_list A
theorem tl_mid{T:Nat->Td}{n j:Nat}(hj:j<n):(tlL T n).take j ++ T j :: (tlL T n).drop (j+1)=tlL T n:=by
 have h1:(tlL T n).drop j=T j :: (tlL T n).drop (j+1):=by
  rw [List.drop_eq_getElem_cons (by rw [tlL_len];exact hj)];congr 1
  simp [tlL]
 rw [←h1,List.take_append_drop]
theorem okStm_n6{d:St}(h:okStm d=true)(hk:d.k<3):d.n6=0:=by
 unfold okStm at h;simp only [Bool.and_eq_true,Bool.not_eq_true',Bool.and_eq_false_iff,decide_eq_false_iff_not] at h
 rcases h.1.2 with z | z
 · exact absurd hk z
 · simpa using z
structure Ah(lo g n:Nat)(A:List Tb)(T:Nat->Td)(w:World):Prop where
 db:DbIn lo w g A
 al:A.length=n
 tof:∀ i,i<n->TbOf (A.getD i b0) (T i)
 sm:∀ i,i<n->Sm3 (T i)
 ok:okDb n T=true
 hlo:lo<=w.heap.size
 hrg:∀ k,k<n->∀ i,i<(T k).r->∀ j,j<(T k).n->rg ((T k).R i j).m
theorem Ah.rh{lo g n:Nat}{A:List Tb}{T:Nat->Td}{w:World}(h:Ah lo g n A T w){j:Nat}(hj:j<n):Rh w (some ⟨(A.getD j b0).bc,0,none⟩) (T j).n (T j).C (A.getD j b0).ar (T j).r (T j).m (T j).R (A.getD j b0).L:=Rh.of h.db h.al hj (h.tof j hj) ((okDb_out h.ok).2 j hj) (h.sm j hj) (fun i hi=>h.hrg j hj i hi 0 (okTd_nice ((okDb_out h.ok).2 j hj)).n0)
theorem Ah.n{lo g n:Nat}{A:List Tb}{T:Nat->Td}{w:World}(h:Ah lo g n A T w):n<=100:=(okDb_out h.ok).1
theorem Ah.set{lo g n:Nat}{A:List Tb}{T:Nat->Td}{w:World}(h:Ah lo g n A T w){j:Nat}(hj:j<n){d:Td}(hd:(T j).s=d.s):wtL T d n=(tlL T n).take j ++ d :: (tlL T n).drop (j+1):=wtL_set hj hd (okDb_lt h.ok)
theorem iAp4(lo g n:Nat)(A:List Tb)(T:Nat->Td)(tb:ByteArray)(a2:Option Addr)(n2 c2:Nat)(a3:Option Addr)(n3 c3:Nat)(col:ByteArray)(a5:Option Addr)(n5 c5:Nat)(a6:Option Addr)(n6 c6:Nat)(a7:Option Addr)(n7 c7:Nat)(W:Nat->Itm)(w:World)(hH:Ah lo g n A T w)(hW:IL w a6 n6 W)(hok:okWhere W n6=true) :
 Calls Tryz.prog 59 #[.agg #[.slice (some ⟨g,0,none⟩) n n],.agg #[.int .i64 4,.string tb,.slice a2 n2 c2,.slice a3 n3 c3,.string col,.slice a5 n5 c5,.slice a6 n6 c6,.slice a7 n7 c7]] w (AnP lo w (match tabI T tb n with | none=>(tlL T n,1) | some j=>dlA T n (T j).s (T j).n (T j).C (T j).r (T j).m (T j).R W n6).1 (match tabI T tb n with | none=>(tlL T n,1) | some j=>dlA T n (T j).s (T j).n (T j).C (T j).r (T j).m (T j).R W n6).2):=by
 refine(iApplied lo g n A T 4 tb a2 n2 c2 a3 n3 c3 col a5 n5 c5 a6 n6 c6 a7 n7 c7 (fun j=>cwR (T j).C (T j).n W n6) (fun _=>0) (fun j=>dlS (T j).C (T j).n (T j).m (T j).R W n6 (T j).r) w hH.db hH.al hH.tof hH.sm hH.ok hH.n (by omega) hH.hlo
  (fun j _ v ac cc pb hv h1 h2 h3=>iCheckS4 ac (T j).n cc (T j).C pb tb a2 n2 c2 a3 n3 c3 col a5 n5 c5 a6 n6 c6 a7 n7 c7 W v h1 h2 h3 (hW.later hv) hok)
  (fun j hj hc v hv=>by
   have hjn:=(tabI_lt hj).1;rw [(hH.tof j hjn).n,(hH.tof j hjn).len];exact iChg4 _ _ (T j).n _ (T j).C _ (T j).r _ (T j).m (T j).R tb a2 n2 c2 a3 n3 c3 col a5 n5 c5 a6 n6 c6 a7 n7 c7 W _ v ((hH.rh hjn).later hv) (hW.later hv) hok hc)).mono (fun e w' h=>?_)
 unfold apG at h;rcases ht:tabI T tb n with _ | j
 · rw [ht] at h;exact h
 ·
  rw [ht] at h;have hjn:=(tabI_lt ht).1;simp only at h ⊢
  unfold dlA;by_cases hc:cwR (T j).C (T j).n W n6=0
  · rw [if_neg (fun z=>z hc),if_neg (by simp)] at h;rw [if_pos hc,hH.set hjn (d:=tabR (T j).s (T j).n (T j).C (dlS (T j).C (T j).n (T j).m (T j).R W n6 (T j).r)) rfl];exact h
  · rw [if_pos hc] at h;rw [if_neg hc];exact h
theorem iAp5(lo g n:Nat)(A:List Tb)(T:Nat->Td)(tb:ByteArray)(a2:Option Addr)(n2 c2:Nat)(a3:Option Addr)(n3 c3:Nat)(col:ByteArray)(a5:Option Addr)(n5 c5:Nat)(a6:Option Addr)(n6 c6:Nat)(a7:Option Addr)(n7 c7:Nat)(W:Nat->Itm)(m7:Nat->Nat)(O:Nat->Nat->Itm)(w:World)(hH:Ah lo g n A T w)(hO:OL w a7 n7 m7 O)(hW:IL w a6 n6 W)(h7:n7<=1048576)(hex:∀ i,i<n7->okExp (O i) (m7 i)=true)(hok:okWhere W n6=true) :
 Calls Tryz.prog 59 #[.agg #[.slice (some ⟨g,0,none⟩) n n],.agg #[.int .i64 5,.string tb,.slice a2 n2 c2,.slice a3 n3 c3,.string col,.slice a5 n5 c5,.slice a6 n6 c6,.slice a7 n7 c7]] w (AnP lo w (match tabI T tb n with | none=>(tlL T n,1) | some j=>(tlL T n,slC (T j).C (T j).n m7 O n7 W n6)).1 (match tabI T tb n with | none=>(tlL T n,1) | some j=>(tlL T n,slC (T j).C (T j).n m7 O n7 W n6)).2):=by
 refine(iApplied lo g n A T 5 tb a2 n2 c2 a3 n3 c3 col a5 n5 c5 a6 n6 c6 a7 n7 c7 (fun j=>slC (T j).C (T j).n m7 O n7 W n6) (fun _=>0) (fun j=>rwL (T j).r (T j).m (T j).R) w hH.db hH.al hH.tof hH.sm hH.ok hH.n (by omega) hH.hlo
  (fun j _ v ac cc pb hv h1 h2 h3=>iCheckS5 ac (T j).n cc (T j).C pb tb a2 n2 c2 a3 n3 c3 col a5 n5 c5 a6 n6 c6 a7 n7 c7 W m7 O v h1 h2 h3 (hO.later hv) (hW.later hv) h7 hex hok)
  (fun j hj hc v hv=>by
   have hjn:=(tabI_lt hj).1;rw [(hH.tof j hjn).n,(hH.tof j hjn).len];exact iChg5 _ _ (T j).n _ (T j).C _ (T j).r _ (T j).m (T j).R tb a2 n2 c2 a3 n3 c3 col a5 n5 c5 a6 n6 c6 a7 n7 c7 _ v ((hH.rh hjn).later hv))).mono (fun e w' h=>?_)
 unfold apG at h;rcases ht:tabI T tb n with _ | j
 · rw [ht] at h;exact h
 ·
  rw [ht] at h;have hjn:=(tabI_lt ht).1;simp only at h ⊢
  by_cases hc:slC (T j).C (T j).n m7 O n7 W n6=0
  · rw [if_neg (fun z=>z hc),if_neg (by simp)] at h;rw [hc];have he:=mid_eq (T:=T) hjn (d:=tabR (T j).s (T j).n (T j).C (rwL (T j).r (T j).m (T j).R)) (d':=T j) ⟨rfl,rfl,rfl,tabR_rw _ _ _ _⟩;rw [tl_mid hjn] at he;exact h.eq he.1 he.2
  · rw [if_pos hc] at h;exact h
theorem iAp2(lo g n:Nat)(A:List Tb)(T:Nat->Td)(tb:ByteArray)(a2:Option Addr)(n2 c2:Nat)(a3:Option Addr)(n3 c3:Nat)(col:ByteArray)(a5:Option Addr)(n5 c5:Nat)(a6:Option Addr)(n6 c6:Nat)(a7:Option Addr)(n7 c7:Nat)(V W:Nat->Itm)(w:World)(hH:Ah lo g n A T w)(hV:IL w a3 n3 V)(hW:IL w a6 n6 W)(h6:n6=0)(hn3:0<n3)(hn3m:n3<=20)(hVg:∀ j,j<n3->goodV (V j))(hVr:rg (V 0).m) :
 Calls Tryz.prog 59 #[.agg #[.slice (some ⟨g,0,none⟩) n n],.agg #[.int .i64 2,.string tb,.slice a2 n2 c2,.slice a3 n3 c3,.string col,.slice a5 n5 c5,.slice a6 n6 c6,.slice a7 n7 c7]] w (AnP lo w (match tabI T tb n with | none=>(tlL T n,1) | some j=>inA T n (T j).s (T j).n (T j).C (T j).r (T j).m (T j).R n3 V).1 (match tabI T tb n with | none=>(tlL T n,1) | some j=>inA T n (T j).s (T j).n (T j).C (T j).r (T j).m (T j).R n3 V).2):=by
 have hok:okWhere W n6=true:=by subst h6;simp [okWhere]
 have hcw:∀ C n,cwR C n W n6=0:=fun C n=>by subst h6;simp [cwR]
 refine(iApplied lo g n A T 2 tb a2 n2 c2 a3 n3 c3 col a5 n5 c5 a6 n6 c6 a7 n7 c7 (fun j=>if typesB n3 (T j).n V (T j).C=false then 4 else cwR (T j).C (T j).n W n6) (fun j=>if putN (T j).R (V 0).m (V 0).s (T j).r<(T j).r/\cmpV ((T j).R (putN (T j).R (V 0).m (V 0).s (T j).r) 0).m ((T j).R (putN (T j).R (V 0).m (V 0).s (T j).r) 0).s (V 0).m (V 0).s=0 then 5 else if (T j).r=1000 then 6 else 0) (fun j=>(List.range ((T j).r+1)).map (putL (T j).m (T j).R (n3,V) (putN (T j).R (V 0).m (V 0).s (T j).r))) w hH.db hH.al hH.tof hH.sm hH.ok hH.n (by omega) hH.hlo
  (fun j hj v ac cc pb hv h1 h2 h3=>iCheckS2 ac (T j).n cc (T j).C pb tb a2 n2 c2 a3 n3 c3 col a5 n5 c5 a6 n6 c6 a7 n7 c7 V W v h1 h2 h3 (hW.later hv) hok (hV.later hv) (by have:=(okTd_nice ((okDb_out hH.ok).2 j (tabI_lt hj).1)).n1;omega) (by omega))
  (fun j hj hc v hv=>by
   have hjn:=(tabI_lt hj).1;have hty:typesB n3 (T j).n V (T j).C=true:=by
    rcases z:typesB n3 (T j).n V (T j).C with _ | _
    · simp [z] at hc
    · rfl
   rw [(hH.tof j hjn).n,(hH.tof j hjn).len];exact iChg2 _ _ (T j).n _ (T j).C _ (T j).r _ (T j).m (T j).R tb a2 n2 c2 a3 n3 c3 col a5 n5 c5 a6 n6 c6 a7 n7 c7 V _ v ((hH.rh hjn).later hv) (hV.later hv) hn3 hn3m ⟨hVg 0 hn3,typesB_at hty hn3⟩ hVr)).mono (fun e w' h=>?_)
 unfold apG at h;rcases ht:tabI T tb n with _ | j
 · rw [ht] at h;exact h
 ·
  rw [ht] at h;have hjn:=(tabI_lt ht).1;simp only [hcw] at h ⊢
  unfold inA;by_cases hty:typesB n3 (T j).n V (T j).C=false
  · rw [if_pos hty] at h ⊢;rw [if_pos (by omega)] at h;exact h
  ·
   rw [if_neg hty] at h ⊢;rw [if_neg (by simp)] at h;by_cases hh:putN (T j).R (V 0).m (V 0).s (T j).r<(T j).r/\cmpV ((T j).R (putN (T j).R (V 0).m (V 0).s (T j).r) 0).m ((T j).R (putN (T j).R (V 0).m (V 0).s (T j).r) 0).s (V 0).m (V 0).s=0
   · rw [if_pos hh] at h ⊢;rw [if_pos (by omega)] at h;exact h
   ·
    rw [if_neg hh] at h ⊢;by_cases hr:(T j).r=1000
    · rw [if_pos hr] at h ⊢;rw [if_pos (by omega)] at h;exact h
    · rw [if_neg hr] at h ⊢;rw [if_neg (by simp)] at h;rw [hH.set hjn (d:=inT (T j).s (T j).n (T j).C (T j).r (T j).m (T j).R n3 V (putN (T j).R (V 0).m (V 0).s (T j).r)) rfl];have he:=mid_eq (T:=T) hjn (d:=tabR (T j).s (T j).n (T j).C ((List.range ((T j).r+1)).map (putL (T j).m (T j).R (n3,V) (putN (T j).R (V 0).m (V 0).s (T j).r)))) (d':=inT (T j).s (T j).n (T j).C (T j).r (T j).m (T j).R n3 V (putN (T j).R (V 0).m (V 0).s (T j).r)) ⟨rfl,rfl,rfl,(tabR_rw _ _ _ _).trans rfl⟩;exact h.eq he.1 he.2
set_option maxRecDepth 20000
set_option maxHeartbeats 4000000
theorem rg_iff{z:Int}:rg z↔-9223372036854775808<=z/\z<=9223372036854775807:=by
 have q1:IntKind.i64.min=-9223372036854775808:=rfl;have q2:IntKind.i64.max=9223372036854775807:=rfl;unfold rg;simp only [Lit.wf,q1,q2,Bool.and_eq_true,decide_eq_true_eq]
theorem rg_wrap(z:Int):rg (wrap64 z):=by
 rw [rg_iff];unfold wrap64;omega
theorem rg_zero:rg 0:=by rw [rg_iff];omega
theorem rg_tru(b:Bool):rg (tru b).m:=by
 rw [rg_iff];cases b <;> simp [tru,tvI]
theorem app_rg(o:Int)(x y:Itm)(hs:x.s.size<=1048576):rg (appI o x y).m:=by
 unfold appI;split
 · exact rg_tru _
 split
 · rw [rg_iff];show -9223372036854775808<=(x.s.size:Int)/\(x.s.size:Int)<=9223372036854775807;omega
 split
 · exact rg_wrap _
 split
 · exact rg_wrap _
 split
 · exact rg_wrap _
 split
 · exact rg_tru _
 split
 · exact rg_tru _
 split
 · exact rg_tru _
 split
 · exact rg_tru _
 · exact rg_zero
theorem vl_rg{C:Nat->Clm}{n:Nat}{R I:Nat->Itm}{m:Nat}{x:Int}(hR:∀ j,j<n->rg (R j).m/\(R j).s.size<=200)(hI:∀ i,i<m->rg (I i).m)(hx:ex I m=some x)(hm:m<=100):∀ k,k<=m->∀ y∈vl C n R I k,rg y.m:=by
 intro k;induction k with
 | zero=>intro _ y hy;simp [vl] at hy
 | succ k ih=>
  intro hk y hy;rw [vl] at hy;rcases List.mem_append.1 hy with h | h
  · exact ih (by omega) y (List.mem_of_mem_take h)
  ·
   rw [List.mem_singleton] at h;subst h;unfold itV;split
   · exact hI k (by omega)
   split
   · exact rg_zero
   split
   ·
    rcases hc:colI C (I k).s n with _ | j
    · exact rg_zero
    · exact(hR j (colI_lt hc).1).1
   ·
    refine app_rg _ _ _ ?_;have h1:=vl_sum (C:=C) (fun j hj=>(hR j hj).2) hx k (by omega);have h2:=sumS_split (vl C n R I k) ((vl C n R I k).length - arN (I k).o);generalize (vl C n R I k).drop ((vl C n R I k).length - arN (I k).o)=a at h2 ⊢;by_cases ha:0<a.length
    · have:=sumS_mem ha;omega
    ·
     have e:a.getD 0 d0=d0:=by
      obtain rfl:a=[]:=List.eq_nil_of_length_eq_zero (by omega);rfl
     rw [e];show (0:Nat)<=_
     omega
theorem vlR_rg{C:Nat->Clm}{n:Nat}{R I:Nat->Itm}{m:Nat}(hR:∀ j,j<n->rg (R j).m/\(R j).s.size<=200)(hI:∀ i,i<m->rg (I i).m)(hx:ex I m=some 1)(hm:m<=100):rg (vlR C n R I m).m:=by
 unfold vlR;have hl:=vl_len (C:=C) (n:=n) (R:=R) hx;exact vl_rg hR hI hx hm m (Nat.le_refl _) _ (getD_mem (by omega))
theorem vlR_kt{C:Nat->Clm}{n:Nat}{R I:Nat->Itm}{m:Nat}(hR:goodR n C R)(hx:ex I m=some 1)(hck:(ck C n I m).2=0):goodV (vlR C n R I m)/\(vlR C n R I m).o=(ckR C n I m).1:=by
 have hl:=vl_len (C:=C) (n:=n) (R:=R) hx;obtain⟨h1,h2⟩:=vl_ty (fun j hj=>(hR j hj).2) hx hck m (Nat.le_refl _);have h3:=h2 0 (by omega);unfold vlR ckR;rw [if_neg (by simp [hck])];exact⟨h3.2,h3.1⟩
theorem cs_up{C:Nat->Clm}{n q:Nat}{col:ByteArray}{E:Nat->Itm}{n5:Nat}{W:Nat->Itm}{n6:Nat}(hq:colI C col n=some q):(if csR C n col E n5=0 then cwR C n W n6 else csR C n col E n5)=upC C n q E n5 W n6:=by
 unfold csR upC;rw [hq];simp only
 unfold ctR;by_cases h1:(ckR C n E n5).2=0
 ·
  by_cases h2:(ckR C n E n5).1=(C q).t
  · simp [h1,h2]
  · simp [h1,h2]
 · simp [h1]
theorem iAp3(lo g n:Nat)(A:List Tb)(T:Nat->Td)(tb:ByteArray)(a2:Option Addr)(n2 c2:Nat)(a3:Option Addr)(n3 c3:Nat)(col:ByteArray)(a5:Option Addr)(n5 c5:Nat)(a6:Option Addr)(n6 c6:Nat)(a7:Option Addr)(n7 c7:Nat)(E W:Nat->Itm)(w:World)(hH:Ah lo g n A T w)(hE:IL w a5 n5 E)(hW:IL w a6 n6 W)(hokE:okExp E n5=true)(hok:okWhere W n6=true)(hcs:col.size<=1048576)(hEr:∀ i,i<n5->rg (E i).m) :
 Calls Tryz.prog 59 #[.agg #[.slice (some ⟨g,0,none⟩) n n],.agg #[.int .i64 3,.string tb,.slice a2 n2 c2,.slice a3 n3 c3,.string col,.slice a5 n5 c5,.slice a6 n6 c6,.slice a7 n7 c7]] w (AnP lo w (match tabI T tb n with | none=>(tlL T n,1) | some j=>upA T n (T j).s (T j).n (T j).C (T j).r (T j).m (T j).R col E n5 W n6).1 (match tabI T tb n with | none=>(tlL T n,1) | some j=>upA T n (T j).s (T j).n (T j).C (T j).r (T j).m (T j).R col E n5 W n6).2):=by
 obtain⟨he1,he2,he3⟩:=okExp_out hokE;refine(iApplied lo g n A T 3 tb a2 n2 c2 a3 n3 c3 col a5 n5 c5 a6 n6 c6 a7 n7 c7 (fun j=>if csR (T j).C (T j).n col E n5=0 then cwR (T j).C (T j).n W n6 else csR (T j).C (T j).n col E n5) (fun j=>match colI (T j).C col (T j).n with | none=>0 | some q=>if bigS (T j).C (T j).n (T j).R E n5 W n6 (T j).r=true then 6 else if dupB (upRows (T j).n (T j).C (T j).r (T j).m (T j).R q E n5 W n6) (T j).r=true then 5 else 0) (fun j=>match colI (T j).C col (T j).n with | none=>[] | some q=>upRows (T j).n (T j).C (T j).r (T j).m (T j).R q E n5 W n6) w hH.db hH.al hH.tof hH.sm hH.ok hH.n (by omega) hH.hlo
  (fun j hj v ac cc pb hv h1 h2 h3=>iCheckS3 ac (T j).n cc (T j).C pb tb a2 n2 c2 a3 n3 c3 col a5 n5 c5 a6 n6 c6 a7 n7 c7 E W v h1 h2 h3 (hW.later hv) hok (hE.later hv) he1 he3 hcs)
  (fun j hj hc v hv=>by
   have hjn:=(tabI_lt hj).1;have hokj:=(okDb_out hH.ok).2 j hjn;have hgj:=okTd_good hokj;have hNj:=okTd_nice hokj;rcases hq:colI (T j).C col (T j).n with _ | q
   ·
    simp only [csR,hq] at hc
    omega
   ·
    simp only at hc ⊢
    rw [cs_up hq] at hc;obtain⟨hc1,hc2,hc3⟩:=upC_ok hc;have hck:=ckR_ok hc1;rw [(hH.tof j hjn).n,(hH.tof j hjn).len];refine iChg3 _ _ (T j).n _ (T j).C _ (T j).r _ (T j).m (T j).R tb a2 n2 c2 a3 n3 c3 col a5 n5 c5 a6 n6 c6 a7 n7 c7 E W q _ v ((hH.rh hjn).later hv) (hE.later hv) (hW.later hv) hok hc3 hokE hck hq hcs ?_ ?_ ?_
    ·
     refine ftS_mem (fun i hi=>?_);unfold Kt chF upd;simp only
     split
     ·
      rename_i e
      subst e;have z:=vlR_kt (hgj i hi) he3 hck;exact⟨z.1,z.2.trans hc2⟩
     · exact⟨(hgj i hi 0 hNj.n0).2.1,(hgj i hi 0 hNj.n0).2.2⟩
    ·
     refine ftS_mem (fun i hi=>?_);unfold chF upd;simp only
     split
     · exact vlR_rg (fun q hq=>⟨hH.hrg j hjn i hi q hq,(hgj i hi q hq).1⟩) hEr he3 he1
     · exact hH.hrg j hjn i hi 0 hNj.n0
    ·
     refine ftS_mem (fun i hi=>?_);unfold chF upd;simp only
     split
     · exact vlR_size (fun q hq=>(hgj i hi q hq).1) he3 he1 he2
     · have:=(hgj i hi 0 hNj.n0).1;omega)).mono (fun e w' h=>?_)
 unfold apG at h;rcases ht:tabI T tb n with _ | j
 · rw [ht] at h;exact h
 ·
  rw [ht] at h;have hjn:=(tabI_lt ht).1;simp only at h ⊢
  unfold upA;rcases hq:colI (T j).C col (T j).n with _ | q
  ·
   simp only [csR,hq] at h ⊢
   rw [if_neg (by omega:¬(3:Int)=0),if_pos (by omega)] at h;exact h
  ·
   rw [cs_up hq] at h;simp only [hq] at h ⊢
   by_cases hc:upC (T j).C (T j).n q E n5 W n6=0
   ·
    rw [if_neg (fun z=>z hc)] at h ⊢;by_cases hb:bigS (T j).C (T j).n (T j).R E n5 W n6 (T j).r=true
    · rw [if_pos hb] at h ⊢;rw [if_pos (by omega)] at h;exact h
    ·
     rw [if_neg hb] at h ⊢;by_cases hd:dupB (upRows (T j).n (T j).C (T j).r (T j).m (T j).R q E n5 W n6) (T j).r=true
     · rw [if_pos hd] at h ⊢;rw [if_pos (by omega)] at h;exact h
     · rw [if_neg hd] at h ⊢;rw [if_neg (by simp)] at h;rw [hH.set hjn (d:=tabR (T j).s (T j).n (T j).C (upRows (T j).n (T j).C (T j).r (T j).m (T j).R q E n5 W n6)) rfl];exact h
   · rw [if_pos hc] at h ⊢;exact h
end Go.Proofs.YtgeiamgeclbiaaaGreatDoor
