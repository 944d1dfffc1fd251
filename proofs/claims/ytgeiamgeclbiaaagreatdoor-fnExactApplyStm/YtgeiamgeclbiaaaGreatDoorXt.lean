import Derived.Test.YtgeiamgeclbiaaaGreatDoorXr
namespace Go.Proofs.YtgeiamgeclbiaaaGreatDoor
open Go.RowKit Go.Maps Go.WideMaps
theorem bl_nd{t:Tb}{B g9 c9:Nat}{S:List Ro}(h:t.bl.Nodup)(hlt:∀ b∈t.bl,b<B)(hg:B<=g9)(hS:∀ r∈S,(r∈t.L∨B<=r.b)/\r.b≠g9)(hn:(S.map Ro.b).Nodup):(Tb.bl ⟨t.s,t.n,t.C,t.bc,t.cc,some g9,c9,S⟩).Nodup:=by
 unfold Tb.bl at *;have h1:=List.nodup_cons.1 h;have hbc:=hlt t.bc List.mem_cons_self;show (t.bc :: ([g9] ++ S.map Ro.b)).Nodup
 rw [List.nodup_cons,List.singleton_append,List.nodup_cons];refine⟨fun hm=>?_,fun hm=>?_,hn⟩
 ·
  rcases List.mem_cons.1 hm with e | e
  · omega
  ·
   obtain⟨r,hr,e2⟩:=List.mem_map.1 e;rcases (hS r hr).1 with z | z
   · exact h1.1 (by rw [←e2];exact List.mem_append_right _ (List.mem_map_of_mem z))
   · omega
 · obtain⟨r,hr,e2⟩:=List.mem_map.1 hm;exact(hS r hr).2 e2
theorem bl_in{t:Tb}{B g9 c9:Nat}{S:List Ro}(hS:∀ r∈S,r∈t.L∨B<=r.b)(hg:B<=g9):∀ b∈Tb.bl ⟨t.s,t.n,t.C,t.bc,t.cc,some g9,c9,S⟩,b∈t.bl∨(B<=b/\(b=g9∨∃ r∈S,r.b=b)):=by
 intro b hm;rcases List.mem_cons.1 hm with e | e
 · exact Or.inl (by have e':b=t.bc:=e;rw [e'];exact List.mem_cons_self)
 ·
  rcases List.mem_append.1 e with e | e
  ·
   have e':b=g9:=by simpa using e
   exact Or.inr ⟨by omega,Or.inl e'⟩
  ·
   obtain⟨r,hr,e2⟩:=List.mem_map.1 e;rcases hS r hr with z | z
   · exact Or.inl (by rw [←e2];exact List.mem_cons_of_mem _ (List.mem_append_right _ (List.mem_map_of_mem z)))
   · exact Or.inr ⟨by omega,Or.inr ⟨r,hr,e2⟩⟩
theorem tb_set{lo g j n B g9 c9:Nat}{w9:World}{A:List Tb}{T:Nat->Td}{S:List Ro}{rows:List Rw}(h:DbIn lo w9 g A)(hl:A.length=n)(hj:j<n)(ho:∀ i,i<n->TbOf (A.getD i b0) (T i))(hB:∀ b∈g :: A.flatMap Tb.bl,b<B)(hlo:lo<=B)
 (hrow:∃ cur,w9.heap[g9]?=some (.cells cur 41 (0,0))/\∀ i,i<S.length->cur[i]?=some (S.getD i o0).v) (hg9:B<=g9) (hg9':g9<w9.heap.size) (hS:∀ r∈S,RoAt w9 r/\(r∈(A.getD j b0).L∨B<=r.b)/\r.b≠g9/\r.b<w9.heap.size) (hn:(S.map Ro.b).Nodup) (hx:S.map Ro.x=rows) :
 DbIn lo (w9.setCell ⟨g,j * 3+2,none⟩ (.slice (some ⟨g9,0,none⟩) S.length c9)) g (A.take j ++ ⟨(A.getD j b0).s,(A.getD j b0).n,(A.getD j b0).C,(A.getD j b0).bc,(A.getD j b0).cc,some g9,c9,S⟩ :: A.drop (j+1))/\(A.take j ++ (⟨(A.getD j b0).s,(A.getD j b0).n,(A.getD j b0).C,(A.getD j b0).bc,(A.getD j b0).cc,some g9,c9,S⟩:Tb) :: A.drop (j+1)).length=n/\(∀ b∈g :: (A.take j ++ (⟨(A.getD j b0).s,(A.getD j b0).n,(A.getD j b0).C,(A.getD j b0).bc,(A.getD j b0).cc,some g9,c9,S⟩:Tb) :: A.drop (j+1)).flatMap Tb.bl,b∈g :: A.flatMap Tb.bl∨B<=b)/\∀ i,i<n->TbOf ((A.take j ++ (⟨(A.getD j b0).s,(A.getD j b0).n,(A.getD j b0).C,(A.getD j b0).bc,(A.getD j b0).cc,some g9,c9,S⟩:Tb) :: A.drop (j+1)).getD i b0) (((tlL T n).take j ++ tabR (T j).s (T j).n (T j).C rows :: (tlL T n).drop (j+1)).getD i t0):=by
 obtain⟨t,ht⟩:∃ t,A.getD j b0=t:=⟨_,rfl⟩;have hoj:=ho j hj;rw [ht] at hoj hS ⊢;have htm:t∈A:=by rw [←ht];exact getD_mem (by omega)
 obtain⟨t',ht'⟩:∃ t',(⟨t.s,t.n,t.C,t.bc,t.cc,some g9,c9,S⟩:Tb)=t':=⟨_,rfl⟩;have hbl':=bl_in (t:=t) (B:=B) (g9:=g9) (c9:=c9) (S:=S) (fun r hr=>(hS r hr).2.1) hg9;obtain⟨hD,hin⟩:=h;have hnd:=List.nodup_cons.1 hD.2.2;have hAp:A.Perm (t :: (A.take j ++ A.drop (j+1))):=by
  have h1:A=A.take j ++ t :: A.drop (j+1):=by
   conv=>lhs;rw [←List.take_append_drop j A]
   congr 1
   rw [List.drop_eq_getElem_cons (by omega)];congr 1
   rw [←ht];simp [show j<A.length by omega]
  conv=>lhs;rw [h1]
  exact List.perm_middle
 have hNp:(A.take j ++ t' :: A.drop (j+1)).Perm (t' :: (A.take j ++ A.drop (j+1))):=List.perm_middle;have hfA:=hAp.flatMap_right Tb.bl;have hfN:=hNp.flatMap_right Tb.bl;rw [List.flatMap_cons] at hfA hfN;have hndA:=(hfA.nodup_iff).1 hnd.2;rw [List.nodup_append] at hndA;have hbn:=bl_nd (B:=B) (g9:=g9) (c9:=c9) (S:=S) hndA.1 (fun b hb=>hB b (List.mem_cons_of_mem _ (hfA.mem_iff.2 (List.mem_append_left _ hb)))) hg9 (fun r hr=>⟨(hS r hr).2.1,(hS r hr).2.2.1⟩) hn;rw [ht'] at hbn hbl' ⊢;have hXX:BlkX g w9 (w9.setCell ⟨g,j * 3+2,none⟩ (.slice (some ⟨g9,0,none⟩) S.length c9)):=BlkX.set _ _ _ _;have hgB:=hB g List.mem_cons_self;have hmem:∀ x∈A.take j ++ t' :: A.drop (j+1),x=t'∨x∈A:=fun x hx=>by
  rcases List.mem_append.1 hx with h | h
  · exact Or.inr (List.mem_of_mem_take h)
  ·
   rcases List.mem_cons.1 h with h | h
   · exact Or.inl h
   · exact Or.inr (List.mem_of_mem_drop h)
 have hlen:(A.take j ++ t' :: A.drop (j+1)).length=n:=by simp;omega
 have hgt:g ∉ t'.bl:=fun hm=>by
  rcases hbl' g hm with z | z
  · exact hnd.1 (List.mem_flatMap.2 ⟨t,htm,z⟩)
  · omega
 have hbt:∀ b∈t'.bl,lo<=b/\b<w9.heap.size:=fun b hm=>by
  rcases hbl' b hm with z | ⟨z,e | ⟨r,hr,e⟩⟩
  · exact hin b (List.mem_cons_of_mem _ (List.mem_flatMap.2 ⟨t,htm,z⟩))
  · omega
  · have:=(hS r hr).2.2.2;omega
 have htat:=hD.2.1 t htm;have htA':TbAt w9 t':=by
  rw [←ht'];obtain⟨cur,c1,c2⟩:=hrow;exact⟨htat.col,htat.cl,fun r hr=>(hS r hr).1,Or.inr ⟨g9,cur,rfl,c1,c2⟩⟩
 refine⟨⟨⟨?_,?_,?_⟩,?_⟩,hlen,?_,?_⟩
 ·
  obtain⟨⟨cur,c1,c2,c3⟩,-,-⟩:=hD;refine⟨_,heap_setCell_same _ _ _ _ _ _ c1,by rw [hlen,Array.size_setIfInBounds];omega,fun i hi=>?_⟩;rw [hlen] at hi;by_cases e:i=j
  ·
   subst e;obtain⟨q0,q1,q2⟩:=c3 i (by omega);rw [ht] at q0 q1 q2;rw [getD_mid (by simp;omega),←ht'];refine⟨?_,?_,?_⟩
   · rw [Array.getElem?_setIfInBounds_ne (by omega)];exact q0
   · rw [Array.getElem?_setIfInBounds_ne (by omega)];exact q1
   · rw [Array.getElem?_setIfInBounds_self_of_lt (by omega)];rfl
  ·
   have hgi:(A.take j ++ t' :: A.drop (j+1)).getD i b0=A.getD i b0:=by
    rcases Nat.lt_or_ge i j with z | z
    · rw [getD_front (by simp;omega),getD_take z]
    · rw [getD_back (i:=j) (by simp;omega) (by omega),getD_drop,show j+1+(i - j - 1)=i from by omega]
   rw [hgi];obtain⟨q0,q1,q2⟩:=c3 i (by omega);exact⟨by rw [Array.getElem?_setIfInBounds_ne (by omega)];exact q0,by rw [Array.getElem?_setIfInBounds_ne (by omega)];exact q1,by rw [Array.getElem?_setIfInBounds_ne (by omega)];exact q2⟩
 ·
  intro x hx;rcases hmem x hx with rfl | h
  · exact htA'.allX hXX hgt
  · exact(hD.2.1 x h).allX hXX (fun hm=>hnd.1 (List.mem_flatMap.2 ⟨x,h,hm⟩))
 ·
  rw [List.nodup_cons,hfN.nodup_iff,List.nodup_append];refine⟨fun hm=>?_,hbn,hndA.2.1,fun a ha b hb e=>?_⟩
  ·
   rcases List.mem_append.1 (hfN.mem_iff.1 hm) with z | z
   · exact hgt z
   · exact hnd.1 (hfA.mem_iff.2 (List.mem_append_right _ z))
  ·
   subst e;rcases hbl' a ha with z | z
   · exact hndA.2.2 a z a hb rfl
   · have:=hB a (List.mem_cons_of_mem _ (hfA.mem_iff.2 (List.mem_append_right _ hb)));omega
 ·
  intro b hm;rw [World.size_setCell];rcases List.mem_cons.1 hm with z | z
  · rw [z];exact hin g List.mem_cons_self
  ·
   rcases List.mem_append.1 (hfN.mem_iff.1 z) with z | z
   · exact hbt b z
   · exact hin b (List.mem_cons_of_mem _ (hfA.mem_iff.2 (List.mem_append_right _ z)))
 ·
  intro b hm;rcases List.mem_cons.1 hm with z | z
  · rw [z];exact Or.inl List.mem_cons_self
  ·
   rcases List.mem_append.1 (hfN.mem_iff.1 z) with z | z
   ·
    rcases hbl' b z with y | y
    · exact Or.inl (List.mem_cons_of_mem _ (List.mem_flatMap.2 ⟨t,htm,y⟩))
    · exact Or.inr y.1
   · exact Or.inl (List.mem_cons_of_mem _ (hfA.mem_iff.2 (List.mem_append_right _ z)))
 ·
  intro i hi;by_cases e:i=j
  ·
   subst e;rw [getD_mid (by simp;omega),getD_mid (by simp [tlL_len];omega),←ht'];refine⟨hoj.s,hoj.n,hoj.C,?_⟩;show S.map Ro.x=(List.range rows.length).map (fun i=>((rows.getD i r0).1,(rows.getD i r0).2))
   rw [hx];apply List.ext_getElem?
   intro q;rw [List.getElem?_map];by_cases hq:q<rows.length
   · rw [List.getElem?_range hq];simp [hq]
   · rw [List.getElem?_eq_none (by omega),List.getElem?_eq_none (by simp;omega)];rfl
  ·
   rcases Nat.lt_or_ge i j with z | z
   · rw [getD_front (by simp;omega),getD_take z,getD_front (by simp [tlL_len];omega),getD_take z,tlL_get T hi];exact ho i hi
   ·
    rw [getD_back (i:=j) (by simp;omega) (by omega),getD_back (i:=j) (by simp [tlL_len];omega) (by omega),getD_drop,getD_drop,show j+1+(i - j - 1)=i from by omega,tlL_get T hi]
    exact ho i hi
set_option maxRecDepth 20000
set_option maxHeartbeats 16000000
abbrev qXt0:Oper:=⟨some 28,.fieldAddr 38 (.tmp 2) 0,0,"l5_replay.go:148",#[],none⟩
abbrev qXt1:Oper:=⟨some 29,.load 36 (.tmp 28),36,"l5_replay.go:148",#[⟨0,.data⟩],none⟩
abbrev qXt2:Oper:=⟨some 30,.move (.tmp 6),3,"l5_replay.go:148",#[],none⟩
abbrev qXt3:Oper:=⟨some 31,.indexAddr 36 (.tmp 29) (.tmp 30),0,"l5_replay.go:148",#[⟨1,.data⟩,⟨2,.data⟩],none⟩
abbrev qXt4:Oper:=⟨some 32,.load 62 (.tmp 31),62,"l5_replay.go:148",#[⟨3,.data⟩],none⟩
abbrev qXt5:Oper:=⟨some 33,.load 45 (.tmp 3),45,"l5_replay.go:148",#[],none⟩
abbrev qXt6:Oper:=⟨some 34,.call ⟨.value (.func 108),#[.tmp 32,.tmp 33],#[62,45]⟩,34,"l5_replay.go:148",#[⟨4,.data⟩,⟨5,.data⟩],none⟩
abbrev qXt7:Oper:=⟨some 27,.move (.tmp 34),34,"l5_replay.go:148",#[⟨6,.data⟩],none⟩
abbrev qXt8:Oper:=⟨some 35,.extract (.tmp 27) 0,33,"l5_replay.go:148",#[⟨7,.data⟩],none⟩
abbrev qXt9:Oper:=⟨some 36,.extract (.tmp 27) 1,3,"l5_replay.go:148",#[⟨7,.data⟩,⟨10,.gcOnly .lateStores⟩],none⟩
abbrev qXt10:Oper:=⟨some 8,.assign (.tmp 35),33,"l5_replay.go:148",#[⟨8,.data⟩,⟨6,.chain⟩,⟨0,.phase⟩,⟨1,.phase⟩,⟨2,.phase⟩,⟨3,.phase⟩,⟨4,.phase⟩,⟨5,.phase⟩,⟨6,.phase⟩,⟨7,.phase⟩,⟨8,.phase⟩,⟨9,.textOnly .lateStores⟩],none⟩
abbrev qXt11:Oper:=⟨some 7,.assign (.tmp 36),3,"l5_replay.go:148",#[⟨9,.data⟩,⟨10,.chain⟩,⟨0,.phase⟩,⟨1,.phase⟩,⟨2,.phase⟩,⟨3,.phase⟩,⟨4,.phase⟩,⟨5,.phase⟩,⟨6,.phase⟩,⟨7,.phase⟩,⟨8,.phase⟩,⟨9,.phase⟩,⟨10,.phase⟩],none⟩
def apG(n:Nat)(T:Nat->Td)(tb:ByteArray)(code:Nat->Int)(cc:Nat->Int)(rows:Nat->List Rw):List Td×Int:=match tabI T tb n with
 | none=>(tlL T n,1)
 | some j=>if ¬code j=0 then (tlL T n,code j) else if ¬cc j=0 then (tlL T n,cc j) else ((tlL T n).take j ++ tabR (T j).s (T j).n (T j).C (rows j) :: (tlL T n).drop (j+1),0)
theorem iApplied(lo g n:Nat)(A:List Tb)(T:Nat->Td)(k0:Int)(tb:ByteArray)(a2:Option Addr)(n2 c2:Nat)(a3:Option Addr)(n3 c3:Nat)(col:ByteArray)(a5:Option Addr)(n5 c5:Nat)(a6:Option Addr)(n6 c6:Nat)(a7:Option Addr)(n7 c7:Nat)(code:Nat->Int)(cc:Nat->Int)(rows:Nat->List Rw)(w:World)(hDb:DbIn lo w g A)(hAl:A.length=n)(hTO:∀ i,i<n->TbOf (A.getD i b0) (T i))(hSm:∀ i,i<n->Sm3 (T i))(hok:okDb n T=true)(hn:n<=100)(hk1:¬k0=1)(hlo:lo<=w.heap.size)
 (hcs:∀ j,tabI T tb n=some j->∀ (v:World) (ac:Option Addr) (cc pb:Nat),Below w.heap.size w v->CL v ac (T j).n (T j).C->PlAt v pb (T j).n (T j).C->(∀ k,k<(T j).n->hasCol (T j).C ((T j).C k).s k=false)->Calls Tryz.prog 88 #[.agg #[.slice ac (T j).n cc,.map (some pb)],.agg #[.int .i64 k0,.string tb,.slice a2 n2 c2,.slice a3 n3 c3,.string col,.slice a5 n5 c5,.slice a6 n6 c6,.slice a7 n7 c7]] v fun e w'=>e=.returned (.int .i64 (code j))/\Below v.heap.size v w')
 (hch:∀ j,tabI T tb n=some j->code j=0->∀ v,Below w.heap.size w v->Calls Tryz.prog 108 #[.agg #[.string (A.getD j b0).s,.slice (some ⟨(A.getD j b0).bc,0,none⟩) (A.getD j b0).n (A.getD j b0).cc,.slice (A.getD j b0).ar (A.getD j b0).L.length (A.getD j b0).cr],.agg #[.int .i64 k0,.string tb,.slice a2 n2 c2,.slice a3 n3 c3,.string col,.slice a5 n5 c5,.slice a6 n6 c6,.slice a7 n7 c7]] v (ChP (A.getD j b0).L (rows j) (cc j) v)) :
 Calls Tryz.prog 59 #[.agg #[.slice (some ⟨g,0,none⟩) n n],.agg #[.int .i64 k0,.string tb,.slice a2 n2 c2,.slice a3 n3 c3,.string col,.slice a5 n5 c5,.slice a6 n6 c6,.slice a7 n7 c7]] w (AnP lo w (apG n T tb code cc rows).1 (apG n T tb code cc rows).2):=by
 have hbU:Below w.heap.size w (((w.alloc (.cells #[.slice (some ⟨g,0,none⟩) n n] 38)).alloc (.cells #[.int .i64 k0,.string tb,.slice a2 n2 c2,.slice a3 n3 c3,.string col,.slice a5 n5 c5,.slice a6 n6 c6,.slice a7 n7 c7] 45)).alloc (.cells #[.slice none 0 0] 38)):=below3 _ _ _ _;have hs1:(w.alloc (.cells #[.slice (some ⟨g,0,none⟩) n n] 38)).heap.size=w.heap.size+1:=World.size_alloc _ _;have hs2:((w.alloc (.cells #[.slice (some ⟨g,0,none⟩) n n] 38)).alloc (.cells #[.int .i64 k0,.string tb,.slice a2 n2 c2,.slice a3 n3 c3,.string col,.slice a5 n5 c5,.slice a6 n6 c6,.slice a7 n7 c7] 45)).heap.size=w.heap.size+1+1:=by rw [World.size_alloc,hs1]
 have hs3:(((w.alloc (.cells #[.slice (some ⟨g,0,none⟩) n n] 38)).alloc (.cells #[.int .i64 k0,.string tb,.slice a2 n2 c2,.slice a3 n3 c3,.string col,.slice a5 n5 c5,.slice a6 n6 c6,.slice a7 n7 c7] 45)).alloc (.cells #[.slice none 0 0] 38)).heap.size=w.heap.size+1+1+1:=by rw [World.size_alloc,hs2]
 have hq0:(((w.alloc (.cells #[.slice (some ⟨g,0,none⟩) n n] 38)).alloc (.cells #[.int .i64 k0,.string tb,.slice a2 n2 c2,.slice a3 n3 c3,.string col,.slice a5 n5 c5,.slice a6 n6 c6,.slice a7 n7 c7] 45)).alloc (.cells #[.slice none 0 0] 38)).heap[w.heap.size]?=some (.cells #[.slice (some ⟨g,0,none⟩) n n] 38 (0,0)):=rowL (rowL (heap_alloc_new w _) (bal _ _)) (bal _ _);have hq1:(((w.alloc (.cells #[.slice (some ⟨g,0,none⟩) n n] 38)).alloc (.cells #[.int .i64 k0,.string tb,.slice a2 n2 c2,.slice a3 n3 c3,.string col,.slice a5 n5 c5,.slice a6 n6 c6,.slice a7 n7 c7] 45)).alloc (.cells #[.slice none 0 0] 38)).heap[w.heap.size+1]?=some (.cells #[.int .i64 k0,.string tb,.slice a2 n2 c2,.slice a3 n3 c3,.string col,.slice a5 n5 c5,.slice a6 n6 c6,.slice a7 n7 c7] 45 (0,0)):=by
  have z:=rowL (heap_alloc_new (w.alloc (.cells #[.slice (some ⟨g,0,none⟩) n n] 38)) (.cells #[.int .i64 k0,.string tb,.slice a2 n2 c2,.slice a3 n3 c3,.string col,.slice a5 n5 c5,.slice a6 n6 c6,.slice a7 n7 c7] 45)) (bal _ (.cells #[.slice none 0 0] 38));rw [hs1] at z;exact z
 have hq2:(((w.alloc (.cells #[.slice (some ⟨g,0,none⟩) n n] 38)).alloc (.cells #[.int .i64 k0,.string tb,.slice a2 n2 c2,.slice a3 n3 c3,.string col,.slice a5 n5 c5,.slice a6 n6 c6,.slice a7 n7 c7] 45)).alloc (.cells #[.slice none 0 0] 38)).heap[w.heap.size+1+1]?=some (.cells #[.slice none 0 0] 38 (0,0)):=by
  have z:=heap_alloc_new ((w.alloc (.cells #[.slice (some ⟨g,0,none⟩) n n] 38)).alloc (.cells #[.int .i64 k0,.string tb,.slice a2 n2 c2,.slice a3 n3 c3,.string col,.slice a5 n5 c5,.slice a6 n6 c6,.slice a7 n7 c7] 45)) (.cells #[.slice none 0 0] 38);rw [hs2] at z;exact z
 have hTL:TL w (some ⟨g,0,none⟩) n T:=hDb.1.tl hAl hTO hSm;have HCK:=iCheckedG (some ⟨g,0,none⟩) n n T k0 tb a2 n2 c2 a3 n3 c3 col a5 n5 c5 a6 n6 c6 a7 n7 c7 code (((w.alloc (.cells #[.slice (some ⟨g,0,none⟩) n n] 38)).alloc (.cells #[.int .i64 k0,.string tb,.slice a2 n2 c2,.slice a3 n3 c3,.string col,.slice a5 n5 c5,.slice a6 n6 c6,.slice a7 n7 c7] 45)).alloc (.cells #[.slice none 0 0] 38)) (hTL.later hbU) (by omega) hok (fun j hj v ac cc pb hv h1 h2 h3=>hcs j hj v ac cc pb (bstep hbU hv) h1 h2 h3);obtain⟨p0,-⟩:=box1 hq0;obtain⟨x0_,x1_,x2_,x3_,x4_,x5_,x6_,x7_⟩:=box8 hq1;have hk2:(k0 == 1)=false:=by simpa using hk1
 have HDI:Hid (∀ w1 cd v,Below w.heap.size w w1->AnP lo w (tlL T n) cd (.returned (.tuple #[.agg #[.slice (some ⟨g,0,none⟩) n n],.int .i64 cd])) (w1.setCell ⟨w.heap.size+1+1,0,none⟩ v)):=fun w1 cd v hb=>ans_keep hDb hAl hTO hb (by omega) hlo cd;have HTO:Hid (∀ i,i<n->TbOf (A.getD i b0) (T i)):=hTO;clear hTL hSm hcs hk1 hTO;rcases ht:tabI T tb n with _ | j
 ·
  have HA:Hid (apG n T tb code cc rows=(tlL T n,1)):=by show _=_;unfold apG;rw [ht]
  have hcg:cgA n T tb code=(0,1):=by unfold cgA;rw [ht]
  rw [hcg] at HCK;clear ht hch hcg;go_enter Tryz.func59,Tryz.ntmps59
  go_wp2_with (first | (go_at_call 36;refine HCK.mono ?_;rintro e w1 ⟨rfl,hb1⟩;have r0_:=rowL hq0 hb1;have r1_:=rowL hq1 hb1;have r2_:=rowL hq2 hb1;obtain⟨t0_,tf0_⟩:=box1 r0_;obtain⟨u0_,uf0_⟩:=box1 r2_;have hb01:=bstep hbU hb1) | go_in)
  refine bodyPost_ret (results_cell_tmp Tryz.results59 _ _ (w.heap.size+1+1) 38 _ (0,0) _ rfl (row1 r2_ _) Tryz.underlying38 rfl (by kernel_rfl)) rfl ?_;rw [HA.out];exact HDI.out _ _ _ hb01
 ·
  have hj:=(tabI_lt ht).1;have hcg:cgA n T tb code=((j:Int),code j):=by unfold cgA;rw [ht]
  rw [hcg] at HCK;have hchj:=hch j ht;by_cases hc:code j=0
  rotate_left
  ·
   have HA:Hid (apG n T tb code cc rows=(tlL T n,code j)):=by show _=_;unfold apG;rw [ht];exact if_pos hc
   generalize code j=cj at HCK HA hc hchj;have hc2:(cj != 0)=true:=by simpa using hc
   clear ht hch hcg hchj hc;go_enter Tryz.func59,Tryz.ntmps59
   go_wp2_with (first | (go_at_call 36;refine HCK.mono ?_;rintro e w1 ⟨rfl,hb1⟩;have r0_:=rowL hq0 hb1;have r1_:=rowL hq1 hb1;have r2_:=rowL hq2 hb1;obtain⟨t0_,tf0_⟩:=box1 r0_;obtain⟨u0_,uf0_⟩:=box1 r2_;have hb01:=bstep hbU hb1) | go_in)
   refine bodyPost_ret (results_cell_tmp Tryz.results59 _ _ (w.heap.size+1+1) 38 _ (0,0) _ rfl (row1 r2_ _) Tryz.underlying38 rfl (by kernel_rfl)) rfl ?_;rw [HA.out];exact HDI.out _ _ _ hb01
  ·
   have HCH:Hid (∀ v,Below w.heap.size w v->Calls Tryz.prog 108 #[.agg #[.string (A.getD j b0).s,.slice (some ⟨(A.getD j b0).bc,0,none⟩) (A.getD j b0).n (A.getD j b0).cc,.slice (A.getD j b0).ar (A.getD j b0).L.length (A.getD j b0).cr],.agg #[.int .i64 k0,.string tb,.slice a2 n2 c2,.slice a3 n3 c3,.string col,.slice a5 n5 c5,.slice a6 n6 c6,.slice a7 n7 c7]] v (ChP (A.getD j b0).L (rows j) (cc j) v)):=hchj hc;have HA0:Hid (apG n T tb code cc rows=if ¬cc j=0 then (tlL T n,cc j) else ((tlL T n).take j ++ tabR (T j).s (T j).n (T j).C (rows j) :: (tlL T n).drop (j+1),0)):=by show _=_;unfold apG;rw [ht];exact if_neg (fun z=>z hc)
   rw [hc] at HCK;generalize cc j=ccj at HCH HA0;generalize rows j=rwj at HCH HA0;clear ht hch hcg hchj hc;have hjn:(j:Int)<n:=by omega
   have hj0:(0:Int)<=(j:Int):=by omega
   have hgw:=(hDb.2 g List.mem_cons_self).2;obtain⟨curT,hcT,hcT2,hcT3⟩:=hDb.1.1;obtain⟨ce0,ce1,ce2⟩:=hcT3 j (by omega);obtain⟨tj,htj⟩:∃ t,A.getD j b0=t:=⟨_,rfl⟩;have HTJ:Hid (A.getD j b0=tj):=htj;rw [htj] at ce0 ce1 ce2 HCH;clear htj hcT3;by_cases hcc:ccj=0
   rotate_left
   ·
    have HA:Hid (apG n T tb code cc rows=(tlL T n,ccj)):=by show _=_;rw [HA0.out];exact if_pos hcc
    have hc2:(ccj == 0)=false:=by simpa using hcc
    clear hcc HA0;go_enter Tryz.func59,Tryz.ntmps59
    go_wp2_with (first | (go_at_call 36;refine HCK.mono ?_;rintro e w1 ⟨rfl,hb1⟩;have r0_:=rowL hq0 hb1;have r1_:=rowL hq1 hb1;have r2_:=rowL hq2 hb1;obtain⟨t0_,tf0_⟩:=box1 r0_;obtain⟨u0_,uf0_⟩:=box1 r2_;have hb01:=bstep hbU hb1) | go_in)
    have e0_:=(cell_of_row _ _ (j * 3) _ _ _ (rowL hcT hb01)).trans ce0;have e1_:=(cell_of_row _ _ (j * 3+1) _ _ _ (rowL hcT hb01)).trans ce1;have e2_:=(cell_of_row _ _ (j * 3+2) _ _ _ (rowL hcT hb01)).trans ce2;refine wp_region_held_drew (S:=fun x=>Below w1.heap.size w1 x) (by kernel_rfl) (bdrew _) (fun jH=>?_);refine tk 0 qXt0 (fun x jS=>by go_simp<;>rfl) jH ?_
    try simp only [zS]
    refine tk 1 qXt1 (fun x jS=>by obtain⟨i0_,-⟩:=box1 (rowL r0_ jS);obtain⟨j0_,j1_,j2_,j3_,j4_,j5_,j6_,j7_⟩:=box8 (rowL r1_ jS);have l0_:=keepB jS e0_;have l1_:=keepB jS e1_;have l2_:=keepB jS e2_;go_simp<;>rfl) jH ?_
    try simp only [zS]
    refine tk 2 qXt2 (fun x jS=>by go_simp<;>rfl) jH ?_
    try simp only [zS]
    refine tk 3 qXt3 (fun x jS=>by go_simp<;>rfl) jH ?_
    try simp only [zS]
    refine tk 4 qXt4 (fun x jS=>by obtain⟨i0_,-⟩:=box1 (rowL r0_ jS);obtain⟨j0_,j1_,j2_,j3_,j4_,j5_,j6_,j7_⟩:=box8 (rowL r1_ jS);have l0_:=keepB jS e0_;have l1_:=keepB jS e1_;have l2_:=keepB jS e2_;go_simp<;>rfl) jH ?_
    try simp only [zS]
    refine tk 5 qXt5 (fun x jS=>by obtain⟨i0_,-⟩:=box1 (rowL r0_ jS);obtain⟨j0_,j1_,j2_,j3_,j4_,j5_,j6_,j7_⟩:=box8 (rowL r1_ jS);have l0_:=keepB jS e0_;have l1_:=keepB jS e1_;have l2_:=keepB jS e2_;go_simp<;>rfl) jH ?_
    try simp only [zS]
    refine rd 6 qXt6 (fun K hK=>?_);go_simp;refine(HCH.out _ (bstep hb01 jH)).mono ?_;rintro e w9 hC9;obtain⟨g9,c9,S,rfl,k1_,k2_,k3_,k4_,k5_,k6_,hb9⟩:=hC9;have hsv9:=jH.size;refine hK.out _ _ (bstep jH hb9) (fun jH=>?_);clear hK K;try simp only [zS]
    refine tk 7 qXt7 (fun x jS=>by go_simp<;>rfl) jH ?_
    try simp only [zS]
    refine tk 8 qXt8 (fun x jS=>by go_simp<;>rfl) jH ?_
    try simp only [zS]
    refine tk 9 qXt9 (fun x jS=>by go_simp<;>rfl) jH ?_
    try simp only [zS]
    refine tk 10 qXt10 (fun x jS=>by go_simp<;>rfl) jH ?_
    try simp only [zS]
    refine tk 11 qXt11 (fun x jS=>by go_simp<;>rfl) jH ?_
    try simp only [zS]
    refine wpAnyH_done (by kernel_rfl) ?_ _;have hres9:=rowL r2_ jH;obtain⟨o0_,of_⟩:=box1 hres9;obtain⟨q0_,-⟩:=box1 (rowL r0_ jH);go_wp2;refine bodyPost_ret (results_cell_tmp Tryz.results59 _ _ (w.heap.size+1+1) 38 _ (0,0) _ rfl (row1 hres9 _) Tryz.underlying38 rfl (by kernel_rfl)) rfl ?_;rw [HA.out];exact HDI.out _ _ _ (bstep hb01 jH)
   ·
    subst hcc;have HA:Hid (apG n T tb code cc rows=((tlL T n).take j ++ tabR (T j).s (T j).n (T j).C rwj :: (tlL T n).drop (j+1),0)):=by show _=_;rw [HA0.out];exact if_neg (fun z=>z rfl)
    clear HA0;go_enter Tryz.func59,Tryz.ntmps59
    go_wp2_with (first | (go_at_call 36;refine HCK.mono ?_;rintro e w1 ⟨rfl,hb1⟩;have r0_:=rowL hq0 hb1;have r1_:=rowL hq1 hb1;have r2_:=rowL hq2 hb1;obtain⟨t0_,tf0_⟩:=box1 r0_;obtain⟨u0_,uf0_⟩:=box1 r2_;have hb01:=bstep hbU hb1) | go_in)
    have e0_:=(cell_of_row _ _ (j * 3) _ _ _ (rowL hcT hb01)).trans ce0;have e1_:=(cell_of_row _ _ (j * 3+1) _ _ _ (rowL hcT hb01)).trans ce1;have e2_:=(cell_of_row _ _ (j * 3+2) _ _ _ (rowL hcT hb01)).trans ce2;refine wp_region_held_drew (S:=fun x=>Below w1.heap.size w1 x) (by kernel_rfl) (bdrew _) (fun jH=>?_);refine tk 0 qXt0 (fun x jS=>by go_simp<;>rfl) jH ?_
    try simp only [zS]
    refine tk 1 qXt1 (fun x jS=>by obtain⟨i0_,-⟩:=box1 (rowL r0_ jS);obtain⟨j0_,j1_,j2_,j3_,j4_,j5_,j6_,j7_⟩:=box8 (rowL r1_ jS);have l0_:=keepB jS e0_;have l1_:=keepB jS e1_;have l2_:=keepB jS e2_;go_simp<;>rfl) jH ?_
    try simp only [zS]
    refine tk 2 qXt2 (fun x jS=>by go_simp<;>rfl) jH ?_
    try simp only [zS]
    refine tk 3 qXt3 (fun x jS=>by go_simp<;>rfl) jH ?_
    try simp only [zS]
    refine tk 4 qXt4 (fun x jS=>by obtain⟨i0_,-⟩:=box1 (rowL r0_ jS);obtain⟨j0_,j1_,j2_,j3_,j4_,j5_,j6_,j7_⟩:=box8 (rowL r1_ jS);have l0_:=keepB jS e0_;have l1_:=keepB jS e1_;have l2_:=keepB jS e2_;go_simp<;>rfl) jH ?_
    try simp only [zS]
    refine tk 5 qXt5 (fun x jS=>by obtain⟨i0_,-⟩:=box1 (rowL r0_ jS);obtain⟨j0_,j1_,j2_,j3_,j4_,j5_,j6_,j7_⟩:=box8 (rowL r1_ jS);have l0_:=keepB jS e0_;have l1_:=keepB jS e1_;have l2_:=keepB jS e2_;go_simp<;>rfl) jH ?_
    try simp only [zS]
    refine rd 6 qXt6 (fun K hK=>?_);go_simp;refine(HCH.out _ (bstep hb01 jH)).mono ?_;rintro e w9 hC9;obtain⟨g9,c9,S,rfl,k1_,k2_,k3_,k4_,k5_,k6_,hb9⟩:=hC9;have hsv9:=jH.size;refine hK.out _ _ (bstep jH hb9) (fun jH=>?_);clear hK K;try simp only [zS]
    refine tk 7 qXt7 (fun x jS=>by go_simp<;>rfl) jH ?_
    try simp only [zS]
    refine tk 8 qXt8 (fun x jS=>by go_simp<;>rfl) jH ?_
    try simp only [zS]
    refine tk 9 qXt9 (fun x jS=>by go_simp<;>rfl) jH ?_
    try simp only [zS]
    refine tk 10 qXt10 (fun x jS=>by go_simp<;>rfl) jH ?_
    try simp only [zS]
    refine tk 11 qXt11 (fun x jS=>by go_simp<;>rfl) jH ?_
    try simp only [zS]
    refine wpAnyH_done (by kernel_rfl) ?_ _;have hres9:=rowL r2_ jH;have hT9:=rowL (rowL hcT hb01) jH;have m2_:=(cell_of_row _ _ (j * 3+2) _ _ _ hT9).trans ce2;have mf2_:=frozen_of_row _ _ (j * 3+2) _ _ hT9;have hdb9:=rowL r0_ jH;obtain⟨q0_,-⟩:=box1 hdb9;have hdb9':(w9.setCell ⟨g,j * 3+2,none⟩ (.slice (some ⟨g9,0,none⟩) S.length c9)).heap[w.heap.size]?=some (.cells #[.slice (some ⟨g,0,none⟩) n n] 38 (0,0)):=rowO hdb9 (by omega);have hres9':(w9.setCell ⟨g,j * 3+2,none⟩ (.slice (some ⟨g9,0,none⟩) S.length c9)).heap[w.heap.size+1+1]?=some (.cells #[.slice none 0 0] 38 (0,0)):=rowO hres9 (by omega);obtain⟨qq0_,-⟩:=box1 hdb9';obtain⟨o0_,of_⟩:=box1 hres9';go_wp2;refine bodyPost_ret (results_cell_tmp Tryz.results59 _ _ (w.heap.size+1+1) 38 _ (0,0) _ rfl (row1 hres9' _) Tryz.underlying38 rfl (by kernel_rfl)) rfl ?_;rw [HA.out];have hsz1:=hb1.size;rw [hs3] at hsz1;obtain⟨h1,h2,h4,h3⟩:=tb_set (B:=w1.heap.size) (c9:=c9) (rows:=rwj) (hDb.later (bstep hb01 jH)) hAl hj HTO.out (fun b hb=>Nat.lt_of_lt_of_le (hDb.2 b hb).2 hb01.size) (by omega) k2_ k3_ k4_ (fun r hr=>by rw [HTJ.out];exact k5_ r hr) (k6_ trivial) (k1_ trivial);have hlT:((tlL T n).take j ++ tabR (T j).s (T j).n (T j).C rwj :: (tlL T n).drop (j+1)).length=n:=by simp [tlL_len];omega
    refine⟨g,n,_,by rw [hlT];rfl,h1.allN (BlkX.set (w.heap.size+1+1) 0 _ _) (fun hm=>?_),by rw [hlT,h2],fun i hi=>h3 i (by rw [←hlT];exact hi),?_⟩
    ·
     rcases h4 _ hm with z | z
     · have:=(hDb.2 _ z).2;omega
     · omega
    · exact(((bstep hb01 jH).mono hlo).setCell (hDb.2 g List.mem_cons_self).1 _).setCell (show lo<=w.heap.size+1+1 by omega) _
end Go.Proofs.YtgeiamgeclbiaaaGreatDoor
