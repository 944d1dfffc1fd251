import Derived.Test.YtgeiamgeclbiaaaGreatDoorXm
namespace Go.Proofs.YtgeiamgeclbiaaaGreatDoor
open Go.RowKit Go.Maps Go.WideMaps
set_option maxRecDepth 20000
set_option maxHeartbeats 16000000
abbrev qXn0:Oper:=⟨some 31,.load 36 (.tmp 30),36,"l5_replay.go:165",#[⟨0,.data⟩],none⟩
abbrev qXn1:Oper:=⟨some 37,.call ⟨.value (.func 110),#[.tmp 36],#[40]⟩,40,"l5_replay.go:165",#[⟨6,.data⟩],none⟩
abbrev qXn2:Oper:=⟨some 38,.build 62 #[(0,.tmp 34),(1,.tmp 37)],62,"l5_replay.go:165",#[⟨4,.data⟩,⟨7,.data⟩],none⟩
abbrev qXn3:Oper:=⟨some 39,.buildSlice 36 1 #[(0,.tmp 38)],36,"l5_replay.go:165",#[⟨8,.data⟩],none⟩
abbrev qXn4:Oper:=⟨some 40,.call ⟨.value (.func 146),#[.tmp 31,.tmp 32,.tmp 39],#[36,3,36]⟩,36,"l5_replay.go:165",#[⟨1,.data⟩,⟨2,.data⟩,⟨9,.data⟩,⟨7,.chain⟩],none⟩
abbrev qXn5:Oper:=⟨some 41,.fieldAddr 38 (.tmp 2) 0,0,"l5_replay.go:165",#[⟨0,.phase⟩,⟨1,.phase⟩,⟨2,.phase⟩,⟨3,.phase⟩,⟨4,.phase⟩,⟨5,.phase⟩,⟨6,.phase⟩,⟨7,.phase⟩,⟨8,.phase⟩,⟨9,.phase⟩,⟨10,.phase⟩],none⟩
abbrev qXn6:Oper:=⟨none,.store 36 (.tmp 41) (.tmp 40),0,"l5_replay.go:165",#[⟨11,.data⟩,⟨10,.data⟩,⟨10,.chain⟩,⟨0,.phase⟩,⟨1,.phase⟩,⟨2,.phase⟩,⟨3,.phase⟩,⟨4,.phase⟩,⟨5,.phase⟩,⟨6,.phase⟩,⟨7,.phase⟩,⟨8,.phase⟩,⟨9,.phase⟩,⟨10,.phase⟩],none⟩
theorem ans_keep{lo g n R:Nat}{w w1:World}{A:List Tb}{T:Nat->Td}{v:Value}(h:DbIn lo w g A)(hl:A.length=n)(ho:∀ i,i<n->TbOf (A.getD i b0) (T i))(hb:Below w.heap.size w w1)(hR:w.heap.size<=R)(hlo:lo<=w.heap.size)(cd:Int):AnP lo w (tlL T n) cd (.returned (.tuple #[.agg #[.slice (some ⟨g,0,none⟩) n n],.int .i64 cd])) (w1.setCell ⟨R,0,none⟩ v):=by
 have h2:=(h.allX (x:=R) ((BlkX.of (BlkC.below hb)).trans (BlkX.set R 0 w1 v)) (Or.inr hR));refine⟨g,n,A,by rw [tlL_len],h2,by rw [tlL_len];exact hl,fun i hi=>?_,(hb.mono hlo).setCell (Nat.le_trans hlo hR) _⟩;rw [tlL_len] at hi;rw [tlL_get T hi];exact ho i hi
theorem DbIn.allN{lo g x:Nat}{w w':World}{A:List Tb}(h:DbIn lo w g A)(k:BlkX x w w')(hx:x ∉ g :: A.flatMap Tb.bl):DbIn lo w' g A:=by
 obtain⟨⟨⟨cur,h1,h2,h3⟩,h4,h5⟩,h6⟩:=h;have hne:∀ b∈g :: A.flatMap Tb.bl,b≠x:=fun b hb e=>hx (e ▸ hb);refine⟨⟨⟨cur,k.2 _ _ _ _ (hne g List.mem_cons_self) h1,h2,h3⟩,fun t ht=>(h4 t ht).allX k (fun hm=>?_),h5⟩,fun b hb=>⟨(h6 b hb).1,Nat.lt_of_lt_of_le (h6 b hb).2 k.1⟩⟩;exact hne x (List.mem_cons_of_mem _ (List.mem_flatMap.2 ⟨t,ht,hm⟩)) rfl
def AnC(lo g0:Nat)(A:List Tb)(w:World)(Ad:List Td)(cd:Int)(e:Ending)(w':World):Prop:=∃ g c B,e=.returned (.tuple #[.agg #[.slice (some ⟨g,0,none⟩) Ad.length c],.int .i64 cd])/\DbIn lo w' g B/\B.length=Ad.length/\(∀ i,i<Ad.length->TbOf (B.getD i b0) (Ad.getD i t0))/\Below lo w w'/\(∀ b∈g :: B.flatMap Tb.bl,b<w.heap.size->b∈g0 :: A.flatMap Tb.bl)/\∀ q,q<w.heap.size->q≠g0->w'.heap[q]?=w.heap[q]?
theorem ans_keepC{lo g n R:Nat}{w w1:World}{A:List Tb}{T:Nat->Td}{v:Value}(h:DbIn lo w g A)(hl:A.length=n)(ho:∀ i,i<n->TbOf (A.getD i b0) (T i))(hb:Below w.heap.size w w1)(hR:w.heap.size<=R)(hlo:lo<=w.heap.size)(cd:Int):AnC lo g A w (tlL T n) cd (.returned (.tuple #[.agg #[.slice (some ⟨g,0,none⟩) n n],.int .i64 cd])) (w1.setCell ⟨R,0,none⟩ v):=by
 have h2:=(h.allX (x:=R) ((BlkX.of (BlkC.below hb)).trans (BlkX.set R 0 w1 v)) (Or.inr hR));refine⟨g,n,A,by rw [tlL_len],h2,by rw [tlL_len];exact hl,fun i hi=>?_,(hb.mono hlo).setCell (Nat.le_trans hlo hR) _,fun b hb _=>hb,fun q hq _=>?_⟩
 · rw [tlL_len] at hi;rw [tlL_get T hi];exact ho i hi
 · rw [Below.heap_setCell _ _ _ _ (by show q≠R;omega)];exact hb.block q hq
theorem getD_front{α:Type}{A B:List α}{j:Nat}{y:α}(h:j<A.length):(A ++ B).getD j y=A.getD j y:=by simp [List.getElem?_append_left h]
theorem getD_take{α:Type}{A:List α}{i j:Nat}{y:α}(h:j<i):(A.take i).getD j y=A.getD j y:=by simp [h]
theorem getD_mid{α:Type}{A B:List α}{x y:α}{j:Nat}(h:A.length=j):(A ++ x :: B).getD j y=x:=by subst h;simp
theorem getD_back{α:Type}{A B:List α}{x y:α}{i j:Nat}(h:A.length=i)(hj:i<j):(A ++ x :: B).getD j y=B.getD (j - i - 1) y:=by
 subst h;have e:j=A.length+(j - A.length - 1+1):=by omega
 rw [e];simp [List.getElem?_append_right]
theorem getD_drop{α:Type}{A:List α}{i j:Nat}{y:α}:(A.drop i).getD j y=A.getD (i+j) y:=by simp
theorem tb_new{lo g g' i n cap':Nat}{w w':World}{A:List Tb}{T:Nat->Td}{t:Tb}{d:Td}(h:DbIn lo w g A)(hl:A.length=n)(ho:∀ i,i<n->TbOf (A.getD i b0) (T i))(hi:i<=n)(hO:OwnT w' w.heap.size (.slice (some ⟨g',0,none⟩) (n+1) cap') (A.take i ++ t :: A.drop i))(hg:w.grownBy w' (some g))(ht:TbAt w t)(htd:TbOf t d)(hbn:t.bl.Nodup)(hbt:∀ b∈t.bl,lo<=b/\b<w.heap.size/\b ∉ g :: A.flatMap Tb.bl)(hlo:lo<=w.heap.size):DbIn lo w' g' (A.take i ++ t :: A.drop i)/\(A.take i ++ t :: A.drop i).length=n+1/\(∀ b∈g' :: (A.take i ++ t :: A.drop i).flatMap Tb.bl,b=g'∨b∈t.bl∨b∈A.flatMap Tb.bl)/\∀ j,j<n+1->TbOf ((A.take i ++ t :: A.drop i).getD j b0) (((tlL T n).take i ++ d :: (tlL T n).drop i).getD j t0):=by
 have hlen:(A.take i ++ t :: A.drop i).length=n+1:=by simp;omega
 obtain⟨hD,hin⟩:=h;have hXX:BlkX g w w':=⟨hg.size,fun b cur ty f hne hb=>rowR hb hg (fun e=>hne (Option.some.inj e))⟩;have hnd:=List.nodup_cons.1 hD.2.2;have hperm:((A.take i ++ t :: A.drop i).flatMap Tb.bl).Perm (t.bl ++ A.flatMap Tb.bl):=by
  have h1:(A.take i ++ t :: A.drop i).Perm (t :: A):=by
   have:=List.perm_middle (a:=t) (l₁:=A.take i) (l₂:=A.drop i);rwa [List.take_append_drop] at this
  have h2:=h1.flatMap_right Tb.bl;rwa [List.flatMap_cons] at h2
 have hmem:∀ x∈A.take i ++ t :: A.drop i,x=t∨x∈A:=fun x hx=>by
  rcases List.mem_append.1 hx with h | h
  · exact Or.inr (List.mem_of_mem_take h)
  ·
   rcases List.mem_cons.1 h with h | h
   · exact Or.inl h
   · exact Or.inr (List.mem_of_mem_drop h)
 have hgl:g'<w'.heap.size/\w.heap.size<=g':=⟨(World.ownsRow.lt hO g' rfl).2,(World.ownsRow.lt hO g' rfl).1⟩;refine⟨⟨⟨?_,?_,?_⟩,?_⟩,hlen,?_,?_⟩
 ·
  obtain⟨-,h | ⟨g2,cap2,cur,e,-,h1,h2,-,h3,h4⟩⟩:=hO
  · cases h.1
  injection e with e1 e2 e3;injection e1 with e1;injection e1 with e1;subst e1;refine⟨cur,h1,?_,fun k hk=>?_⟩
  · rw [hlen] at h2 ⊢;rw [h3];exact Nat.mul_le_mul_right 3 h2
  have hq:∀ e,e<3->cur[k * 3+e]?=(cellsT ((A.take i ++ t :: A.drop i).getD k b0))[e]?:=fun e he=>by
   rw [←flat_get _ k hk e he,←h4,List.getElem?_take,if_pos (by rw [hlen] at hk ⊢;omega),Array.getElem?_toList]
  exact⟨hq 0 (by omega),hq 1 (by omega),hq 2 (by omega)⟩
 ·
  intro x hx;rcases hmem x hx with rfl | h
  · exact ht.allX hXX (fun hm=>(hbt _ hm).2.2 List.mem_cons_self)
  · exact(hD.2.1 x h).allX hXX (fun hm=>hnd.1 (List.mem_flatMap.2 ⟨x,h,hm⟩))
 ·
  rw [List.nodup_cons,hperm.nodup_iff,List.nodup_append];refine⟨fun hm=>?_,hbn,hnd.2,fun a ha b hb e=>?_⟩
  ·
   rcases List.mem_append.1 (hperm.mem_iff.1 hm) with h | h
   · have:=(hbt _ h).2.1;omega
   · have:=(hin _ (List.mem_cons_of_mem _ h)).2;omega
  · subst e;exact(hbt _ ha).2.2 (List.mem_cons_of_mem _ hb)
 ·
  intro b hm;have:=hg.size;rcases List.mem_cons.1 hm with h | h
  · omega
  ·
   rcases List.mem_append.1 (hperm.mem_iff.1 h) with h | h
   · have:=hbt _ h;omega
   · have:=hin _ (List.mem_cons_of_mem _ h);omega
 ·
  intro b hm;rcases List.mem_cons.1 hm with h | h
  · exact Or.inl h
  · exact Or.inr (List.mem_append.1 (hperm.mem_iff.1 h))
 ·
  intro j hj;by_cases h1:j<i
  · rw [getD_front (by simp;omega),getD_take h1,getD_front (by simp [tlL_len];omega),getD_take h1,tlL_get T (by omega)];exact ho j (by omega)
  ·
   by_cases h2:j=i
   · subst h2;rw [getD_mid (by simp;omega),getD_mid (by simp [tlL_len];omega)];exact htd
   ·
    rw [getD_back (i:=i) (by simp;omega) (by omega),getD_back (i:=i) (by simp [tlL_len];omega) (by omega),getD_drop,getD_drop,show i+(j - i - 1)=j - 1 from by omega,tlL_get T (by omega)]
    exact ho (j - 1) (by omega)
theorem iCreated(lo g n:Nat)(A:List Tb)(T:Nat->Td)(k0:Int)(tb:ByteArray)(a2:Option Addr)(n2 c2:Nat)(a3:Option Addr)(n3 c3:Nat)(col:ByteArray)(a5:Option Addr)(n5 c5:Nat)(a6:Option Addr)(n6 c6:Nat)(a7:Option Addr)(n7 c7:Nat)(C:Nat->Clm)(w:World)(hDb:DbIn lo w g A)(hAl:A.length=n)(hTO:∀ i,i<n->TbOf (A.getD i b0) (T i))(hcz:∀ cur,w.heap[g]?=some (.cells cur 62 (0,0))->cur.size=n * 3)(hSm:∀ i,i<n->Sm3 (T i))(hok:okDb n T=true)(hn:n<=100)(hC:CL w a2 n2 C)(h20:0<n2)(h2m:n2<=20)(hlo:lo<=w.heap.size) :
 Calls Tryz.prog 107 #[.agg #[.slice (some ⟨g,0,none⟩) n n],.agg #[.int .i64 k0,.string tb,.slice a2 n2 c2,.slice a3 n3 c3,.string col,.slice a5 n5 c5,.slice a6 n6 c6,.slice a7 n7 c7]] w (AnC lo g A w (crA T n tb n2 C).1 (crA T n tb n2 C).2):=by
 have hbU:Below w.heap.size w (((w.alloc (.cells #[.slice (some ⟨g,0,none⟩) n n] 38)).alloc (.cells #[.int .i64 k0,.string tb,.slice a2 n2 c2,.slice a3 n3 c3,.string col,.slice a5 n5 c5,.slice a6 n6 c6,.slice a7 n7 c7] 45)).alloc (.cells #[.slice none 0 0] 38)):=below3 _ _ _ _;have hs1:(w.alloc (.cells #[.slice (some ⟨g,0,none⟩) n n] 38)).heap.size=w.heap.size+1:=World.size_alloc _ _;have hs2:((w.alloc (.cells #[.slice (some ⟨g,0,none⟩) n n] 38)).alloc (.cells #[.int .i64 k0,.string tb,.slice a2 n2 c2,.slice a3 n3 c3,.string col,.slice a5 n5 c5,.slice a6 n6 c6,.slice a7 n7 c7] 45)).heap.size=w.heap.size+1+1:=by rw [World.size_alloc,hs1]
 have hs3:(((w.alloc (.cells #[.slice (some ⟨g,0,none⟩) n n] 38)).alloc (.cells #[.int .i64 k0,.string tb,.slice a2 n2 c2,.slice a3 n3 c3,.string col,.slice a5 n5 c5,.slice a6 n6 c6,.slice a7 n7 c7] 45)).alloc (.cells #[.slice none 0 0] 38)).heap.size=w.heap.size+1+1+1:=by rw [World.size_alloc,hs2]
 have hq0:(((w.alloc (.cells #[.slice (some ⟨g,0,none⟩) n n] 38)).alloc (.cells #[.int .i64 k0,.string tb,.slice a2 n2 c2,.slice a3 n3 c3,.string col,.slice a5 n5 c5,.slice a6 n6 c6,.slice a7 n7 c7] 45)).alloc (.cells #[.slice none 0 0] 38)).heap[w.heap.size]?=some (.cells #[.slice (some ⟨g,0,none⟩) n n] 38 (0,0)):=rowL (rowL (heap_alloc_new w _) (bal _ _)) (bal _ _);have hq1:(((w.alloc (.cells #[.slice (some ⟨g,0,none⟩) n n] 38)).alloc (.cells #[.int .i64 k0,.string tb,.slice a2 n2 c2,.slice a3 n3 c3,.string col,.slice a5 n5 c5,.slice a6 n6 c6,.slice a7 n7 c7] 45)).alloc (.cells #[.slice none 0 0] 38)).heap[w.heap.size+1]?=some (.cells #[.int .i64 k0,.string tb,.slice a2 n2 c2,.slice a3 n3 c3,.string col,.slice a5 n5 c5,.slice a6 n6 c6,.slice a7 n7 c7] 45 (0,0)):=by
  have z:=rowL (heap_alloc_new (w.alloc (.cells #[.slice (some ⟨g,0,none⟩) n n] 38)) (.cells #[.int .i64 k0,.string tb,.slice a2 n2 c2,.slice a3 n3 c3,.string col,.slice a5 n5 c5,.slice a6 n6 c6,.slice a7 n7 c7] 45)) (bal _ (.cells #[.slice none 0 0] 38));rw [hs1] at z;exact z
 have hq2:(((w.alloc (.cells #[.slice (some ⟨g,0,none⟩) n n] 38)).alloc (.cells #[.int .i64 k0,.string tb,.slice a2 n2 c2,.slice a3 n3 c3,.string col,.slice a5 n5 c5,.slice a6 n6 c6,.slice a7 n7 c7] 45)).alloc (.cells #[.slice none 0 0] 38)).heap[w.heap.size+1+1]?=some (.cells #[.slice none 0 0] 38 (0,0)):=by
  have z:=heap_alloc_new ((w.alloc (.cells #[.slice (some ⟨g,0,none⟩) n n] 38)).alloc (.cells #[.int .i64 k0,.string tb,.slice a2 n2 c2,.slice a3 n3 c3,.string col,.slice a5 n5 c5,.slice a6 n6 c6,.slice a7 n7 c7] 45)) (.cells #[.slice none 0 0] 38);rw [hs2] at z;exact z
 have hTL:TL w (some ⟨g,0,none⟩) n T:=hDb.1.tl hAl hTO hSm;have HF:=iFind (some ⟨g,0,none⟩) n n T tb (((w.alloc (.cells #[.slice (some ⟨g,0,none⟩) n n] 38)).alloc (.cells #[.int .i64 k0,.string tb,.slice a2 n2 c2,.slice a3 n3 c3,.string col,.slice a5 n5 c5,.slice a6 n6 c6,.slice a7 n7 c7] 45)).alloc (.cells #[.slice none 0 0] 38)) (hTL.later hbU) (by omega) hok;obtain⟨p0,-⟩:=box1 hq0;obtain⟨-,p1,p2,-⟩:=box8 hq1;have HTO:Hid (∀ i,i<n->TbOf (A.getD i b0) (T i)):=hTO;have HDI:Hid (∀ w1 cd v,Below w.heap.size w w1->AnC lo g A w (tlL T n) cd (.returned (.tuple #[.agg #[.slice (some ⟨g,0,none⟩) n n],.int .i64 cd])) (w1.setCell ⟨w.heap.size+1+1,0,none⟩ v)):=fun w1 cd v hb=>ans_keepC hDb hAl hTO hb (by omega) hlo cd;have A1:Hid True:=trivial;have HCS:Hid (∀ k,k<n2->(C k).s.size<=1048576):=fun k hk=>by obtain⟨_,_,-,-,-,hs⟩:=hC k hk;exact hs
 clear hTO hSm hTL;rcases ht:(tabI T tb n).isSome
 rotate_left
 ·
  rw [ht] at HF;have HA:Hid (crA T n tb n2 C=(tlL T n,2)):=by show _=_;unfold crA;rw [if_pos ht]
  clear ht;go_enter Tryz.func107,Tryz.ntmps107
  go_wp2_with (first | (go_at_call 87;refine HF.mono ?_;rintro e w1 ⟨i,rfl,hLo,hij,hb1⟩;have r0_:=rowL hq0 hb1;have r1_:=rowL hq1 hb1;have r2_:=rowL hq2 hb1;obtain⟨t0_,tf0_⟩:=box1 r0_;obtain⟨-,-,t2_,-⟩:=box8 r1_;obtain⟨u0_,uf0_⟩:=box1 r2_;have hb01:=bstep hbU hb1) | go_in)
  refine bodyPost_ret (results_cell_tmp Tryz.results107 _ _ (w.heap.size+1+1) 38 _ (0,0) _ rfl (row1 r2_ _) Tryz.underlying38 rfl (by kernel_rfl)) rfl ?_;rw [HA.out];exact HDI.out _ _ _ hb01
 ·
  rw [ht] at HF;have HN0:Hid (tabI T tb n=none):=by show _=_;rcases h:tabI T tb n with _ | j;rfl;rw [h] at ht;cases ht
  have htn:¬(tabI T tb n).isSome=true:=by rw [ht];simp
  rcases hdf:difB C n2
  ·
   have HA:Hid (crA T n tb n2 C=(tlL T n,3)):=by show _=_;unfold crA;rw [if_neg htn,if_pos hdf]
   clear ht htn;go_enter Tryz.func107,Tryz.ntmps107
   go_wp2_with (first | (go_at_call 87;refine HF.mono ?_;rintro e w1 ⟨i,rfl,hLo,hij,hb1⟩;have r0_:=rowL hq0 hb1;have r1_:=rowL hq1 hb1;have r2_:=rowL hq2 hb1;obtain⟨t0_,tf0_⟩:=box1 r0_;obtain⟨-,-,t2_,-⟩:=box8 r1_;obtain⟨u0_,uf0_⟩:=box1 r2_;have hb01:=bstep hbU hb1) | (go_at_call 116;refine(iDifferent a2 n2 c2 C w1 (hC.later hb01) (by omega)).mono ?_;rintro e w2 ⟨rfl,hb2⟩;rw [hdf];have x0_:=rowL r0_ hb2;have x1_:=rowL r1_ hb2;have x2_:=rowL r2_ hb2;obtain⟨y0_,yf0_⟩:=box1 x0_;obtain⟨z0_,zf0_⟩:=box1 x2_;have hb02:=bstep hb01 hb2) | go_in)
   refine bodyPost_ret (results_cell_tmp Tryz.results107 _ _ (w.heap.size+1+1) 38 _ (0,0) _ rfl (row1 x2_ _) Tryz.underlying38 rfl (by kernel_rfl)) rfl ?_;rw [HA.out];exact HDI.out _ _ _ hb02
  ·
   by_cases hn1:n=100
   ·
    have hn2:((n:Int) == 100)=true:=by simp;omega
    have HA:Hid (crA T n tb n2 C=(tlL T n,6)):=by show _=_;unfold crA;rw [if_neg htn,hdf,if_neg (by simp),if_pos hn1]
    clear ht htn hn1;go_enter Tryz.func107,Tryz.ntmps107
    go_wp2_with (first | (go_at_call 87;refine HF.mono ?_;rintro e w1 ⟨i,rfl,hLo,hij,hb1⟩;have r0_:=rowL hq0 hb1;have r1_:=rowL hq1 hb1;have r2_:=rowL hq2 hb1;obtain⟨t0_,tf0_⟩:=box1 r0_;obtain⟨-,-,t2_,-⟩:=box8 r1_;obtain⟨u0_,uf0_⟩:=box1 r2_;have hb01:=bstep hbU hb1) | (go_at_call 116;refine(iDifferent a2 n2 c2 C w1 (hC.later hb01) (by omega)).mono ?_;rintro e w2 ⟨rfl,hb2⟩;rw [hdf];have x0_:=rowL r0_ hb2;have x1_:=rowL r1_ hb2;have x2_:=rowL r2_ hb2;obtain⟨y0_,yf0_⟩:=box1 x0_;obtain⟨z0_,zf0_⟩:=box1 x2_;have hb02:=bstep hb01 hb2) | go_in)
    refine bodyPost_ret (results_cell_tmp Tryz.results107 _ _ (w.heap.size+1+1) 38 _ (0,0) _ rfl (row1 x2_ _) Tryz.underlying38 rfl (by kernel_rfl)) rfl ?_;rw [HA.out];exact HDI.out _ _ _ hb02
   ·
    have HA:Hid (crA T n tb n2 C=(wtL T ⟨tb,n2,C,0,fun _=>0,fun _ _=>d0⟩ n,0)):=by show _=_;unfold crA;rw [if_neg htn,hdf,if_neg (by simp),if_neg hn1]
    have hn2:((n:Int) == 100)=false:=by simp;omega
    clear ht htn hn1;go_enter Tryz.func107,Tryz.ntmps107
    go_wp2_with (first | (go_at_call 87;refine HF.mono ?_;rintro e w1 ⟨i,rfl,hLo,hij,hb1⟩;have r0_:=rowL hq0 hb1;have r1_:=rowL hq1 hb1;have r2_:=rowL hq2 hb1;obtain⟨t0_,tf0_⟩:=box1 r0_;obtain⟨-,-,t2_,-⟩:=box8 r1_;obtain⟨u0_,uf0_⟩:=box1 r2_;have hb01:=bstep hbU hb1) | (go_at_call 116;refine(iDifferent a2 n2 c2 C w1 (hC.later hb01) (by omega)).mono ?_;rintro e w2 ⟨rfl,hb2⟩;rw [hdf];have x0_:=rowL r0_ hb2;have x1_:=rowL r1_ hb2;have x2_:=rowL r2_ hb2;obtain⟨y0_,yf0_⟩:=box1 x0_;obtain⟨z0_,zf0_⟩:=box1 x2_;have hb02:=bstep hb01 hb2) | go_in)
    have HLO:Hid (LoB T n tb i):=hLo;have hin:=hLo.1;have hgw:=(hDb.2 g List.mem_cons_self).2;have hHS:Hid True:=trivial;clear hLo hij HF HDI t0_ tf0_ t2_ u0_ uf0_ y0_ yf0_ z0_ zf0_ p0 p1 p2 A1 hHS;refine wp_region_held_drew (S:=fun x_=>x_.heap[w.heap.size+1]?=some (.cells #[.int .i64 k0,.string tb,.slice a2 n2 c2,.slice a3 n3 c3,.string col,.slice a5 n5 c5,.slice a6 n6 c6,.slice a7 n7 c7] 45 (0,0))) (by kernel_rfl) (x1_) (fun jH=>?_);have hdb:w2.drew.heap[w.heap.size]?=some (.cells #[.slice (some ⟨g,0,none⟩) n n] 38 (0,0)):=x0_;have hres:w2.drew.heap[w.heap.size+1+1]?=some (.cells #[.slice none 0 0] 38 (0,0)):=x2_;have hbv:Below w.heap.size w w2.drew:=bstep hb02 (bdrew _);have hDv:DbIn lo w2.drew g A:=hDb.later hbv;have hsv:w.heap.size+1+1+1<=w2.drew.heap.size:=by show _<=w2.heap.size;have:=hb1.size;have:=hb2.size;omega
    generalize w2.drew=v at jH hdb hres hbv hDv hsv ⊢;refine tk 0 (⟨some 30,.fieldAddr 38 (.tmp 2) 0,0,"l5_replay.go:165",#[],none⟩:Oper) (fun x jS=>by go_simp<;>rfl) jH ?_
    try simp only [zS]
    refine tk 2 (⟨some 32,.move (.tmp 6),3,"l5_replay.go:165",#[],none⟩:Oper) (fun x jS=>by go_simp<;>rfl) jH ?_
    try simp only [zS]
    refine tk 3 (⟨some 33,.fieldAddr 45 (.tmp 3) 1,0,"l5_replay.go:165",#[],none⟩:Oper) (fun x jS=>by go_simp<;>rfl) jH ?_
    try simp only [zS]
    refine tk 4 (⟨some 34,.load 9 (.tmp 33),9,"l5_replay.go:165",#[⟨3,.data⟩],none⟩:Oper) (fun x jS=>by obtain⟨-,k1_,k2_,-⟩:=box8 jS;go_simp<;>rfl) jH ?_
    try simp only [zS]
    refine tk 5 (⟨some 35,.fieldAddr 45 (.tmp 3) 2,0,"l5_replay.go:165",#[],none⟩:Oper) (fun x jS=>by go_simp<;>rfl) jH ?_
    try simp only [zS]
    refine tk 6 (⟨some 36,.load 40 (.tmp 35),40,"l5_replay.go:165",#[⟨5,.data⟩],none⟩:Oper) (fun x jS=>by obtain⟨-,k1_,k2_,-⟩:=box8 jS;go_simp<;>rfl) jH ?_
    try simp only [zS]
    refine wpAnyH_ready (rs:=[1,7]) (by kernel_rfl) (by simp) ?_;refine(AllReadyH.cons (o:=qXn0) rfl (fun K hK=>?w1_c2) (AllReadyH.cons (o:=qXn1) rfl (fun K hK=>?w1_c1) AllReadyH.nil));case' w1_c2=>
     obtain⟨k0_,-⟩:=box1 hdb;go_simp;refine hK.out _ _ jH (fun jH=>?_);clear hK K k0_;try simp only [zS]
     refine rd 7 qXn1 (fun K hK=>?_);go_simp;refine(iCloneC a2 n2 c2 C v (hC.later hbv) h20 (by omega)).mono ?_;rintro e v ⟨gc,capc,rfl,hOc,hb1⟩;have hgc:=(hOc.lt gc rfl).1;have hgc2:=(hOc.lt gc rfl).2;refine hK.out _ _ (rowL jH hb1) (fun jH=>?_);clear hK K;try simp only [zS]
     replace hgc:w.heap.size+1+1+1<=gc:=Nat.le_trans hsv hgc;replace hsv:=Nat.le_trans hsv hb1.size;replace hdb:=rowL hdb hb1;replace hres:=rowL hres hb1;replace hbv:=bstep hbv hb1;replace hDv:=hDv.later hb1;clear hb1;refine tk 8 qXn2 (fun x jS=>by go_simp<;>rfl) jH ?_
     try simp only [zS]
     refine rd 9 qXn3 (fun K hK=>?_);have hqN:=heap_alloc_new v (.cells #[.string tb,.slice (some ⟨gc,0,none⟩) n2 capc,.slice none 0 0] 62);have hbN:=bal v (.cells #[.string tb,.slice (some ⟨gc,0,none⟩) n2 capc,.slice none 0 0] 62);go_simp;refine hK.out _ _ (rowL jH hbN) (fun jH=>?_);clear hK K;try simp only [zS]
     replace hdb:=rowL hdb hbN;replace hres:=rowL hres hbN;replace hbv:=bstep hbv hbN;replace hDv:=hDv.later hbN;replace hOc:=own_below hOc hbN;replace hgc2:=Nat.lt_of_lt_of_le hgc2 hbN.size;replace hsv:=Nat.le_trans hsv hbN.size;generalize v.heap.size=BN at hqN ⊢;generalize v.alloc (.cells #[.string tb,.slice (some ⟨gc,0,none⟩) n2 capc,.slice none 0 0] 62)=v at hqN jH hdb hres hbv hDv hOc hgc2 hsv hbN ⊢;clear hbN;refine rd 10 qXn4 (fun K hK=>?_);have hXX:=iInsT A ⟨tb,n2,C,gc,capc,none,0,[]⟩ i g lo BN v (by omega) (hDv.1.own rfl (hDv.2 g List.mem_cons_self).1 (fun cur hc=>by rw [hAl];exact hcz cur (((hbv.block g hgw).symm).trans hc)) (by omega)) hqN (by omega);rw [hAl] at hXX;go_simp;refine hXX.mono ?_;rintro e v9 ⟨g9,cap9,rfl,hO9,hg9⟩;clear hXX;refine hK.out _ _ (rowR jH hg9 (by intro e;have:=Option.some.inj e;omega)) (fun jH=>?_);clear hK K;try simp only [zS]
     refine tk 11 qXn5 (fun x jS=>by go_simp<;>rfl) jH ?_
     try simp only [zS]
     refine rd 12 qXn6 (fun K hK=>?_);have hdb9:=rowR hdb hg9 (by intro e;have:=Option.some.inj e;omega);obtain⟨m0_,mf0_⟩:=box1 hdb9;go_simp;refine hK.out _ _ (rowO jH (by omega)) (fun jH=>?_);clear hK K;try simp only [Act.put]
     refine wpAnyH_done (by kernel_rfl) ?_ _
    case' w1_c1=>
     go_simp;refine(iCloneC a2 n2 c2 C v (hC.later hbv) h20 (by omega)).mono ?_;rintro e v ⟨gc,capc,rfl,hOc,hb1⟩;have hgc:=(hOc.lt gc rfl).1;have hgc2:=(hOc.lt gc rfl).2;refine hK.out _ _ (rowL jH hb1) (fun jH=>?_);clear hK K;try simp only [zS]
     replace hgc:w.heap.size+1+1+1<=gc:=Nat.le_trans hsv hgc;replace hsv:=Nat.le_trans hsv hb1.size;replace hdb:=rowL hdb hb1;replace hres:=rowL hres hb1;replace hbv:=bstep hbv hb1;replace hDv:=hDv.later hb1;clear hb1;refine tk 8 qXn2 (fun x jS=>by go_simp<;>rfl) jH ?_
     try simp only [zS]
     refine wpAnyH_ready (rs:=[1,9]) (by kernel_rfl) (by simp) ?_;refine(AllReadyH.cons (o:=qXn0) rfl (fun K hK=>?w1_c4) (AllReadyH.cons (o:=qXn3) rfl (fun K hK=>?w1_c3) AllReadyH.nil));case' w1_c4=>
      obtain⟨k0_,-⟩:=box1 hdb;go_simp;refine hK.out _ _ jH (fun jH=>?_);clear hK K k0_;try simp only [zS]
      refine rd 9 qXn3 (fun K hK=>?_);have hqN:=heap_alloc_new v (.cells #[.string tb,.slice (some ⟨gc,0,none⟩) n2 capc,.slice none 0 0] 62);have hbN:=bal v (.cells #[.string tb,.slice (some ⟨gc,0,none⟩) n2 capc,.slice none 0 0] 62);go_simp;refine hK.out _ _ (rowL jH hbN) (fun jH=>?_);clear hK K;try simp only [zS]
      replace hdb:=rowL hdb hbN;replace hres:=rowL hres hbN;replace hbv:=bstep hbv hbN;replace hDv:=hDv.later hbN;replace hOc:=own_below hOc hbN;replace hgc2:=Nat.lt_of_lt_of_le hgc2 hbN.size;replace hsv:=Nat.le_trans hsv hbN.size;generalize v.heap.size=BN at hqN ⊢;generalize v.alloc (.cells #[.string tb,.slice (some ⟨gc,0,none⟩) n2 capc,.slice none 0 0] 62)=v at hqN jH hdb hres hbv hDv hOc hgc2 hsv hbN ⊢;clear hbN;refine rd 10 qXn4 (fun K hK=>?_);have hXX:=iInsT A ⟨tb,n2,C,gc,capc,none,0,[]⟩ i g lo BN v (by omega) (hDv.1.own rfl (hDv.2 g List.mem_cons_self).1 (fun cur hc=>by rw [hAl];exact hcz cur (((hbv.block g hgw).symm).trans hc)) (by omega)) hqN (by omega);rw [hAl] at hXX;go_simp;refine hXX.mono ?_;rintro e v9 ⟨g9,cap9,rfl,hO9,hg9⟩;clear hXX;refine hK.out _ _ (rowR jH hg9 (by intro e;have:=Option.some.inj e;omega)) (fun jH=>?_);clear hK K;try simp only [zS]
      refine tk 11 qXn5 (fun x jS=>by go_simp<;>rfl) jH ?_
      try simp only [zS]
      refine rd 12 qXn6 (fun K hK=>?_);have hdb9:=rowR hdb hg9 (by intro e;have:=Option.some.inj e;omega);obtain⟨m0_,mf0_⟩:=box1 hdb9;go_simp;refine hK.out _ _ (rowO jH (by omega)) (fun jH=>?_);clear hK K;try simp only [Act.put]
      refine wpAnyH_done (by kernel_rfl) ?_ _
     case' w1_c3=>
      have hqN:=heap_alloc_new v (.cells #[.string tb,.slice (some ⟨gc,0,none⟩) n2 capc,.slice none 0 0] 62);have hbN:=bal v (.cells #[.string tb,.slice (some ⟨gc,0,none⟩) n2 capc,.slice none 0 0] 62);go_simp;refine hK.out _ _ (rowL jH hbN) (fun jH=>?_);clear hK K;try simp only [zS]
      replace hdb:=rowL hdb hbN;replace hres:=rowL hres hbN;replace hbv:=bstep hbv hbN;replace hDv:=hDv.later hbN;replace hOc:=own_below hOc hbN;replace hgc2:=Nat.lt_of_lt_of_le hgc2 hbN.size;replace hsv:=Nat.le_trans hsv hbN.size;generalize v.heap.size=BN at hqN ⊢;generalize v.alloc (.cells #[.string tb,.slice (some ⟨gc,0,none⟩) n2 capc,.slice none 0 0] 62)=v at hqN jH hdb hres hbv hDv hOc hgc2 hsv hbN ⊢;clear hbN;refine rd 1 qXn0 (fun K hK=>?_);obtain⟨k0_,-⟩:=box1 hdb;go_simp;refine hK.out _ _ jH (fun jH=>?_);clear hK K k0_;try simp only [zS]
      refine rd 10 qXn4 (fun K hK=>?_);have hXX:=iInsT A ⟨tb,n2,C,gc,capc,none,0,[]⟩ i g lo BN v (by omega) (hDv.1.own rfl (hDv.2 g List.mem_cons_self).1 (fun cur hc=>by rw [hAl];exact hcz cur (((hbv.block g hgw).symm).trans hc)) (by omega)) hqN (by omega);rw [hAl] at hXX;go_simp;refine hXX.mono ?_;rintro e v9 ⟨g9,cap9,rfl,hO9,hg9⟩;clear hXX;refine hK.out _ _ (rowR jH hg9 (by intro e;have:=Option.some.inj e;omega)) (fun jH=>?_);clear hK K;try simp only [zS]
      refine tk 11 qXn5 (fun x jS=>by go_simp<;>rfl) jH ?_
      try simp only [zS]
      refine rd 12 qXn6 (fun K hK=>?_);have hdb9:=rowR hdb hg9 (by intro e;have:=Option.some.inj e;omega);obtain⟨m0_,mf0_⟩:=box1 hdb9;go_simp;refine hK.out _ _ (rowO jH (by omega)) (fun jH=>?_);clear hK K;try simp only [Act.put]
      refine wpAnyH_done (by kernel_rfl) ?_ _
    all_goals
     have hres9:=rowR hres hg9 (by intro e;have:=Option.some.inj e;omega);have hdbS:=row1 hdb9 (.slice (some ⟨g9,0,none⟩) (n+1) cap9);have hresS:(v9.setCell ⟨w.heap.size,0,none⟩ (.slice (some ⟨g9,0,none⟩) (n+1) cap9)).heap[w.heap.size+1+1]?=_:=rowO hres9 (by omega);obtain⟨n0_,-⟩:=box1 hdbS;obtain⟨q0_,qf0_⟩:=box1 hresS;go_wp2;refine bodyPost_ret (results_cell_tmp Tryz.results107 _ _ (w.heap.size+1+1) 38 _ (0,0) _ rfl (row1 hresS _) Tryz.underlying38 rfl (by kernel_rfl)) rfl ?_;rw [HA.out];obtain⟨curc,hcc1,hcc2⟩:=own_blkC hOc;have htA:TbAt v ⟨tb,n2,C,gc,capc,none,0,[]⟩:=⟨⟨curc,hcc1,hcc2⟩,own_cl hOc HCS.out,(fun r hr=>(by cases hr)),Or.inl rfl⟩;obtain⟨h1,h2,h4,h3⟩:=tb_new (d:=⟨tb,n2,C,0,fun _=>0,fun _ _=>d0⟩) hDv hAl HTO.out (by omega) hO9 hg9 htA ⟨rfl,rfl,rfl,rfl⟩ (by simp [Tb.bl]) (fun b hm=>by obtain rfl:b=gc:=(by simpa [Tb.bl] using hm);exact⟨by omega,hgc2,fun hx=>by have:=(hDb.2 _ hx).2;omega⟩) (Nat.le_trans hlo hbv.size);have hwl:=wtL_ins (d:=⟨tb,n2,C,0,fun _=>0,fun _ _=>d0⟩) HLO.out (tabI_none HN0.out);have hwlen:(wtL T ⟨tb,n2,C,0,fun _=>0,fun _ _=>d0⟩ n).length=n+1:=by rw [hwl];simp [tlL_len];omega
     have hno:∀ x,w.heap.size<=x->x<w.heap.size+1+1+1->x ∉ g9 :: (A.take i ++ ⟨tb,n2,C,gc,capc,none,0,[]⟩ :: A.drop i).flatMap Tb.bl:=fun x hx1 hx2 hm=>by
      rcases h4 x hm with h | h | h
      · have:=(World.ownsRow.lt hO9 g9 rfl).1;omega
      ·
       obtain rfl:x=gc:=by simpa [Tb.bl] using h
       omega
      · have:=(hDb.2 x (List.mem_cons_of_mem _ h)).2;omega
     refine⟨g9,cap9,_,by rw [hwlen];rfl,(h1.allN (BlkX.set (w.heap.size) 0 v9 _) (hno _ (by omega) (by omega))).allN (BlkX.set (w.heap.size+1+1) 0 _ _) (hno _ (by omega) (by omega)),by rw [hwlen,h2],fun j hj=>?_,?_,fun b hb hbw=>?_,fun q hq hqg=>?_⟩
     · rw [hwl];exact h3 j (by rw [←hwlen];exact hj)
     · exact(((hbv.mono hlo).grown hg9 (Nat.le_trans hlo hbv.size) (fun k hk=>by injection hk with hk;rw [←hk];exact(hDb.2 g List.mem_cons_self).1)).setCell (show lo<=w.heap.size from hlo) _).setCell (show lo<=w.heap.size+1+1 by omega) _
     ·
      rcases h4 b hb with h | h | h
      · have:=(World.ownsRow.lt hO9 g9 rfl).1;have:=hbv.size;omega
      ·
       obtain rfl:b=gc:=by simpa [Tb.bl] using h
       omega
      · exact List.mem_cons_of_mem _ h
     · rw [Below.heap_setCell _ _ _ _ (by show q≠w.heap.size+1+1;omega),Below.heap_setCell _ _ _ _ (by show q≠w.heap.size;omega),hg9.block q (Nat.lt_of_lt_of_le hq hbv.size) (fun e=>hqg (Option.some.inj e))];exact hbv.block q hq
end Go.Proofs.YtgeiamgeclbiaaaGreatDoor
