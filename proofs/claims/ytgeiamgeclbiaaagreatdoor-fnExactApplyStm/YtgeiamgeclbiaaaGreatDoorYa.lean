import Derived.Test.YtgeiamgeclbiaaaGreatDoorXv
import Derived.Test.YtgeiamgeclbiaaaGreatDoorXx
namespace Go.Proofs.YtgeiamgeclbiaaaGreatDoor
open Go.RowKit Go.Maps Go.WideMaps
set_option maxRecDepth 20000
set_option maxHeartbeats 16000000
structure RgD(D:St):Prop where
 v:∀ i,i<D.n3->rg (D.V i).m
 e:∀ i,i<D.n5->rg (D.E i).m
theorem okV_good{o m:Int}{s:ByteArray}(h:okValue o m s=true):goodV ⟨o,m,s⟩:=by
 unfold okValue at h;simp only [Bool.or_eq_true,Bool.and_eq_true,beq_iff_eq,decide_eq_true_eq] at h
 rcases h with ⟨⟨h1,-⟩,h2⟩ | ⟨⟨h1,h2⟩,-⟩
 ·
  refine Or.inl ⟨h1,?_⟩;show s=⟨#[]⟩
  rcases s with ⟨⟨L⟩⟩
  cases L
  · rfl
  · simp [ByteArray.size] at h2
 · exact Or.inr ⟨h1,h2⟩
theorem iAp1(lo g n:Nat)(A:List Tb)(T:Nat->Td)(tb:ByteArray)(a2:Option Addr)(n2 c2:Nat)(a3:Option Addr)(n3 c3:Nat)(col:ByteArray)(a5:Option Addr)(n5 c5:Nat)(a6:Option Addr)(n6 c6:Nat)(a7:Option Addr)(n7 c7:Nat)(C:Nat->Clm)(w:World)(hH:Ah lo g n A T w)(hcz:∀ cur,w.heap[g]?=some (.cells cur 62 (0,0))->cur.size=n * 3)(hC:CL w a2 n2 C)(h20:0<n2)(h2m:n2<=20) :
 Calls Tryz.prog 59 #[.agg #[.slice (some ⟨g,0,none⟩) n n],.agg #[.int .i64 1,.string tb,.slice a2 n2 c2,.slice a3 n3 c3,.string col,.slice a5 n5 c5,.slice a6 n6 c6,.slice a7 n7 c7]] w (AnP lo w (crA T n tb n2 C).1 (crA T n tb n2 C).2):=by
 have hbU:Below w.heap.size w (((w.alloc (.cells #[.slice (some ⟨g,0,none⟩) n n] 38)).alloc (.cells #[.int .i64 1,.string tb,.slice a2 n2 c2,.slice a3 n3 c3,.string col,.slice a5 n5 c5,.slice a6 n6 c6,.slice a7 n7 c7] 45)).alloc (.cells #[.slice none 0 0] 38)):=below3 _ _ _ _;have hs1:(w.alloc (.cells #[.slice (some ⟨g,0,none⟩) n n] 38)).heap.size=w.heap.size+1:=World.size_alloc _ _;have hs2:((w.alloc (.cells #[.slice (some ⟨g,0,none⟩) n n] 38)).alloc (.cells #[.int .i64 1,.string tb,.slice a2 n2 c2,.slice a3 n3 c3,.string col,.slice a5 n5 c5,.slice a6 n6 c6,.slice a7 n7 c7] 45)).heap.size=w.heap.size+1+1:=by rw [World.size_alloc,hs1]
 have hs3:(((w.alloc (.cells #[.slice (some ⟨g,0,none⟩) n n] 38)).alloc (.cells #[.int .i64 1,.string tb,.slice a2 n2 c2,.slice a3 n3 c3,.string col,.slice a5 n5 c5,.slice a6 n6 c6,.slice a7 n7 c7] 45)).alloc (.cells #[.slice none 0 0] 38)).heap.size=w.heap.size+1+1+1:=by rw [World.size_alloc,hs2]
 have hq0:(((w.alloc (.cells #[.slice (some ⟨g,0,none⟩) n n] 38)).alloc (.cells #[.int .i64 1,.string tb,.slice a2 n2 c2,.slice a3 n3 c3,.string col,.slice a5 n5 c5,.slice a6 n6 c6,.slice a7 n7 c7] 45)).alloc (.cells #[.slice none 0 0] 38)).heap[w.heap.size]?=some (.cells #[.slice (some ⟨g,0,none⟩) n n] 38 (0,0)):=rowL (rowL (heap_alloc_new w _) (bal _ _)) (bal _ _);have hq1:(((w.alloc (.cells #[.slice (some ⟨g,0,none⟩) n n] 38)).alloc (.cells #[.int .i64 1,.string tb,.slice a2 n2 c2,.slice a3 n3 c3,.string col,.slice a5 n5 c5,.slice a6 n6 c6,.slice a7 n7 c7] 45)).alloc (.cells #[.slice none 0 0] 38)).heap[w.heap.size+1]?=some (.cells #[.int .i64 1,.string tb,.slice a2 n2 c2,.slice a3 n3 c3,.string col,.slice a5 n5 c5,.slice a6 n6 c6,.slice a7 n7 c7] 45 (0,0)):=by
  have z:=rowL (heap_alloc_new (w.alloc (.cells #[.slice (some ⟨g,0,none⟩) n n] 38)) (.cells #[.int .i64 1,.string tb,.slice a2 n2 c2,.slice a3 n3 c3,.string col,.slice a5 n5 c5,.slice a6 n6 c6,.slice a7 n7 c7] 45)) (bal _ (.cells #[.slice none 0 0] 38));rw [hs1] at z;exact z
 have hq2:(((w.alloc (.cells #[.slice (some ⟨g,0,none⟩) n n] 38)).alloc (.cells #[.int .i64 1,.string tb,.slice a2 n2 c2,.slice a3 n3 c3,.string col,.slice a5 n5 c5,.slice a6 n6 c6,.slice a7 n7 c7] 45)).alloc (.cells #[.slice none 0 0] 38)).heap[w.heap.size+1+1]?=some (.cells #[.slice none 0 0] 38 (0,0)):=by
  have z:=heap_alloc_new ((w.alloc (.cells #[.slice (some ⟨g,0,none⟩) n n] 38)).alloc (.cells #[.int .i64 1,.string tb,.slice a2 n2 c2,.slice a3 n3 c3,.string col,.slice a5 n5 c5,.slice a6 n6 c6,.slice a7 n7 c7] 45)) (.cells #[.slice none 0 0] 38);rw [hs2] at z;exact z
 obtain⟨p0,-⟩:=box1 hq0;obtain⟨x0_,x1_,x2_,x3_,x4_,x5_,x6_,x7_⟩:=box8 hq1;have hlo:=hH.hlo;have HCR:=iCreated (lo) g n A T 1 tb a2 n2 c2 a3 n3 c3 col a5 n5 c5 a6 n6 c6 a7 n7 c7 C (((w.alloc (.cells #[.slice (some ⟨g,0,none⟩) n n] 38)).alloc (.cells #[.int .i64 1,.string tb,.slice a2 n2 c2,.slice a3 n3 c3,.string col,.slice a5 n5 c5,.slice a6 n6 c6,.slice a7 n7 c7] 45)).alloc (.cells #[.slice none 0 0] 38)) (hH.db.later hbU) hH.al hH.tof (fun cur hc=>hcz cur (((hbU.block g (hH.db.2 g List.mem_cons_self).2).symm).trans hc)) hH.sm hH.ok hH.n (hC.later hbU) h20 h2m (Nat.le_trans hH.hlo hbU.size);generalize crA T n tb n2 C=cr at HCR ⊢;have hgw:=(hH.db.2 g List.mem_cons_self).2;have HDB:Hid (∀ b∈g :: A.flatMap Tb.bl,b<w.heap.size):=fun b hb=>(hH.db.2 b hb).2;go_enter Tryz.func59,Tryz.ntmps59
 go_wp2_with (first | (go_at_call 107;refine HCR.mono ?_;rintro e w1 ⟨g1,c1,B,rfl,hD1,hB1,hT1,hb1,hcl,hfr⟩;have r2_:w1.heap[w.heap.size+1+1]?=some (.cells #[.slice none 0 0] 38 (0,0)):=(hfr _ (by omega) (by omega)).trans hq2;obtain⟨u0_,uf0_⟩:=box1 r2_) | go_in)
 refine bodyPost_ret (results_cell_tmp Tryz.results59 _ _ (w.heap.size+1+1) 38 _ (0,0) _ rfl (row1 r2_ _) Tryz.underlying38 rfl (by kernel_rfl)) rfl ?_;refine⟨g1,c1,B,rfl,hD1.allN (BlkX.set _ 0 w1 _) (fun hm=>?_),hB1,hT1,?_⟩
 · have:=HDB.out _ (hcl _ hm (by omega));omega
 · exact((hbU.mono hlo).trans hb1).setCell (show lo<=w.heap.size+1+1 by omega) _
theorem iAppD(lo g n:Nat)(A:List Tb)(T:Nat->Td)(k0:Int)(tb:ByteArray)(a2:Option Addr)(n2 c2:Nat)(a3:Option Addr)(n3 c3:Nat)(col:ByteArray)(a5:Option Addr)(n5 c5:Nat)(a6:Option Addr)(n6 c6:Nat)(a7:Option Addr)(n7 c7:Nat)(C:Nat->Clm)(V E W:Nat->Itm)(m7:Nat->Nat)(O:Nat->Nat->Itm)(D:St)(hD:(⟨k0,tb,n2,C,n3,V,col,n5,E,n6,W,n7,m7,O⟩:St)=D)(w:World)(hH:Ah lo g n A T w)(hcz:∀ cur,w.heap[g]?=some (.cells cur 62 (0,0))->cur.size=n * 3)(hS:SM w ⟨k0,tb,n2,C,n3,V,col,n5,E,n6,W,n7,m7,O⟩ ⟨a2,c2,a3,c3,a5,c5,a6,c6,a7,c7⟩)(hok:okStm D=true)(hR:RgD D) :
 Calls Tryz.prog 59 #[.agg #[.slice (some ⟨g,0,none⟩) n n],.agg #[.int .i64 k0,.string tb,.slice a2 n2 c2,.slice a3 n3 c3,.string col,.slice a5 n5 c5,.slice a6 n6 c6,.slice a7 n7 c7]] w (AnP lo w (apA n T D).1 (apA n T D).2):=by
 have hk:=rest_k hok;subst hD;have hap:∀ A:List Td×Int,(if k0=1 then crA T n tb n2 C else match tabI T tb n with
  | none=>(tlL T n,1)
  | some j=>if k0=2 then inA T n (T j).s (T j).n (T j).C (T j).r (T j).m (T j).R n3 V
   else if k0=3 then upA T n (T j).s (T j).n (T j).C (T j).r (T j).m (T j).R col E n5 W n6
   else if k0=4 then dlA T n (T j).s (T j).n (T j).C (T j).r (T j).m (T j).R W n6
   else (tlL T n,slC (T j).C (T j).n m7 O n7 W n6))=A->apA n T ⟨k0,tb,n2,C,n3,V,col,n5,E,n6,W,n7,m7,O⟩=A:=fun A h=>by
  rw [←h];unfold apA;rw [hH.ok,hok,if_neg (by simp),if_neg (by simp)];rfl
 simp only at hk
 rcases hk with rfl | rfl | rfl | rfl | rfl
 · have h1:=rest1 hok rfl;rw [hap (crA T n tb n2 C) (if_pos rfl)];exact iAp1 lo g n A T tb a2 n2 c2 a3 n3 c3 col a5 n5 c5 a6 n6 c6 a7 n7 c7 C w hH hcz hS.co h1.1 h1.2
 ·
  have h2:=rest2 hok rfl;have h6:=okStm_n6 hok (by show (2:Int)<3;omega);have hg:∀ j,j<n3->goodV (V j):=fun j hj=>by
   have z:=okStm_rest hok;unfold restS at z;simp only [if_neg (by omega:¬(2:Int)=1),if_pos,Bool.and_eq_true] at z
   exact okV_good (allN_at z.2 hj)
  have z:=iAp2 lo g n A T tb a2 n2 c2 a3 n3 c3 col a5 n5 c5 a6 n6 c6 a7 n7 c7 V W w hH hS.va hS.wh h6 h2.1 h2.2.1 hg (hR.v 0 h2.1);rw [hap _ (show _=(match tabI T tb n with | none=>(tlL T n,1) | some j=>inA T n (T j).s (T j).n (T j).C (T j).r (T j).m (T j).R n3 V) from by rw [if_neg (by omega)];rcases tabI T tb n with _ | j <;> rfl)]
  exact z
 ·
  have h3:=rest3 hok rfl;have z:=iAp3 lo g n A T tb a2 n2 c2 a3 n3 c3 col a5 n5 c5 a6 n6 c6 a7 n7 c7 E W w hH hS.ex hS.wh h3.1 h3.2 hS.col hR.e;rw [hap _ (show _=(match tabI T tb n with | none=>(tlL T n,1) | some j=>upA T n (T j).s (T j).n (T j).C (T j).r (T j).m (T j).R col E n5 W n6) from by rw [if_neg (by omega)];rcases tabI T tb n with _ | j <;> rfl)]
  exact z
 ·
  have h4:=rest4 hok rfl;have z:=iAp4 lo g n A T tb a2 n2 c2 a3 n3 c3 col a5 n5 c5 a6 n6 c6 a7 n7 c7 W w hH hS.wh h4;rw [hap _ (show _=(match tabI T tb n with | none=>(tlL T n,1) | some j=>dlA T n (T j).s (T j).n (T j).C (T j).r (T j).m (T j).R W n6) from by rw [if_neg (by omega)];rcases tabI T tb n with _ | j <;> rfl)]
  exact z
 ·
  have h5:=rest5 hok rfl;have z:=iAp5 lo g n A T tb a2 n2 c2 a3 n3 c3 col a5 n5 c5 a6 n6 c6 a7 n7 c7 W m7 O w hH hS.ou hS.wh hS.l7 h5.2.2.1 h5.2.2.2;rw [hap _ (show _=(match tabI T tb n with | none=>(tlL T n,1) | some j=>(tlL T n,slC (T j).C (T j).n m7 O n7 W n6)) from by rw [if_neg (by omega)];rcases tabI T tb n with _ | j <;> rfl)]
  exact z
def ApP(w:World)(n:Nat)(T:Nat->Td)(D:St)(e:Ending)(w':World):Prop:=(okDb n T=true/\okStm D=true/\AnP w.heap.size w (apA n T D).1 (apA n T D).2 e w')∨((okDb n T=false∨okStm D=false)/\e=.returned (.tuple #[.agg #[.slice none 0 0],.int .i64 7])/\Below w.heap.size w w')
theorem rowB9{w w':World}{B q:Nat}{o:Obj}(h:w.heap[q]?=some o)(hb:Below B w w')(hq:q<B):w'.heap[q]?=some o:=(hb.block q hq).trans h
theorem iApply(a:Option Addr)(n c:Nat)(T:Nat->Td)(k0:Int)(tb:ByteArray)(a2:Option Addr)(n2 c2:Nat)(a3:Option Addr)(n3 c3:Nat)(col:ByteArray)(a5:Option Addr)(n5 c5:Nat)(a6:Option Addr)(n6 c6:Nat)(a7:Option Addr)(n7 c7:Nat)(C:Nat->Clm)(V E W:Nat->Itm)(m7:Nat->Nat)(O:Nat->Nat->Itm)(D:St)(hD:(⟨k0,tb,n2,C,n3,V,col,n5,E,n6,W,n7,m7,O⟩:St)=D)(w:World)(hSp:SpT w)(hT:TL w a n T)(hS:SM w ⟨k0,tb,n2,C,n3,V,col,n5,E,n6,W,n7,m7,O⟩ ⟨a2,c2,a3,c3,a5,c5,a6,c6,a7,c7⟩)(hn:n<=1048576)(hRg:∀ k,k<n->∀ i,i<(T k).r->∀ j,j<(T k).n->rg ((T k).R i j).m)(hRD:RgD D) :
 Calls Tryz.prog 19 #[.agg #[.slice a n c],.agg #[.int .i64 k0,.string tb,.slice a2 n2 c2,.slice a3 n3 c3,.string col,.slice a5 n5 c5,.slice a6 n6 c6,.slice a7 n7 c7]] w (ApP w n T D):=by
 have hbU:Below w.heap.size w (((w.alloc (.cells #[.slice a n c] 38)).alloc (.cells #[.int .i64 k0,.string tb,.slice a2 n2 c2,.slice a3 n3 c3,.string col,.slice a5 n5 c5,.slice a6 n6 c6,.slice a7 n7 c7] 45)).alloc (.cells #[.slice none 0 0] 38)):=below3 _ _ _ _;have hs1:(w.alloc (.cells #[.slice a n c] 38)).heap.size=w.heap.size+1:=World.size_alloc _ _;have hs2:((w.alloc (.cells #[.slice a n c] 38)).alloc (.cells #[.int .i64 k0,.string tb,.slice a2 n2 c2,.slice a3 n3 c3,.string col,.slice a5 n5 c5,.slice a6 n6 c6,.slice a7 n7 c7] 45)).heap.size=w.heap.size+1+1:=by rw [World.size_alloc,hs1]
 have hs3:(((w.alloc (.cells #[.slice a n c] 38)).alloc (.cells #[.int .i64 k0,.string tb,.slice a2 n2 c2,.slice a3 n3 c3,.string col,.slice a5 n5 c5,.slice a6 n6 c6,.slice a7 n7 c7] 45)).alloc (.cells #[.slice none 0 0] 38)).heap.size=w.heap.size+1+1+1:=by rw [World.size_alloc,hs2]
 have hq0:(((w.alloc (.cells #[.slice a n c] 38)).alloc (.cells #[.int .i64 k0,.string tb,.slice a2 n2 c2,.slice a3 n3 c3,.string col,.slice a5 n5 c5,.slice a6 n6 c6,.slice a7 n7 c7] 45)).alloc (.cells #[.slice none 0 0] 38)).heap[w.heap.size]?=some (.cells #[.slice a n c] 38 (0,0)):=rowL (rowL (heap_alloc_new w _) (bal _ _)) (bal _ _);have hq1:(((w.alloc (.cells #[.slice a n c] 38)).alloc (.cells #[.int .i64 k0,.string tb,.slice a2 n2 c2,.slice a3 n3 c3,.string col,.slice a5 n5 c5,.slice a6 n6 c6,.slice a7 n7 c7] 45)).alloc (.cells #[.slice none 0 0] 38)).heap[w.heap.size+1]?=some (.cells #[.int .i64 k0,.string tb,.slice a2 n2 c2,.slice a3 n3 c3,.string col,.slice a5 n5 c5,.slice a6 n6 c6,.slice a7 n7 c7] 45 (0,0)):=by
  have z:=rowL (heap_alloc_new (w.alloc (.cells #[.slice a n c] 38)) (.cells #[.int .i64 k0,.string tb,.slice a2 n2 c2,.slice a3 n3 c3,.string col,.slice a5 n5 c5,.slice a6 n6 c6,.slice a7 n7 c7] 45)) (bal _ (.cells #[.slice none 0 0] 38));rw [hs1] at z;exact z
 have hq2:(((w.alloc (.cells #[.slice a n c] 38)).alloc (.cells #[.int .i64 k0,.string tb,.slice a2 n2 c2,.slice a3 n3 c3,.string col,.slice a5 n5 c5,.slice a6 n6 c6,.slice a7 n7 c7] 45)).alloc (.cells #[.slice none 0 0] 38)).heap[w.heap.size+1+1]?=some (.cells #[.slice none 0 0] 38 (0,0)):=by
  have z:=heap_alloc_new ((w.alloc (.cells #[.slice a n c] 38)).alloc (.cells #[.int .i64 k0,.string tb,.slice a2 n2 c2,.slice a3 n3 c3,.string col,.slice a5 n5 c5,.slice a6 n6 c6,.slice a7 n7 c7] 45)) (.cells #[.slice none 0 0] 38);rw [hs2] at z;exact z
 have HDB:=iDb a n c T (((w.alloc (.cells #[.slice a n c] 38)).alloc (.cells #[.int .i64 k0,.string tb,.slice a2 n2 c2,.slice a3 n3 c3,.string col,.slice a5 n5 c5,.slice a6 n6 c6,.slice a7 n7 c7] 45)).alloc (.cells #[.slice none 0 0] 38)) (hSp.later hbU) (hT.later hbU) hn;have HST:Hid (∀ v,Below w.heap.size w v->Calls Tryz.prog 35 #[.agg #[.int .i64 k0,.string tb,.slice a2 n2 c2,.slice a3 n3 c3,.string col,.slice a5 n5 c5,.slice a6 n6 c6,.slice a7 n7 c7]] v fun e w'=>e=.returned (.bool (okStm D))/\Below v.heap.size v w'):=fun v hv=>by
  have z:=iStm ⟨k0,tb,n2,C,n3,V,col,n5,E,n6,W,n7,m7,O⟩ ⟨a2,c2,a3,c3,a5,c5,a6,c6,a7,c7⟩ v (hS.later hv) (hSp.later hv);have e:okStm ⟨k0,tb,n2,C,n3,V,col,n5,E,n6,W,n7,m7,O⟩=okStm D:=by rw [hD]
  rw [e] at z;exact z
 have HD:Hid ((⟨k0,tb,n2,C,n3,V,col,n5,E,n6,W,n7,m7,O⟩:St)=D):=hD;clear hD;obtain⟨p0,-⟩:=box1 hq0;obtain⟨x0_,x1_,x2_,x3_,x4_,x5_,x6_,x7_⟩:=box8 hq1;rcases hdb:okDb n T
 ·
  rw [hdb] at HDB;go_enter Tryz.func19,Tryz.ntmps19
  go_wp2_with (first | (go_at_call 34;refine HDB.mono ?_;rintro e w1 ⟨rfl,hb1⟩;obtain⟨u0_,uf0_⟩:=box1 (rowL hq2 hb1)) | go_in)
  refine bodyPost_ret (results_cell_tmp Tryz.results19 _ _ (w.heap.size+1+1) 38 _ (0,0) _ rfl (row1 (rowL hq2 hb1) _) Tryz.underlying38 rfl (by kernel_rfl)) rfl ?_;exact Or.inr ⟨Or.inl hdb,rfl,bset (bstep hbU hb1) (by omega)⟩
 rcases hst:okStm D
 ·
  rw [hdb] at HDB;rw [hst] at HST;go_enter Tryz.func19,Tryz.ntmps19
  go_wp2_with (first | (go_at_call 34;refine HDB.mono ?_;rintro e w1 ⟨rfl,hb1⟩;obtain⟨j0_,j1_,j2_,j3_,j4_,j5_,j6_,j7_⟩:=box8 (rowL hq1 hb1)) | (go_at_call 35;refine(HST.out _ (bstep hbU hb1)).mono ?_;rintro e w2 ⟨rfl,hb2⟩;have s2_:=rowL (rowL hq2 hb1) hb2;obtain⟨u0_,uf0_⟩:=box1 s2_) | go_in)
  refine bodyPost_ret (results_cell_tmp Tryz.results19 _ _ (w.heap.size+1+1) 38 _ (0,0) _ rfl (row1 s2_ _) Tryz.underlying38 rfl (by kernel_rfl)) rfl ?_;exact Or.inr ⟨Or.inr hst,rfl,bset (bstep (bstep hbU hb1) hb2) (by omega)⟩
 ·
  rw [hdb] at HDB;rw [hst] at HST;have HANS:Hid (∀ e w',AnP w.heap.size w (apA n T D).1 (apA n T D).2 e w'->ApP w n T D e w'):=fun e w' h=>Or.inl ⟨hdb,hst,h⟩;go_enter Tryz.func19,Tryz.ntmps19
  go_wp2_with (first | (go_at_call 34;refine HDB.mono ?_;rintro e w1 ⟨rfl,hb1⟩;obtain⟨j0_,j1_,j2_,j3_,j4_,j5_,j6_,j7_⟩:=box8 (rowL hq1 hb1)) | (go_at_call 35;refine(HST.out _ (bstep hbU hb1)).mono ?_;rintro e w2 ⟨rfl,hb2⟩;have s0_:=rowL (rowL hq0 hb1) hb2;have s1_:=rowL (rowL hq1 hb1) hb2;have s2_:=rowL (rowL hq2 hb1) hb2;have hb02:=bstep (bstep hbU hb1) hb2;have hsz2:w.heap.size+1+1+1<=w2.heap.size:=(by have:=hb1.size;have:=hb2.size;omega)) | go_in)
  refine wp_region_held_drew (S:=fun x_=>x_.heap[w.heap.size]?=some (.cells #[.slice a n c] 38 (0,0))/\x_.heap[w.heap.size+1]?=some (.cells #[.int .i64 k0,.string tb,.slice a2 n2 c2,.slice a3 n3 c3,.string col,.slice a5 n5 c5,.slice a6 n6 c6,.slice a7 n7 c7] 45 (0,0))) (by kernel_rfl) (⟨s0_,s1_⟩) (fun jH=>?_);have hbv:Below w.heap.size w w2.drew:=bstep hb02 (bdrew _);have hres:w2.drew.heap[w.heap.size+1+1]?=some (.cells #[.slice none 0 0] 38 (0,0)):=s2_;have hsv:w.heap.size+1+1+1<=w2.drew.heap.size:=hsz2;generalize w2.drew=v at jH hbv hres hsv ⊢;refine tk 0 (⟨some 15,.load 38 (.tmp 2),38,"l5_replay.go:58",#[],none⟩:Oper) (fun x jS=>by obtain⟨i0_,-⟩:=box1 jS.1;obtain⟨j0_,j1_,j2_,j3_,j4_,j5_,j6_,j7_⟩:=box8 jS.2;go_simp<;>rfl) jH ?_
  try simp only [zS]
  refine tk 2 (⟨some 17,.load 45 (.tmp 3),45,"l5_replay.go:58",#[],none⟩:Oper) (fun x jS=>by obtain⟨i0_,-⟩:=box1 jS.1;obtain⟨j0_,j1_,j2_,j3_,j4_,j5_,j6_,j7_⟩:=box8 jS.2;go_simp<;>rfl) jH ?_
  try simp only [zS]
  refine rd 1 (⟨some 16,.call ⟨.value (.func 60),#[.tmp 15],#[38]⟩,38,"l5_replay.go:58",#[⟨0,.data⟩],none⟩:Oper) (fun K hK=>?_);go_simp;refine(iCopy a n c T v (hT.later hbv) (by have:=(okDb_out hdb).1;omega) (okDb_fil hdb)).mono ?_;rintro e v1 ⟨g,A,rfl,hDA,hAl,hTO,hbl,hcz,hb1⟩;refine hK.out _ _ ⟨rowL jH.1 hb1,rowL jH.2 hb1⟩ (fun jH=>?_);clear hK K;try simp only [zS]
  refine rd 3 (⟨some 18,.call ⟨.value (.func 59),#[.tmp 16,.tmp 17],#[38,45]⟩,54,"l5_replay.go:58",#[⟨1,.data⟩,⟨2,.data⟩,⟨1,.chain⟩],none⟩:Oper) (fun K hK=>?_);have hAH:Ah v.heap.size g n A T v1:=⟨⟨hDA,hbl⟩,hAl,hTO,Sm3.of hT,hdb,hb1.size,hRg⟩;have HAP:=iAppD v.heap.size g n A T k0 tb a2 n2 c2 a3 n3 c3 col a5 n5 c5 a6 n6 c6 a7 n7 c7 C V E W m7 O D HD.out v1 hAH hcz (hS.later (bstep hbv hb1)) hst hRD;generalize apA n T D=ap at HAP HANS;go_simp;refine HAP.mono ?_;rintro e v2 ⟨g2,cc2,B,rfl,hD2,hB2,hT2,hb2⟩;clear HAP;have hHeld2:=And.intro (rowB9 jH.1 hb2 (by omega)) (rowB9 jH.2 hb2 (by omega));refine hK.out _ _ hHeld2 (fun jH=>?_);clear hK K;try simp only [zS]
  refine tk 4 (⟨some 19,.extract (.tmp 18) 0,38,"l5_replay.go:58",#[⟨3,.data⟩],none⟩:Oper) (fun x jS=>by go_simp<;>rfl) jH ?_
  try simp only [zS]
  refine tk 5 (⟨some 20,.extract (.tmp 18) 1,3,"l5_replay.go:58",#[⟨3,.data⟩],none⟩:Oper) (fun x jS=>by go_simp<;>rfl) jH ?_
  try simp only [zS]
  refine rd 6 (⟨none,.store 38 (.tmp 4) (.tmp 19),0,"l5_replay.go:58",#[⟨4,.data⟩,⟨3,.chain⟩,⟨0,.phase⟩,⟨1,.phase⟩,⟨2,.phase⟩,⟨3,.phase⟩,⟨4,.phase⟩,⟨5,.phase⟩],none⟩:Oper) (fun K hK=>?_);have hres2:=rowB9 (rowL hres hb1) hb2 (by omega);obtain⟨m0_,mf_⟩:=box1 hres2;go_simp;refine hK.out _ _ ⟨rowO jH.1 (by omega),rowO jH.2 (by omega)⟩ (fun jH=>?_);clear hK K;try simp only [Act.put]
  refine tk 7 (⟨some 5,.assign (.tmp 20),3,"l5_replay.go:58",#[⟨5,.data⟩,⟨6,.chain⟩,⟨0,.phase⟩,⟨1,.phase⟩,⟨2,.phase⟩,⟨3,.phase⟩,⟨4,.phase⟩,⟨5,.phase⟩,⟨6,.phase⟩],none⟩:Oper) (fun x jS=>by go_simp<;>rfl) jH ?_
  try simp only [zS]
  refine wpAnyH_done (by kernel_rfl) ?_ _;go_wp2;refine bodyPost_ret (results_cell_tmp Tryz.results19 _ _ (w.heap.size+1+1) 38 _ (0,0) _ rfl (row1 hres2 _) Tryz.underlying38 rfl (by kernel_rfl)) rfl ?_;refine HANS.out _ _ ⟨g2,cc2,B,rfl,?_,hB2,hT2,?_⟩
  · have h3:=hD2.allX (x:=w.heap.size+1+1) (BlkX.set _ 0 v2 (.slice (some ⟨g2,0,none⟩) ap.1.length cc2)) (Or.inl (by omega));exact⟨h3.1,fun b hb=>⟨by have:=(h3.2 b hb).1;have:=hbv.size;omega,(h3.2 b hb).2⟩⟩
  · exact bset (hbv.trans ((hb1.mono hbv.size).trans (hb2.mono hbv.size))) (by omega)
set_option maxRecDepth 20000
set_option maxHeartbeats 8000000
def rM(t:Tb):Nat:=sm (fun i=>(t.L.getD i o0).x.1) t.L.length
def zT(A:List Tb)(z:Nat):Nat->Nat
 | 0=>z
 | i+1=>zT A z i+1+2 * (A.getD i b0).n+3 * rM (A.getD i b0)
theorem zT_mono(A:List Tb)(z:Nat):∀ {i k:Nat},i<=k->zT A z i<=zT A z k:=by
 intro i k h;induction k with
 | zero=>
  obtain rfl:i=0:=by omega
  exact Nat.le_refl _
 | succ k ih=>
  by_cases e:i=k+1
  · subst e;exact Nat.le_refl _
  · have:=ih (by omega);rw [zT];omega
def MRw(w:World)(t:Tb)(z:Nat):Prop:=t.L.length=0∨∃ b cur,t.br=some b/\w.heap[b]?=some (.cells cur 41 (0,0))/\(∀ j,j<t.L.length->cur[j]?=some (t.L.getD j o0).v)/\∀ j,j<t.L.length->M3 w 66 (some ⟨(t.L.getD j o0).b,0,none⟩) (t.L.getD j o0).x.1 (z+3 * sm (fun i=>(t.L.getD i o0).x.1) j)
def MTb(w:World)(g:Nat)(A:List Tb)(z:Nat):Prop:=∃ cur,w.heap[g]?=some (.cells cur 62 (0,0))/\∀ i,i<A.length->cur[i * 3]?=some (.string (mtx (zT A z i)))/\cur[i * 3+1]?=some (.slice (some ⟨(A.getD i b0).bc,0,none⟩) (A.getD i b0).n (A.getD i b0).cc)/\cur[i * 3+2]?=some (.slice (A.getD i b0).ar (A.getD i b0).L.length (A.getD i b0).cr)/\MC w (some ⟨(A.getD i b0).bc,0,none⟩) (A.getD i b0).n (zT A z i+1)/\MRw w (A.getD i b0) (zT A z i+1+2 * (A.getD i b0).n)
theorem heldClA(a:Option Addr)(n c z:Nat)(Z:Int)(hZ:Z=(z:Int))(w:World)(h:MC w a n z)(hz0:0<z)(hz:z+2 * n<9000000000000000000):Calls Tryz.prog 111 #[.slice a n c,.int .i64 Z] w fun e w'=>∃ K:Int,e=.returned (.int .i64 K)/\Hid (K=((z+2 * n:Nat):Int))/\Below w.heap.size w w':=by
 subst hZ;exact(heldCl a n c z w h hz0 hz).mono (fun e w' ⟨h1,h2⟩=>⟨_,h1,rfl,h2⟩)
theorem heldRw(t:Tb)(c z:Nat)(Z:Int)(hZ:Z=(z:Int))(w:World)(h:MRw w t z)(hz0:0<z)(hz:z+3 * rM t<9000000000000000000)(hn:t.L.length<=1048576):Calls Tryz.prog 17 #[.slice t.ar t.L.length c,.int .i64 Z] w fun e w'=>∃ K:Int,e=.returned (.int .i64 K)/\Hid (K=((z+3 * rM t:Nat):Int))/\Below w.heap.size w w':=by
 rcases h with h | ⟨b,cur,h1,h2,h3,h4⟩
 ·
  have e:rM t=0:=by unfold rM;rw [h];rfl
  rw [h,e];exact(heldVss0 t.ar c Z w).mono (fun e w' ⟨h1,h2⟩=>⟨_,h1,by show Z=_;rw [hZ];simp,by rw [h2];exact Below.refl _ _⟩)
 ·
  have e:t.ar=some ⟨b,0,none⟩:=by unfold Tb.ar;rw [h1];rfl
  rw [e];exact heldVss b t.L.length c z Z hZ cur (fun i=>some ⟨(t.L.getD i o0).b,0,none⟩) (fun i=>(t.L.getD i o0).c) (fun i=>(t.L.getD i o0).x.1) w h2 h3 h4 hz0 hz hn
theorem MRw.later{w w':World}{t:Tb}{z:Nat}(h:MRw w t z)(hb:Below w.heap.size w w'):MRw w' t z:=by
 rcases h with h | ⟨b,cur,h1,h2,h3,h4⟩
 · exact Or.inl h
 · exact Or.inr ⟨b,cur,h1,rowL h2 hb,h3,fun j hj=>(h4 j hj).later hb⟩
theorem heldTabs(g c z:Nat)(A:List Tb)(Z:Int)(hZ:Z=(z:Int))(w:World)(h:MTb w g A z)(hz0:0<z)(hz:zT A z A.length<9000000000000000000)(hn:A.length<=1048576)(hl:∀ t∈A,t.L.length<=1048576) :
 Calls Tryz.prog 61 #[.slice (some ⟨g,0,none⟩) A.length c,.int .i64 Z] w fun e w'=>∃ K:Int,e=.returned (.int .i64 K)/\Hid (K=((zT A z A.length:Nat):Int))/\Below w.heap.size w w':=by
 have hb0:=Below.refl w.heap.size w;obtain⟨cur,hg,hall⟩:=h;have HALL:Hid (∀ i,i<A.length->cur[i * 3]?=some (.string (mtx (zT A z i)))/\cur[i * 3+1]?=some (.slice (some ⟨(A.getD i b0).bc,0,none⟩) (A.getD i b0).n (A.getD i b0).cc)/\cur[i * 3+2]?=some (.slice (A.getD i b0).ar (A.getD i b0).L.length (A.getD i b0).cr)/\MC w (some ⟨(A.getD i b0).bc,0,none⟩) (A.getD i b0).n (zT A z i+1)/\MRw w (A.getD i b0) (zT A z i+1+2 * (A.getD i b0).n)):=hall;have HZ:Hid (Z=(z:Int)):=hZ;clear hall hZ;go_enter Tryz.func61,Tryz.ntmps61
 go_wp2;go_loopw [1,5] (fun k i wr=>∃ (j:Nat) (K:Int),k=.int .i64 K/\K=((zT A z j:Nat):Int)/\j<=A.length/\i=.int .i64 j/\Below w.heap.size w wr) (fun _ i _=>A.length - (intOf i).toNat)
 case atStart=>exact⟨0,_,rfl,HZ.out,by omega,rfl,hb0⟩
 case round=>
  obtain⟨j,K,rfl,hK,hj,rfl,hb⟩:=hrel;have HK:Hid (K=((zT A z j:Nat):Int)):=hK;clear hK;by_cases hlt:j<A.length
  ·
   have hjn:(j:Int)<(A.length:Int):=by omega
   obtain⟨r0,r1,r2,hMC,hMR⟩:=HALL.out j hlt;have HN:Hid (zT A z (j+1)=zT A z j+1+2 * (A.getD j b0).n+3 * rM (A.getD j b0)):=rfl;have hzj:z<=zT A z j:=zT_mono A z (Nat.zero_le j);have hzn:zT A z (j+1)<=zT A z A.length:=zT_mono A z (by omega);have hll:=hl _ (getD_mem (y:=b0) hlt);generalize A.getD j b0=t at r1 r2 hMC hMR HN hll;obtain⟨y0,hy0⟩:∃ y,mtx (zT A z j)=y:=⟨_,rfl⟩;have HY0:Hid (mtx (zT A z j)=y0):=hy0;rw [hy0] at r0;rw [HN.out] at hzn;generalize zT A z j=zj at HK HN hMC hMR hzj hzn HY0;have hK0:0<K:=by have:=HK.out;omega
   have hK1:K<9000000000000000000:=by have:=HK.out;omega
   have c0:=keepB hb ((cell_of_row _ _ (j * 3) _ _ _ hg).trans r0);have c1:=keepB hb ((cell_of_row _ _ (j * 3+1) _ _ _ hg).trans r1);have c2:=keepB hb ((cell_of_row _ _ (j * 3+2) _ _ _ hg).trans r2);clear hy0 r0 r1 r2;have e0:=eqS_same y0;go_upto_region 4 with (fail)
   refine wp_region_held_drew (S:=fun x=>Below wr.heap.size wr x) (by kernel_rfl) (bdrV _) (fun jH=>?_);refine tk 0 (⟨some 12,.move (.tmp 0),36,"exact.go:799",#[],none⟩:Oper) (fun x jS=>by go_simp<;>rfl) jH ?_
   try simp only [zS]
   refine tk 1 (⟨some 13,.move (.tmp 5),3,"exact.go:799",#[],none⟩:Oper) (fun x jS=>by go_simp<;>rfl) jH ?_
   try simp only [zS]
   refine tk 2 (⟨some 14,.indexAddr 36 (.tmp 12) (.tmp 13),0,"exact.go:799",#[⟨0,.data⟩,⟨1,.data⟩],none⟩:Oper) (fun x jS=>by go_simp<;>rfl) jH ?_
   try simp only [zS]
   refine tk 3 (⟨some 15,.fieldAddr 62 (.tmp 14) 0,0,"exact.go:799",#[⟨2,.data⟩],none⟩:Oper) (fun x jS=>by go_simp<;>rfl) jH ?_
   try simp only [zS]
   refine tk 4 (⟨some 16,.load 9 (.tmp 15),9,"exact.go:799",#[⟨3,.data⟩],none⟩:Oper) (fun x jS=>by have k0:=keepB jS c0;have k1:=keepB jS c1;have k2:=keepB jS c2;go_simp<;>rfl) jH ?_
   try simp only [zS]
   refine tk 5 (⟨some 17,.move (.tmp 1),3,"exact.go:799",#[],none⟩:Oper) (fun x jS=>by go_simp<;>rfl) jH ?_
   try simp only [zS]
   refine rd 6 (⟨some 18,.call ⟨.value (.func 96),#[.tmp 17],#[3]⟩,9,"exact.go:799",#[⟨5,.data⟩],none⟩:Oper) (fun K hK=>?_);go_simp;refine(markText_as zj _ _ (by have:=HK.out;omega) (by omega) (by omega) y0 HY0.out).mono ?_;rintro e w2 ⟨rfl,hb2⟩;refine hK.out _ _ (bstep jH hb2) (fun jH=>?_);clear hK K;try simp only [zS]
   refine tk 7 (⟨some 19,.binOp .neq 9 (.tmp 16) (.tmp 18) 9,4,"exact.go:799",#[⟨4,.data⟩,⟨6,.data⟩],none⟩:Oper) (fun x jS=>by go_simp<;>rfl) jH ?_
   try simp only [zS]
   refine wpAnyH_done (by kernel_rfl) ?_ _;have k0:=keepB jH c0;have k1:=keepB jH c1;have k2:=keepB jH c2;have hbw:=bstep hb jH;go_wp2_with (first | (go_at_call 111;refine(heldClA _ t.n _ (zj+1) _ (by have:=HK.out;omega) _ (hMC.later hbw) (by omega) (by omega)).mono ?_;rintro e w3 ⟨K3,rfl,HK3,hb3⟩;have hk3:¬K3<0:=(by have:=HK3.out;omega);have l2:=keepB hb3 k2) | (go_at_call 17;refine(heldRw t _ (zj+1+2 * t.n) _ (by have:=HK3.out;omega) _ (hMR.later (bstep hbw hb3)) (by omega) (by omega) hll).mono ?_;rintro e w4 ⟨K4,rfl,HK4,hb4⟩;have hk4:¬K4<0:=(by have:=HK4.out;omega)) | go_in)
   go_roundw
   case rel=>exact⟨j+1,_,rfl,by rw [HN.out];exact HK4.out,by omega,by go_num,bstep (bstep hbw hb3) hb4⟩
   case measure=>simp [intOf];omega
  ·
   obtain rfl:j=A.length:=by omega
   go_wp2;go_ret
   exact⟨_,rfl,HK.out,hb⟩
set_option maxRecDepth 20000
set_option maxHeartbeats 4000000
theorem heldDbA(g c z:Nat)(A:List Tb)(Z:Int)(hZ:Z=(z:Int))(w:World)(h:MTb w g A z)(hz0:0<z)(hz:zT A z A.length<9000000000000000000)(hn:A.length<=1048576)(hl:∀ t∈A,t.L.length<=1048576) :
 Calls Tryz.prog 20 #[.agg #[.slice (some ⟨g,0,none⟩) A.length c],.int .i64 Z] w fun e w'=>∃ K:Int,e=.returned (.int .i64 K)/\Hid (K=((zT A z A.length:Nat):Int))/\Below w.heap.size w w':=by
 have hb0:=bal w (.cells #[.slice (some ⟨g,0,none⟩) A.length c] 38);have hq0:=heap_alloc_new w (.cells #[.slice (some ⟨g,0,none⟩) A.length c] 38);obtain⟨p0,-⟩:=box1 hq0;have hM:MTb (w.alloc (.cells #[.slice (some ⟨g,0,none⟩) A.length c] 38)) g A z:=by
  obtain⟨cur,h1,h2⟩:=h;exact⟨cur,rowL h1 hb0,fun i hi=>⟨(h2 i hi).1,(h2 i hi).2.1,(h2 i hi).2.2.1,(h2 i hi).2.2.2.1.later hb0,(h2 i hi).2.2.2.2.later hb0⟩⟩
 have HT:=heldTabs g c z A Z hZ _ hM hz0 hz hn hl;have HZ:Hid (zT A z 0<=zT A z A.length):=zT_mono A z (Nat.zero_le _);clear hZ hM h;go_enter Tryz.func20,Tryz.ntmps20
 go_wp2_with (first | (go_at_call 61;refine HT.mono ?_;rintro e w1 ⟨K,rfl,HK,hb1⟩;have hk:¬K<0:=(by have:=HK.out;omega)) | go_in)
 go_ret
 exact⟨_,rfl,HK.out,bstep hb0 hb1⟩
structure Fr(X:Nat->Prop)(w w':World):Prop where
 os:w'.os=w.os
 tape:w'.tape=w.tape
 output:w'.output=w.output
 size:w.heap.size<=w'.heap.size
 block:∀ q,q<w.heap.size->¬X q->w'.heap[q]?=w.heap[q]?
theorem Fr.refl(X:Nat->Prop)(w:World):Fr X w w:=⟨rfl,rfl,rfl,Nat.le_refl _,fun _ _ _=>rfl⟩
theorem Fr.trans{X:Nat->Prop}{a b c:World}(h:Fr X a b)(k:Fr X b c):Fr X a c:=⟨k.os.trans h.os,k.tape.trans h.tape,k.output.trans h.output,Nat.le_trans h.size k.size,fun q hq hx=>(k.block q (Nat.lt_of_lt_of_le hq h.size) hx).trans (h.block q hq hx)⟩
theorem Fr.wide{X Y:Nat->Prop}{w w':World}(h:Fr X w w')(k:∀ q,X q->Y q):Fr Y w w':=⟨h.os,h.tape,h.output,h.size,fun q hq hy=>h.block q hq (fun z=>hy (k q z))⟩
theorem Fr.row{X:Nat->Prop}{w w':World}(h:Fr X w w'){q:Nat}{o:Obj}(hq:w.heap[q]?=some o)(hx:¬X q):w'.heap[q]?=some o:=(h.block q (Array.getElem?_eq_some_iff.1 hq).1 hx).trans hq
theorem Fr.below{X:Nat->Prop}{w w':World}(h:Below w.heap.size w w'):Fr X w w':=⟨h.os,h.tape,h.output,h.size,fun q hq _=>h.block q hq⟩
theorem Fr.grown{X:Nat->Prop}{w w':World}{r:Option Nat}(h:w.grownBy w' r)(hx:∀ q,r=some q->X q):Fr X w w':=⟨h.os,h.tape,h.output,h.size,fun q hq hn=>h.block q hq (fun e=>hn (hx q e.symm))⟩
theorem Fr.to{lo:Nat}{X:Nat->Prop}{w w':World}(h:Fr X w w')(hx:∀ q,X q->lo<=q)(hl:lo<=w.heap.size):Below lo w w':=⟨h.os,h.tape,h.output,h.size,fun q hq=>h.block q (Nat.lt_of_lt_of_le hq hl) (fun z=>by have:=hx q z;omega)⟩
structure TbS(w:World)(t:Tb):Prop where
 col:∃ cur,w.heap[t.bc]?=some (.cells cur 113 (0,0))/\t.n * 2<=cur.size
 ros:∀ r∈t.L,∃ cur,w.heap[r.b]?=some (.cells cur 66 (0,0))/\r.x.1 * 3<=cur.size
 row:t.L.length=0∨∃ b cur,t.br=some b/\w.heap[b]?=some (.cells cur 41 (0,0))/\∀ j,j<t.L.length->cur[j]?=some (t.L.getD j o0).v
theorem TbAt.st{w:World}{t:Tb}(h:TbAt w t):TbS w t:=⟨h.col,fun r hr=>(h.ros r hr).1,h.row⟩
theorem TbS.fr{X:Nat->Prop}{w w':World}{t:Tb}(h:TbS w t)(k:Fr X w w')(hx:∀ b∈t.bl,¬X b):TbS w' t:=by
 obtain⟨⟨cur,h1,h2⟩,h3,h4⟩:=h;refine⟨⟨cur,k.row h1 (hx _ List.mem_cons_self),h2⟩,fun r hr=>?_,?_⟩
 · obtain⟨cu,a1,a2⟩:=h3 r hr;exact⟨cu,k.row a1 (hx _ (List.mem_cons_of_mem _ (List.mem_append_right _ (List.mem_map_of_mem hr)))),a2⟩
 ·
  rcases h4 with z | ⟨b,cu,e,a1,a2⟩
  · exact Or.inl z
  · exact Or.inr ⟨b,cu,e,k.row a1 (hx _ (List.mem_cons_of_mem _ (List.mem_append_left _ (by rw [e];simp)))),a2⟩
theorem M3.fr{X:Nat->Prop}{w w':World}{ty:TypeId}{b n z:Nat}(h:M3 w ty (some ⟨b,0,none⟩) n z)(k:Fr X w w')(hx:¬X b):M3 w' ty (some ⟨b,0,none⟩) n z:=by
 rcases h with h | ⟨g,cur,e,h1,h2⟩
 · exact Or.inl h
 · injection e with e;injection e with e;subst e;exact Or.inr ⟨b,cur,rfl,k.row h1 hx,h2⟩
theorem MC.fr{X:Nat->Prop}{w w':World}{b n z:Nat}(h:MC w (some ⟨b,0,none⟩) n z)(k:Fr X w w')(hx:¬X b):MC w' (some ⟨b,0,none⟩) n z:=by
 rcases h with h | ⟨g,cur,e,h1,h2⟩
 · exact Or.inl h
 · injection e with e;injection e with e;subst e;exact Or.inr ⟨b,cur,rfl,k.row h1 hx,h2⟩
theorem MRw.fr{X:Nat->Prop}{w w':World}{t:Tb}{z:Nat}(h:MRw w t z)(k:Fr X w w')(hx:∀ b∈t.bl,¬X b):MRw w' t z:=by
 rcases h with h | ⟨b,cur,h1,h2,h3,h4⟩
 · exact Or.inl h
 · exact Or.inr ⟨b,cur,h1,k.row h2 (hx _ (List.mem_cons_of_mem _ (List.mem_append_left _ (by rw [h1];simp)))),h3,fun j hj=>(h4 j hj).fr k (hx _ (List.mem_cons_of_mem _ (List.mem_append_right _ (List.mem_map_of_mem (getD_memR hj)))))⟩
theorem markRw(t:Tb)(c z:Nat)(Z:Int)(hZ:Z=(z:Int))(w:World)(hros:∀ r∈t.L,∃ cur,w.heap[r.b]?=some (.cells cur 66 (0,0))/\r.x.1 * 3<=cur.size)(hrow:t.L.length=0∨∃ b cur,t.br=some b/\w.heap[b]?=some (.cells cur 41 (0,0))/\∀ j,j<t.L.length->cur[j]?=some (t.L.getD j o0).v)(hnd:t.bl.Nodup)(hz0:0<z)(hz:z+3 * rM t<9000000000000000000)(hn:t.L.length<=1048576) :
 Calls Tryz.prog 16 #[.slice t.ar t.L.length c,.int .i64 Z] w fun e w'=>∃ K:Int,e=.returned (.int .i64 K)/\Hid (K=((z+3 * rM t:Nat):Int))/\MRw w' t z/\Fr (fun q=>q∈t.L.map Ro.b) w w':=by
 rcases hrow with h0 | ⟨b,cur,h1,h2,h3⟩
 ·
  have e:rM t=0:=by unfold rM;rw [h0];rfl
  rw [h0,e];exact(markVss0 t.ar c Z w).mono (fun e w' ⟨h1,h2⟩=>⟨_,h1,by show Z=_;rw [hZ];simp,Or.inl h0,by rw [h2];exact Fr.refl _ _⟩)
 ·
  have e:t.ar=some ⟨b,0,none⟩:=by unfold Tb.ar;rw [h1];rfl
  have hb:=List.nodup_cons.1 hnd;rw [h1] at hb;have hb2:=List.nodup_append.1 hb.2;have hpos:∀ i,i<t.L.length->bk (some (⟨(t.L.getD i o0).b,0,none⟩:Addr)) (t.L.getD i o0).x.1=none∨bk (some (⟨(t.L.getD i o0).b,0,none⟩:Addr)) (t.L.getD i o0).x.1=some (t.L.getD i o0).b:=fun i _=>by
   unfold bk;split
   · exact Or.inl rfl
   · exact Or.inr rfl
  rw [e];refine(markVss 0 w.heap.size b t.L.length c z Z hZ cur (fun i=>some ⟨(t.L.getD i o0).b,0,none⟩) (fun i=>(t.L.getD i o0).c) (fun i=>(t.L.getD i o0).x.1) w h2 h3 (fun i hi=>?_) (fun i hi=>?_) (fun i k hk hi=>?_) hz0 hz hn).mono (fun e w' hh=>?_)
  · obtain⟨cu,a1,a2⟩:=hros _ (getD_memR hi);exact Or.inr ⟨_,cu,rfl,Nat.zero_le _,(Array.getElem?_eq_some_iff.1 a1).1,a1,a2⟩
  ·
   have hmem:(t.L.getD i o0).b∈t.L.map Ro.b:=List.mem_map_of_mem (getD_memR hi);rcases hpos i hi with z | z
   · rw [z];simp
   · rw [z];intro e;have e2:=Option.some.inj e;exact hb2.2.2 b (by simp) _ hmem e2.symm
  ·
   rcases hpos i hi with z | z
   · exact Or.inl z
   ·
    refine Or.inr ?_;rw [z];intro e;rcases hpos k (by omega) with y | y
    · rw [y] at e;cases e
    ·
     rw [y] at e;have e2:=Option.some.inj e;have hpw:=List.pairwise_iff_getElem.1 hb2.2.1 k i (by simp;omega) (by simpa using hi) hk;simp [show k<t.L.length by omega,hi] at hpw e2
     exact hpw e2.symm
  ·
   obtain⟨K,q1,q2,q3,q4,q5⟩:=hh;refine⟨K,q1,q2,Or.inr ⟨b,cur,h1,q3,h3,q4⟩,⟨q5.os,q5.tape,q5.output,q5.size,fun q hq hx=>q5.block q hq (fun i hi e=>?_)⟩⟩;rcases hpos i hi with z | z
   · rw [z] at e;cases e
   · rw [z] at e;exact hx (by rw [←Option.some.inj e];exact List.mem_map_of_mem (getD_memR hi))
end Go.Proofs.YtgeiamgeclbiaaaGreatDoor
