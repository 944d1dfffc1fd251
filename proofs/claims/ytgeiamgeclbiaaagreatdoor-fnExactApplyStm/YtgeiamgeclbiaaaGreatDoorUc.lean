import Derived.Test.YtgeiamgeclbiaaaGreatDoorUa
namespace Go.Proofs.YtgeiamgeclbiaaaGreatDoor
open Go.RowKit Go.Maps Go.WideMaps
set_option maxRecDepth 20000
set_option maxHeartbeats 8000000
def appI(o:Int)(x y:Itm):Itm:=
 if o=11 then tru (decide (x.m=0))
 else if o=13 then ⟨1,(x.s.size:Int),⟨#[]⟩⟩
 else if o=4 then ⟨1,wrap64 (x.m+y.m),⟨#[]⟩⟩
 else if o=5 then ⟨1,wrap64 (x.m - y.m),⟨#[]⟩⟩
 else if o=6 then ⟨1,wrap64 (x.m * y.m),⟨#[]⟩⟩
 else if o=7 then tru (decide (cmpV x.m x.s y.m y.s=0))
 else if o=8 then tru (decide (cmpV x.m x.s y.m y.s<0))
 else if o=9 then tru (!decide (x.m=0) && !decide (y.m=0))
 else if o=10 then tru (!decide (x.m=0) || !decide (y.m=0))
 else ⟨2,0,x.s ++ y.s⟩
theorem row3{W:World}{R:Nat}{X:Array Value}(h:W.heap[R]?=some (.cells X 66 (0,0)))(v0 v1 v2:Value):(((W.setCell ⟨R,0,none⟩ v0).setCell ⟨R,1,none⟩ v1).setCell ⟨R,2,none⟩ v2).heap[R]?=some (.cells (((X.setIfInBounds 0 v0).setIfInBounds 1 v1).setIfInBounds 2 v2) 66 (0,0)):=
 heap_setCell_same _ _ 2 _ _ v2 (heap_setCell_same _ _ 1 _ _ v1 (heap_setCell_same _ _ 0 _ _ v0 h))
theorem bset3{w W:World}{R:Nat}(hb:Below w.heap.size w W)(h:w.heap.size<=R)(v0 v1 v2:Value):Below w.heap.size w (((W.setCell ⟨R,0,none⟩ v0).setCell ⟨R,1,none⟩ v1).setCell ⟨R,2,none⟩ v2):=bset (bset (bset hb h) h) h
theorem sApp13(a:Option Addr)(m c:Nat)(I:Nat->Itm)(w:World)(h:IL w a m I)(hm:1<=m)(hm2:m<=1048576) :
 Calls Tryz.prog 68 #[.int .i64 13,.slice a m c] w fun e w'=>e=.returned (.agg #[.int .i64 1,.int .i64 ((I 0).s.size:Int),.string ⟨#[]⟩])/\Below w.heap.size w w':=by
 have i0:(0:Int)<m:=by omega
 obtain⟨b,off,rfl,c0,c1,c2,hs⟩:=h.later (bal w (.cells #[.int .i64 0,.int .i64 0,.string ⟨#[]⟩] 66)) 0 (by omega);simp only [Nat.zero_mul,Nat.add_zero] at c0 c1 c2
 go_enter Tryz.func68,Tryz.ntmps68
 go_wp2;exact bodyPost_ret (v:=.agg #[.int .i64 1,.int .i64 ((I 0).s.size:Int),.string ⟨#[]⟩]) (by simp [results,Tryz.results68,go_sem]) rfl ⟨rfl,by first | exact bstep (bal _ _) (bal _ _) | exact below3 _ _ _ _⟩
theorem sApp4(a:Option Addr)(m c:Nat)(I:Nat->Itm)(w:World)(h:IL w a m I)(hm:2<=m)(hm2:m<=1048576) :
 Calls Tryz.prog 68 #[.int .i64 4,.slice a m c] w fun e w'=>e=.returned (.agg #[.int .i64 1,.int .i64 (wrap64 ((I 0).m+(I 1).m)),.string ⟨#[]⟩])/\Below w.heap.size w w':=by
 have i0:(0:Int)<m:=by omega
 have i1:(1:Int)<m:=by omega
 obtain⟨b,off,rfl,c0,c1,c2,hs⟩:=h.later (bal w (.cells #[.int .i64 0,.int .i64 0,.string ⟨#[]⟩] 66)) 0 (by omega);simp only [Nat.zero_mul,Nat.add_zero] at c0 c1 c2
 obtain⟨b',off',e',d0,d1,d2,hs'⟩:=h.later (w':=((w.alloc (.cells #[.int .i64 0,.int .i64 0,.string ⟨#[]⟩] 66)).alloc (.cells #[.int .i64 (I 0).o,.int .i64 (I 0).m,.string (I 0).s] 66))) (bstep (bal _ _) (bal _ _)) 1 (by omega);simp only [Nat.one_mul] at d0 d1 d2
 obtain⟨rfl,rfl⟩:b=b'/\off=off':=by simpa using e'
 clear e';go_enter Tryz.func68,Tryz.ntmps68
 go_wp2;exact bodyPost_ret (v:=.agg #[.int .i64 1,.int .i64 (wrap64 ((I 0).m+(I 1).m)),.string ⟨#[]⟩]) (by simp [results,Tryz.results68,go_sem]) rfl ⟨rfl,by first | exact bstep (bal _ _) (bal _ _) | exact below3 _ _ _ _⟩
theorem sApp5(a:Option Addr)(m c:Nat)(I:Nat->Itm)(w:World)(h:IL w a m I)(hm:2<=m)(hm2:m<=1048576) :
 Calls Tryz.prog 68 #[.int .i64 5,.slice a m c] w fun e w'=>e=.returned (.agg #[.int .i64 1,.int .i64 (wrap64 ((I 0).m - (I 1).m)),.string ⟨#[]⟩])/\Below w.heap.size w w':=by
 have i0:(0:Int)<m:=by omega
 have i1:(1:Int)<m:=by omega
 obtain⟨b,off,rfl,c0,c1,c2,hs⟩:=h.later (bal w (.cells #[.int .i64 0,.int .i64 0,.string ⟨#[]⟩] 66)) 0 (by omega);simp only [Nat.zero_mul,Nat.add_zero] at c0 c1 c2
 obtain⟨b',off',e',d0,d1,d2,hs'⟩:=h.later (w':=((w.alloc (.cells #[.int .i64 0,.int .i64 0,.string ⟨#[]⟩] 66)).alloc (.cells #[.int .i64 (I 0).o,.int .i64 (I 0).m,.string (I 0).s] 66))) (bstep (bal _ _) (bal _ _)) 1 (by omega);simp only [Nat.one_mul] at d0 d1 d2
 obtain⟨rfl,rfl⟩:b=b'/\off=off':=by simpa using e'
 clear e';go_enter Tryz.func68,Tryz.ntmps68
 go_wp2;exact bodyPost_ret (v:=.agg #[.int .i64 1,.int .i64 (wrap64 ((I 0).m - (I 1).m)),.string ⟨#[]⟩]) (by simp [results,Tryz.results68,go_sem]) rfl ⟨rfl,by first | exact bstep (bal _ _) (bal _ _) | exact below3 _ _ _ _⟩
theorem sApp6(a:Option Addr)(m c:Nat)(I:Nat->Itm)(w:World)(h:IL w a m I)(hm:2<=m)(hm2:m<=1048576) :
 Calls Tryz.prog 68 #[.int .i64 6,.slice a m c] w fun e w'=>e=.returned (.agg #[.int .i64 1,.int .i64 (wrap64 ((I 0).m * (I 1).m)),.string ⟨#[]⟩])/\Below w.heap.size w w':=by
 have i0:(0:Int)<m:=by omega
 have i1:(1:Int)<m:=by omega
 obtain⟨b,off,rfl,c0,c1,c2,hs⟩:=h.later (bal w (.cells #[.int .i64 0,.int .i64 0,.string ⟨#[]⟩] 66)) 0 (by omega);simp only [Nat.zero_mul,Nat.add_zero] at c0 c1 c2
 obtain⟨b',off',e',d0,d1,d2,hs'⟩:=h.later (w':=((w.alloc (.cells #[.int .i64 0,.int .i64 0,.string ⟨#[]⟩] 66)).alloc (.cells #[.int .i64 (I 0).o,.int .i64 (I 0).m,.string (I 0).s] 66))) (bstep (bal _ _) (bal _ _)) 1 (by omega);simp only [Nat.one_mul] at d0 d1 d2
 obtain⟨rfl,rfl⟩:b=b'/\off=off':=by simpa using e'
 clear e';go_enter Tryz.func68,Tryz.ntmps68
 go_wp2;exact bodyPost_ret (v:=.agg #[.int .i64 1,.int .i64 (wrap64 ((I 0).m * (I 1).m)),.string ⟨#[]⟩]) (by simp [results,Tryz.results68,go_sem]) rfl ⟨rfl,by first | exact bstep (bal _ _) (bal _ _) | exact below3 _ _ _ _⟩
theorem sApp12(a:Option Addr)(m c:Nat)(I:Nat->Itm)(w:World)(h:IL w a m I)(hm:2<=m)(hm2:m<=1048576) :
 Calls Tryz.prog 68 #[.int .i64 12,.slice a m c] w fun e w'=>e=.returned (.agg #[.int .i64 2,.int .i64 0,.string ((I 0).s ++ (I 1).s)])/\Below w.heap.size w w':=by
 have i0:(0:Int)<m:=by omega
 have i1:(1:Int)<m:=by omega
 obtain⟨b,off,rfl,c0,c1,c2,hs⟩:=h.later (bal w (.cells #[.int .i64 0,.int .i64 0,.string ⟨#[]⟩] 66)) 0 (by omega);simp only [Nat.zero_mul,Nat.add_zero] at c0 c1 c2
 obtain⟨b',off',e',d0,d1,d2,hs'⟩:=h.later (w':=((w.alloc (.cells #[.int .i64 0,.int .i64 0,.string ⟨#[]⟩] 66)).alloc (.cells #[.int .i64 (I 0).o,.int .i64 (I 0).m,.string (I 0).s] 66))) (bstep (bal _ _) (bal _ _)) 1 (by omega);simp only [Nat.one_mul] at d0 d1 d2
 obtain⟨rfl,rfl⟩:b=b'/\off=off':=by simpa using e'
 clear e';go_enter Tryz.func68,Tryz.ntmps68
 go_wp2;exact bodyPost_ret (v:=.agg #[.int .i64 2,.int .i64 0,.string ((I 0).s ++ (I 1).s)]) (by simp [results,Tryz.results68,go_sem]) rfl ⟨rfl,by first | exact bstep (bal _ _) (bal _ _) | exact below3 _ _ _ _⟩
theorem sApp11(a:Option Addr)(m c:Nat)(I:Nat->Itm)(w:World)(h:IL w a m I)(hm:1<=m)(hm2:m<=1048576) :
 Calls Tryz.prog 68 #[.int .i64 11,.slice a m c] w fun e w'=>e=.returned (.agg #[.int .i64 1,.int .i64 (tvI (decide ((I 0).m=0))),.string ⟨#[]⟩])/\Below w.heap.size w w':=by
 have i0:(0:Int)<m:=by omega
 obtain⟨b,off,rfl,c0,c1,c2,hs⟩:=h.later (bal w (.cells #[.int .i64 0,.int .i64 0,.string ⟨#[]⟩] 66)) 0 (by omega);simp only [Nat.zero_mul,Nat.add_zero] at c0 c1 c2
 have hb0:Below w.heap.size w ((w.alloc (.cells #[.int .i64 0,.int .i64 0,.string ⟨#[]⟩] 66)).alloc (.cells #[.int .i64 (I 0).o,.int .i64 (I 0).m,.string (I 0).s] 66)):=bstep (bal _ _) (bal _ _);have HR0:Hid (((w.alloc (.cells #[.int .i64 0,.int .i64 0,.string ⟨#[]⟩] 66)).alloc (.cells #[.int .i64 (I 0).o,.int .i64 (I 0).m,.string (I 0).s] 66)).heap[w.heap.size]?=some (.cells #[.int .i64 0,.int .i64 0,.string ⟨#[]⟩] 66 (0,0))):=rowL (heap_alloc_new w _) (bal _ _);go_enter Tryz.func68,Tryz.ntmps68
 go_wp2_with (first | (go_at_call 113;refine(sTruth ((decide ((I 0).m=0))) _).mono ?_;rintro e w2 ⟨rfl,hb2⟩;have HR2:=rowL HR0.out hb2;have r0:w2.cell? ⟨w.heap.size,0,none⟩=some (.int .i64 0):=(cell_of_row _ _ 0 _ _ _ HR2).trans rfl;have rf0:w2.frozen? ⟨w.heap.size,0,none⟩=false:=frozen_of_row _ _ 0 _ _ HR2;have r1:w2.cell? ⟨w.heap.size,1,none⟩=some (.int .i64 0):=(cell_of_row _ _ 1 _ _ _ HR2).trans rfl;have rf1:w2.frozen? ⟨w.heap.size,1,none⟩=false:=frozen_of_row _ _ 1 _ _ HR2;have r2:w2.cell? ⟨w.heap.size,2,none⟩=some (.string ⟨#[]⟩):=(cell_of_row _ _ 2 _ _ _ HR2).trans rfl;have rf2:w2.frozen? ⟨w.heap.size,2,none⟩=false:=frozen_of_row _ _ 2 _ _ HR2;have B2:=bstep hb0 hb2))
 exact bodyPost_ret (v:=.agg #[.int .i64 1,.int .i64 (tvI (decide ((I 0).m=0))),.string ⟨#[]⟩]) (results_cell_row Tryz.results68 _ _ w.heap.size 66 _ (0,0) _ rfl (row3 HR2 _ _ _) Tryz.underlying66 rfl (by kernel_rfl)) rfl ⟨rfl,bset3 B2 (Nat.le_refl _) _ _ _⟩
theorem sApp7(a:Option Addr)(m c:Nat)(I:Nat->Itm)(w:World)(h:IL w a m I)(hm:2<=m)(hm2:m<=1048576) :
 Calls Tryz.prog 68 #[.int .i64 7,.slice a m c] w fun e w'=>e=.returned (.agg #[.int .i64 1,.int .i64 (tvI (decide (cmpV (I 0).m (I 0).s (I 1).m (I 1).s=0))),.string ⟨#[]⟩])/\Below w.heap.size w w':=by
 have i0:(0:Int)<m:=by omega
 have i1:(1:Int)<m:=by omega
 obtain⟨b,off,rfl,c0,c1,c2,hs⟩:=h.later (bal w (.cells #[.int .i64 0,.int .i64 0,.string ⟨#[]⟩] 66)) 0 (by omega);simp only [Nat.zero_mul,Nat.add_zero] at c0 c1 c2
 obtain⟨b',off',e',d0,d1,d2,hs'⟩:=h.later (w':=((w.alloc (.cells #[.int .i64 0,.int .i64 0,.string ⟨#[]⟩] 66)).alloc (.cells #[.int .i64 (I 0).o,.int .i64 (I 0).m,.string (I 0).s] 66))) (bstep (bal _ _) (bal _ _)) 1 (by omega);simp only [Nat.one_mul] at d0 d1 d2
 obtain⟨rfl,rfl⟩:b=b'/\off=off':=by simpa using e'
 clear e';have hb0:Below w.heap.size w (((w.alloc (.cells #[.int .i64 0,.int .i64 0,.string ⟨#[]⟩] 66)).alloc (.cells #[.int .i64 (I 0).o,.int .i64 (I 0).m,.string (I 0).s] 66)).alloc (.cells #[.int .i64 (I 1).o,.int .i64 (I 1).m,.string (I 1).s] 66)):=below3 _ _ _ _;have HR0:Hid ((((w.alloc (.cells #[.int .i64 0,.int .i64 0,.string ⟨#[]⟩] 66)).alloc (.cells #[.int .i64 (I 0).o,.int .i64 (I 0).m,.string (I 0).s] 66)).alloc (.cells #[.int .i64 (I 1).o,.int .i64 (I 1).m,.string (I 1).s] 66)).heap[w.heap.size]?=some (.cells #[.int .i64 0,.int .i64 0,.string ⟨#[]⟩] 66 (0,0))):=rowL (rowL (heap_alloc_new w _) (bal _ _)) (bal _ _);go_enter Tryz.func68,Tryz.ntmps68
 go_wp2_with (first | (go_at_call 106;refine(sCompare2 (I 0).o (I 0).m (I 0).s (I 1).o (I 1).m (I 1).s _).mono ?_;rintro e w1 ⟨rfl,hb1⟩) | (go_at_call 113;refine(sTruth ((decide (cmpV (I 0).m (I 0).s (I 1).m (I 1).s=0))) _).mono ?_;rintro e w2 ⟨rfl,hb2⟩;have HR2:=rowL (rowL HR0.out hb1) hb2;have r0:w2.cell? ⟨w.heap.size,0,none⟩=some (.int .i64 0):=(cell_of_row _ _ 0 _ _ _ HR2).trans rfl;have rf0:w2.frozen? ⟨w.heap.size,0,none⟩=false:=frozen_of_row _ _ 0 _ _ HR2;have r1:w2.cell? ⟨w.heap.size,1,none⟩=some (.int .i64 0):=(cell_of_row _ _ 1 _ _ _ HR2).trans rfl;have rf1:w2.frozen? ⟨w.heap.size,1,none⟩=false:=frozen_of_row _ _ 1 _ _ HR2;have r2:w2.cell? ⟨w.heap.size,2,none⟩=some (.string ⟨#[]⟩):=(cell_of_row _ _ 2 _ _ _ HR2).trans rfl;have rf2:w2.frozen? ⟨w.heap.size,2,none⟩=false:=frozen_of_row _ _ 2 _ _ HR2;have B2:=bstep (bstep hb0 hb1) hb2))
 exact bodyPost_ret (v:=.agg #[.int .i64 1,.int .i64 (tvI (decide (cmpV (I 0).m (I 0).s (I 1).m (I 1).s=0))),.string ⟨#[]⟩]) (results_cell_row Tryz.results68 _ _ w.heap.size 66 _ (0,0) _ rfl (row3 HR2 _ _ _) Tryz.underlying66 rfl (by kernel_rfl)) rfl ⟨rfl,bset3 B2 (Nat.le_refl _) _ _ _⟩
theorem sApp8(a:Option Addr)(m c:Nat)(I:Nat->Itm)(w:World)(h:IL w a m I)(hm:2<=m)(hm2:m<=1048576) :
 Calls Tryz.prog 68 #[.int .i64 8,.slice a m c] w fun e w'=>e=.returned (.agg #[.int .i64 1,.int .i64 (tvI (decide (cmpV (I 0).m (I 0).s (I 1).m (I 1).s<0))),.string ⟨#[]⟩])/\Below w.heap.size w w':=by
 have i0:(0:Int)<m:=by omega
 have i1:(1:Int)<m:=by omega
 obtain⟨b,off,rfl,c0,c1,c2,hs⟩:=h.later (bal w (.cells #[.int .i64 0,.int .i64 0,.string ⟨#[]⟩] 66)) 0 (by omega);simp only [Nat.zero_mul,Nat.add_zero] at c0 c1 c2
 obtain⟨b',off',e',d0,d1,d2,hs'⟩:=h.later (w':=((w.alloc (.cells #[.int .i64 0,.int .i64 0,.string ⟨#[]⟩] 66)).alloc (.cells #[.int .i64 (I 0).o,.int .i64 (I 0).m,.string (I 0).s] 66))) (bstep (bal _ _) (bal _ _)) 1 (by omega);simp only [Nat.one_mul] at d0 d1 d2
 obtain⟨rfl,rfl⟩:b=b'/\off=off':=by simpa using e'
 clear e';have hb0:Below w.heap.size w (((w.alloc (.cells #[.int .i64 0,.int .i64 0,.string ⟨#[]⟩] 66)).alloc (.cells #[.int .i64 (I 0).o,.int .i64 (I 0).m,.string (I 0).s] 66)).alloc (.cells #[.int .i64 (I 1).o,.int .i64 (I 1).m,.string (I 1).s] 66)):=below3 _ _ _ _;have HR0:Hid ((((w.alloc (.cells #[.int .i64 0,.int .i64 0,.string ⟨#[]⟩] 66)).alloc (.cells #[.int .i64 (I 0).o,.int .i64 (I 0).m,.string (I 0).s] 66)).alloc (.cells #[.int .i64 (I 1).o,.int .i64 (I 1).m,.string (I 1).s] 66)).heap[w.heap.size]?=some (.cells #[.int .i64 0,.int .i64 0,.string ⟨#[]⟩] 66 (0,0))):=rowL (rowL (heap_alloc_new w _) (bal _ _)) (bal _ _);go_enter Tryz.func68,Tryz.ntmps68
 go_wp2_with (first | (go_at_call 106;refine(sCompare2 (I 0).o (I 0).m (I 0).s (I 1).o (I 1).m (I 1).s _).mono ?_;rintro e w1 ⟨rfl,hb1⟩) | (go_at_call 113;refine(sTruth ((decide (cmpV (I 0).m (I 0).s (I 1).m (I 1).s<0))) _).mono ?_;rintro e w2 ⟨rfl,hb2⟩;have HR2:=rowL (rowL HR0.out hb1) hb2;have r0:w2.cell? ⟨w.heap.size,0,none⟩=some (.int .i64 0):=(cell_of_row _ _ 0 _ _ _ HR2).trans rfl;have rf0:w2.frozen? ⟨w.heap.size,0,none⟩=false:=frozen_of_row _ _ 0 _ _ HR2;have r1:w2.cell? ⟨w.heap.size,1,none⟩=some (.int .i64 0):=(cell_of_row _ _ 1 _ _ _ HR2).trans rfl;have rf1:w2.frozen? ⟨w.heap.size,1,none⟩=false:=frozen_of_row _ _ 1 _ _ HR2;have r2:w2.cell? ⟨w.heap.size,2,none⟩=some (.string ⟨#[]⟩):=(cell_of_row _ _ 2 _ _ _ HR2).trans rfl;have rf2:w2.frozen? ⟨w.heap.size,2,none⟩=false:=frozen_of_row _ _ 2 _ _ HR2;have B2:=bstep (bstep hb0 hb1) hb2))
 exact bodyPost_ret (v:=.agg #[.int .i64 1,.int .i64 (tvI (decide (cmpV (I 0).m (I 0).s (I 1).m (I 1).s<0))),.string ⟨#[]⟩]) (results_cell_row Tryz.results68 _ _ w.heap.size 66 _ (0,0) _ rfl (row3 HR2 _ _ _) Tryz.underlying66 rfl (by kernel_rfl)) rfl ⟨rfl,bset3 B2 (Nat.le_refl _) _ _ _⟩
def tyI(C:Nat->Clm)(n:Nat)(t:Itm)(a:List Int):Int×Int:=
 if t.o=2 then (2,0)
 else if t.o=3 then (match colI C t.s n with
  | some j=>((C j).t,0)
  | none=>(0,3))
 else if t.o=7∨t.o=8 then (if a.getD 0 0=a.getD 1 0 then (1,0) else (0,4))
 else if t.o=12 then (if a.getD 0 0=2/\a.getD 1 0=2 then (2,0) else (0,4))
 else if t.o=13 then (if a.getD 0 0=2 then (1,0) else (0,4))
 else (if a.all (fun x=>x == 1)=true then (1,0) else (0,4))
def arN(o:Int):Nat:=(arity o).toNat
theorem arN_eq(o:Int):((arN o:Nat):Int)=arity o:=by
 have:=arity_le o;unfold arN;omega
def stp(C:Nat->Clm)(n:Nat)(t:Itm)(st:List Int):Int×Int:=tyI C n t (st.drop (st.length - arN t.o))
def ck(C:Nat->Clm)(n:Nat)(I:Nat->Itm):Nat->List Int×Int
 | 0=>([],0)
 | k+1=>if (ck C n I k).2≠0 then ck C n I k
  else if (stp C n (I k) (ck C n I k).1).2≠0 then ((ck C n I k).1,(stp C n (I k) (ck C n I k).1).2)
  else ((ck C n I k).1.take ((ck C n I k).1.length - arN (I k).o) ++ [(stp C n (I k) (ck C n I k).1).1],0)
def ckR(C:Nat->Clm)(n:Nat)(I:Nat->Itm)(m:Nat):Int×Int:=if (ck C n I m).2≠0 then (0,(ck C n I m).2) else ((ck C n I m).1.getD 0 0,0)
theorem ck_fail{C:Nat->Clm}{n:Nat}{I:Nat->Itm}{k:Nat}(h:(ck C n I k).2≠0):∀ m,k<=m->ck C n I m=ck C n I k:=by
 intro m hm;induction m with
 | zero=>
  obtain rfl:k=0:=by omega
  rfl
 | succ m ih=>
  by_cases e:k=m+1
  · subst e;rfl
  · have e2:=ih (by omega);rw [ck,e2,if_pos h]
theorem ck_len{C:Nat->Clm}{n:Nat}{I:Nat->Itm}:∀ {k:Nat} {d:Int},ex I k=some d->(ck C n I k).2=0->(((ck C n I k).1.length:Nat):Int)=d:=by
 intro k;induction k with
 | zero=>intro d h _;simp [ex] at h;simp [ck,h]
 | succ k ih=>
  intro d h h0;rw [ex] at h;split at h
  · cases h
  ·
   rename_i x hx
   split at h
   ·
    rename_i hc
    cases h
    rw [ck] at h0 ⊢;split at h0
    ·
     rename_i hf
     exact absurd h0 hf
    ·
     rename_i hf
     rw [if_neg hf];split at h0
     ·
      rename_i hg
      exact absurd h0 hg
     ·
      rename_i hg
      rw [if_neg hg];have:=ih hx (by simpa using hf);have ha:=arN_eq (I k).o;have hl:=arity_le (I k).o;simp only [List.length_append,List.length_take,List.length_cons,List.length_nil]
      omega
   · cases h
def ints(L:List Int):List Value:=L.map (fun x=>.int .i64 x)
end Go.Proofs.YtgeiamgeclbiaaaGreatDoor
