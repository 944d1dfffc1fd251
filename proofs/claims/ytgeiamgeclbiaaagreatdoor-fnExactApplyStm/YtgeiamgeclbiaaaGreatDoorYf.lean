import Derived.Test.YtgeiamgeclbiaaaGreatDoorWh
import Derived.Test.YtgeiamgeclbiaaaGreatDoorWf
import Derived.Test.YtgeiamgeclbiaaaGreatDoorYa
namespace Go.Proofs.YtgeiamgeclbiaaaGreatDoor
open Go.RowKit Go.Maps Go.WideMaps
set_option maxRecDepth 20000
set_option maxHeartbeats 8000000
def cp(d:St)(g1 g2 g3 g4 g5:Nat):Sa:=⟨some ⟨g1,0,none⟩,d.n2,some ⟨g2,0,none⟩,d.n3,some ⟨g3,0,none⟩,d.n5,some ⟨g4,0,none⟩,d.n6,some ⟨g5,0,none⟩,d.n7⟩
theorem toStm'(d:St)(p:Sa)(w:World)(h:SM w d p):Calls Tryz.prog 9 #[.agg (cs8 d p)] w fun e w'=>∃ g1 g2 g3 g4 g5,e=.returned (.agg (cs8 d (cp d g1 g2 g3 g4 g5)))/\SM w' d (cp d g1 g2 g3 g4 g5)/\WR w' w.heap.size w'.heap.size 113 2 (some ⟨g1,0,none⟩) d.n2/\WR w' w.heap.size w'.heap.size 66 3 (some ⟨g2,0,none⟩) d.n3/\WR w' w.heap.size w'.heap.size 108 3 (some ⟨g3,0,none⟩) d.n5/\WR w' w.heap.size w'.heap.size 108 3 (some ⟨g4,0,none⟩) d.n6/\SR w' w.heap.size w'.heap.size 42 108 g5 d.n7 d.m7/\Below w.heap.size w w':=by
 have hR0:=R3.new w (cs8 d p) #[.int .i64 0,.string ⟨#[]⟩,.slice none 0 0,.slice none 0 0,.string ⟨#[]⟩,.slice none 0 0,.slice none 0 0,.slice none 0 0] #[.int .i64 d.k,.string d.tb,.slice none 0 0,.slice none 0 0,.string ⟨#[]⟩,.slice none 0 0,.slice none 0 0,.slice none 0 0];have hbW:Below w.heap.size w (((w.alloc (.cells (cs8 d p) 30)).alloc (.cells #[.int .i64 0,.string ⟨#[]⟩,.slice none 0 0,.slice none 0 0,.string ⟨#[]⟩,.slice none 0 0,.slice none 0 0,.slice none 0 0] 45)).alloc (.cells #[.int .i64 d.k,.string d.tb,.slice none 0 0,.slice none 0 0,.string ⟨#[]⟩,.slice none 0 0,.slice none 0 0,.slice none 0 0] 45)):=below3 _ _ _ _;have hW:(((w.alloc (.cells (cs8 d p) 30)).alloc (.cells #[.int .i64 0,.string ⟨#[]⟩,.slice none 0 0,.slice none 0 0,.string ⟨#[]⟩,.slice none 0 0,.slice none 0 0,.slice none 0 0] 45)).alloc (.cells #[.int .i64 d.k,.string d.tb,.slice none 0 0,.slice none 0 0,.string ⟨#[]⟩,.slice none 0 0,.slice none 0 0,.slice none 0 0] 45)).heap.size=w.heap.size+1+1+1:=by simp
 obtain⟨G,hG⟩:∃ G:Nat,G=w.heap.size+1+1+1:=⟨_,rfl⟩;go_enter Tryz.func9,Tryz.ntmps9
 go_wp2_with (first | (go_at_call 33;refine(toOuts' _ _ _ d.m7 d.O _ (h.later (bset B4 (by omega))).ou h.l7).mono ?_;rintro e w5 ⟨g5,hg5,rfl,hL5,hS5,hb5⟩;have r5:R3 w5 w.heap.size (cs8 d p) #[.int .i64 0,.string ⟨#[]⟩,.slice none 0 0,.slice none 0 0,.string ⟨#[]⟩,.slice none 0 0,.slice none 0 0,.slice none 0 0] #[.int .i64 d.k,.string d.tb,.slice (some ⟨g1,0,none⟩) d.n2 d.n2,.slice (some ⟨g2,0,none⟩) d.n3 d.n3,.string d.col,.slice (some ⟨g3,0,none⟩) d.n5 d.n5,.slice (some ⟨g4,0,none⟩) d.n6 d.n6,.slice none 0 0]:=(r4.set).later hb5;have B5:Below w.heap.size w w5:=bstep (bset B4 (by omega)) hb5;have s5:w4.heap.size<=w5.heap.size:=(by simpa using hb5.size);have hGs:G<=(w4.setCell ⟨w.heap.size+1+1,6,none⟩ (.slice (some ⟨g4,0,none⟩) d.n6 d.n6)).heap.size:=(by simp;omega);have hG5:G<=g5:=Nat.le_trans hGs hg5;have K5:Kp G w4 w5:=(Kp.set (by omega)).trans (Kp.of G hb5);have N5:KpG G w4 w5:=(KpG.set (by omega)).trans (KpG.of G hb5);have x5_0:w5.cell? ⟨w.heap.size+1+1,0,none⟩=some (.int .i64 d.k):=(cell_of_row _ _ 0 _ _ _ r5.x).trans rfl;have x5_1:w5.cell? ⟨w.heap.size+1+1,1,none⟩=some (.string d.tb):=(cell_of_row _ _ 1 _ _ _ r5.x).trans rfl;have x5_2:w5.cell? ⟨w.heap.size+1+1,2,none⟩=some (.slice (some ⟨g1,0,none⟩) d.n2 d.n2):=(cell_of_row _ _ 2 _ _ _ r5.x).trans rfl;have x5_3:w5.cell? ⟨w.heap.size+1+1,3,none⟩=some (.slice (some ⟨g2,0,none⟩) d.n3 d.n3):=(cell_of_row _ _ 3 _ _ _ r5.x).trans rfl;have x5_4:w5.cell? ⟨w.heap.size+1+1,4,none⟩=some (.string d.col):=(cell_of_row _ _ 4 _ _ _ r5.x).trans rfl;have x5_5:w5.cell? ⟨w.heap.size+1+1,5,none⟩=some (.slice (some ⟨g3,0,none⟩) d.n5 d.n5):=(cell_of_row _ _ 5 _ _ _ r5.x).trans rfl;have x5_6:w5.cell? ⟨w.heap.size+1+1,6,none⟩=some (.slice (some ⟨g4,0,none⟩) d.n6 d.n6):=(cell_of_row _ _ 6 _ _ _ r5.x).trans rfl;have z5_0:w5.cell? ⟨w.heap.size+1,0,none⟩=some (.int .i64 0):=(cell_of_row _ _ 0 _ _ _ r5.z).trans rfl;have zf_0:w5.frozen? ⟨w.heap.size+1,0,none⟩=false:=frozen_of_row _ _ 0 _ _ r5.z;have z5_1:w5.cell? ⟨w.heap.size+1,1,none⟩=some (.string ⟨#[]⟩):=(cell_of_row _ _ 1 _ _ _ r5.z).trans rfl;have zf_1:w5.frozen? ⟨w.heap.size+1,1,none⟩=false:=frozen_of_row _ _ 1 _ _ r5.z;have z5_2:w5.cell? ⟨w.heap.size+1,2,none⟩=some (.slice none 0 0):=(cell_of_row _ _ 2 _ _ _ r5.z).trans rfl;have zf_2:w5.frozen? ⟨w.heap.size+1,2,none⟩=false:=frozen_of_row _ _ 2 _ _ r5.z;have z5_3:w5.cell? ⟨w.heap.size+1,3,none⟩=some (.slice none 0 0):=(cell_of_row _ _ 3 _ _ _ r5.z).trans rfl;have zf_3:w5.frozen? ⟨w.heap.size+1,3,none⟩=false:=frozen_of_row _ _ 3 _ _ r5.z;have z5_4:w5.cell? ⟨w.heap.size+1,4,none⟩=some (.string ⟨#[]⟩):=(cell_of_row _ _ 4 _ _ _ r5.z).trans rfl;have zf_4:w5.frozen? ⟨w.heap.size+1,4,none⟩=false:=frozen_of_row _ _ 4 _ _ r5.z;have z5_5:w5.cell? ⟨w.heap.size+1,5,none⟩=some (.slice none 0 0):=(cell_of_row _ _ 5 _ _ _ r5.z).trans rfl;have zf_5:w5.frozen? ⟨w.heap.size+1,5,none⟩=false:=frozen_of_row _ _ 5 _ _ r5.z;have z5_6:w5.cell? ⟨w.heap.size+1,6,none⟩=some (.slice none 0 0):=(cell_of_row _ _ 6 _ _ _ r5.z).trans rfl;have zf_6:w5.frozen? ⟨w.heap.size+1,6,none⟩=false:=frozen_of_row _ _ 6 _ _ r5.z;have z5_7:w5.cell? ⟨w.heap.size+1,7,none⟩=some (.slice none 0 0):=(cell_of_row _ _ 7 _ _ _ r5.z).trans rfl;have zf_7:w5.frozen? ⟨w.heap.size+1,7,none⟩=false:=frozen_of_row _ _ 7 _ _ r5.z;have m5_7:w5.cell? ⟨w.heap.size+1+1,7,none⟩=some (.slice none 0 0):=(cell_of_row _ _ 7 _ _ _ r5.x).trans rfl;have f5_7:w5.frozen? ⟨w.heap.size+1+1,7,none⟩=false:=frozen_of_row _ _ 7 _ _ r5.x) | (go_at_call 32;have _h:=hL3;refine(toItms' _ _ _ d.W _ (h.later (bset B3 (by omega))).wh h.l6).mono ?_;rintro e w4 ⟨g4,hg4,rfl,hL4,hS4,hb4⟩;have r4:R3 w4 w.heap.size (cs8 d p) #[.int .i64 0,.string ⟨#[]⟩,.slice none 0 0,.slice none 0 0,.string ⟨#[]⟩,.slice none 0 0,.slice none 0 0,.slice none 0 0] #[.int .i64 d.k,.string d.tb,.slice (some ⟨g1,0,none⟩) d.n2 d.n2,.slice (some ⟨g2,0,none⟩) d.n3 d.n3,.string d.col,.slice (some ⟨g3,0,none⟩) d.n5 d.n5,.slice none 0 0,.slice none 0 0]:=(r3.set).later hb4;have B4:Below w.heap.size w w4:=bstep (bset B3 (by omega)) hb4;have s4:w3.heap.size<=w4.heap.size:=(by simpa using hb4.size);have hG4:G<=g4:=Nat.le_trans (by simp;omega) hg4;have K4:Kp G w3 w4:=(Kp.set (by omega)).trans (Kp.of G hb4);have N4:KpG G w3 w4:=(KpG.set (by omega)).trans (KpG.of G hb4);have l4_7:w4.cell? ⟨w.heap.size,7,none⟩=some (.slice p.a7 d.n7 p.c7):=(cell_of_row _ _ 7 _ _ _ r4.a).trans rfl;have m4_6:w4.cell? ⟨w.heap.size+1+1,6,none⟩=some (.slice none 0 0):=(cell_of_row _ _ 6 _ _ _ r4.x).trans rfl;have f4_6:w4.frozen? ⟨w.heap.size+1+1,6,none⟩=false:=frozen_of_row _ _ 6 _ _ r4.x) | (go_at_call 32;refine(toItms' _ _ _ d.E _ (h.later (bset (bset B2 (by omega)) (by omega))).ex h.l5).mono ?_;rintro e w3 ⟨g3,hg3,rfl,hL3,hS3,hb3⟩;have r3:R3 w3 w.heap.size (cs8 d p) #[.int .i64 0,.string ⟨#[]⟩,.slice none 0 0,.slice none 0 0,.string ⟨#[]⟩,.slice none 0 0,.slice none 0 0,.slice none 0 0] #[.int .i64 d.k,.string d.tb,.slice (some ⟨g1,0,none⟩) d.n2 d.n2,.slice (some ⟨g2,0,none⟩) d.n3 d.n3,.string d.col,.slice none 0 0,.slice none 0 0,.slice none 0 0]:=(r2.set.set).later hb3;have B3:Below w.heap.size w w3:=bstep (bset (bset B2 (by omega)) (by omega)) hb3;have s3:w2.heap.size<=w3.heap.size:=(by simpa using hb3.size);have hG3:G<=g3:=Nat.le_trans (by simp;omega) hg3;have K3:Kp G w2 w3:=((Kp.set (by omega)).trans (Kp.set (by omega))).trans (Kp.of G hb3);have N3:KpG G w2 w3:=((KpG.set (by omega)).trans (KpG.set (by omega))).trans (KpG.of G hb3);have l3_6:w3.cell? ⟨w.heap.size,6,none⟩=some (.slice p.a6 d.n6 p.c6):=(cell_of_row _ _ 6 _ _ _ r3.a).trans rfl;have m3_5:w3.cell? ⟨w.heap.size+1+1,5,none⟩=some (.slice none 0 0):=(cell_of_row _ _ 5 _ _ _ r3.x).trans rfl;have f3_5:w3.frozen? ⟨w.heap.size+1+1,5,none⟩=false:=frozen_of_row _ _ 5 _ _ r3.x) | (go_at_call 31;refine(toVals' _ _ _ d.V _ (h.later (bset B1 (by omega))).va h.l3).mono ?_;rintro e w2 ⟨g2,hg2,rfl,hL2,hS2,hb2⟩;have r2:R3 w2 w.heap.size (cs8 d p) #[.int .i64 0,.string ⟨#[]⟩,.slice none 0 0,.slice none 0 0,.string ⟨#[]⟩,.slice none 0 0,.slice none 0 0,.slice none 0 0] #[.int .i64 d.k,.string d.tb,.slice (some ⟨g1,0,none⟩) d.n2 d.n2,.slice none 0 0,.string ⟨#[]⟩,.slice none 0 0,.slice none 0 0,.slice none 0 0]:=(r1.set).later hb2;have B2:Below w.heap.size w w2:=bstep (bset B1 (by omega)) hb2;have s2:w1.heap.size<=w2.heap.size:=(by simpa using hb2.size);have hG2:G<=g2:=Nat.le_trans (by simp;omega) hg2;have K2:Kp G w1 w2:=(Kp.set (by omega)).trans (Kp.of G hb2);have N2:KpG G w1 w2:=(KpG.set (by omega)).trans (KpG.of G hb2);have l2_4:w2.cell? ⟨w.heap.size,4,none⟩=some (.string d.col):=(cell_of_row _ _ 4 _ _ _ r2.a).trans rfl;have l2_5:w2.cell? ⟨w.heap.size,5,none⟩=some (.slice p.a5 d.n5 p.c5):=(cell_of_row _ _ 5 _ _ _ r2.a).trans rfl;have m2_3:w2.cell? ⟨w.heap.size+1+1,3,none⟩=some (.slice none 0 0):=(cell_of_row _ _ 3 _ _ _ r2.x).trans rfl;have f2_3:w2.frozen? ⟨w.heap.size+1+1,3,none⟩=false:=frozen_of_row _ _ 3 _ _ r2.x;have m2_4:w2.cell? ⟨w.heap.size+1+1,4,none⟩=some (.string ⟨#[]⟩):=(cell_of_row _ _ 4 _ _ _ r2.x).trans rfl;have f2_4:w2.frozen? ⟨w.heap.size+1+1,4,none⟩=false:=frozen_of_row _ _ 4 _ _ r2.x) | (go_at_call 30;refine(toCols' _ _ _ d.C _ (h.later hbW).co h.l2).mono ?_;rintro e w1 ⟨g1,hg1,rfl,hL1,hS1,hb1⟩;have r1:R3 w1 w.heap.size (cs8 d p) #[.int .i64 0,.string ⟨#[]⟩,.slice none 0 0,.slice none 0 0,.string ⟨#[]⟩,.slice none 0 0,.slice none 0 0,.slice none 0 0] #[.int .i64 d.k,.string d.tb,.slice none 0 0,.slice none 0 0,.string ⟨#[]⟩,.slice none 0 0,.slice none 0 0,.slice none 0 0]:=(hR0).later hb1;have B1:Below w.heap.size w w1:=bstep hbW hb1;have s1:=hb1.size;have hG1:G<=g1:=(by omega);have l1_3:w1.cell? ⟨w.heap.size,3,none⟩=some (.slice p.a3 d.n3 p.c3):=(cell_of_row _ _ 3 _ _ _ r1.a).trans rfl;have m1_2:w1.cell? ⟨w.heap.size+1+1,2,none⟩=some (.slice none 0 0):=(cell_of_row _ _ 2 _ _ _ r1.x).trans rfl;have f1_2:w1.frozen? ⟨w.heap.size+1+1,2,none⟩=false:=frozen_of_row _ _ 2 _ _ r1.x))
 have KV:∀ v0 v1 v2 v3 v4 v5 v6 v7 v8,Kp G w5 (((((((((w5.setCell ⟨w.heap.size+1+1,7,none⟩ v0).setCell ⟨w.heap.size+1,0,none⟩ v1).setCell ⟨w.heap.size+1,1,none⟩ v2).setCell ⟨w.heap.size+1,2,none⟩ v3).setCell ⟨w.heap.size+1,3,none⟩ v4).setCell ⟨w.heap.size+1,4,none⟩ v5).setCell ⟨w.heap.size+1,5,none⟩ v6).setCell ⟨w.heap.size+1,6,none⟩ v7).setCell ⟨w.heap.size+1,7,none⟩ v8):=fun v0 v1 v2 v3 v4 v5 v6 v7 v8=>
  ((((((((Kp.set (by omega)).trans (Kp.set (by omega))).trans (Kp.set (by omega))).trans (Kp.set (by omega))).trans (Kp.set (by omega))).trans (Kp.set (by omega))).trans (Kp.set (by omega))).trans (Kp.set (by omega))).trans (Kp.set (by omega))
 have NV:∀ v0 v1 v2 v3 v4 v5 v6 v7 v8,KpG G w5 (((((((((w5.setCell ⟨w.heap.size+1+1,7,none⟩ v0).setCell ⟨w.heap.size+1,0,none⟩ v1).setCell ⟨w.heap.size+1,1,none⟩ v2).setCell ⟨w.heap.size+1,2,none⟩ v3).setCell ⟨w.heap.size+1,3,none⟩ v4).setCell ⟨w.heap.size+1,4,none⟩ v5).setCell ⟨w.heap.size+1,5,none⟩ v6).setCell ⟨w.heap.size+1,6,none⟩ v7).setCell ⟨w.heap.size+1,7,none⟩ v8):=fun v0 v1 v2 v3 v4 v5 v6 v7 v8=>
  ((((((((KpG.set (by omega)).trans (KpG.set (by omega))).trans (KpG.set (by omega))).trans (KpG.set (by omega))).trans (KpG.set (by omega))).trans (KpG.set (by omega))).trans (KpG.set (by omega))).trans (KpG.set (by omega))).trans (KpG.set (by omega))
 have BV:∀ v0 v1 v2 v3 v4 v5 v6 v7 v8,Below w.heap.size w (((((((((w5.setCell ⟨w.heap.size+1+1,7,none⟩ v0).setCell ⟨w.heap.size+1,0,none⟩ v1).setCell ⟨w.heap.size+1,1,none⟩ v2).setCell ⟨w.heap.size+1,2,none⟩ v3).setCell ⟨w.heap.size+1,3,none⟩ v4).setCell ⟨w.heap.size+1,4,none⟩ v5).setCell ⟨w.heap.size+1,5,none⟩ v6).setCell ⟨w.heap.size+1,6,none⟩ v7).setCell ⟨w.heap.size+1,7,none⟩ v8):=fun v0 v1 v2 v3 v4 v5 v6 v7 v8=>
  bset (bset (bset (bset (bset (bset (bset (bset (bset B5 (by omega)) (by omega)) (by omega)) (by omega)) (by omega)) (by omega)) (by omega)) (by omega)) (by omega)
 have RV:=fun v0 v1 v2 v3 v4 v5 v6 v7 v8=>heap_setCell_same _ _ 7 _ _ v8 (heap_setCell_same _ _ 6 _ _ v7 (heap_setCell_same _ _ 5 _ _ v6 (heap_setCell_same _ _ 4 _ _ v5 (heap_setCell_same _ _ 3 _ _ v4 (heap_setCell_same _ _ 2 _ _ v3 (heap_setCell_same _ _ 1 _ _ v2 (heap_setCell_same _ _ 0 _ _ v1 (rowO (B:=w.heap.size+1+1) (B':=w.heap.size+1) (i:=7) (v:=v0) r5.z (by omega)))))))));refine bodyPost_ret (v:=.agg (cs8 d ⟨some ⟨g1,0,none⟩,d.n2,some ⟨g2,0,none⟩,d.n3,some ⟨g3,0,none⟩,d.n5,some ⟨g4,0,none⟩,d.n6,some ⟨g5,0,none⟩,d.n7⟩)) (results_cell_row Tryz.results9 _ _ (w.heap.size+1) 45 _ (0,0) _ rfl (RV _ _ _ _ _ _ _ _ _) Tryz.underlying45 rfl (by kernel_rfl)) rfl ⟨g1,g2,g3,g4,g5,rfl,?_,(hS1.kp (KpG.r (N2.trans (N3.trans (N4.trans (N5.trans (NV _ _ _ _ _ _ _ _ _))))) (by first | omega | (simp;omega)))).hi (by first | omega | (simp;omega)) (by simp;omega),(hS2.kp (KpG.r (N3.trans (N4.trans (N5.trans (NV _ _ _ _ _ _ _ _ _)))) (by first | omega | (simp;omega)))).hi (by first | omega | (simp;omega)) (by simp;omega),(hS3.kp (KpG.r (N4.trans (N5.trans (NV _ _ _ _ _ _ _ _ _))) (by first | omega | (simp;omega)))).hi (by first | omega | (simp;omega)) (by simp;omega),(hS4.kp (KpG.r (N5.trans (NV _ _ _ _ _ _ _ _ _)) (by first | omega | (simp;omega)))).hi (by first | omega | (simp;omega)) (by simp;omega),(hS5.kp (KpG.r (NV _ _ _ _ _ _ _ _ _) hGs)).hi (by first | omega | (simp;omega)) (by simp),BV _ _ _ _ _ _ _ _ _⟩;have KK:=KV (.slice (some ⟨g5,0,none⟩) d.n7 d.n7) (.int .i64 d.k) (.string d.tb) (.slice (some ⟨g1,0,none⟩) d.n2 d.n2) (.slice (some ⟨g2,0,none⟩) d.n3 d.n3) (.string d.col) (.slice (some ⟨g3,0,none⟩) d.n5 d.n5) (.slice (some ⟨g4,0,none⟩) d.n6 d.n6) (.slice (some ⟨g5,0,none⟩) d.n7 d.n7);exact⟨h.tb,h.col,hL1.kp (K2.trans (K3.trans (K4.trans (K5.trans KK)))) hG1,hL2.kp (K3.trans (K4.trans (K5.trans KK))) hG2,hL3.kp (K4.trans (K5.trans KK)) hG3,hL4.kp (K5.trans KK) hG4,(hL5.kp KK hG5 hGs).ol,h.l2,h.l3,h.l5,h.l6,h.l7⟩
set_option maxRecDepth 20000
set_option maxHeartbeats 4000000
theorem szDb'(a:Option Addr)(n c:Nat)(T:Nat->Td)(w:World)(h:TX w a n T) :
 Calls Tryz.prog 5 #[.agg #[.slice a n c],.int .i64 1048576] w fun e w'=>Below w.heap.size w w'/\∃ r:Int,e=.returned (.int .i64 r)/\r<=1048576/\(0<=r->n<=1048576/\∀ k,k<n->Sm3 (T k)):=by
 have hb0:=bal w (.cells #[.slice a n c] 24);have H0:=h.later hb0;go_enter Tryz.func5,Tryz.ntmps5
 go_wp2_with (go_at_call 21;refine(szTabs _ _ _ _ _ H0 _ (by omega) (by omega)).mono ?_;rintro e w1 ⟨hb1,r1,rfl,hr1,hs1⟩;replace hb1:=bstep hb0 hb1;by_cases hp1:(0:Int)<=r1)
 all_goals go_ret
 · exact⟨hb1,r1,rfl,hr1,hs1⟩
 · exact⟨hb1,-1,rfl,by omega,fun hh=>by omega⟩
theorem szStm'(d:St)(p:Sa)(w:World)(h:SX w d p)(L:Int)(h0:0<=L)(h1:L<=1048576):Calls Tryz.prog 6 #[.agg (cs8 d p),.int .i64 L] w fun e w'=>Below w.heap.size w w'/\∃ r:Int,e=.returned (.int .i64 r)/\(0<=r->Sm8 d):=by
 have hb0:=bal w (.cells (cs8 d p) 30);have H0:=h.later hb0;have Q0:=B8.new w d p 30;obtain⟨htb,hcol,-,-,-,-,-⟩:=id h;obtain⟨q0,q1,q2,q3,q4,q5,q6,q7⟩:=id Q0;by_cases ht:(0:Int)<=L - d.tb.size
 ·
  go_enter Tryz.func6,Tryz.ntmps6
  go_wp2_with (first | (go_at_call 25;refine(szOuts _ _ _ _ _ _ H4.ou _ hp4 hr4).mono ?_;rintro e w5 ⟨hb5,r5,rfl,hr5,hs5⟩;have H5:=H4.later hb5;have Q5:=Q4.later hb5;obtain⟨z0_5,z1_5,z2_5,z3_5,z4_5,z5_5,z6_5,z7_5⟩:=id Q5;replace hb5:=bstep hb4 hb5;by_cases hp5:(0:Int)<=r5) | (go_at_call 24;have _h:=hs3;refine(szItms _ _ _ _ _ H3.wh _ hp3 hr3).mono ?_;rintro e w4 ⟨hb4,r4,rfl,hr4,hs4⟩;have H4:=H3.later hb4;have Q4:=Q3.later hb4;obtain⟨z0_4,z1_4,z2_4,z3_4,z4_4,z5_4,z6_4,z7_4⟩:=id Q4;replace hb4:=bstep hb3 hb4;by_cases hp4:(0:Int)<=r4) | (go_at_call 24;refine(szItms _ _ _ _ _ H2.ex _ (by omega) (by omega)).mono ?_;rintro e w3 ⟨hb3,r3,rfl,hr3,hs3⟩;have H3:=H2.later hb3;have Q3:=Q2.later hb3;obtain⟨z0_3,z1_3,z2_3,z3_3,z4_3,z5_3,z6_3,z7_3⟩:=id Q3;replace hb3:=bstep hb2 hb3;by_cases hp3:(0:Int)<=r3) | (go_at_call 23;refine(szVals _ _ _ _ _ H1.va _ hp1 hr1).mono ?_;rintro e w2 ⟨hb2,r2,rfl,hr2,hs2⟩;have H2:=H1.later hb2;have Q2:=Q1.later hb2;obtain⟨z0_2,z1_2,z2_2,z3_2,z4_2,z5_2,z6_2,z7_2⟩:=id Q2;replace hb2:=bstep hb1 hb2;by_cases hp2:(0:Int)<=r2) | (go_at_call 22;refine(szCols _ _ _ _ _ H0.co _ (by omega) (by omega)).mono ?_;rintro e w1 ⟨hb1,r1,rfl,hr1,hs1⟩;have H1:=H0.later hb1;have Q1:=Q0.later hb1;obtain⟨z0_1,z1_1,z2_1,z3_1,z4_1,z5_1,z6_1,z7_1⟩:=id Q1;replace hb1:=bstep hb0 hb1;by_cases hp1:(0:Int)<=r1))
  all_goals go_ret
  · exact⟨hb2,-1,rfl,fun hh=>by omega⟩
  · exact⟨hb5,r5,rfl,fun _=>⟨by omega,by omega,hs1 hp1,hs2 hp2,hs3 hp3,hs4 hp4,hs5 hp5⟩⟩
  · exact⟨hb5,-1,rfl,fun hh=>by omega⟩
  · exact⟨hb4,-1,rfl,fun hh=>by omega⟩
  · exact⟨hb3,-1,rfl,fun hh=>by omega⟩
  · exact⟨hb2,-1,rfl,fun hh=>by omega⟩
  · exact⟨hb1,-1,rfl,fun hh=>by omega⟩
 ·
  go_enter Tryz.func6,Tryz.ntmps6
  go_wp2;go_ret
  exact⟨hb0,-1,rfl,fun hh=>by omega⟩
theorem OD.mk{lo hi:Nat}{D:Nat->Prop}{w w':World}{a:Option Addr}{A:List Rw}(h:OD D w a A)(k:Mk lo hi w w')(hD:∀ b,D b->b<lo∨hi<=b):OD D w' a A:=fun j hj=>by
 obtain⟨b,off,i,c,e,hd,c0,hl⟩:=h j hj;exact⟨b,off,i,c,e,hd,(World.cell?_of_block (k.out _ (World.block_lt_of_cell? w _ c0) (hD _ hd))).trans c0,hl.step fun a v hx hc=>(World.cell?_of_block (k.out _ (World.block_lt_of_cell? w _ hc) (hD _ hx))).trans hc⟩
theorem Apt.mk{lo hi lo':Nat}{w w':World}{a:Option Addr}{A:List Rw}(h:Apt lo' w a A)(k:Mk lo hi w w')(hh:hi<=lo'):Apt lo' w' a A:=by
 rcases h with h | ⟨gg,cur,B,C,e1,e2,e3,e4,e5,e6,e7⟩
 · exact Or.inl h
 ·
  refine Or.inr ⟨gg,cur,B,C,e1,e2,k.row e3 (Or.inr (by omega)),e4,fun i hi=>?_,e6,e7⟩;rcases e5 i hi with h | ⟨g,c,q1,q2,q3,q4,q5⟩
  · exact Or.inl h
  · exact Or.inr ⟨g,c,q1,q2,Nat.lt_of_lt_of_le q3 k.size,k.row q4 (Or.inr (by omega)),q5⟩
theorem sm_mul{M:Nat->Nat}{b:Nat}:∀ {n:Nat},(∀ i,i<n->M i<=b)->sm M n<=n * b
 | 0,_=>by simp [sm]
 | n+1,h=>by
  have h1:=sm_mul (M:=M) (b:=b) (n:=n) (fun i hi=>h i (by omega));have h2:=h n (by omega);rw [sm_succ,Nat.add_mul];omega
theorem below_mk{B lo hi:Nat}{w a b:World}(h:Below B w a)(k:Mk lo hi a b)(h1:B<=lo)(h2:B<=w.heap.size):Below B w b:=
 ⟨k.os.trans h.os,k.tape.trans h.tape,k.output.trans h.output,Nat.le_trans h.size k.size,fun x hx=>(k.out x (by have:=h.size;omega) (Or.inl (by omega))).trans (h.block x hx)⟩
theorem wtL_len(T:Nat->Td)(d:Td)(n:Nat):(wtL T d n).length<=n+1:=by
 have h:=wtS_len (T:=T) (d:=d) (k:=n);unfold wtL;rw [List.length_append,opt_len];rw [opt_len] at h;cases e:(wtS T d n).2
 ·
  rw [e] at h;simp at h ⊢
  omega
 ·
  rw [e] at h;simp at h ⊢
  omega
theorem apA_len(n:Nat)(T:Nat->Td)(D:St):(apA n T D).1.length<=1000:=by
 unfold apA;by_cases h:okDb n T=false
 · rw [if_pos h];exact Nat.zero_le _
 ·
  rw [if_neg h];have hn:=(okDb_out (by simpa using h)).1;have h1:(tlL T n).length<=1000:=by rw [tlL_len];omega
  have h2:∀ d,(wtL T d n).length<=1000:=fun d=>Nat.le_trans (wtL_len T d n) (by omega);split
  · exact Nat.zero_le _
  ·
   split
   ·
    unfold crA;repeat' split
    all_goals first | exact h1 | exact h2 _
   ·
    split
    · exact h1
    ·
     split
     ·
      unfold inA;repeat' split
      all_goals first | exact h1 | exact h2 _
     ·
      split
      ·
       unfold upA;repeat' split
       all_goals first | exact h1 | exact h2 _
      ·
       split
       ·
        unfold dlA;repeat' split
        all_goals first | exact h1 | exact h2 _
       · exact h1
def DA(lo hi:Nat)(w:World)(a:Option Addr)(A:List Td):Prop:=A.length=0∨∃ (g:Nat) (B:List Tb),a=some ⟨g,0,none⟩/\DbIn lo w g B/\B.length=A.length/\(∀ i,i<A.length->TbOf (B.getD i b0) (A.getD i t0))/\∀ b∈g :: B.flatMap Tb.bl,b<hi
theorem DA.later{lo hi:Nat}{w w':World}{a:Option Addr}{A:List Td}(h:DA lo hi w a A)(hb:Below w.heap.size w w'):DA lo hi w' a A:=by
 rcases h with h | ⟨g,B,h1,h2,h3,h4,h5⟩
 · exact Or.inl h
 · exact Or.inr ⟨g,B,h1,h2.later hb,h3,h4,h5⟩
theorem DA.mk{lo hi lo' hi':Nat}{w w':World}{a:Option Addr}{A:List Td}(h:DA lo' hi' w a A)(k:Mk lo hi w w')(hh:hi<=lo'):DA lo' hi' w' a A:=by
 rcases h with h | ⟨g,B,h1,h2,h3,h4,h5⟩
 · exact Or.inl h
 · exact Or.inr ⟨g,B,h1,h2.mk k hh,h3,h4,h5⟩
theorem DA.tl{lo hi:Nat}{w:World}{a:Option Addr}{A:List Td}(h:DA lo hi w a A)(hs:∀ i,i<A.length->Sm3 (A.getD i t0)):TL w a A.length (fun i=>A.getD i t0):=by
 rcases h with h | ⟨g,B,rfl,h2,h3,h4,h5⟩
 · intro k hk;omega
 · exact h2.1.tl h3 h4 hs
theorem ro_x{t:Tb}{d:Td}(ho:TbOf t d){k:Nat}(hk:k<d.r):(t.L.getD k o0).x=(d.m k,d.R k):=by
 have hl:t.L.length=d.r:=by have:=congrArg List.length ho.L;simpa using this
 have z:=congrArg (fun l=>l[k]?) ho.L;simp only [List.getElem?_map,List.getElem?_range hk,Option.map_some] at z
 have e2:t.L[k]?=some (t.L.getD k o0):=by simp [hl,hk]
 rw [e2] at z;simpa using z
theorem tb_len{t:Tb}{d:Td}(ho:TbOf t d):t.L.length=d.r:=by have:=congrArg List.length ho.L;simpa using this
theorem rM_le{t:Tb}{d:Td}(ho:TbOf t d)(hs:Sm3 d):rM t<=1099511627776:=by
 have hl:=tb_len ho;have h1:=hs.ro.1;have h2:rM t<=t.L.length * 1048576:=by
  unfold rM;refine sm_mul fun i hi=>?_;show (t.L.getD i o0).x.1<=1048576
  rw [ro_x ho (by omega)];exact(hs.ro.2 i (by omega)).1
 omega
theorem zT_le(B:List Tb)(A:List Td)(h4:∀ i,i<A.length->TbOf (B.getD i b0) (A.getD i t0))(hs:∀ i,i<A.length->Sm3 (A.getD i t0)):∀ i,i<=A.length->zT B 1 i<=1+i * 3298540000000
 | 0,_=>by simp [zT]
 | i+1,h=>by
  have ih:=zT_le B A h4 hs i (by omega);have h1:=rM_le (h4 i (by omega)) (hs i (by omega));have h2:=(hs i (by omega)).co.1;rw [←(h4 i (by omega)).n] at h2;rw [zT];omega
def MDd(w:World)(a:Option Addr)(A:List Td)(K:Int):Prop:=(A.length=0/\K=1)∨∃ (g:Nat) (B:List Tb),a=some ⟨g,0,none⟩/\B.length=A.length/\MTb w g B 1/\K=((zT B 1 B.length:Nat):Int)/\zT B 1 B.length<9000000000000000000/\∀ t∈B,t.L.length<=1048576
theorem mem_getD{α:Type}{l:List α}{x y:α}(h:x∈l):∃ i,i<l.length/\l.getD i y=x:=by
 obtain⟨i,hi,e⟩:=List.mem_iff_getElem.1 h;exact⟨i,hi,by simp [hi,e]⟩
theorem markGotD(lo hi:Nat)(a:Option Addr)(c:Nat)(A:List Td)(w:World)(h:DA lo hi w a A)(hlo:lo<=w.heap.size)(hl:A.length<=1000)(hs:∀ i,i<A.length->Sm3 (A.getD i t0)) :
 Calls Tryz.prog 14 #[.agg #[.slice a A.length c],.int .i64 1] w fun e w'=>∃ K:Int,e=.returned (.int .i64 K)/\¬K<0/\MDd w' a A K/\Below lo w w'/\∀ q,hi<=q->q<w.heap.size->w'.heap[q]?=w.heap[q]?:=by
 by_cases h0:A.length=0
 · rw [h0];refine(markDb0 a c w).mono ?_;rintro e w' ⟨rfl,hb⟩;exact⟨1,rfl,by omega,Or.inl ⟨h0,rfl⟩,hb.mono hlo,fun q _ hq=>hb.block q hq⟩
 rcases h with h | ⟨g,B,rfl,h2,h3,h4,h5⟩
 · exact absurd h h0
 ·
  have hz:=zT_le B A h4 hs A.length (Nat.le_refl _);have hB:∀ t∈B,t.L.length<=1048576:=fun t ht=>by
   obtain⟨i,hi,e⟩:=mem_getD (y:=b0) ht;subst e;rw [tb_len (h4 i (by omega))];exact(hs i (by omega)).ro.1
  rw [←h3] at hz ⊢;refine(markDbA lo g c B w h2 (by omega) (by omega) hB hlo).mono ?_;rintro e w' ⟨K,rfl,hK,hM,hb,hfr⟩;have hK':K=((zT B 1 B.length:Nat):Int):=hK;exact⟨K,rfl,by omega,Or.inr ⟨g,B,rfl,h3,hM,hK',by omega,hB⟩,hb,fun q h1 h2=>hfr q h2 (fun hm=>by have:=h5 q hm;omega)⟩
theorem heldGotD(a:Option Addr)(c:Nat)(A:List Td)(K:Int)(w:World)(h:MDd w a A K)(hl:A.length<=1000) :
 Calls Tryz.prog 20 #[.agg #[.slice a A.length c],.int .i64 1] w fun e w'=>e=.returned (.int .i64 K)/\Below w.heap.size w w':=by
 rcases h with ⟨h0,rfl⟩ | ⟨g,B,rfl,h1,h2,h3,h4,h5⟩
 · rw [h0];exact heldDb0 a c w
 · rw [←h1];refine(heldDbA g c 1 B 1 rfl w h2 (by omega) h4 (by omega) h5).mono ?_;rintro e w' ⟨K',rfl,hK,hb⟩;have hK':K'=((zT B 1 B.length:Nat):Int):=hK;rw [hK',←h3];exact⟨rfl,hb⟩
def ApD(w:World)(A:List Td)(cd:Int)(e:Ending)(w':World):Prop:=∃ a c,e=.returned (.tuple #[.agg #[.slice a A.length c],.int .i64 cd])/\DA w.heap.size w'.heap.size w' a A/\Below w.heap.size w w'
theorem ApP.d{w:World}{n:Nat}{T:Nat->Td}{D:St}{e:Ending}{w':World}(h:ApP w n T D e w'):ApD w (apA n T D).1 (apA n T D).2 e w':=by
 rcases h with ⟨-,-,g,c,B,he,h1,h2,h3,h4⟩ | ⟨hbad,he,hb⟩
 · exact⟨_,c,he,Or.inr ⟨g,B,rfl,h1,h2,h3,fun b hb=>(h1.2 b hb).2⟩,h4⟩
 ·
  have e0:apA n T D=([],7):=by
   unfold apA;by_cases h:okDb n T=false
   · rw [if_pos h]
   · rw [if_neg h,if_pos (by rcases hbad with h' | h';exact absurd h' h;exact h')]
  rw [e0];exact⟨none,0,he,Or.inl rfl,hb⟩
theorem specAp(n:Nat)(T:Nat->Td)(d:St)(hn:n<=1048576)(g:Nat)(q:Sa)(W:World)(hT:TN W g n T)(hM:SM W d q)(hc:d.n2<=q.c2):Calls Tryz.prog 18 #[.agg #[.slice (some ⟨g,0,none⟩) n n],.agg (cs8 d q)] W (Ans W (apA n T d).1 (apA n T d).2):=
 sApply5 g n n T d.k d.tb q.a2 d.n2 q.c2 q.a3 d.n3 q.c3 d.col q.a5 d.n5 q.c5 q.a6 d.n6 q.c6 q.a7 d.n7 q.c7 d.C d.V d.E d.W d.m7 d.O d rfl W hT hM hn hc
theorem implAp(n:Nat)(T:Nat->Td)(d:St)(hn:n<=1048576)(hRg:∀ k,k<n->∀ i,i<(T k).r->∀ j,rg ((T k).R i j).m)(hRD:RgD d)(g:Nat)(q:Sa)(W:World)(hSp:SpT W)(hT:TL W (some ⟨g,0,none⟩) n T)(hM:SM W d q):Calls Tryz.prog 19 #[.agg #[.slice (some ⟨g,0,none⟩) n n],.agg (cs8 d q)] W (ApD W (apA n T d).1 (apA n T d).2):=
 (iApply (some ⟨g,0,none⟩) n n T d.k d.tb q.a2 d.n2 q.c2 q.a3 d.n3 q.c3 d.col q.a5 d.n5 q.c5 q.a6 d.n6 q.c6 q.a7 d.n7 q.c7 d.C d.V d.E d.W d.m7 d.O d rfl W hSp hT hM hn (fun k hk i hi j _=>hRg k hk i hi j) hRD).mono fun _ _ h=>h.d
end Go.Proofs.YtgeiamgeclbiaaaGreatDoor
