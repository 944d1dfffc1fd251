/-
  A statement copied by the law.
-/
import Derived.Test.YtnbgdfhfmbgbhaaGreatDoorNr
namespace Go.Proofs.YtnbgdfhfmbgbhaaGreatDoor
open Go.RowKit Go.Maps Go.WideMaps
/-- A statement lies there, of whatever length. -/
structure SX (w : World) (d : St) (p : Sa) : Prop where
  tb : d.tb.size ≤ 9223372036854775807
  col : d.col.size ≤ 9223372036854775807
  co : CX w p.a2 d.n2 d.C
  va : IX w p.a3 d.n3 d.V
  ex : IX w p.a5 d.n5 d.E
  wh : IX w p.a6 d.n6 d.W
  ou : OX w p.a7 d.n7 d.m7 d.O
theorem SX.later {w w' : World} {d : St} {p : Sa} (h : SX w d p) (hb : Below w.heap.size w w') : SX w' d p :=
  ⟨h.tb, h.col, h.co.later hb, h.va.later hb, h.ex.later hb, h.wh.later hb, h.ou.later hb⟩
/-- Its measures are small. -/
structure Sm8 (d : St) : Prop where
  tb : d.tb.size ≤ 1048576
  col : d.col.size ≤ 1048576
  co : d.n2 ≤ 1048576 ∧ ∀ k, k < d.n2 → (d.C k).s.size ≤ 1048576
  va : d.n3 ≤ 1048576 ∧ ∀ k, k < d.n3 → (d.V k).s.size ≤ 1048576
  ex : d.n5 ≤ 1048576 ∧ ∀ k, k < d.n5 → (d.E k).s.size ≤ 1048576
  wh : d.n6 ≤ 1048576 ∧ ∀ k, k < d.n6 → (d.W k).s.size ≤ 1048576
  ou : d.n7 ≤ 1048576 ∧ ∀ k, k < d.n7 → d.m7 k ≤ 1048576 ∧ ∀ j, j < d.m7 k → (d.O k j).s.size ≤ 1048576
theorem SX.small {w : World} {d : St} {p : Sa} (h : SX w d p) (s : Sm8 d) : SM w d p :=
  ⟨s.tb, s.col, h.co.small s.co.2, h.va.small s.va.2, h.ex.small s.ex.2, h.wh.small s.wh.2, h.ou.small s.ou.2, s.co.1, s.va.1, s.ex.1, s.wh.1, s.ou.1⟩
set_option maxRecDepth 20000 in
set_option maxHeartbeats 4000000 in
theorem szStm_any (d : St) (p : Sa) (w : World) (h : SX w d p) : Calls Tryz.prog 10 #[.agg (cs8 d p), .int .i64 1048576] w fun e w' => Below w.heap.size w w' ∧ ∃ r : Int, e = .returned (.int .i64 r) ∧ (0 ≤ r → Sm8 d) := by
  have hb0 := bal w (.cells (cs8 d p) 38)
  have H0 := h.later hb0
  have Q0 := B8.new w d p 38
  obtain ⟨htb, hcol, -, -, -, -, -⟩ := id h
  obtain ⟨q0, q1, q2, q3, q4, q5, q6, q7⟩ := id Q0
  by_cases ht : (0 : Int) ≤ 1048576 - d.tb.size
  · go_enter Tryz.func10, Tryz.ntmps10
    go_wp2_with (first | (go_at_call 36; refine (szOuts _ _ _ _ _ _ H4.ou _ hp4 hr4).mono ?_; rintro e w5 ⟨hb5, r5, rfl, hr5, hs5⟩; have H5 := H4.later hb5; have Q5 := Q4.later hb5; obtain ⟨z0_5, z1_5, z2_5, z3_5, z4_5, z5_5, z6_5, z7_5⟩ := id Q5; replace hb5 := bstep hb4 hb5; by_cases hp5 : (0 : Int) ≤ r5) | (go_at_call 35; have _h := hs3; refine (szItms _ _ _ _ _ H3.wh _ hp3 hr3).mono ?_; rintro e w4 ⟨hb4, r4, rfl, hr4, hs4⟩; have H4 := H3.later hb4; have Q4 := Q3.later hb4; obtain ⟨z0_4, z1_4, z2_4, z3_4, z4_4, z5_4, z6_4, z7_4⟩ := id Q4; replace hb4 := bstep hb3 hb4; by_cases hp4 : (0 : Int) ≤ r4) | (go_at_call 35; refine (szItms _ _ _ _ _ H2.ex _ (by omega) (by omega)).mono ?_; rintro e w3 ⟨hb3, r3, rfl, hr3, hs3⟩; have H3 := H2.later hb3; have Q3 := Q2.later hb3; obtain ⟨z0_3, z1_3, z2_3, z3_3, z4_3, z5_3, z6_3, z7_3⟩ := id Q3; replace hb3 := bstep hb2 hb3; by_cases hp3 : (0 : Int) ≤ r3) | (go_at_call 34; refine (szVals _ _ _ _ _ H1.va _ hp1 hr1).mono ?_; rintro e w2 ⟨hb2, r2, rfl, hr2, hs2⟩; have H2 := H1.later hb2; have Q2 := Q1.later hb2; obtain ⟨z0_2, z1_2, z2_2, z3_2, z4_2, z5_2, z6_2, z7_2⟩ := id Q2; replace hb2 := bstep hb1 hb2; by_cases hp2 : (0 : Int) ≤ r2) | (go_at_call 33; refine (szCols _ _ _ _ _ H0.co _ (by omega) (by omega)).mono ?_; rintro e w1 ⟨hb1, r1, rfl, hr1, hs1⟩; have H1 := H0.later hb1; have Q1 := Q0.later hb1; obtain ⟨z0_1, z1_1, z2_1, z3_1, z4_1, z5_1, z6_1, z7_1⟩ := id Q1; replace hb1 := bstep hb0 hb1; by_cases hp1 : (0 : Int) ≤ r1))
    all_goals go_ret
    · exact ⟨hb2, -1, rfl, fun hh => by omega⟩
    · exact ⟨hb5, r5, rfl, fun _ => ⟨by omega, by omega, hs1 hp1, hs2 hp2, hs3 hp3, hs4 hp4, hs5 hp5⟩⟩
    · exact ⟨hb5, -1, rfl, fun hh => by omega⟩
    · exact ⟨hb4, -1, rfl, fun hh => by omega⟩
    · exact ⟨hb3, -1, rfl, fun hh => by omega⟩
    · exact ⟨hb2, -1, rfl, fun hh => by omega⟩
    · exact ⟨hb1, -1, rfl, fun hh => by omega⟩
  · go_enter Tryz.func10, Tryz.ntmps10
    go_wp2
    go_ret
    exact ⟨hb0, -1, rfl, fun hh => by omega⟩
set_option maxRecDepth 20000 in
set_option maxHeartbeats 4000000 in
theorem eqStm_any (d : St) (p p' : Sa) (w : World) (h : SM w d p) (h' : SM w d p') : Calls Tryz.prog 7 #[.agg (cs8 d p), .agg (cs8 d p')] w fun e w' => e = .returned (.bool true) ∧ Below w.heap.size w w' := by
  have hb0 := bstep (bal w (.cells (cs8 d p) 27)) (bal _ (.cells (cs8 d p') 27))
  have H0 := h.later hb0
  have K0 := h'.later hb0
  have Q0 := (B8.new w d p 27).later (bal _ (.cells (cs8 d p') 27))
  have P0 := B8.new (w.alloc (.cells (cs8 d p) 27)) d p' 27
  have es : (w.alloc (.cells (cs8 d p) 27)).heap.size = w.heap.size + 1 := by simp
  rw [es] at P0
  go_enter Tryz.func7, Tryz.ntmps7
  go_wp2_with (first | (go_at_call 24; refine (eqOuts _ _ _ _ _ _ _ _ H4.ou K4.ou H4.l7).mono ?_; rintro e w5 ⟨rfl, hb5⟩; have H5 := H4.later hb5; have K5 := K4.later hb5; have Q5 := Q4.later hb5; have P5 := P4.later hb5; replace hb5 := bstep hb4 hb5; obtain ⟨y0_5, y1_5, y2_5, y3_5, y4_5, y5_5, y6_5, y7_5⟩ := id Q5; obtain ⟨z0_5, z1_5, z2_5, z3_5, z4_5, z5_5, z6_5, z7_5⟩ := id P5) | (go_at_call 23; have _h := hb3; refine (eqItms _ _ _ _ _ _ _ H3.wh K3.wh H3.l6).mono ?_; rintro e w4 ⟨rfl, hb4⟩; have H4 := H3.later hb4; have K4 := K3.later hb4; have Q4 := Q3.later hb4; have P4 := P3.later hb4; replace hb4 := bstep hb3 hb4; obtain ⟨y0_4, y1_4, y2_4, y3_4, y4_4, y5_4, y6_4, y7_4⟩ := id Q4; obtain ⟨z0_4, z1_4, z2_4, z3_4, z4_4, z5_4, z6_4, z7_4⟩ := id P4) | (go_at_call 23; refine (eqItms _ _ _ _ _ _ _ H2.ex K2.ex H2.l5).mono ?_; rintro e w3 ⟨rfl, hb3⟩; have H3 := H2.later hb3; have K3 := K2.later hb3; have Q3 := Q2.later hb3; have P3 := P2.later hb3; replace hb3 := bstep hb2 hb3; obtain ⟨y0_3, y1_3, y2_3, y3_3, y4_3, y5_3, y6_3, y7_3⟩ := id Q3; obtain ⟨z0_3, z1_3, z2_3, z3_3, z4_3, z5_3, z6_3, z7_3⟩ := id P3) | (go_at_call 22; refine (eqVals _ _ _ _ _ _ _ H1.va K1.va H1.l3).mono ?_; rintro e w2 ⟨rfl, hb2⟩; have H2 := H1.later hb2; have K2 := K1.later hb2; have Q2 := Q1.later hb2; have P2 := P1.later hb2; replace hb2 := bstep hb1 hb2; obtain ⟨y0_2, y1_2, y2_2, y3_2, y4_2, y5_2, y6_2, y7_2⟩ := id Q2; obtain ⟨z0_2, z1_2, z2_2, z3_2, z4_2, z5_2, z6_2, z7_2⟩ := id P2) | (go_at_call 21; refine (eqCols _ _ _ _ _ _ _ H0.co K0.co H0.l2).mono ?_; rintro e w1 ⟨rfl, hb1⟩; have H1 := H0.later hb1; have K1 := K0.later hb1; have Q1 := Q0.later hb1; have P1 := P0.later hb1; replace hb1 := bstep hb0 hb1; obtain ⟨y0_1, y1_1, y2_1, y3_1, y4_1, y5_1, y6_1, y7_1⟩ := id Q1; obtain ⟨z0_1, z1_1, z2_1, z3_1, z4_1, z5_1, z6_1, z7_1⟩ := id P1))
  go_ret
  exact ⟨rfl, hb5⟩
end Go.Proofs.YtnbgdfhfmbgbhaaGreatDoor
namespace Go.Proofs.YtnbgdfhfmbgbhaaGreatDoor
open Go.RowKit Go.Maps Go.WideMaps
theorem rowL {w w' : World} {B : Nat} {o : Obj} (h : w.heap[B]? = some o) (hb : Below w.heap.size w w') : w'.heap[B]? = some o := (hb.block B (Array.getElem?_eq_some_iff.1 h).1).trans h
theorem rowO {w : World} {B B' i : Nat} {o : Obj} {v : Value} (h : w.heap[B']? = some o) (hne : B' ≠ B) : (w.setCell ⟨B, i, none⟩ v).heap[B']? = some o := (heap_setCell_other _ _ _ _ hne).trans h
theorem bset {w V : World} {B i : Nat} {v : Value} (hb : Below w.heap.size w V) (hB : w.heap.size ≤ B) : Below w.heap.size w (V.setCell ⟨B, i, none⟩ v) := hb.setCell hB _
/-- The three boxes of a copying. -/
structure R3 (V : World) (B : Nat) (A Z X : Array Value) : Prop where
  a : V.heap[B]? = some (.cells A 38 (0, 0))
  z : V.heap[B + 1]? = some (.cells Z 27 (0, 0))
  x : V.heap[B + 1 + 1]? = some (.cells X 27 (0, 0))
theorem R3.later {V V' : World} {B : Nat} {A Z X : Array Value} (h : R3 V B A Z X) (hb : Below V.heap.size V V') : R3 V' B A Z X := ⟨rowL h.a hb, rowL h.z hb, rowL h.x hb⟩
theorem R3.set {V : World} {B i : Nat} {A Z X : Array Value} {v : Value} (h : R3 V B A Z X) : R3 (V.setCell ⟨B + 1 + 1, i, none⟩ v) B A Z (X.setIfInBounds i v) := ⟨rowO h.a (by omega), rowO h.z (by omega), heap_setCell_same _ _ _ _ _ _ h.x⟩
theorem R3.new (w : World) (A Z X : Array Value) : R3 (((w.alloc (.cells A 38)).alloc (.cells Z 27)).alloc (.cells X 27)) w.heap.size A Z X := by
  have e1 : (w.alloc (.cells A 38)).heap.size = w.heap.size + 1 := by simp
  have e2 : ((w.alloc (.cells A 38)).alloc (.cells Z 27)).heap.size = w.heap.size + 1 + 1 := by simp
  have h1 := heap_alloc_new w (.cells A 38)
  have h2 := heap_alloc_new (w.alloc (.cells A 38)) (.cells Z 27)
  have h3 := heap_alloc_new ((w.alloc (.cells A 38)).alloc (.cells Z 27)) (.cells X 27)
  rw [e1] at h2
  rw [e2] at h3
  exact ⟨rowL (rowL h1 (bal _ _)) (bal _ _), rowL h2 (bal _ _), h3⟩
set_option maxRecDepth 20000 in
set_option maxHeartbeats 8000000 in
theorem toStm_any (d : St) (p : Sa) (w : World) (h : SM w d p) : Calls Tryz.prog 12 #[.agg (cs8 d p)] w fun e w' => ∃ p', e = .returned (.agg (cs8 d p')) ∧ SM w' d p' ∧ Below w.heap.size w w' := by
  have hR0 := R3.new w (cs8 d p) #[.int .i64 0, .string ⟨#[]⟩, .slice none 0 0, .slice none 0 0, .string ⟨#[]⟩, .slice none 0 0, .slice none 0 0, .slice none 0 0] #[.int .i64 d.k, .string d.tb, .slice none 0 0, .slice none 0 0, .string ⟨#[]⟩, .slice none 0 0, .slice none 0 0, .slice none 0 0]
  have hbW : Below w.heap.size w (((w.alloc (.cells (cs8 d p) 38)).alloc (.cells #[.int .i64 0, .string ⟨#[]⟩, .slice none 0 0, .slice none 0 0, .string ⟨#[]⟩, .slice none 0 0, .slice none 0 0, .slice none 0 0] 27)).alloc (.cells #[.int .i64 d.k, .string d.tb, .slice none 0 0, .slice none 0 0, .string ⟨#[]⟩, .slice none 0 0, .slice none 0 0, .slice none 0 0] 27)) := below3 _ _ _ _
  have hW : (((w.alloc (.cells (cs8 d p) 38)).alloc (.cells #[.int .i64 0, .string ⟨#[]⟩, .slice none 0 0, .slice none 0 0, .string ⟨#[]⟩, .slice none 0 0, .slice none 0 0, .slice none 0 0] 27)).alloc (.cells #[.int .i64 d.k, .string d.tb, .slice none 0 0, .slice none 0 0, .string ⟨#[]⟩, .slice none 0 0, .slice none 0 0, .slice none 0 0] 27)).heap.size = w.heap.size + 1 + 1 + 1 := by simp
  obtain ⟨G, hG⟩ : ∃ G : Nat, G = w.heap.size + 1 + 1 + 1 := ⟨_, rfl⟩
  go_enter Tryz.func12, Tryz.ntmps12
  go_wp2_with (first | (go_at_call 45; refine (toOuts _ _ _ d.m7 d.O _ (h.later (bset B4 (by omega))).ou h.l7).mono ?_; rintro e w5 ⟨g5, hg5, rfl, hL5, hb5⟩; have r5 : R3 w5 w.heap.size (cs8 d p) #[.int .i64 0, .string ⟨#[]⟩, .slice none 0 0, .slice none 0 0, .string ⟨#[]⟩, .slice none 0 0, .slice none 0 0, .slice none 0 0] #[.int .i64 d.k, .string d.tb, .slice (some ⟨g1, 0, none⟩) d.n2 d.n2, .slice (some ⟨g2, 0, none⟩) d.n3 d.n3, .string d.col, .slice (some ⟨g3, 0, none⟩) d.n5 d.n5, .slice (some ⟨g4, 0, none⟩) d.n6 d.n6, .slice none 0 0] := (r4.set).later hb5; have B5 : Below w.heap.size w w5 := bstep (bset B4 (by omega)) hb5; have s5 : w4.heap.size ≤ w5.heap.size := (by simpa using hb5.size); have hGs : G ≤ (w4.setCell ⟨w.heap.size + 1 + 1, 6, none⟩ (.slice (some ⟨g4, 0, none⟩) d.n6 d.n6)).heap.size := (by simp; omega); have hG5 : G ≤ g5 := Nat.le_trans hGs hg5; have K5 : Kp G w4 w5 := (Kp.set (by omega)).trans (Kp.of G hb5); have x5_0 : w5.cell? ⟨w.heap.size + 1 + 1, 0, none⟩ = some (.int .i64 d.k) := (cell_of_row _ _ 0 _ _ _ r5.x).trans rfl; have x5_1 : w5.cell? ⟨w.heap.size + 1 + 1, 1, none⟩ = some (.string d.tb) := (cell_of_row _ _ 1 _ _ _ r5.x).trans rfl; have x5_2 : w5.cell? ⟨w.heap.size + 1 + 1, 2, none⟩ = some (.slice (some ⟨g1, 0, none⟩) d.n2 d.n2) := (cell_of_row _ _ 2 _ _ _ r5.x).trans rfl; have x5_3 : w5.cell? ⟨w.heap.size + 1 + 1, 3, none⟩ = some (.slice (some ⟨g2, 0, none⟩) d.n3 d.n3) := (cell_of_row _ _ 3 _ _ _ r5.x).trans rfl; have x5_4 : w5.cell? ⟨w.heap.size + 1 + 1, 4, none⟩ = some (.string d.col) := (cell_of_row _ _ 4 _ _ _ r5.x).trans rfl; have x5_5 : w5.cell? ⟨w.heap.size + 1 + 1, 5, none⟩ = some (.slice (some ⟨g3, 0, none⟩) d.n5 d.n5) := (cell_of_row _ _ 5 _ _ _ r5.x).trans rfl; have x5_6 : w5.cell? ⟨w.heap.size + 1 + 1, 6, none⟩ = some (.slice (some ⟨g4, 0, none⟩) d.n6 d.n6) := (cell_of_row _ _ 6 _ _ _ r5.x).trans rfl; have z5_0 : w5.cell? ⟨w.heap.size + 1, 0, none⟩ = some (.int .i64 0) := (cell_of_row _ _ 0 _ _ _ r5.z).trans rfl; have zf_0 : w5.frozen? ⟨w.heap.size + 1, 0, none⟩ = false := frozen_of_row _ _ 0 _ _ r5.z; have z5_1 : w5.cell? ⟨w.heap.size + 1, 1, none⟩ = some (.string ⟨#[]⟩) := (cell_of_row _ _ 1 _ _ _ r5.z).trans rfl; have zf_1 : w5.frozen? ⟨w.heap.size + 1, 1, none⟩ = false := frozen_of_row _ _ 1 _ _ r5.z; have z5_2 : w5.cell? ⟨w.heap.size + 1, 2, none⟩ = some (.slice none 0 0) := (cell_of_row _ _ 2 _ _ _ r5.z).trans rfl; have zf_2 : w5.frozen? ⟨w.heap.size + 1, 2, none⟩ = false := frozen_of_row _ _ 2 _ _ r5.z; have z5_3 : w5.cell? ⟨w.heap.size + 1, 3, none⟩ = some (.slice none 0 0) := (cell_of_row _ _ 3 _ _ _ r5.z).trans rfl; have zf_3 : w5.frozen? ⟨w.heap.size + 1, 3, none⟩ = false := frozen_of_row _ _ 3 _ _ r5.z; have z5_4 : w5.cell? ⟨w.heap.size + 1, 4, none⟩ = some (.string ⟨#[]⟩) := (cell_of_row _ _ 4 _ _ _ r5.z).trans rfl; have zf_4 : w5.frozen? ⟨w.heap.size + 1, 4, none⟩ = false := frozen_of_row _ _ 4 _ _ r5.z; have z5_5 : w5.cell? ⟨w.heap.size + 1, 5, none⟩ = some (.slice none 0 0) := (cell_of_row _ _ 5 _ _ _ r5.z).trans rfl; have zf_5 : w5.frozen? ⟨w.heap.size + 1, 5, none⟩ = false := frozen_of_row _ _ 5 _ _ r5.z; have z5_6 : w5.cell? ⟨w.heap.size + 1, 6, none⟩ = some (.slice none 0 0) := (cell_of_row _ _ 6 _ _ _ r5.z).trans rfl; have zf_6 : w5.frozen? ⟨w.heap.size + 1, 6, none⟩ = false := frozen_of_row _ _ 6 _ _ r5.z; have z5_7 : w5.cell? ⟨w.heap.size + 1, 7, none⟩ = some (.slice none 0 0) := (cell_of_row _ _ 7 _ _ _ r5.z).trans rfl; have zf_7 : w5.frozen? ⟨w.heap.size + 1, 7, none⟩ = false := frozen_of_row _ _ 7 _ _ r5.z; have m5_7 : w5.cell? ⟨w.heap.size + 1 + 1, 7, none⟩ = some (.slice none 0 0) := (cell_of_row _ _ 7 _ _ _ r5.x).trans rfl; have f5_7 : w5.frozen? ⟨w.heap.size + 1 + 1, 7, none⟩ = false := frozen_of_row _ _ 7 _ _ r5.x) | (go_at_call 44; have _h := hL3; refine (toItms _ _ _ d.W _ (h.later (bset B3 (by omega))).wh h.l6).mono ?_; rintro e w4 ⟨g4, hg4, rfl, hL4, hb4⟩; have r4 : R3 w4 w.heap.size (cs8 d p) #[.int .i64 0, .string ⟨#[]⟩, .slice none 0 0, .slice none 0 0, .string ⟨#[]⟩, .slice none 0 0, .slice none 0 0, .slice none 0 0] #[.int .i64 d.k, .string d.tb, .slice (some ⟨g1, 0, none⟩) d.n2 d.n2, .slice (some ⟨g2, 0, none⟩) d.n3 d.n3, .string d.col, .slice (some ⟨g3, 0, none⟩) d.n5 d.n5, .slice none 0 0, .slice none 0 0] := (r3.set).later hb4; have B4 : Below w.heap.size w w4 := bstep (bset B3 (by omega)) hb4; have s4 : w3.heap.size ≤ w4.heap.size := (by simpa using hb4.size); have hG4 : G ≤ g4 := Nat.le_trans (by simp; omega) hg4; have K4 : Kp G w3 w4 := (Kp.set (by omega)).trans (Kp.of G hb4); have l4_7 : w4.cell? ⟨w.heap.size, 7, none⟩ = some (.slice p.a7 d.n7 p.c7) := (cell_of_row _ _ 7 _ _ _ r4.a).trans rfl; have m4_6 : w4.cell? ⟨w.heap.size + 1 + 1, 6, none⟩ = some (.slice none 0 0) := (cell_of_row _ _ 6 _ _ _ r4.x).trans rfl; have f4_6 : w4.frozen? ⟨w.heap.size + 1 + 1, 6, none⟩ = false := frozen_of_row _ _ 6 _ _ r4.x) | (go_at_call 44; refine (toItms _ _ _ d.E _ (h.later (bset (bset B2 (by omega)) (by omega))).ex h.l5).mono ?_; rintro e w3 ⟨g3, hg3, rfl, hL3, hb3⟩; have r3 : R3 w3 w.heap.size (cs8 d p) #[.int .i64 0, .string ⟨#[]⟩, .slice none 0 0, .slice none 0 0, .string ⟨#[]⟩, .slice none 0 0, .slice none 0 0, .slice none 0 0] #[.int .i64 d.k, .string d.tb, .slice (some ⟨g1, 0, none⟩) d.n2 d.n2, .slice (some ⟨g2, 0, none⟩) d.n3 d.n3, .string d.col, .slice none 0 0, .slice none 0 0, .slice none 0 0] := (r2.set.set).later hb3; have B3 : Below w.heap.size w w3 := bstep (bset (bset B2 (by omega)) (by omega)) hb3; have s3 : w2.heap.size ≤ w3.heap.size := (by simpa using hb3.size); have hG3 : G ≤ g3 := Nat.le_trans (by simp; omega) hg3; have K3 : Kp G w2 w3 := ((Kp.set (by omega)).trans (Kp.set (by omega))).trans (Kp.of G hb3); have l3_6 : w3.cell? ⟨w.heap.size, 6, none⟩ = some (.slice p.a6 d.n6 p.c6) := (cell_of_row _ _ 6 _ _ _ r3.a).trans rfl; have m3_5 : w3.cell? ⟨w.heap.size + 1 + 1, 5, none⟩ = some (.slice none 0 0) := (cell_of_row _ _ 5 _ _ _ r3.x).trans rfl; have f3_5 : w3.frozen? ⟨w.heap.size + 1 + 1, 5, none⟩ = false := frozen_of_row _ _ 5 _ _ r3.x) | (go_at_call 43; refine (toVals _ _ _ d.V _ (h.later (bset B1 (by omega))).va h.l3).mono ?_; rintro e w2 ⟨g2, hg2, rfl, hL2, hb2⟩; have r2 : R3 w2 w.heap.size (cs8 d p) #[.int .i64 0, .string ⟨#[]⟩, .slice none 0 0, .slice none 0 0, .string ⟨#[]⟩, .slice none 0 0, .slice none 0 0, .slice none 0 0] #[.int .i64 d.k, .string d.tb, .slice (some ⟨g1, 0, none⟩) d.n2 d.n2, .slice none 0 0, .string ⟨#[]⟩, .slice none 0 0, .slice none 0 0, .slice none 0 0] := (r1.set).later hb2; have B2 : Below w.heap.size w w2 := bstep (bset B1 (by omega)) hb2; have s2 : w1.heap.size ≤ w2.heap.size := (by simpa using hb2.size); have hG2 : G ≤ g2 := Nat.le_trans (by simp; omega) hg2; have K2 : Kp G w1 w2 := (Kp.set (by omega)).trans (Kp.of G hb2); have l2_4 : w2.cell? ⟨w.heap.size, 4, none⟩ = some (.string d.col) := (cell_of_row _ _ 4 _ _ _ r2.a).trans rfl; have l2_5 : w2.cell? ⟨w.heap.size, 5, none⟩ = some (.slice p.a5 d.n5 p.c5) := (cell_of_row _ _ 5 _ _ _ r2.a).trans rfl; have m2_3 : w2.cell? ⟨w.heap.size + 1 + 1, 3, none⟩ = some (.slice none 0 0) := (cell_of_row _ _ 3 _ _ _ r2.x).trans rfl; have f2_3 : w2.frozen? ⟨w.heap.size + 1 + 1, 3, none⟩ = false := frozen_of_row _ _ 3 _ _ r2.x; have m2_4 : w2.cell? ⟨w.heap.size + 1 + 1, 4, none⟩ = some (.string ⟨#[]⟩) := (cell_of_row _ _ 4 _ _ _ r2.x).trans rfl; have f2_4 : w2.frozen? ⟨w.heap.size + 1 + 1, 4, none⟩ = false := frozen_of_row _ _ 4 _ _ r2.x) | (go_at_call 42; refine (toCols _ _ _ d.C _ (h.later hbW).co h.l2).mono ?_; rintro e w1 ⟨g1, hg1, rfl, hL1, hb1⟩; have r1 : R3 w1 w.heap.size (cs8 d p) #[.int .i64 0, .string ⟨#[]⟩, .slice none 0 0, .slice none 0 0, .string ⟨#[]⟩, .slice none 0 0, .slice none 0 0, .slice none 0 0] #[.int .i64 d.k, .string d.tb, .slice none 0 0, .slice none 0 0, .string ⟨#[]⟩, .slice none 0 0, .slice none 0 0, .slice none 0 0] := (hR0).later hb1; have B1 : Below w.heap.size w w1 := bstep hbW hb1; have s1 := hb1.size; have hG1 : G ≤ g1 := (by omega); have l1_3 : w1.cell? ⟨w.heap.size, 3, none⟩ = some (.slice p.a3 d.n3 p.c3) := (cell_of_row _ _ 3 _ _ _ r1.a).trans rfl; have m1_2 : w1.cell? ⟨w.heap.size + 1 + 1, 2, none⟩ = some (.slice none 0 0) := (cell_of_row _ _ 2 _ _ _ r1.x).trans rfl; have f1_2 : w1.frozen? ⟨w.heap.size + 1 + 1, 2, none⟩ = false := frozen_of_row _ _ 2 _ _ r1.x))
  have KV : ∀ v0 v1 v2 v3 v4 v5 v6 v7 v8, Kp G w5 (((((((((w5.setCell ⟨w.heap.size + 1 + 1, 7, none⟩ v0).setCell ⟨w.heap.size + 1, 0, none⟩ v1).setCell ⟨w.heap.size + 1, 1, none⟩ v2).setCell ⟨w.heap.size + 1, 2, none⟩ v3).setCell ⟨w.heap.size + 1, 3, none⟩ v4).setCell ⟨w.heap.size + 1, 4, none⟩ v5).setCell ⟨w.heap.size + 1, 5, none⟩ v6).setCell ⟨w.heap.size + 1, 6, none⟩ v7).setCell ⟨w.heap.size + 1, 7, none⟩ v8) := fun v0 v1 v2 v3 v4 v5 v6 v7 v8 =>
    ((((((((Kp.set (by omega)).trans (Kp.set (by omega))).trans (Kp.set (by omega))).trans (Kp.set (by omega))).trans (Kp.set (by omega))).trans (Kp.set (by omega))).trans (Kp.set (by omega))).trans (Kp.set (by omega))).trans (Kp.set (by omega))
  have BV : ∀ v0 v1 v2 v3 v4 v5 v6 v7 v8, Below w.heap.size w (((((((((w5.setCell ⟨w.heap.size + 1 + 1, 7, none⟩ v0).setCell ⟨w.heap.size + 1, 0, none⟩ v1).setCell ⟨w.heap.size + 1, 1, none⟩ v2).setCell ⟨w.heap.size + 1, 2, none⟩ v3).setCell ⟨w.heap.size + 1, 3, none⟩ v4).setCell ⟨w.heap.size + 1, 4, none⟩ v5).setCell ⟨w.heap.size + 1, 5, none⟩ v6).setCell ⟨w.heap.size + 1, 6, none⟩ v7).setCell ⟨w.heap.size + 1, 7, none⟩ v8) := fun v0 v1 v2 v3 v4 v5 v6 v7 v8 =>
    bset (bset (bset (bset (bset (bset (bset (bset (bset B5 (by omega)) (by omega)) (by omega)) (by omega)) (by omega)) (by omega)) (by omega)) (by omega)) (by omega)
  have RV := fun v0 v1 v2 v3 v4 v5 v6 v7 v8 => heap_setCell_same _ _ 7 _ _ v8 (heap_setCell_same _ _ 6 _ _ v7 (heap_setCell_same _ _ 5 _ _ v6 (heap_setCell_same _ _ 4 _ _ v5 (heap_setCell_same _ _ 3 _ _ v4 (heap_setCell_same _ _ 2 _ _ v3 (heap_setCell_same _ _ 1 _ _ v2 (heap_setCell_same _ _ 0 _ _ v1 (rowO (B := w.heap.size + 1 + 1) (B' := w.heap.size + 1) (i := 7) (v := v0) r5.z (by omega)))))))))
  refine bodyPost_ret (v := .agg (cs8 d ⟨some ⟨g1, 0, none⟩, d.n2, some ⟨g2, 0, none⟩, d.n3, some ⟨g3, 0, none⟩, d.n5, some ⟨g4, 0, none⟩, d.n6, some ⟨g5, 0, none⟩, d.n7⟩)) (results_cell_row Tryz.results12 _ _ (w.heap.size + 1) 27 _ (0, 0) _ rfl (RV _ _ _ _ _ _ _ _ _) Tryz.underlying27 rfl (by kernel_rfl)) rfl ⟨_, rfl, ?_, BV _ _ _ _ _ _ _ _ _⟩
  have KK := KV (.slice (some ⟨g5, 0, none⟩) d.n7 d.n7) (.int .i64 d.k) (.string d.tb) (.slice (some ⟨g1, 0, none⟩) d.n2 d.n2) (.slice (some ⟨g2, 0, none⟩) d.n3 d.n3) (.string d.col) (.slice (some ⟨g3, 0, none⟩) d.n5 d.n5) (.slice (some ⟨g4, 0, none⟩) d.n6 d.n6) (.slice (some ⟨g5, 0, none⟩) d.n7 d.n7)
  exact ⟨h.tb, h.col, hL1.kp (K2.trans (K3.trans (K4.trans (K5.trans KK)))) hG1, hL2.kp (K3.trans (K4.trans (K5.trans KK))) hG2, hL3.kp (K4.trans (K5.trans KK)) hG3, hL4.kp (K5.trans KK) hG4, (hL5.kp KK hG5 hGs).ol, h.l2, h.l3, h.l5, h.l6, h.l7⟩
end Go.Proofs.YtnbgdfhfmbgbhaaGreatDoor
