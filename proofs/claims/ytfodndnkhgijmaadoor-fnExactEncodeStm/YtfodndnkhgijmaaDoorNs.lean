/-
  The law's own functions over statements: measured, copied, held against each other.
-/
import Derived.Test.YtfodndnkhgijmaaDoorNr
namespace Go.Proofs.YtfodndnkhgijmaaDoor
open Go.RowKit Go.Maps Go.WideMaps
/-- A statement lies there, of whatever length. -/
structure SX (w : World) (d : St) (p : Sa) : Prop where
  tb : d.tb.size ≤ 9223372036854775807
  col : d.col.size ≤ 9223372036854775807
  co : CX w p.a2 d.n2 d.C
  va : IX w p.a3 d.n3 d.V
  ex : IX w p.a5 d.n5 d.E
  wh : IX w p.a6 d.n6 d.W
  ou : OX w p.a7 d.n7 d.m7 d.O
theorem SX.later {w w' : World} {d : St} {p : Sa} (h : SX w d p) (hb : Below w.heap.size w w') : SX w' d p :=
  ⟨h.tb, h.col, h.co.later hb, h.va.later hb, h.ex.later hb, h.wh.later hb, h.ou.later hb⟩
/-- Its measures are small. -/
structure Sm8 (d : St) : Prop where
  tb : d.tb.size ≤ 1048576
  col : d.col.size ≤ 1048576
  co : d.n2 ≤ 1048576 ∧ ∀ k, k < d.n2 → (d.C k).s.size ≤ 1048576
  va : d.n3 ≤ 1048576 ∧ ∀ k, k < d.n3 → (d.V k).s.size ≤ 1048576
  ex : d.n5 ≤ 1048576 ∧ ∀ k, k < d.n5 → (d.E k).s.size ≤ 1048576
  wh : d.n6 ≤ 1048576 ∧ ∀ k, k < d.n6 → (d.W k).s.size ≤ 1048576
  ou : d.n7 ≤ 1048576 ∧ ∀ k, k < d.n7 → d.m7 k ≤ 1048576 ∧ ∀ j, j < d.m7 k → (d.O k j).s.size ≤ 1048576
theorem SX.small {w : World} {d : St} {p : Sa} (h : SX w d p) (s : Sm8 d) : SM w d p :=
  ⟨s.tb, s.col, h.co.small s.co.2, h.va.small s.va.2, h.ex.small s.ex.2, h.wh.small s.wh.2, h.ou.small s.ou.2, s.co.1, s.va.1, s.ex.1, s.wh.1, s.ou.1⟩
set_option maxRecDepth 20000 in
set_option maxHeartbeats 4000000 in
theorem szStm_any (d : St) (p : Sa) (w : World) (h : SX w d p) : Calls Tryd.prog 11 #[.agg (cs8 d p), .int .i64 1048576] w fun e w' => Below w.heap.size w w' ∧ ∃ r : Int, e = .returned (.int .i64 r) ∧ (0 ≤ r → Sm8 d) := by
  have hb0 := bal w (.cells (cs8 d p) 38)
  have H0 := h.later hb0
  have Q0 := B8.new w d p 38
  obtain ⟨htb, hcol, -, -, -, -, -⟩ := id h
  obtain ⟨q0, q1, q2, q3, q4, q5, q6, q7⟩ := id Q0
  by_cases ht : (0 : Int) ≤ 1048576 - d.tb.size
  · go_enter Tryd.func11, Tryd.ntmps11
    go_wp2_with (first | (go_at_call 30; refine (szOuts _ _ _ _ _ _ H4.ou _ hp4 hr4).mono ?_; rintro e w5 ⟨hb5, r5, rfl, hr5, hs5⟩; have H5 := H4.later hb5; have Q5 := Q4.later hb5; obtain ⟨z0_5, z1_5, z2_5, z3_5, z4_5, z5_5, z6_5, z7_5⟩ := id Q5; replace hb5 := bstep hb4 hb5; by_cases hp5 : (0 : Int) ≤ r5) | (go_at_call 29; have _h := hs3; refine (szItms _ _ _ _ _ H3.wh _ hp3 hr3).mono ?_; rintro e w4 ⟨hb4, r4, rfl, hr4, hs4⟩; have H4 := H3.later hb4; have Q4 := Q3.later hb4; obtain ⟨z0_4, z1_4, z2_4, z3_4, z4_4, z5_4, z6_4, z7_4⟩ := id Q4; replace hb4 := bstep hb3 hb4; by_cases hp4 : (0 : Int) ≤ r4) | (go_at_call 29; refine (szItms _ _ _ _ _ H2.ex _ (by omega) (by omega)).mono ?_; rintro e w3 ⟨hb3, r3, rfl, hr3, hs3⟩; have H3 := H2.later hb3; have Q3 := Q2.later hb3; obtain ⟨z0_3, z1_3, z2_3, z3_3, z4_3, z5_3, z6_3, z7_3⟩ := id Q3; replace hb3 := bstep hb2 hb3; by_cases hp3 : (0 : Int) ≤ r3) | (go_at_call 28; refine (szVals _ _ _ _ _ H1.va _ hp1 hr1).mono ?_; rintro e w2 ⟨hb2, r2, rfl, hr2, hs2⟩; have H2 := H1.later hb2; have Q2 := Q1.later hb2; obtain ⟨z0_2, z1_2, z2_2, z3_2, z4_2, z5_2, z6_2, z7_2⟩ := id Q2; replace hb2 := bstep hb1 hb2; by_cases hp2 : (0 : Int) ≤ r2) | (go_at_call 27; refine (szCols _ _ _ _ _ H0.co _ (by omega) (by omega)).mono ?_; rintro e w1 ⟨hb1, r1, rfl, hr1, hs1⟩; have H1 := H0.later hb1; have Q1 := Q0.later hb1; obtain ⟨z0_1, z1_1, z2_1, z3_1, z4_1, z5_1, z6_1, z7_1⟩ := id Q1; replace hb1 := bstep hb0 hb1; by_cases hp1 : (0 : Int) ≤ r1))
    all_goals go_ret
    · exact ⟨hb2, -1, rfl, fun hh => by omega⟩
    · exact ⟨hb5, r5, rfl, fun _ => ⟨by omega, by omega, hs1 hp1, hs2 hp2, hs3 hp3, hs4 hp4, hs5 hp5⟩⟩
    · exact ⟨hb5, -1, rfl, fun hh => by omega⟩
    · exact ⟨hb4, -1, rfl, fun hh => by omega⟩
    · exact ⟨hb3, -1, rfl, fun hh => by omega⟩
    · exact ⟨hb2, -1, rfl, fun hh => by omega⟩
    · exact ⟨hb1, -1, rfl, fun hh => by omega⟩
  · go_enter Tryd.func11, Tryd.ntmps11
    go_wp2
    go_ret
    exact ⟨hb0, -1, rfl, fun hh => by omega⟩
set_option maxRecDepth 20000 in
set_option maxHeartbeats 4000000 in
theorem eqStm_any (d : St) (p p' : Sa) (w : World) (h : SM w d p) (h' : SM w d p') : Calls Tryd.prog 15 #[.agg (cs8 d p), .agg (cs8 d p')] w fun e w' => e = .returned (.bool true) ∧ Below w.heap.size w w' := by
  have hb0 := bstep (bal w (.cells (cs8 d p) 46)) (bal _ (.cells (cs8 d p') 46))
  have H0 := h.later hb0
  have K0 := h'.later hb0
  have Q0 := (B8.new w d p 46).later (bal _ (.cells (cs8 d p') 46))
  have P0 := B8.new (w.alloc (.cells (cs8 d p) 46)) d p' 46
  have es : (w.alloc (.cells (cs8 d p) 46)).heap.size = w.heap.size + 1 := by simp
  rw [es] at P0
  go_enter Tryd.func15, Tryd.ntmps15
  go_wp2_with (first | (go_at_call 52; refine (eqOuts _ _ _ _ _ _ _ _ H4.ou K4.ou H4.l7).mono ?_; rintro e w5 ⟨rfl, hb5⟩; have H5 := H4.later hb5; have K5 := K4.later hb5; have Q5 := Q4.later hb5; have P5 := P4.later hb5; replace hb5 := bstep hb4 hb5; obtain ⟨y0_5, y1_5, y2_5, y3_5, y4_5, y5_5, y6_5, y7_5⟩ := id Q5; obtain ⟨z0_5, z1_5, z2_5, z3_5, z4_5, z5_5, z6_5, z7_5⟩ := id P5) | (go_at_call 51; have _h := hb3; refine (eqItms _ _ _ _ _ _ _ H3.wh K3.wh H3.l6).mono ?_; rintro e w4 ⟨rfl, hb4⟩; have H4 := H3.later hb4; have K4 := K3.later hb4; have Q4 := Q3.later hb4; have P4 := P3.later hb4; replace hb4 := bstep hb3 hb4; obtain ⟨y0_4, y1_4, y2_4, y3_4, y4_4, y5_4, y6_4, y7_4⟩ := id Q4; obtain ⟨z0_4, z1_4, z2_4, z3_4, z4_4, z5_4, z6_4, z7_4⟩ := id P4) | (go_at_call 51; refine (eqItms _ _ _ _ _ _ _ H2.ex K2.ex H2.l5).mono ?_; rintro e w3 ⟨rfl, hb3⟩; have H3 := H2.later hb3; have K3 := K2.later hb3; have Q3 := Q2.later hb3; have P3 := P2.later hb3; replace hb3 := bstep hb2 hb3; obtain ⟨y0_3, y1_3, y2_3, y3_3, y4_3, y5_3, y6_3, y7_3⟩ := id Q3; obtain ⟨z0_3, z1_3, z2_3, z3_3, z4_3, z5_3, z6_3, z7_3⟩ := id P3) | (go_at_call 50; refine (eqVals _ _ _ _ _ _ _ H1.va K1.va H1.l3).mono ?_; rintro e w2 ⟨rfl, hb2⟩; have H2 := H1.later hb2; have K2 := K1.later hb2; have Q2 := Q1.later hb2; have P2 := P1.later hb2; replace hb2 := bstep hb1 hb2; obtain ⟨y0_2, y1_2, y2_2, y3_2, y4_2, y5_2, y6_2, y7_2⟩ := id Q2; obtain ⟨z0_2, z1_2, z2_2, z3_2, z4_2, z5_2, z6_2, z7_2⟩ := id P2) | (go_at_call 49; refine (eqCols _ _ _ _ _ _ _ H0.co K0.co H0.l2).mono ?_; rintro e w1 ⟨rfl, hb1⟩; have H1 := H0.later hb1; have K1 := K0.later hb1; have Q1 := Q0.later hb1; have P1 := P0.later hb1; replace hb1 := bstep hb0 hb1; obtain ⟨y0_1, y1_1, y2_1, y3_1, y4_1, y5_1, y6_1, y7_1⟩ := id Q1; obtain ⟨z0_1, z1_1, z2_1, z3_1, z4_1, z5_1, z6_1, z7_1⟩ := id P1))
  go_ret
  exact ⟨rfl, hb5⟩
end Go.Proofs.YtfodndnkhgijmaaDoor
