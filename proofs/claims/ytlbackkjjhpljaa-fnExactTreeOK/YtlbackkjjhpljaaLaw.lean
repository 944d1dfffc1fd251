/-
  The law's walk.
-/
import Derived.Test.YtlbackkjjhpljaaTik
import Derived.RegionCalls
namespace Go.Proofs.Ytlbackkjjhpljaa
open Go.RowKit
theorem Sl.drew1 {w : World} {a : Option Addr} {n : Nat} {S : Nat → ByteArray} (h : Sl w a n S) : Sl w.drew a n S := h
theorem undrew {B : Nat} {w w' : World} (h : Below B w.drew w') : Below B w w' := ⟨h.os, h.tape, h.output, h.size, h.block⟩
theorem keep {w w' : World} {p : Addr} {v : Value} (hb : Below w.heap.size w w') (hc : w.cell? p = some v) : w'.cell? p = some v :=
  (hb.cell (World.block_lt_of_cell? w _ hc)).trans hc
theorem cell_box (w : World) (x y : Value) (t : TypeId) : (w.alloc (.cells #[x, y] t)).cell? ⟨w.heap.size, 0, none⟩ = some x ∧ (w.alloc (.cells #[x, y] t)).cell? ⟨w.heap.size, 1, none⟩ = some y :=
  ⟨(cell_of_row _ _ 0 _ _ _ (heap_alloc_new w _)).trans rfl, (cell_of_row _ _ 1 _ _ _ (heap_alloc_new w _)).trans rfl⟩
set_option maxHeartbeats 2000000 in
theorem law_any (k z : Int) (a : Option Addr) (n c : Nat) (S : Nat → ByteArray) (w : World) (h : Sl w a n S) :
    Calls Try.prog 3 #[.int .i64 k, .agg #[.int .i64 z, .slice a n c]] w fun e w' => e = .returned (.bool true) ∧ Below w.heap.size w w' := by
  have hS0 := h.later (below1 w (.cells #[.int .i64 z, .slice a n c] 24))
  have hs := fun j hj => (h.2 j hj).1
  obtain ⟨p0, q0⟩ := cell_box w (.int .i64 z) (.slice a n c) 24
  go_enter Try.func3, Try.ntmps3
  go_wp2_with (first | (go_at_call 4; refine (szTree_any _ _ _ _ S _ hS0).mono ?_; rintro e w1 ⟨hb1, r, rfl, hall⟩; have hS1 := hS0.later hb1; have p1 := keep hb1 p0; have q1 := keep hb1 q0) | (go_at_call 6; refine (toTree_any _ _ _ _ S _ hS1 (hall (by omega)).1).mono ?_; rintro e w2 ⟨g2, hg2, rfl, hrow2, hb2⟩; have hS2 := sl_of_row w2 g2 n S _ (hall (by omega)).1 hs hrow2; clear hrow2; have p2 := keep hb2 p1; have q2 := keep hb2 q1) | (go_at_call 5; refine (specOK_any _ _ _ _ _ S _ hS2).mono ?_; rintro e w3 ⟨rfl, hb3⟩; have hS3 := (hS1.later hb2).later hb3; have p3 := keep hb3 p2; have q3 := keep hb3 q2) | (go_at_call 6; refine (toTree_any _ _ _ _ S _ hS3 (hall (by omega)).1).mono ?_; rintro e w4 ⟨g4, hg4, rfl, hrow4, hb4⟩; have hS4 := sl_of_row w4 g4 n S _ (hall (by omega)).1 hs hrow4; clear hrow4; have p4 := keep (below1 w4 (.cells #[.int .i64 z, .slice (some ⟨g4, 0, none⟩) n n] 27)) (keep hb4 p3); have q4 := keep (below1 w4 (.cells #[.int .i64 z, .slice (some ⟨g4, 0, none⟩) n n] 27)) (keep hb4 q3); obtain ⟨u4, v4⟩ := cell_box w4 (.int .i64 z) (.slice (some ⟨g4, 0, none⟩) n n) 27) | (go_at_call 7; refine (implOK_any _ _ _ _ _ S _ (hS4.later (below1 _ _))).mono ?_; rintro e w5 ⟨rfl, hb5⟩; have p5 := keep hb5 p4; have q5 := keep hb5 q4; have u5 := keep hb5 u4; have v5 := keep hb5 v4))
  · go_ret
    exact ⟨rfl, (below1 _ _).trans (hb1.mono (by simp))⟩
  · have hnn := (hall (by omega)).1
    have hS5 : Sl w5.drew a n S := Sl.drew1 (((hS3.later hb4).later (below1 _ _)).later hb5)
    have hT5 : Sl w5.drew (some ⟨g4, 0, none⟩) n S := Sl.drew1 ((hS4.later (below1 _ _)).later hb5)
    have b5 : Below w.heap.size w w5 := ((((((below1 _ _).trans (hb1.mono (by simp))).trans (hb2.mono (by have := hb1.size; simp at this; omega))).trans (hb3.mono (by have := hb1.size; have := hb2.size; simp at *; omega))).trans (hb4.mono (by have := hb1.size; have := hb2.size; have := hb3.size; simp at *; omega))).trans ((below1 _ _).mono (by have := hb1.size; have := hb2.size; have := hb3.size; have := hb4.size; simp at *; omega))).trans (hb5.mono (by have := hb1.size; have := hb2.size; have := hb3.size; have := hb4.size; simp at *; omega))
    have hz5 : w.heap.size ≤ w5.heap.size := b5.size
    clear p0 q0 p1 q1 p2 q2 p3 q3 p4 q4 u4 v4 hb1 hb2 hb3 hb4 hb5 hS0 hS1 hS2 hS3 hS4 h hg2 hg4 hall
    go_region_with (first | (go_at_call 6; refine (toTree_any _ _ _ _ S _ hS5 hnn).mono ?_; rintro e w6 ⟨g6, hg6, rfl, hrow6, hb6⟩; have hS6 := sl_of_row w6 g6 n S _ hnn hs hrow6; clear hrow6; have u6 := keep (w := w5.drew) hb6 u5; have v6 := keep (w := w5.drew) hb6 v5; have hT6 := hT5.later hb6) | (go_at_call 8; refine (eqTree_any _ _ _ _ _ _ S S _ hT6 hS6 (fun _ _ => rfl)).mono ?_; rintro e w7 ⟨rfl, hb7⟩))
    all_goals
      go_wp2
      go_ret
      exact ⟨rfl, (b5.trans (undrew (hb6.mono hz5))).trans (hb7.mono (Nat.le_trans hz5 hb6.size))⟩
end Go.Proofs.Ytlbackkjjhpljaa
