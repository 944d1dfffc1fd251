/-
  A slice of strings copied; a tree copied, measured, held against another.
-/
import Derived.Test.YtlbackkjjhpljaaDoorTs
import Derived.Test.YtlbackkjjhpljaaDoorOc
import Derived.Deep.OwnRows
namespace Go.Proofs.YtlbackkjjhpljaaDoor
open Go.RowKit
set_option maxRecDepth 20000 in
set_option maxHeartbeats 1000000 in
theorem toTree_any (z : Int) (a : Option Addr) (n c : Nat) (S : Nat → ByteArray) (w : World) (h : Sl w a n S) (hn : n ≤ 1048576) :
    Calls Tryd.prog 15 #[.agg #[.int .i64 z, .slice a n c]] w fun e w' => ∃ g, w.heap.size ≤ g ∧ e = .returned (.agg #[.int .i64 z, .slice (some ⟨g, 0, none⟩) n n]) ∧ w'.heap[g]? = some (.cells (sArr n S n) 9 (0, 0)) ∧ Below w.heap.size w w' := by
  go_enter Tryd.func15, Tryd.ntmps15
  go_wp2_with (go_at_call 20; refine (toStrs_any _ _ _ S _ (h.later (below3 _ _ _ _)) hn).mono ?hm; rintro e w1 ⟨rfl, h1, hz1, hb1⟩; obtain ⟨hc, hf⟩ := bcell hb1)
  refine bodyPost_ret (v := .agg #[.int .i64 z, .slice (some ⟨w.heap.size + 1 + 1 + 1, 0, none⟩) n n]) (by simp [results, Tryd.results15, go_sem, hc]) rfl ⟨_, by omega, rfl, ?_, ?_⟩
  · rw [heap_setCell_other _ _ _ _ (by simp; omega), heap_setCell_other _ _ _ _ (by simp; omega), heap_setCell_other _ _ _ _ (by simp)]
    simpa using h1
  · have hw1 : Below w.heap.size w w1 := (below3 w _ _ _).trans (hb1.mono (by simp; omega))
    exact ((hw1.setCell (by simp; omega) _).setCell (by simp) _).setCell (by simp) _
set_option maxRecDepth 20000 in
theorem szTree_any (z : Int) (a : Option Addr) (n c : Nat) (S : Nat → ByteArray) (w : World) (h : Sl w a n S) :
    Calls Tryd.prog 13 #[.agg #[.int .i64 z, .slice a n c], .int .i64 1048576] w fun e w' => Below w.heap.size w w' ∧ ∃ r : Int, e = .returned (.int .i64 r) ∧ (0 ≤ r → n ≤ 1048576 ∧ ∀ k, k < n → (S k).size ≤ 1048576) := by
  go_enter Tryd.func13, Tryd.ntmps13
  go_wp2_with (go_at_call 18; refine (szStrs_any _ _ _ S _ (h.later (below1 _ _)) 1048576 (by omega) (by omega)).mono ?hm; rintro e w1 ⟨rfl, r, rfl, hr, hall⟩)
  · go_ret
    exact ⟨below1 _ _, -1, rfl, fun hh => by omega⟩
  · go_ret
    exact ⟨below1 _ _, r, rfl, hall⟩
set_option maxRecDepth 20000 in
theorem eqTree_any (z : Int) (a a' : Option Addr) (n c c' : Nat) (S S' : Nat → ByteArray) (w : World) (h : Sl w a n S) (h' : Sl w a' n S') (he : ∀ k, k < n → S k = S' k) :
    Calls Tryd.prog 17 #[.agg #[.int .i64 z, .slice a n c], .agg #[.int .i64 z, .slice a' n c']] w fun e w' => e = .returned (.bool true) ∧ Below w.heap.size w w' := by
  go_enter Tryd.func17, Tryd.ntmps17
  go_wp2_with (go_at_call 22; refine (eqStrs_any _ _ _ _ _ S S' _ (h.later ((below1 _ _).alloc (by simp) _)) (h'.later ((below1 _ _).alloc (by simp) _)) he).mono ?hm; rintro e w1 ⟨rfl, q, rfl⟩)
  go_ret
  exact ⟨rfl, bdrew ((below1 _ _).alloc (by simp) _) q⟩
end Go.Proofs.YtlbackkjjhpljaaDoor
