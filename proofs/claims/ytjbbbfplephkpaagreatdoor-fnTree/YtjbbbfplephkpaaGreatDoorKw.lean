/-
  Kinds and widths: both ways; lists of digests of one width.
-/
import Derived.Test.YtjbbbfplephkpaaGreatDoorSq
namespace Go.Proofs.YtjbbbfplephkpaaGreatDoor
open Go.RowKit
theorem ret_bool {a b : Bool} (h : a = b) : Ending.returned (.bool a) = .returned (.bool b) := by rw [h]
set_option maxRecDepth 20000 in
theorem kind_yes (k : Int) (w : World) (h : k = 0 ∨ k = 1) : Calls Tryz.prog 23 #[.int .i64 k] w fun e w' => e = .returned (.bool true) ∧ w' = w := by
  rcases h with rfl | rfl
  all_goals
    go_enter Tryz.func23, Tryz.ntmps23
    go_wp2
    go_ret
    exact ⟨rfl, rfl⟩
set_option maxRecDepth 20000 in
theorem kind_no (k : Int) (w : World) (h : ¬ (k = 0 ∨ k = 1)) : Calls Tryz.prog 23 #[.int .i64 k] w fun e w' => e = .returned (.bool false) ∧ w' = w := by
  have h0 : ¬ k = 0 := fun e => h (Or.inl e)
  have h1 : ¬ k = 1 := fun e => h (Or.inr e)
  clear h
  go_enter Tryz.func23, Tryz.ntmps23
  go_wp2
  go_ret
  exact ⟨by simp [h0, h1], rfl⟩
set_option maxRecDepth 20000 in
theorem betw_yes (x lo hi : Int) (w : World) (h0 : lo ≤ x) (h1 : x ≤ hi) : Calls Tryz.prog 24 #[.int .i64 x, .int .i64 lo, .int .i64 hi] w fun e w' => e = .returned (.bool true) ∧ w' = w := by
  go_enter Tryz.func24, Tryz.ntmps24
  go_wp2
  go_ret
  exact ⟨by simp, rfl⟩
set_option maxRecDepth 20000 in
theorem betw_no (x lo hi : Int) (w : World) (h : ¬ (lo ≤ x ∧ x ≤ hi)) : Calls Tryz.prog 24 #[.int .i64 x, .int .i64 lo, .int .i64 hi] w fun e w' => e = .returned (.bool false) ∧ w' = w := by
  by_cases h0 : lo ≤ x
  · have h1 : ¬ x ≤ hi := fun e => h ⟨h0, e⟩
    clear h
    go_enter Tryz.func24, Tryz.ntmps24
    go_wp2
    go_ret
    exact ⟨by simp, rfl⟩
  · clear h
    go_enter Tryz.func24, Tryz.ntmps24
    go_wp2
    go_ret
    exact ⟨rfl, rfl⟩
set_option maxRecDepth 20000 in
theorem width_any (k : Int) (w : World) : Calls Tryz.prog 25 #[.int .i64 k] w fun e w' => e = .returned (.int .i64 (wid k : Nat)) ∧ w' = w := by
  by_cases h : k = 1
  · subst h
    go_enter Tryz.func25, Tryz.ntmps25
    go_wp2
    go_ret
    exact ⟨rfl, rfl⟩
  · have e : wid k = 32 := by unfold wid; rw [if_neg h]
    rw [e]
    go_enter Tryz.func25, Tryz.ntmps25
    go_wp2
    go_ret
    exact ⟨rfl, rfl⟩
set_option maxRecDepth 20000 in
theorem widthOf_yes (k : Int) (w : World) (h : k = 0 ∨ k = 1) : Calls Tryz.prog 27 #[.int .i64 k] w fun e w' => e = .returned (.int .i64 (wid k : Nat)) ∧ w' = w := by
  rcases h with rfl | rfl
  all_goals
    go_enter Tryz.func27, Tryz.ntmps27
    go_wp2
    go_ret
    exact ⟨rfl, rfl⟩
set_option maxRecDepth 20000 in
theorem widthOf_no (k : Int) (w : World) (h : ¬ (k = 0 ∨ k = 1)) : Calls Tryz.prog 27 #[.int .i64 k] w fun e w' => e = .returned (.int .i64 0) ∧ w' = w := by
  have h0 : ¬ k = 0 := fun e => h (Or.inl e)
  have h1 : ¬ k = 1 := fun e => h (Or.inr e)
  clear h
  go_enter Tryz.func27, Tryz.ntmps27
  go_wp2
  go_ret
  exact ⟨rfl, rfl⟩
end Go.Proofs.YtjbbbfplephkpaaGreatDoor
