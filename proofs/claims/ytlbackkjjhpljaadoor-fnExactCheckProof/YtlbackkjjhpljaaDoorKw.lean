/-
  Kinds and widths: both ways; lists of digests of one width.
-/
import Derived.Test.YtlbackkjjhpljaaDoorSq
namespace Go.Proofs.YtlbackkjjhpljaaDoor
open Go.RowKit
theorem ret_bool {a b : Bool} (h : a = b) : Ending.returned (.bool a) = .returned (.bool b) := by rw [h]
set_option maxRecDepth 20000 in
theorem kind_yes (k : Int) (w : World) (h : k = 0 ∨ k = 1) : Calls Tryd.prog 53 #[.int .i64 k] w fun e w' => e = .returned (.bool true) ∧ w' = w := by
  rcases h with rfl | rfl
  all_goals
    go_enter Tryd.func53, Tryd.ntmps53
    go_wp2
    go_ret
    exact ⟨rfl, rfl⟩
set_option maxRecDepth 20000 in
theorem kind_no (k : Int) (w : World) (h : ¬ (k = 0 ∨ k = 1)) : Calls Tryd.prog 53 #[.int .i64 k] w fun e w' => e = .returned (.bool false) ∧ w' = w := by
  have h0 : ¬ k = 0 := fun e => h (Or.inl e)
  have h1 : ¬ k = 1 := fun e => h (Or.inr e)
  clear h
  go_enter Tryd.func53, Tryd.ntmps53
  go_wp2
  go_ret
  exact ⟨by simp [h0, h1], rfl⟩
set_option maxRecDepth 20000 in
theorem betw_yes (x lo hi : Int) (w : World) (h0 : lo ≤ x) (h1 : x ≤ hi) : Calls Tryd.prog 54 #[.int .i64 x, .int .i64 lo, .int .i64 hi] w fun e w' => e = .returned (.bool true) ∧ w' = w := by
  go_enter Tryd.func54, Tryd.ntmps54
  go_wp2
  go_ret
  exact ⟨by simp, rfl⟩
set_option maxRecDepth 20000 in
theorem betw_no (x lo hi : Int) (w : World) (h : ¬ (lo ≤ x ∧ x ≤ hi)) : Calls Tryd.prog 54 #[.int .i64 x, .int .i64 lo, .int .i64 hi] w fun e w' => e = .returned (.bool false) ∧ w' = w := by
  by_cases h0 : lo ≤ x
  · have h1 : ¬ x ≤ hi := fun e => h ⟨h0, e⟩
    clear h
    go_enter Tryd.func54, Tryd.ntmps54
    go_wp2
    go_ret
    exact ⟨by simp, rfl⟩
  · clear h
    go_enter Tryd.func54, Tryd.ntmps54
    go_wp2
    go_ret
    exact ⟨rfl, rfl⟩
set_option maxRecDepth 20000 in
theorem width_any (k : Int) (w : World) : Calls Tryd.prog 40 #[.int .i64 k] w fun e w' => e = .returned (.int .i64 (wid k : Nat)) ∧ w' = w := by
  by_cases h : k = 1
  · subst h
    go_enter Tryd.func40, Tryd.ntmps40
    go_wp2
    go_ret
    exact ⟨rfl, rfl⟩
  · have e : wid k = 32 := by unfold wid; rw [if_neg h]
    rw [e]
    go_enter Tryd.func40, Tryd.ntmps40
    go_wp2
    go_ret
    exact ⟨rfl, rfl⟩
set_option maxRecDepth 20000 in
theorem widthOf_yes (k : Int) (w : World) (h : k = 0 ∨ k = 1) : Calls Tryd.prog 42 #[.int .i64 k] w fun e w' => e = .returned (.int .i64 (wid k : Nat)) ∧ w' = w := by
  rcases h with rfl | rfl
  all_goals
    go_enter Tryd.func42, Tryd.ntmps42
    go_wp2
    go_ret
    exact ⟨rfl, rfl⟩
set_option maxRecDepth 20000 in
theorem widthOf_no (k : Int) (w : World) (h : ¬ (k = 0 ∨ k = 1)) : Calls Tryd.prog 42 #[.int .i64 k] w fun e w' => e = .returned (.int .i64 0) ∧ w' = w := by
  have h0 : ¬ k = 0 := fun e => h (Or.inl e)
  have h1 : ¬ k = 1 := fun e => h (Or.inr e)
  clear h
  go_enter Tryd.func42, Tryd.ntmps42
  go_wp2
  go_ret
  exact ⟨rfl, rfl⟩
set_option maxRecDepth 20000 in
set_option maxHeartbeats 1000000 in
theorem widths_yes (k : Int) (a : Option Addr) (n c : Nat) (S : Nat → ByteArray) (w : World) (h : Sl w a n S) (hk : k = 0 ∨ k = 1) (hs : ∀ j, j < n → (S j).size = wid k) :
    Calls Tryd.prog 57 #[.int .i64 k, .slice a n c] w fun e w' => e = .returned (.bool true) ∧ w' = w := by
  have hn := h.1
  have HS : Hid (∀ j, j < n → (S j).size = wid k) := hs
  clear hs
  go_enter Tryd.func57, Tryd.ntmps57
  go_wp2
  go_loop [9] (fun i => ∃ j : Nat, j ≤ n ∧ i = .int .i64 j) (fun i => n - (intOf i).toNat)
  case atStart => exact ⟨0, by omega, rfl⟩
  case round =>
    obtain ⟨j, hj, rfl⟩ := hrel
    by_cases hlt : j < n
    · obtain ⟨b, off, rfl, hc⟩ := h.at j hlt
      have hsz := (h.2 j hlt).1
      have hq : (S j).size = wid k := HS.out j hlt
      have hq' : ((S j).size : Int) = (wid k : Nat) := by omega
      go_wp2_with (go_at_call 40; refine (width_any _ _).mono ?_; rintro e w1 ⟨rfl, rfl⟩)
      go_round
      case rel => exact ⟨j + 1, by omega, by go_num⟩
      case measure => simp [intOf]; omega
    · obtain rfl : j = n := by omega
      go_wp2_with (go_at_call 53; refine (kind_yes _ _ hk).mono ?_; rintro e w1 ⟨rfl, rfl⟩)
      go_ret
      exact ⟨rfl, rfl⟩
set_option maxRecDepth 20000 in
set_option maxHeartbeats 1000000 in
theorem widths_no (k : Int) (a : Option Addr) (n c : Nat) (S : Nat → ByteArray) (w : World) (h : Sl w a n S) (hno : ¬ ((k = 0 ∨ k = 1) ∧ ∀ j, j < n → (S j).size = wid k)) :
    Calls Tryd.prog 57 #[.int .i64 k, .slice a n c] w fun e w' => e = .returned (.bool false) ∧ w' = w := by
  have hn := h.1
  have HN : Hid (¬ ((k = 0 ∨ k = 1) ∧ ∀ j, j < n → (S j).size = wid k)) := hno
  clear hno
  go_enter Tryd.func57, Tryd.ntmps57
  go_wp2
  go_loop [9] (fun i => ∃ j : Nat, j ≤ n ∧ i = .int .i64 j ∧ ∀ q, q < j → (S q).size = wid k) (fun i => n - (intOf i).toNat)
  case atStart => exact ⟨0, by omega, rfl, fun q hq => by omega⟩
  case round =>
    obtain ⟨j, hj, rfl, hall⟩ := hrel
    have HA : Hid (∀ q, q < j → (S q).size = wid k) := hall
    clear hall
    by_cases hlt : j < n
    · obtain ⟨b, off, rfl, hc⟩ := h.at j hlt
      have hsz := (h.2 j hlt).1
      by_cases hq : (S j).size = wid k
      · have hq' : ((S j).size : Int) = (wid k : Nat) := by omega
        go_wp2_with (go_at_call 40; refine (width_any _ _).mono ?_; rintro e w1 ⟨rfl, rfl⟩)
        go_round
        case rel => exact ⟨j + 1, by omega, by go_num, fun q hq2 => by
          by_cases e : q = j
          · subst e; exact hq
          · exact HA.out q (by omega)⟩
        case measure => simp [intOf]; omega
      · have hq' : ¬ ((S j).size : Int) = (wid k : Nat) := by omega
        go_wp2_with (go_at_call 40; refine (width_any _ _).mono ?_; rintro e w1 ⟨rfl, rfl⟩)
        go_ret
        exact ⟨rfl, rfl⟩
    · obtain rfl : j = n := by omega
      have hk : ¬ (k = 0 ∨ k = 1) := fun hk => HN.out ⟨hk, HA.out⟩
      go_wp2_with (go_at_call 53; refine (kind_no _ _ hk).mono ?_; rintro e w1 ⟨rfl, rfl⟩)
      go_ret
      exact ⟨rfl, rfl⟩
end Go.Proofs.YtlbackkjjhpljaaDoor
