/-
  areDigests: whether a list is one of digests.
-/
import Derived.Test.YtjbbbfplephkpaaGreatDoorKw
namespace Go.Proofs.YtjbbbfplephkpaaGreatDoor
open Go.RowKit
/-- All n texts are digests of the kind. -/
def digB (k : Int) (n : Nat) (S : Nat → ByteArray) : Bool := decide ((k = 0 ∨ k = 1) ∧ ∀ j, j < n → (S j).size = wid k)
theorem digB_yes {k : Int} {n : Nat} {S : Nat → ByteArray} (hk : k = 0 ∨ k = 1) (hs : ∀ j, j < n → (S j).size = wid k) : digB k n S = true := by
  unfold digB; exact decide_eq_true ⟨hk, hs⟩
theorem digB_no {k : Int} {n : Nat} {S : Nat → ByteArray} (h : ¬ ((k = 0 ∨ k = 1) ∧ ∀ j, j < n → (S j).size = wid k)) : digB k n S = false := by
  unfold digB; exact decide_eq_false h
theorem digB_out {k : Int} {n : Nat} {S : Nat → ByteArray} (h : digB k n S = true) : (k = 0 ∨ k = 1) ∧ ∀ j, j < n → (S j).size = wid k := by
  unfold digB at h; exact of_decide_eq_true h
set_option maxRecDepth 20000 in
set_option maxHeartbeats 1000000 in
theorem areDig_kind (k : Int) (a : Option Addr) (n c : Nat) (S : Nat → ByteArray) (w : World) (h : Sl w a n S) (hk : k = 0 ∨ k = 1) :
    Calls Tryz.prog 34 #[.int .i64 k, .slice a n c] w fun e w' => e = .returned (.bool (digB k n S)) ∧ w' = w := by
  have hn := h.1
  have hw0 : ¬ ((wid k : Nat) : Int) = 0 := by unfold wid; split <;> omega
  obtain ⟨wk, ewk⟩ : ∃ x, wid k = x := ⟨_, rfl⟩
  have HW : Hid (wid k = wk) := ewk
  rw [ewk] at hw0
  clear ewk
  go_enter Tryz.func34, Tryz.ntmps34
  go_wp2_with (go_at_call 27; refine (widthOf_yes _ _ hk).mono ?_; rw [HW.out]; rintro e w1 ⟨rfl, rfl⟩)
  go_loop [12] (fun i => ∃ j : Nat, j ≤ n ∧ i = .int .i64 j ∧ ∀ q, q < j → (S q).size = wid k) (fun i => n - (intOf i).toNat)
  case atStart => exact ⟨0, by omega, rfl, fun q hq => by omega⟩
  case round =>
    obtain ⟨j, hj, rfl, hall⟩ := hrel
    have HA : Hid (∀ q, q < j → (S q).size = wid k) := hall
    clear hall
    by_cases hlt : j < n
    · obtain ⟨b, off, rfl, hc⟩ := h.at j hlt
      have hsz := (h.2 j hlt).1
      by_cases hq : (S j).size = wk
      · have hq' : ((S j).size : Int) = wk := by omega
        go_wp2
        go_round
        case rel => exact ⟨j + 1, by omega, by go_num, fun q hq2 => by
          by_cases e : q = j
          · subst e; rw [HW.out]; exact hq
          · exact HA.out q (by omega)⟩
        case measure => simp [intOf]; omega
      · have hq' : ¬ ((S j).size : Int) = wk := by omega
        have hno : Hid (digB k n S = false) := digB_no fun hh => hq (by rw [← HW.out]; exact hh.2 j hlt)
        go_wp2
        go_ret
        exact ⟨ret_bool hno.out.symm, rfl⟩
    · obtain rfl : j = n := by omega
      go_wp2
      go_ret
      exact ⟨ret_bool (by rw [digB_yes hk HA.out]; simpa using hw0), rfl⟩
set_option maxRecDepth 20000 in
set_option maxHeartbeats 1000000 in
theorem areDig_none (k : Int) (a : Option Addr) (n c : Nat) (S : Nat → ByteArray) (w : World) (h : Sl w a n S) (hk : ¬ (k = 0 ∨ k = 1)) :
    Calls Tryz.prog 34 #[.int .i64 k, .slice a n c] w fun e w' => e = .returned (.bool (digB k n S)) ∧ w' = w := by
  have hn := h.1
  have HN : Hid (digB k n S = false) := digB_no fun hh => hk hh.1
  go_enter Tryz.func34, Tryz.ntmps34
  go_wp2_with (go_at_call 27; refine (widthOf_no _ _ hk).mono ?_; rintro e w1 ⟨rfl, rfl⟩)
  go_loop [12] (fun i => ∃ j : Nat, j ≤ n ∧ i = .int .i64 j) (fun i => n - (intOf i).toNat)
  case atStart => exact ⟨0, by omega, rfl⟩
  case round =>
    obtain ⟨j, hj, rfl⟩ := hrel
    by_cases hlt : j < n
    · obtain ⟨b, off, rfl, hc⟩ := h.at j hlt
      have hsz := (h.2 j hlt).1
      by_cases hq : ((S j).size : Int) = 0
      · go_wp2
        go_round
        case rel => exact ⟨j + 1, by omega, by go_num⟩
        case measure => simp [intOf]; omega
      · go_wp2
        go_ret
        exact ⟨ret_bool HN.out.symm, rfl⟩
    · obtain rfl : j = n := by omega
      go_wp2
      go_ret
      exact ⟨ret_bool (by rw [HN.out]), rfl⟩
set_option maxRecDepth 20000 in
theorem areDig_any (k : Int) (a : Option Addr) (n c : Nat) (S : Nat → ByteArray) (w : World) (h : Sl w a n S) (r : Bool) (hr : digB k n S = r) :
    Calls Tryz.prog 34 #[.int .i64 k, .slice a n c] w fun e w' => e = .returned (.bool r) ∧ w' = w := by
  subst hr
  by_cases hk : k = 0 ∨ k = 1
  · exact areDig_kind k a n c S w h hk
  · exact areDig_none k a n c S w h hk
end Go.Proofs.YtjbbbfplephkpaaGreatDoor
