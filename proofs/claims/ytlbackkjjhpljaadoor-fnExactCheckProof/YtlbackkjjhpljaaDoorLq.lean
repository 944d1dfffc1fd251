/-
  The laws on CheckPath and CheckProof, walked, once the program's own answers are known.
-/
import Derived.Test.YtlbackkjjhpljaaDoorCs
import Derived.Test.YtlbackkjjhpljaaDoorTs
namespace Go.Proofs.YtlbackkjjhpljaaDoor
open Go.RowKit
/-- What the program's CheckPath answers. -/
def ImplCheckPath : Prop := ∀ (k x y : Int) (E R : ByteArray) (a : Option Addr) (m c : Nat) (S : Nat → ByteArray) (w : World), KeysAt w → E.size ≤ 1048576 → R.size ≤ 1048576 → Sl w a m S → m ≤ c → m ≤ 1048576 → (∀ j, j < m → (S j).size ≤ 1048576) →
      Calls Tryd.prog 28 #[.int .i64 k, .string E, .int .i64 x, .int .i64 y, .string R, .slice a m c] w fun e w' => e = .returned (.bool (chkB k x y E R m S)) ∧ Below w.heap.size w w'
set_option maxRecDepth 20000 in
set_option maxHeartbeats 4000000 in
theorem lawCheckPath_of (himpl : ImplCheckPath)
    (k x y : Int) (E R : ByteArray) (a : Option Addr) (n c : Nat) (S : Nat → ByteArray) (w : World) (h : Sl w a n S) (hK : KeysAt w) :
    Calls Tryd.prog 8 #[.int .i64 k, .string E, .int .i64 x, .int .i64 y, .string R, .slice a n c] w fun e w' => e = .returned (.bool true) ∧ Below w.heap.size w w' := by
  have HK : Hid (KeysAt w) := hK
  clear hK
  by_cases hE : E.size ≤ 1048576
  · by_cases hR : R.size ≤ 1048576
    · have hs := fun j hj => (h.2 j hj).1
      obtain ⟨r, hr⟩ : ∃ r, chkB k x y E R n S = r := ⟨_, rfl⟩
      have hspec : Hid (∀ (a : Option Addr) (w : World), Sl w a n S → Calls Tryd.prog 27 #[.int .i64 k, .string E, .int .i64 x, .int .i64 y, .string R, .slice a n n] w fun e w' => e = .returned (.bool r) ∧ Below w.heap.size w w') := fun a w h => by rw [← hr]; exact specCheckPath_any k x y E R a n n S w (by omega) h (Nat.le_refl _)
      have hi : Hid (∀ (a : Option Addr) (w : World), KeysAt w → Sl w a n S → n ≤ 1048576 → (∀ j, j < n → (S j).size ≤ 1048576) → Calls Tryd.prog 28 #[.int .i64 k, .string E, .int .i64 x, .int .i64 y, .string R, .slice a n n] w fun e w' => e = .returned (.bool r) ∧ Below w.heap.size w w') := fun a w hK h h1 h2 => by rw [← hr]; exact himpl k x y E R a n n S w hK hE hR h (Nat.le_refl _) h1 h2
      clear hr himpl
      cases r
      all_goals
        go_enter Tryd.func8, Tryd.ntmps8
        go_wp2_with (first | (go_at_call 18; refine (szStrs_any _ _ _ S _ h 1048576 (by omega) (by omega)).mono ?_; rintro e w1 ⟨rfl, r, rfl, hr, hall⟩) | (go_at_call 20; have _x := hb5; refine (toStrs_any _ _ _ S _ h5 (hall (by omega)).1).mono ?_; rintro e w6 ⟨rfl, hrow6, _, hb6⟩; have hS6 := sl_of_row w6 _ n S _ (hall (by omega)).1 hs hrow6; clear hrow6; have hT6 := hS5.later hb6) | (go_at_call 20; have _x := hb3; refine (toStrs_any _ _ _ S _ h3 (hall (by omega)).1).mono ?_; rintro e w4 ⟨rfl, hrow4, _, hb4⟩; have hS4 := sl_of_row w4 _ n S _ (hall (by omega)).1 hs hrow4; clear hrow4; have h4 := h3.later hb4) | (go_at_call 20; refine (toStrs_any _ _ _ S _ h (hall (by omega)).1).mono ?_; rintro e w2 ⟨rfl, hrow2, _, hb2⟩; have hS2 := sl_of_row w2 _ n S _ (hall (by omega)).1 hs hrow2; clear hrow2; have h2 := h.later hb2) | (go_at_call 27; refine (hspec.out _ _ hS2).mono ?_; rintro e w3 ⟨rfl, hb3⟩; have h3 := h2.later hb3) | (go_at_call 28; refine (hi.out _ _ (keys_later (keys_later (keys_later HK.out hb2) hb3) hb4) hS4 (hall (by omega)).1 (hall (by omega)).2).mono ?_; rintro e w5 ⟨rfl, hb5⟩; have h5 := h4.later hb5; have hS5 := hS4.later hb5) | (go_at_call 22; refine (eqStrs_any _ _ _ _ _ S S _ hT6 hS6 (fun _ _ => rfl)).mono ?_; rintro e w7 ⟨rfl, q, rfl⟩))
        · go_ret
          exact ⟨rfl, Below.refl _ _⟩
        · go_ret
          have s2 := hb2.size
          have s3 := hb3.size
          have s4 := hb4.size
          have s5 := hb5.size
          exact ⟨rfl, bdrew ((((hb2.trans (hb3.mono s2)).trans (hb4.mono (by omega))).trans (hb5.mono (by omega))).trans (hb6.mono (by omega))) q⟩
    · have hR' : (1048576 : Int) < (R.size : Int) := by omega
      have hE' : ¬ (1048576 : Int) < (E.size : Int) := by omega
      go_enter Tryd.func8, Tryd.ntmps8
      go_wp2
      go_ret
      exact ⟨rfl, Below.refl _ _⟩
  · have hE' : (1048576 : Int) < (E.size : Int) := by omega
    go_enter Tryd.func8, Tryd.ntmps8
    go_wp2
    go_ret
    exact ⟨rfl, Below.refl _ _⟩
/-- What the program's CheckProof answers. -/
def ImplCheckProof : Prop := ∀ (k x y : Int) (E R : ByteArray) (a : Option Addr) (m c : Nat) (S : Nat → ByteArray) (w : World), KeysAt w → E.size ≤ 1048576 → R.size ≤ 1048576 → Sl w a m S → m ≤ c → m ≤ 1048576 → (∀ j, j < m → (S j).size ≤ 1048576) →
      Calls Tryd.prog 21 #[.int .i64 k, .int .i64 x, .string E, .int .i64 y, .string R, .slice a m c] w fun e w' => e = .returned (.bool (chqB k x y E R m S)) ∧ Below w.heap.size w w'
set_option maxRecDepth 20000 in
set_option maxHeartbeats 4000000 in
theorem lawCheckProof_of (himpl : ImplCheckProof)
    (k x y : Int) (E R : ByteArray) (a : Option Addr) (n c : Nat) (S : Nat → ByteArray) (w : World) (h : Sl w a n S) (hK : KeysAt w) :
    Calls Tryd.prog 6 #[.int .i64 k, .int .i64 x, .string E, .int .i64 y, .string R, .slice a n c] w fun e w' => e = .returned (.bool true) ∧ Below w.heap.size w w' := by
  have HK : Hid (KeysAt w) := hK
  clear hK
  by_cases hE : E.size ≤ 1048576
  · by_cases hR : R.size ≤ 1048576
    · have hs := fun j hj => (h.2 j hj).1
      obtain ⟨r, hr⟩ : ∃ r, chqB k x y E R n S = r := ⟨_, rfl⟩
      have hspec : Hid (∀ (a : Option Addr) (w : World), Sl w a n S → Calls Tryd.prog 19 #[.int .i64 k, .int .i64 x, .string E, .int .i64 y, .string R, .slice a n n] w fun e w' => e = .returned (.bool r) ∧ Below w.heap.size w w') := fun a w h => by rw [← hr]; exact specCheckProof_any k x y E R a n n S w (by omega) h (Nat.le_refl _)
      have hi : Hid (∀ (a : Option Addr) (w : World), KeysAt w → Sl w a n S → n ≤ 1048576 → (∀ j, j < n → (S j).size ≤ 1048576) → Calls Tryd.prog 21 #[.int .i64 k, .int .i64 x, .string E, .int .i64 y, .string R, .slice a n n] w fun e w' => e = .returned (.bool r) ∧ Below w.heap.size w w') := fun a w hK h h1 h2 => by rw [← hr]; exact himpl k x y E R a n n S w hK hE hR h (Nat.le_refl _) h1 h2
      clear hr himpl
      cases r
      all_goals
        go_enter Tryd.func6, Tryd.ntmps6
        go_wp2_with (first | (go_at_call 18; refine (szStrs_any _ _ _ S _ h 1048576 (by omega) (by omega)).mono ?_; rintro e w1 ⟨rfl, r, rfl, hr, hall⟩) | (go_at_call 20; have _x := hb5; refine (toStrs_any _ _ _ S _ h5 (hall (by omega)).1).mono ?_; rintro e w6 ⟨rfl, hrow6, _, hb6⟩; have hS6 := sl_of_row w6 _ n S _ (hall (by omega)).1 hs hrow6; clear hrow6; have hT6 := hS5.later hb6) | (go_at_call 20; have _x := hb3; refine (toStrs_any _ _ _ S _ h3 (hall (by omega)).1).mono ?_; rintro e w4 ⟨rfl, hrow4, _, hb4⟩; have hS4 := sl_of_row w4 _ n S _ (hall (by omega)).1 hs hrow4; clear hrow4; have h4 := h3.later hb4) | (go_at_call 20; refine (toStrs_any _ _ _ S _ h (hall (by omega)).1).mono ?_; rintro e w2 ⟨rfl, hrow2, _, hb2⟩; have hS2 := sl_of_row w2 _ n S _ (hall (by omega)).1 hs hrow2; clear hrow2; have h2 := h.later hb2) | (go_at_call 19; refine (hspec.out _ _ hS2).mono ?_; rintro e w3 ⟨rfl, hb3⟩; have h3 := h2.later hb3) | (go_at_call 21; refine (hi.out _ _ (keys_later (keys_later (keys_later HK.out hb2) hb3) hb4) hS4 (hall (by omega)).1 (hall (by omega)).2).mono ?_; rintro e w5 ⟨rfl, hb5⟩; have h5 := h4.later hb5; have hS5 := hS4.later hb5) | (go_at_call 22; refine (eqStrs_any _ _ _ _ _ S S _ hT6 hS6 (fun _ _ => rfl)).mono ?_; rintro e w7 ⟨rfl, q, rfl⟩))
        · go_ret
          exact ⟨rfl, Below.refl _ _⟩
        · go_ret
          have s2 := hb2.size
          have s3 := hb3.size
          have s4 := hb4.size
          have s5 := hb5.size
          exact ⟨rfl, bdrew ((((hb2.trans (hb3.mono s2)).trans (hb4.mono (by omega))).trans (hb5.mono (by omega))).trans (hb6.mono (by omega))) q⟩
    · have hR' : (1048576 : Int) < (R.size : Int) := by omega
      have hE' : ¬ (1048576 : Int) < (E.size : Int) := by omega
      go_enter Tryd.func6, Tryd.ntmps6
      go_wp2
      go_ret
      exact ⟨rfl, Below.refl _ _⟩
  · have hE' : (1048576 : Int) < (E.size : Int) := by omega
    go_enter Tryd.func6, Tryd.ntmps6
    go_wp2
    go_ret
    exact ⟨rfl, Below.refl _ _⟩
end Go.Proofs.YtlbackkjjhpljaaDoor
