/-
  Whether a path fits and is accepted: the specification's way.
-/
import Derived.Test.YtlbackkjjhpljaaGreatDoorCp
namespace Go.Proofs.YtlbackkjjhpljaaGreatDoor
open Go.RowKit
theorem dT {p : Prop} {i : Decidable p} (h : p) : @decide p i = true := decide_eq_true h
theorem dF {p : Prop} {i : Decidable p} (h : ¬ p) : @decide p i = false := decide_eq_false h
theorem oT {p : Prop} {i : Decidable p} (h : @decide p i = true) : p := of_decide_eq_true h
theorem bytes_eq (u v : ByteArray) : (u.toList == v.toList) = decide (u = v) := by
  by_cases e : u = v
  · subst e; simp
  · rw [dF e]
    cases h : (u.toList == v.toList) with
    | false => rfl
    | true =>
      have := eq_of_beq h
      rw [ByteArray.toList_eq, ByteArray.toList_eq] at this
      exact absurd ((ba_ext u _ this).trans (ba_ext v _ rfl).symm) e
/-- The path S of m elements fits entry x of y. -/
def Fits (k x y : Int) (m : Nat) (S : Nat → ByteArray) : Prop :=
  (k = 0 ∨ k = 1) ∧ (∀ j, j < m → (S j).size = wid k) ∧ 1 ≤ y ∧ y ≤ 2147483648 ∧ 0 ≤ x ∧ x ≤ y - 1 ∧ m = pl 31 x.toNat y.toNat
def Fits.dec (k x y : Int) (m : Nat) (S : Nat → ByteArray) : Decidable (Fits k x y m S) := by unfold Fits; exact inferInstance
def chkB (k x y : Int) (E R : ByteArray) (m : Nat) (S : Nat → ByteArray) : Bool := haveI := Fits.dec k x y m S; decide (Fits k x y m S ∧ cl k E S 31 x.toNat y.toNat m = R)
set_option maxRecDepth 20000 in
set_option maxHeartbeats 1000000 in
theorem fits_yes (k x y : Int) (a : Option Addr) (m c : Nat) (S : Nat → ByteArray) (w : World) (h : Sl w a m S) (hf : Fits k x y m S) :
    Calls Tryz.prog 25 #[.int .i64 k, .int .i64 x, .int .i64 y, .slice a m c] w fun e w' => e = .returned (.bool true) ∧ w' = w := by
  obtain ⟨hk, hs, hy1, hy2, hx1, hx2, hm⟩ := hf
  have HM : Hid (pl 31 x.toNat y.toNat = m) := hm.symm
  have hm31 : m ≤ 31 := by rw [hm]; exact pl_le _ _ _
  clear hm
  go_enter Tryz.func25, Tryz.ntmps25
  go_wp2_with (first | (go_at_call 50; refine (widths_yes k a m c S _ h hk hs).mono ?_; rintro e w1 ⟨rfl, rfl⟩) | (go_at_call 51; refine (betw_yes _ _ _ _ (by omega) (by omega)).mono ?_; rintro e w1 ⟨rfl, rfl⟩) | (go_at_call 52; refine (specPathLen_as 31 x.toNat y.toNat _ _ m _ (by omega) (by omega) (by omega) (by omega) (by omega) (by omega) HM.out).mono ?_; rintro e w1 ⟨rfl, rfl⟩))
  go_ret
  exact ⟨ret_bool (by simp), rfl⟩
set_option maxRecDepth 20000 in
set_option maxHeartbeats 1000000 in
theorem fits_no (k x y : Int) (a : Option Addr) (m c : Nat) (S : Nat → ByteArray) (w : World) (h : Sl w a m S) (hf : ¬ Fits k x y m S) :
    Calls Tryz.prog 25 #[.int .i64 k, .int .i64 x, .int .i64 y, .slice a m c] w fun e w' => e = .returned (.bool false) ∧ w' = w := by
  by_cases hw : (k = 0 ∨ k = 1) ∧ ∀ j, j < m → (S j).size = wid k
  · obtain ⟨hk, hs⟩ := hw
    by_cases hy : 1 ≤ y ∧ y ≤ 2147483648
    · obtain ⟨hy1, hy2⟩ := hy
      by_cases hx : 0 ≤ x ∧ x ≤ y - 1
      · obtain ⟨hx1, hx2⟩ := hx
        have hm : ¬ m = pl 31 x.toNat y.toNat := fun e => hf ⟨hk, hs, hy1, hy2, hx1, hx2, e⟩
        obtain ⟨p, hp⟩ : ∃ p, pl 31 x.toNat y.toNat = p := ⟨_, rfl⟩
        have HP : Hid (pl 31 x.toNat y.toNat = p) := hp
        rw [hp] at hm
        have hm' : ¬ (m : Int) = p := by omega
        clear hf hp
        go_enter Tryz.func25, Tryz.ntmps25
        go_wp2_with (first | (go_at_call 50; refine (widths_yes k a m c S _ h hk hs).mono ?_; rintro e w1 ⟨rfl, rfl⟩) | (go_at_call 51; refine (betw_yes _ _ _ _ (by omega) (by omega)).mono ?_; rintro e w1 ⟨rfl, rfl⟩) | (go_at_call 52; refine (specPathLen_as 31 x.toNat y.toNat _ _ p _ (by omega) (by omega) (by omega) (by omega) (by omega) (by omega) HP.out).mono ?_; rintro e w1 ⟨rfl, rfl⟩))
        go_ret
        exact ⟨ret_bool (by simp [hm']), rfl⟩
      · clear hf
        go_enter Tryz.func25, Tryz.ntmps25
        go_wp2_with (first | (go_at_call 50; refine (widths_yes k a m c S _ h hk hs).mono ?_; rintro e w1 ⟨rfl, rfl⟩) | (go_at_call 51; refine (betw_yes _ _ _ _ (by omega) (by omega)).mono ?_; rintro e w1 ⟨rfl, rfl⟩) | (go_at_call 51; refine (betw_no _ _ _ _ (by omega)).mono ?_; rintro e w1 ⟨rfl, rfl⟩))
        go_ret
        exact ⟨rfl, rfl⟩
    · clear hf
      go_enter Tryz.func25, Tryz.ntmps25
      go_wp2_with (first | (go_at_call 50; refine (widths_yes k a m c S _ h hk hs).mono ?_; rintro e w1 ⟨rfl, rfl⟩) | (go_at_call 51; refine (betw_no _ _ _ _ (by omega)).mono ?_; rintro e w1 ⟨rfl, rfl⟩))
      go_ret
      exact ⟨rfl, rfl⟩
  · clear hf
    go_enter Tryz.func25, Tryz.ntmps25
    go_wp2_with (go_at_call 50; refine (widths_no k a m c S _ h hw).mono ?_; rintro e w1 ⟨rfl, rfl⟩)
    go_ret
    exact ⟨rfl, rfl⟩
set_option maxRecDepth 20000 in
set_option maxHeartbeats 1000000 in
/-- spec.CheckPath. -/
theorem specCheckPath_any (k x y : Int) (E R : ByteArray) (a : Option Addr) (m c : Nat) (S : Nat → ByteArray) (w : World) (hE : E.size ≤ 4194304) (h : Sl w a m S) (hc : m ≤ c) :
    Calls Tryz.prog 17 #[.int .i64 k, .string E, .int .i64 x, .int .i64 y, .string R, .slice a m c] w fun e w' => e = .returned (.bool (chkB k x y E R m S)) ∧ Below w.heap.size w w' := by
  by_cases hf : Fits k x y m S
  · have hsz : ∀ j, j < m → (S j).size ≤ 2097152 := fun j hj => by
      have := hf.2.1 j hj
      unfold wid at this
      split at this <;> omega
    have hs := hf.2.2
    obtain ⟨hy1, hy2, hx1, hx2, hm⟩ := hs
    obtain ⟨u, hu⟩ : ∃ u, cl k E S 31 x.toNat y.toNat m = u := ⟨_, rfl⟩
    have HU : Hid (cl k E S 31 x.toNat y.toNat m = u) := hu
    have HM : Hid (m = pl 31 x.toNat y.toNat) := hm
    have HB : Hid (chkB k x y E R m S = decide (u = R)) := by
      show _ = _
      unfold chkB
      rw [hu]
      by_cases e : u = R
      · rw [dT e, dT ⟨hf, e⟩]
      · rw [dF e, dF fun h => e h.2]
    have HF : Hid (Fits k x y m S) := hf
    clear hf hu hm
    go_enter Tryz.func17, Tryz.ntmps17
    go_wp2_with (first | (go_at_call 25; refine (fits_yes k x y a m c S _ h HF.out).mono ?_; rintro e w1 ⟨rfl, rfl⟩) | (go_at_call 40; refine (specClaim_as k E S hE 31 x.toNat y.toNat m _ _ a c _ u (by omega) (by omega) (by omega) (by omega) (by omega) (by omega) HM.out h hc hsz HU.out).mono ?_; rintro e w2 ⟨rfl, hb2⟩))
    go_ret
    exact ⟨ret_bool (by rw [HB.out]; exact bytes_eq u R), hb2⟩
  · have hno : chkB k x y E R m S = false := dF fun e => hf e.1
    go_enter Tryz.func17, Tryz.ntmps17
    go_wp2_with (go_at_call 25; refine (fits_no k x y a m c S _ h hf).mono ?_; rintro e w1 ⟨rfl, rfl⟩)
    go_ret
    exact ⟨ret_bool hno.symm, Below.refl _ _⟩
end Go.Proofs.YtlbackkjjhpljaaGreatDoor
