/-
  Whether a proof fits and is accepted: the specification's way.
-/
import Derived.Test.YtlbackkjjhpljaaDoorCr
namespace Go.Proofs.YtlbackkjjhpljaaDoor
open Go.RowKit
/-- The proof S of m elements fits the first x of y. -/
def FitsP (k x y : Int) (m : Nat) (S : Nat → ByteArray) : Prop :=
  (k = 0 ∨ k = 1) ∧ (∀ j, j < m → (S j).size = wid k) ∧ 1 ≤ y ∧ y ≤ 2147483648 ∧ 1 ≤ x ∧ x ≤ y ∧ m = ql 31 x.toNat y.toNat true
def FitsP.dec (k x y : Int) (m : Nat) (S : Nat → ByteArray) : Decidable (FitsP k x y m S) := by unfold FitsP; exact inferInstance
def chqB (k x y : Int) (O R : ByteArray) (m : Nat) (S : Nat → ByteArray) : Bool := haveI := FitsP.dec k x y m S; decide (FitsP k x y m S ∧ O.size = wid k ∧ (cq k O S 31 x.toNat y.toNat m true).1 = O ∧ (cq k O S 31 x.toNat y.toNat m true).2 = R)
set_option maxRecDepth 20000 in
set_option maxHeartbeats 1000000 in
theorem fitsP_yes (k x y : Int) (a : Option Addr) (m c : Nat) (S : Nat → ByteArray) (w : World) (h : Sl w a m S) (hf : FitsP k x y m S) :
    Calls Tryd.prog 39 #[.int .i64 k, .int .i64 x, .int .i64 y, .slice a m c] w fun e w' => e = .returned (.bool true) ∧ w' = w := by
  obtain ⟨hk, hs, hy1, hy2, hx1, hx2, hm⟩ := hf
  have HM : Hid (ql 31 x.toNat y.toNat true = m) := hm.symm
  have hm31 : m ≤ 32 := by rw [hm]; exact ql_le _ _ _ _
  clear hm
  go_enter Tryd.func39, Tryd.ntmps39
  go_wp2_with (first | (go_at_call 57; refine (widths_yes k a m c S _ h hk hs).mono ?_; rintro e w1 ⟨rfl, rfl⟩) | (go_at_call 54; refine (betw_yes _ _ _ _ (by omega) (by omega)).mono ?_; rintro e w1 ⟨rfl, rfl⟩) | (go_at_call 58; refine (specProofLen_as 31 x.toNat y.toNat true _ _ m _ (by omega) (by omega) (by omega) (by omega) (by omega) (by omega) HM.out).mono ?_; rintro e w1 ⟨rfl, rfl⟩))
  go_ret
  exact ⟨ret_bool (by simp), rfl⟩
set_option maxRecDepth 20000 in
set_option maxHeartbeats 1000000 in
theorem fitsP_no (k x y : Int) (a : Option Addr) (m c : Nat) (S : Nat → ByteArray) (w : World) (h : Sl w a m S) (hf : ¬ FitsP k x y m S) :
    Calls Tryd.prog 39 #[.int .i64 k, .int .i64 x, .int .i64 y, .slice a m c] w fun e w' => e = .returned (.bool false) ∧ w' = w := by
  by_cases hw : (k = 0 ∨ k = 1) ∧ ∀ j, j < m → (S j).size = wid k
  · obtain ⟨hk, hs⟩ := hw
    by_cases hy : 1 ≤ y ∧ y ≤ 2147483648
    · obtain ⟨hy1, hy2⟩ := hy
      by_cases hx : 1 ≤ x ∧ x ≤ y
      · obtain ⟨hx1, hx2⟩ := hx
        have hm : ¬ m = ql 31 x.toNat y.toNat true := fun e => hf ⟨hk, hs, hy1, hy2, hx1, hx2, e⟩
        obtain ⟨p, hp⟩ : ∃ p, ql 31 x.toNat y.toNat true = p := ⟨_, rfl⟩
        have HP : Hid (ql 31 x.toNat y.toNat true = p) := hp
        rw [hp] at hm
        have hm' : ¬ (m : Int) = p := by omega
        clear hf hp
        go_enter Tryd.func39, Tryd.ntmps39
        go_wp2_with (first | (go_at_call 57; refine (widths_yes k a m c S _ h hk hs).mono ?_; rintro e w1 ⟨rfl, rfl⟩) | (go_at_call 54; refine (betw_yes _ _ _ _ (by omega) (by omega)).mono ?_; rintro e w1 ⟨rfl, rfl⟩) | (go_at_call 58; refine (specProofLen_as 31 x.toNat y.toNat true _ _ p _ (by omega) (by omega) (by omega) (by omega) (by omega) (by omega) HP.out).mono ?_; rintro e w1 ⟨rfl, rfl⟩))
        go_ret
        exact ⟨ret_bool (by simp [hm']), rfl⟩
      · clear hf
        go_enter Tryd.func39, Tryd.ntmps39
        go_wp2_with (first | (go_at_call 57; refine (widths_yes k a m c S _ h hk hs).mono ?_; rintro e w1 ⟨rfl, rfl⟩) | (go_at_call 54; refine (betw_yes _ _ _ _ (by omega) (by omega)).mono ?_; rintro e w1 ⟨rfl, rfl⟩) | (go_at_call 54; refine (betw_no _ _ _ _ (by omega)).mono ?_; rintro e w1 ⟨rfl, rfl⟩))
        go_ret
        exact ⟨rfl, rfl⟩
    · clear hf
      go_enter Tryd.func39, Tryd.ntmps39
      go_wp2_with (first | (go_at_call 57; refine (widths_yes k a m c S _ h hk hs).mono ?_; rintro e w1 ⟨rfl, rfl⟩) | (go_at_call 54; refine (betw_no _ _ _ _ (by omega)).mono ?_; rintro e w1 ⟨rfl, rfl⟩))
      go_ret
      exact ⟨rfl, rfl⟩
  · clear hf
    go_enter Tryd.func39, Tryd.ntmps39
    go_wp2_with (go_at_call 57; refine (widths_no k a m c S _ h hw).mono ?_; rintro e w1 ⟨rfl, rfl⟩)
    go_ret
    exact ⟨rfl, rfl⟩
set_option maxRecDepth 20000 in
set_option maxHeartbeats 1000000 in
/-- spec.CheckProof. -/
theorem specCheckProof_any (k x y : Int) (O R : ByteArray) (a : Option Addr) (m c : Nat) (S : Nat → ByteArray) (w : World) (hO : O.size ≤ 2097152) (h : Sl w a m S) (hc : m ≤ c) :
    Calls Tryd.prog 19 #[.int .i64 k, .int .i64 x, .string O, .int .i64 y, .string R, .slice a m c] w fun e w' => e = .returned (.bool (chqB k x y O R m S)) ∧ Below w.heap.size w w' := by
  by_cases hf : FitsP k x y m S
  · by_cases ho : O.size = wid k
    · have hsz : ∀ j, j < m → (S j).size ≤ 2097152 := fun j hj => by
        have := hf.2.1 j hj
        unfold wid at this
        split at this <;> omega
      have hs := hf.2.2
      obtain ⟨hy1, hy2, hx1, hx2, hm⟩ := hs
      obtain ⟨⟨o, v⟩, hu⟩ : ∃ u, cq k O S 31 x.toNat y.toNat m true = u := ⟨_, rfl⟩
      have HU : Hid (cq k O S 31 x.toNat y.toNat m true = (o, v)) := hu
      have HM : Hid (m = ql 31 x.toNat y.toNat true) := hm
      have HF : Hid (FitsP k x y m S) := hf
      have ho' : (O.size : Int) = (wid k : Nat) := by omega
      have HB : Hid (chqB k x y O R m S = decide (o = O ∧ v = R)) := by
        show _ = _
        unfold chqB
        rw [hu]
        by_cases e : o = O ∧ v = R
        · rw [dT e, dT ⟨hf, ho, e⟩]
        · rw [dF e, dF fun h => e h.2.2]
      clear hf hu hm
      by_cases e1 : o = O
      · have e1' : (o.toList == O.toList) = true := by rw [bytes_eq, dT e1]
        go_enter Tryd.func19, Tryd.ntmps19
        go_wp2_with (first | (go_at_call 39; refine (fitsP_yes k x y a m c S _ h HF.out).mono ?_; rintro e w1 ⟨rfl, rfl⟩) | (go_at_call 40; refine (width_any _ _).mono ?_; rintro e w1 ⟨rfl, rfl⟩) | (go_at_call 41; refine (specClaims_as k O S hO 31 x.toNat y.toNat m true _ _ a c _ o v (by omega) (by omega) (by omega) (by omega) (by omega) (by omega) HM.out h hc hsz HU.out).mono ?_; rintro e w2 ⟨rfl, hb2⟩))
        go_ret
        exact ⟨ret_bool (by rw [HB.out, bytes_eq]; simp [e1]), hb2⟩
      · have e1' : (o.toList == O.toList) = false := by rw [bytes_eq, dF e1]
        go_enter Tryd.func19, Tryd.ntmps19
        go_wp2_with (first | (go_at_call 39; refine (fitsP_yes k x y a m c S _ h HF.out).mono ?_; rintro e w1 ⟨rfl, rfl⟩) | (go_at_call 40; refine (width_any _ _).mono ?_; rintro e w1 ⟨rfl, rfl⟩) | (go_at_call 41; refine (specClaims_as k O S hO 31 x.toNat y.toNat m true _ _ a c _ o v (by omega) (by omega) (by omega) (by omega) (by omega) (by omega) HM.out h hc hsz HU.out).mono ?_; rintro e w2 ⟨rfl, hb2⟩))
        go_ret
        exact ⟨ret_bool (by rw [HB.out]; simp [e1]), hb2⟩
    · have hno : chqB k x y O R m S = false := dF fun e => ho e.2.1
      have ho' : ¬ (O.size : Int) = (wid k : Nat) := by omega
      go_enter Tryd.func19, Tryd.ntmps19
      go_wp2_with (first | (go_at_call 39; refine (fitsP_yes k x y a m c S _ h hf).mono ?_; rintro e w1 ⟨rfl, rfl⟩) | (go_at_call 40; refine (width_any _ _).mono ?_; rintro e w1 ⟨rfl, rfl⟩))
      go_ret
      exact ⟨ret_bool hno.symm, Below.refl _ _⟩
  · have hno : chqB k x y O R m S = false := dF fun e => hf e.1
    go_enter Tryd.func19, Tryd.ntmps19
    go_wp2_with (go_at_call 39; refine (fitsP_no k x y a m c S _ h hf).mono ?_; rintro e w1 ⟨rfl, rfl⟩)
    go_ret
    exact ⟨ret_bool hno.symm, Below.refl _ _⟩
end Go.Proofs.YtlbackkjjhpljaaDoor
