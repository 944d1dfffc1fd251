/-
  CheckPath: the program's answer.
-/
import Derived.Test.YtlbackkjjhpljaaDoorIh
import Derived.Test.YtlbackkjjhpljaaDoorLq
namespace Go.Proofs.YtlbackkjjhpljaaDoor
open Go.RowKit
theorem digB_fits {k x y : Int} {m : Nat} {S : Nat → ByteArray} (h : Fits k x y m S) : digB k m S = true := digB_yes h.1 h.2.1
set_option maxRecDepth 20000 in
set_option maxHeartbeats 4000000 in
theorem implCheckPath : ImplCheckPath := by
  intro k x y E R a m c S w hK hE hR h hc hm hsz
  have HK : Hid (KeysAt w) := hK
  clear hK
  by_cases hr : y ≤ 2147483648 ∧ 0 ≤ x ∧ x < y ∧ digB k m S = true
  · obtain ⟨hy, hx0, hxy, hd⟩ := hr
    obtain ⟨hk, hw⟩ := digB_out hd
    have HD : Hid (digB k m S = true) := hd
    have hs2 : ∀ j, j < m → (S j).size ≤ 2097152 := fun j hj => by have := hsz j hj; omega
    obtain ⟨⟨u, t⟩, hu⟩ : ∃ u, cp k E S 31 x.toNat y.toNat m = u := ⟨_, rfl⟩
    have HU : Hid (cp k E S 31 x.toNat y.toNat m = (u, t)) := hu
    have HB : Hid (chkB k x y E R m S = (t && decide (u = R))) := by
      show _ = _
      unfold chkB
      rw [cp] at hu
      by_cases e : m = pl 31 x.toNat y.toNat
      · rw [if_pos e] at hu
        obtain ⟨hu1, hu2⟩ : cl k E S 31 x.toNat y.toNat m = u ∧ true = t := by simpa using hu
        subst hu2
        rw [hu1, Bool.true_and]
        by_cases e2 : u = R
        · rw [dT e2, dT ⟨⟨hk, hw, by omega, hy, hx0, by omega, e⟩, e2⟩]
        · rw [dF e2, dF fun hh => e2 hh.2]
      · rw [if_neg e] at hu
        obtain ⟨-, hu2⟩ : (⟨#[]⟩ : ByteArray) = u ∧ false = t := by simpa using hu
        subst hu2
        rw [Bool.false_and, dF fun hh => e hh.1.2.2.2.2.2.2]
    clear hd hu hw
    have d1 : decide (2147483648 < y) = false := by simpa using hy
    have d2 : decide (x < 0) = false := by simpa using hx0
    have d3 : decide (y ≤ x) = false := by simpa using hxy
    cases t
    all_goals
      go_enter Tryd.func28, Tryd.ntmps28
      go_wp2_with (first | (go_at_call 43; refine (areDig_any k a m c S _ h true HD.out).mono ?_; rintro e w0 ⟨rfl, rfl⟩) | (go_at_call 50; refine (claimOfPath_any k E _).mono ?_; rintro e w1 ⟨rfl, hP1, hb1⟩; have h1 := h.later hb1; have hK1 := keys_later HK.out hb1) | (go_at_call 65; refine (claimPath_as k E S (by omega) _ _ _ 31 x.toNat y.toNat m _ _ _ _ _ u _ (by omega) (by omega) (by omega) (by omega) (by omega) (by omega) hm h1 hc hs2 hK1 hP1 HU.out).mono ?_; rintro e w2 ⟨rfl, hb2⟩))
      go_ret
      exact ⟨ret_bool (by rw [HB.out]; first | rfl | exact (bytes_eq u R) | (rw [Bool.true_and]; exact bytes_eq u R)), hb1.trans (hb2.mono hb1.size)⟩
  · have HN : Hid (chkB k x y E R m S = false) := dF fun hh => hr ⟨hh.1.2.2.2.1, hh.1.2.2.2.2.1, by have := hh.1.2.2.2.2.2.1; omega, digB_fits hh.1⟩
    by_cases h1 : 2147483648 < y
    · have d1 : decide (2147483648 < y) = true := by simpa using h1
      go_enter Tryd.func28, Tryd.ntmps28
      go_wp2
      go_ret
      exact ⟨ret_bool HN.out.symm, Below.refl _ _⟩
    have d1 : decide (2147483648 < y) = false := by simpa using h1
    by_cases h2 : x < 0
    · have d2 : decide (x < 0) = true := by simpa using h2
      go_enter Tryd.func28, Tryd.ntmps28
      go_wp2
      go_ret
      exact ⟨ret_bool HN.out.symm, Below.refl _ _⟩
    have d2 : decide (x < 0) = false := by simpa using h2
    by_cases h3 : y ≤ x
    · have d3 : decide (y ≤ x) = true := by simpa using h3
      go_enter Tryd.func28, Tryd.ntmps28
      go_wp2
      go_ret
      exact ⟨ret_bool HN.out.symm, Below.refl _ _⟩
    have d3 : decide (y ≤ x) = false := by simpa using h3
    have hd : digB k m S = false := by
      cases e : digB k m S with
      | false => rfl
      | true => exact absurd ⟨by omega, by omega, by omega, e⟩ hr
    have HD : Hid (digB k m S = false) := hd
    clear hd hr
    go_enter Tryd.func28, Tryd.ntmps28
    go_wp2_with (go_at_call 43; refine (areDig_any k a m c S _ h false HD.out).mono ?_; rintro e w0 ⟨rfl, rfl⟩)
    go_ret
    exact ⟨ret_bool HN.out.symm, Below.refl _ _⟩
end Go.Proofs.YtlbackkjjhpljaaDoor
