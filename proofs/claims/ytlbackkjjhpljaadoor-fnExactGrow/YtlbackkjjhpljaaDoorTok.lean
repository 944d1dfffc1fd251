/-
  When a tree is OK: the specification's way and the program's.
-/
import Derived.Test.YtlbackkjjhpljaaDoorKw
import Derived.Test.YtlbackkjjhpljaaDoorTk
namespace Go.Proofs.YtlbackkjjhpljaaDoor
open Go.RowKit
def okB (k z : Int) (n : Nat) (S : Nat → ByteArray) : Bool := decide ((k = 0 ∨ k = 1) ∧ 0 ≤ z ∧ z ≤ 2000 ∧ n = on z.toNat ∧ ∀ i, i < n → (S i).size = wid k)
theorem okB_yes {k z : Int} {n : Nat} {S : Nat → ByteArray} (hk : k = 0 ∨ k = 1) (h0 : 0 ≤ z) (h1 : z ≤ 2000) (hn : n = on z.toNat) (hs : ∀ i, i < n → (S i).size = wid k) : okB k z n S = true := by
  unfold okB; exact decide_eq_true ⟨hk, h0, h1, hn, hs⟩
theorem okB_no {k z : Int} {n : Nat} {S : Nat → ByteArray} (h : ¬ ((k = 0 ∨ k = 1) ∧ 0 ≤ z ∧ z ≤ 2000 ∧ n = on z.toNat ∧ ∀ i, i < n → (S i).size = wid k)) : okB k z n S = false := by
  unfold okB; exact decide_eq_false h
theorem okB_out {k z : Int} {n : Nat} {S : Nat → ByteArray} (h : okB k z n S = true) : (k = 0 ∨ k = 1) ∧ 0 ≤ z ∧ z ≤ 2000 ∧ n = on z.toNat ∧ ∀ i, i < n → (S i).size = wid k := by
  unfold okB at h; exact of_decide_eq_true h
set_option maxRecDepth 20000 in
set_option maxHeartbeats 1000000 in
theorem specOK_any (k z : Int) (a : Option Addr) (n c : Nat) (S : Nat → ByteArray) (w : World) (h : Sl w a n S) :
    Calls Tryd.prog 33 #[.int .i64 k, .agg #[.int .i64 z, .slice a n c]] w fun e w' => e = .returned (.bool (okB k z n S)) ∧ Below w.heap.size w w' := by
  have hn := h.1
  by_cases hk : k = 0 ∨ k = 1
  · by_cases hz : 0 ≤ z ∧ z ≤ 2000
    · obtain ⟨zn, rfl⟩ : ∃ zn : Nat, z = zn := ⟨z.toNat, by omega⟩
      obtain ⟨hz0, hz1⟩ := hz
      have hzn : zn < 2048 := by omega
      have hw := h.later (below1 w (.cells #[.int .i64 zn, .slice a n c] 31))
      go_enter Tryd.func33, Tryd.ntmps33
      go_wp2_with (first | (go_at_call 53; refine (kind_yes _ _ hk).mono ?_; rintro e w1 ⟨rfl, rfl⟩) | (go_at_call 54; refine (betw_yes _ _ _ _ hz0 hz1).mono ?_; rintro e w1 ⟨rfl, rfl⟩))
      go_loop [5, 6] (fun o x => ∃ m p : Nat, m < 2048 ∧ x = .int .i64 m ∧ o = .int .i64 p ∧ p + on m = on zn) (fun _ x => (intOf x).toNat)
      case atStart => exact ⟨zn, 0, hzn, rfl, rfl, by omega⟩
      case round =>
        obtain ⟨m, p, hm, rfl, rfl, hp⟩ := hrel
        have HP : Hid (p + on m = on zn) := hp
        have hpl : p ≤ 12 := by have := on_le zn; omega
        clear hp
        by_cases hm0 : 0 < m
        · have HS : Hid (on m = m % 2 + on (m / 2)) := on_step m hm
          go_wp2
          go_round
          case rel => exact ⟨m / 2, p + m % 2, by omega, by go_num, by go_num, by have := HP.out; have := HS.out; omega⟩
          case measure => simp [intOf]; omega
        · obtain rfl : m = 0 := by omega
          have HO : Hid (p = on zn) := by have := HP.out; rw [on_zero] at this; exact this
          go_wp2
          go_loop [31] (fun i => ∃ j : Nat, j ≤ n ∧ i = .int .i64 j ∧ ∀ q, q < j → (S q).size = wid k) (fun i => n - (intOf i).toNat)
          case atStart => exact ⟨0, by omega, rfl, fun q hq => by omega⟩
          case round =>
            obtain ⟨j, hj, rfl, hall⟩ := hrel
            have HA : Hid (∀ q, q < j → (S q).size = wid k) := hall
            clear hall
            by_cases hlt : j < n
            · obtain ⟨b, off, rfl, hc⟩ := hw.at j hlt
              have hsz := (h.2 j hlt).1
              by_cases hq : (S j).size = wid k
              · have hq' : ((S j).size : Int) = (wid k : Nat) := by omega
                go_wp2_with (go_at_call 40; refine (width_any _ _).mono ?_; rintro e w1 ⟨rfl, rfl⟩)
                go_round
                case rel => exact ⟨j + 1, by omega, by go_num, fun q hq2 => by
                  by_cases e : q = j
                  · subst e; exact hq
                  · exact HA.out q (by omega)⟩
                case measure => simp [intOf]; omega
              · have hq' : ¬ ((S j).size : Int) = (wid k : Nat) := by omega
                have hno : okB k zn n S = false := okB_no fun hh => hq (hh.2.2.2.2 j hlt)
                go_wp2_with (go_at_call 40; refine (width_any _ _).mono ?_; rintro e w1 ⟨rfl, rfl⟩)
                go_ret
                exact ⟨ret_bool hno.symm, below1 _ _⟩
            · obtain rfl : j = n := by omega
              go_wp2
              go_ret
              refine ⟨?_, below1 _ _⟩
              have : (((j : Int) == (p : Int)) : Bool) = okB k zn j S := by
                by_cases e : j = p
                · rw [okB_yes hk hz0 hz1 (by rw [e, HO.out]; simp) HA.out, e]; simp
                · rw [okB_no (fun hh => e (by rw [hh.2.2.2.1, HO.out]; simp))]; simpa using (by omega : ¬ (j : Int) = p)
              exact ret_bool this
    · have hno : okB k z n S = false := okB_no fun hh => hz ⟨hh.2.1, hh.2.2.1⟩
      go_enter Tryd.func33, Tryd.ntmps33
      go_wp2_with (first | (go_at_call 53; refine (kind_yes _ _ hk).mono ?_; rintro e w1 ⟨rfl, rfl⟩) | (go_at_call 54; refine (betw_no _ _ _ _ hz).mono ?_; rintro e w1 ⟨rfl, rfl⟩))
      go_ret
      exact ⟨ret_bool hno.symm, below1 _ _⟩
  · have hno : okB k z n S = false := okB_no fun hh => hk hh.1
    go_enter Tryd.func33, Tryd.ntmps33
    go_wp2_with (go_at_call 53; refine (kind_no _ _ hk).mono ?_; rintro e w1 ⟨rfl, rfl⟩)
    go_ret
    exact ⟨ret_bool hno.symm, below1 _ _⟩
end Go.Proofs.YtlbackkjjhpljaaDoor
