/-
  When a tree is OK: the program's way; and the law's walk.
-/
import Derived.Test.YtmchmmihlocggabDoorTok
namespace Go.Proofs.YtmchmmihlocggabDoor
open Go.RowKit
set_option maxRecDepth 20000 in
set_option maxHeartbeats 1000000 in
theorem implOK_no (k z : Int) (a : Option Addr) (n c : Nat) (S : Nat → ByteArray) (w : World) (h : ¬ ((k = 0 ∨ k = 1) ∧ 0 ≤ z ∧ z ≤ 2000 ∧ n = on z.toNat)) :
    Calls Tryd.prog 29 #[.int .i64 k, .agg #[.int .i64 z, .slice a n c]] w fun e w' => e = .returned (.bool (okB k z n S)) ∧ Below w.heap.size w w' := by
  have HN : Hid (okB k z n S = false) := okB_no fun hh => h ⟨hh.1, hh.2.1, hh.2.2.1, hh.2.2.2.1⟩
  by_cases hk : k = 0 ∨ k = 1
  · have hw0 : ¬ ((wid k : Nat) : Int) = 0 := by unfold wid; split <;> omega
    have d0 : (((wid k : Nat) : Int) == 0) = false := by simpa using hw0
    obtain ⟨wk, ewk⟩ : ∃ x, wid k = x := ⟨_, rfl⟩
    have HW : Hid (wid k = wk) := ewk
    rw [ewk] at d0 hw0
    clear ewk
    by_cases hz0 : z < 0
    · have d1 : decide (z < 0) = true := by simpa using hz0
      go_enter Tryd.func29, Tryd.ntmps29
      go_wp2_with (go_at_call 22; refine (widthOf_yes _ _ hk).mono ?_; rw [HW.out]; rintro e w1 ⟨rfl, rfl⟩)
      go_quiet (fail)
      go_wp2
      go_ret
      exact ⟨ret_bool HN.out.symm, bdrew (below1 _ _) _⟩
    · have d1 : decide (z < 0) = false := by simpa using hz0
      by_cases hz1 : 2000 < z
      · have d2 : decide (2000 < z) = true := by simpa using hz1
        go_enter Tryd.func29, Tryd.ntmps29
        go_wp2_with (go_at_call 22; refine (widthOf_yes _ _ hk).mono ?_; rw [HW.out]; rintro e w1 ⟨rfl, rfl⟩)
        go_quiet (fail)
        go_wp2
        go_ret
        exact ⟨ret_bool HN.out.symm, bdrew (below1 _ _) _⟩
      · have d2 : decide (2000 < z) = false := by simpa using hz1
        obtain ⟨zn, rfl⟩ : ∃ zn : Nat, z = zn := ⟨z.toNat, by omega⟩
        have hne : ¬ n = on zn := fun e => h ⟨hk, by omega, by omega, by simpa using e⟩
        have hzn : zn < 2048 := by omega
        have d3 : ((n : Int) == (on zn : Nat)) = false := by simpa using (by omega : ¬ (n : Int) = (on zn : Nat))
        have hcv : IntKind.u64.wrap (zn : Int) = zn := by rw [IntKind.wrap_u64]; omega
        go_enter Tryd.func29, Tryd.ntmps29
        go_wp2_with (go_at_call 22; refine (widthOf_yes _ _ hk).mono ?_; rw [HW.out]; rintro e w1 ⟨rfl, rfl⟩)
        go_quiet ((go_at_call 40; exact Calls.quiet_of_same (ocn_any _ _ hzn)))
        go_wp2
        go_ret
        exact ⟨ret_bool HN.out.symm, bdrew (below1 _ _) _⟩
  · go_enter Tryd.func29, Tryd.ntmps29
    go_wp2_with (go_at_call 22; refine (widthOf_no _ _ hk).mono ?_; rintro e w1 ⟨rfl, rfl⟩)
    go_quiet (fail)
    go_wp2
    go_ret
    exact ⟨ret_bool HN.out.symm, bdrew (below1 _ _) _⟩
set_option maxRecDepth 20000 in
set_option maxHeartbeats 1000000 in
theorem implOK_yes (k z : Int) (a : Option Addr) (n c : Nat) (S : Nat → ByteArray) (w : World) (hS : Sl w a n S) (h : (k = 0 ∨ k = 1) ∧ 0 ≤ z ∧ z ≤ 2000 ∧ n = on z.toNat) :
    Calls Tryd.prog 29 #[.int .i64 k, .agg #[.int .i64 z, .slice a n c]] w fun e w' => e = .returned (.bool (okB k z n S)) ∧ Below w.heap.size w w' := by
  obtain ⟨hk, hz0, hz1, he⟩ := h
  have hn := hS.1
  have hw0 : ¬ ((wid k : Nat) : Int) = 0 := by unfold wid; split <;> omega
  have d0 : (((wid k : Nat) : Int) == 0) = false := by simpa using hw0
  obtain ⟨wk, ewk⟩ : ∃ x, wid k = x := ⟨_, rfl⟩
  have HW : Hid (wid k = wk) := ewk
  rw [ewk] at d0 hw0
  clear ewk
  have d1 : decide (z < 0) = false := by simpa using hz0
  have d2 : decide (2000 < z) = false := by simpa using hz1
  obtain ⟨zn, rfl⟩ : ∃ zn : Nat, z = zn := ⟨z.toNat, by omega⟩
  have hzn : zn < 2048 := by omega
  have he' : n = on zn := by simpa using he
  have HE : Hid (n = on zn) := he'
  clear he he'
  have d3 : ((n : Int) == (on zn : Nat)) = true := by rw [← HE.out]; simp
  have hcv : IntKind.u64.wrap (zn : Int) = zn := by rw [IntKind.wrap_u64]; omega
  have hw := hS.later (below1 w (.cells #[.int .i64 zn, .slice a n c] 31))
  go_enter Tryd.func29, Tryd.ntmps29
  go_wp2_with (go_at_call 22; refine (widthOf_yes _ _ hk).mono ?_; rw [HW.out]; rintro e w1 ⟨rfl, rfl⟩)
  go_quiet ((go_at_call 40; exact Calls.quiet_of_same (ocn_any _ _ hzn)))
  go_wp2
  go_loop [35] (fun i => ∃ j : Nat, j ≤ n ∧ i = .int .i64 j ∧ ∀ q, q < j → (S q).size = wid k) (fun i => n - (intOf i).toNat)
  case atStart => exact ⟨0, by omega, rfl, fun q hq => by omega⟩
  case round =>
    obtain ⟨j, hj, rfl, hall⟩ := hrel
    have HA : Hid (∀ q, q < j → (S q).size = wid k) := hall
    clear hall
    by_cases hlt : j < n
    · obtain ⟨b, off, rfl, hc⟩ := hw.at j hlt
      have hsz := (hS.2 j hlt).1
      by_cases hq : (S j).size = wk
      · have hq' : ((S j).size : Int) = wk := by omega
        go_wp2
        go_round
        case rel => exact ⟨j + 1, by omega, by go_num, fun q hq2 => by
          by_cases e : q = j
          · subst e; rw [HW.out]; exact hq
          · exact HA.out q (by omega)⟩
        case measure => simp [intOf]; omega
      · have hq' : ¬ ((S j).size : Int) = wk := by omega
        have hno : Hid (okB k zn n S = false) := okB_no fun hh => hq (by rw [← HW.out]; exact hh.2.2.2.2 j hlt)
        go_wp2
        go_ret
        exact ⟨ret_bool hno.out.symm, bdrew (below1 _ _) _⟩
    · obtain rfl : j = n := by omega
      go_wp2
      go_ret
      exact ⟨ret_bool (okB_yes hk hz0 hz1 (by simpa using HE.out) HA.out).symm, bdrew (below1 _ _) _⟩
theorem implOK_any (k z : Int) (a : Option Addr) (n c : Nat) (S : Nat → ByteArray) (w : World) (h : Sl w a n S) :
    Calls Tryd.prog 29 #[.int .i64 k, .agg #[.int .i64 z, .slice a n c]] w fun e w' => e = .returned (.bool (okB k z n S)) ∧ Below w.heap.size w w' := by
  by_cases hh : (k = 0 ∨ k = 1) ∧ 0 ≤ z ∧ z ≤ 2000 ∧ n = on z.toNat
  · exact implOK_yes k z a n c S w h hh
  · exact implOK_no k z a n c S w hh
end Go.Proofs.YtmchmmihlocggabDoor
