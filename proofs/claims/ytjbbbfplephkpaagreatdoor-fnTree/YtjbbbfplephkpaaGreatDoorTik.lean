/-
  When a tree is OK: the program's way.
-/
import Derived.Test.YtjbbbfplephkpaaGreatDoorTok
import Derived.Test.YtjbbbfplephkpaaGreatDoorKd
namespace Go.Proofs.YtjbbbfplephkpaaGreatDoor
open Go.RowKit
theorem okB_digB {k z : Int} {n : Nat} {S : Nat → ByteArray} (h0 : 0 ≤ z) (h1 : z ≤ 2000) (hn : n = on z.toNat) : digB k n S = okB k z n S := by
  unfold digB okB
  by_cases h : (k = 0 ∨ k = 1) ∧ ∀ j, j < n → (S j).size = wid k
  · rw [decide_eq_true h, decide_eq_true ⟨h.1, h0, h1, hn, h.2⟩]
  · rw [decide_eq_false h, decide_eq_false fun hh => h ⟨hh.1, hh.2.2.2.2⟩]
set_option maxRecDepth 20000 in
set_option maxHeartbeats 1000000 in
theorem implOK_no (k z : Int) (a : Option Addr) (n c : Nat) (S : Nat → ByteArray) (w : World) (h : ¬ (0 ≤ z ∧ z ≤ 2000 ∧ n = on z.toNat)) :
    Calls Tryz.prog 13 #[.int .i64 k, .agg #[.int .i64 z, .slice a n c]] w fun e w' => e = .returned (.bool (okB k z n S)) ∧ Below w.heap.size w w' := by
  have HN : Hid (okB k z n S = false) := okB_no fun hh => h ⟨hh.2.1, hh.2.2.1, hh.2.2.2.1⟩
  by_cases hz0 : z < 0
  · have d1 : decide (z < 0) = true := by simpa using hz0
    go_enter Tryz.func13, Tryz.ntmps13
    go_wp2
    go_quiet (fail)
    go_wp2
    go_ret
    exact ⟨ret_bool HN.out.symm, bdrew (below1 _ _) _⟩
  · have d1 : decide (z < 0) = false := by simpa using hz0
    by_cases hz1 : 2000 < z
    · have d2 : decide (2000 < z) = true := by simpa using hz1
      go_enter Tryz.func13, Tryz.ntmps13
      go_wp2
      go_quiet (fail)
      go_wp2
      go_ret
      exact ⟨ret_bool HN.out.symm, bdrew (below1 _ _) _⟩
    · have d2 : decide (2000 < z) = false := by simpa using hz1
      obtain ⟨zn, rfl⟩ : ∃ zn : Nat, z = zn := ⟨z.toNat, by omega⟩
      have hne : ¬ n = on zn := fun e => h ⟨by omega, by omega, by simpa using e⟩
      have hzn : zn < 2048 := by omega
      have d3 : ((n : Int) == (on zn : Nat)) = false := by simpa using (by omega : ¬ (n : Int) = (on zn : Nat))
      have hcv : IntKind.u64.wrap (zn : Int) = zn := by rw [IntKind.wrap_u64]; omega
      go_enter Tryz.func13, Tryz.ntmps13
      go_wp2
      go_quiet ((go_at_call 33; exact Calls.quiet_of_same (ocn_any _ _ hzn)))
      go_wp2
      go_ret
      exact ⟨ret_bool HN.out.symm, bdrew (below1 _ _) _⟩
set_option maxRecDepth 20000 in
set_option maxHeartbeats 1000000 in
theorem implOK_yes (k z : Int) (a : Option Addr) (n c : Nat) (S : Nat → ByteArray) (w : World) (hS : Sl w a n S) (h : 0 ≤ z ∧ z ≤ 2000 ∧ n = on z.toNat) :
    Calls Tryz.prog 13 #[.int .i64 k, .agg #[.int .i64 z, .slice a n c]] w fun e w' => e = .returned (.bool (okB k z n S)) ∧ Below w.heap.size w w' := by
  obtain ⟨hz0, hz1, he⟩ := h
  have hn := hS.1
  obtain ⟨r, hr⟩ : ∃ r, digB k n S = r := ⟨_, rfl⟩
  have hr2 := hr
  rw [okB_digB hz0 hz1 he] at hr2
  rw [hr2]
  have HR : Hid (digB k n S = r) := hr
  clear hr hr2
  have d1 : decide (z < 0) = false := by simpa using hz0
  have d2 : decide (2000 < z) = false := by simpa using hz1
  obtain ⟨zn, rfl⟩ : ∃ zn : Nat, z = zn := ⟨z.toNat, by omega⟩
  have hzn : zn < 2048 := by omega
  have he' : n = on zn := by simpa using he
  have HE : Hid (n = on zn) := he'
  clear he he'
  have d3 : ((n : Int) == (on zn : Nat)) = true := by rw [← HE.out]; simp
  have hcv : IntKind.u64.wrap (zn : Int) = zn := by rw [IntKind.wrap_u64]; omega
  have hw := hS.later (below1 w (.cells #[.int .i64 zn, .slice a n c] 28))
  go_enter Tryz.func13, Tryz.ntmps13
  go_wp2
  go_quiet ((go_at_call 33; exact Calls.quiet_of_same (ocn_any _ _ hzn)))
  go_wp2_with (go_at_call 34; refine (areDig_any k a n c S _ (hw.drew _) r HR.out).mono ?_; rintro e w1 ⟨rfl, rfl⟩)
  go_ret
  exact ⟨rfl, bdrew (below1 _ _) _⟩
set_option maxRecDepth 20000 in
theorem implOK_any (k z : Int) (a : Option Addr) (n c : Nat) (S : Nat → ByteArray) (w : World) (h : Sl w a n S) :
    Calls Tryz.prog 13 #[.int .i64 k, .agg #[.int .i64 z, .slice a n c]] w fun e w' => e = .returned (.bool (okB k z n S)) ∧ Below w.heap.size w w' := by
  by_cases hh : 0 ≤ z ∧ z ≤ 2000 ∧ n = on z.toNat
  · exact implOK_yes k z a n c S w h hh
  · exact implOK_no k z a n c S w hh
end Go.Proofs.YtjbbbfplephkpaaGreatDoor
