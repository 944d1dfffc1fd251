/-
  CheckProof: the program's answer.
-/
import Derived.Test.YtlbackkjjhpljaaGreatDoorIr
import Derived.Test.YtlbackkjjhpljaaGreatDoorIi
namespace Go.Proofs.YtlbackkjjhpljaaGreatDoor
open Go.RowKit
set_option maxRecDepth 20000 in
theorem claimOfProof_any (k : Int) (X : ByteArray) (w : World) :
    Calls Tryz.prog 33 #[.int .i64 k, .string X] w fun e w' => e = .returned (.func (.func 67) #[] #[.pointer (some ⟨w.heap.size + 1, 0, none⟩), .pointer (some ⟨w.heap.size + 1 + 1, 0, none⟩), .pointer (some ⟨w.heap.size, 0, none⟩)]) ∧ PQ w' (w.heap.size + 1) (w.heap.size + 1 + 1) w.heap.size k X ∧ Below w.heap.size w w' := by
  have hmf : ∀ (fn : Fn) (first cap : Array Value) (w : World), (Instr.makeFunc fn first cap).run Tryz.prog w = .ok (.func fn first cap) w := fun _ _ _ _ => rfl
  have e3 : (((w.alloc (.cells #[.int .i64 k] 3)).alloc (.cells #[.string X] 9)).alloc (.cells #[.nilFunc] 55)).cell? ⟨w.heap.size + 1 + 1, 0, none⟩ = some .nilFunc := by rw [World.cell?_alloc_at _ _ _ _ (by simp)]; rfl
  have f3 := frozen_of_row _ _ 0 _ _ (heap_alloc_new ((w.alloc (.cells #[.int .i64 k] 3)).alloc (.cells #[.string X] 9)) (.cells #[.nilFunc] 55))
  simp only [World.size_alloc] at f3
  have e4 := World.cell?_setCell_same' (((w.alloc (.cells #[.int .i64 k] 3)).alloc (.cells #[.string X] 9)).alloc (.cells #[.nilFunc] 55)) ⟨w.heap.size + 1 + 1, 0, none⟩ (.func (.func 67) #[] #[.pointer (some ⟨w.heap.size + 1, 0, none⟩), .pointer (some ⟨w.heap.size + 1 + 1, 0, none⟩), .pointer (some ⟨w.heap.size, 0, none⟩)]) (by rw [e3]; rfl)
  have hst := run_store Tryz.prog (((w.alloc (.cells #[.int .i64 k] 3)).alloc (.cells #[.string X] 9)).alloc (.cells #[.nilFunc] 55)) ⟨w.heap.size + 1 + 1, 0, none⟩ (.func (.func 67) #[] #[.pointer (some ⟨w.heap.size + 1, 0, none⟩), .pointer (some ⟨w.heap.size + 1 + 1, 0, none⟩), .pointer (some ⟨w.heap.size, 0, none⟩)]) .plain (by rfl)
  rw [e3] at hst
  simp only [f3] at hst
  go_enter Tryz.func33, Tryz.ntmps33
  go_wp2
  go_ret
  obtain ⟨a1, a2, a3⟩ := three_boxes w (.int .i64 k) (.string X) (.func (.func 67) #[] #[.pointer (some ⟨w.heap.size + 1, 0, none⟩), .pointer (some ⟨w.heap.size + 1 + 1, 0, none⟩), .pointer (some ⟨w.heap.size, 0, none⟩)]) 3 9 55
  exact ⟨rfl, ⟨a2, a3, a1⟩, below3 w _ _ _⟩
set_option maxRecDepth 20000 in
set_option maxHeartbeats 4000000 in
theorem implCheckProof : ImplCheckProof := by
  intro k x y E R a m c S w hK hE hR h hc hm hsz
  have HK : Hid (KeysAt w) := hK
  clear hK
  by_cases hr : 1 ≤ x ∧ x ≤ y ∧ y ≤ 2147483648 ∧ E.size = wid k ∧ digB k m S = true
  · obtain ⟨hx1, hxy, hy, hw, hd⟩ := hr
    obtain ⟨hk, hs⟩ := digB_out hd
    have HD : Hid (digB k m S = true) := hd
    have hs2 : ∀ j, j < m → (S j).size ≤ 2097152 := fun j hj => by have := hsz j hj; omega
    have d1 : decide (x < 1) = false := by simpa using hx1
    have d2 : decide (y < x) = false := by simpa using hxy
    have d3 : decide (2147483648 < y) = false := by simpa using hy
    obtain ⟨wk, hwk⟩ : ∃ wk, wid k = wk := ⟨_, rfl⟩
    have HW : Hid (wid k = wk) := hwk
    rw [hwk] at hw
    have d4 : ((E.size : Int) == (wk : Nat)) = true := by rw [hw]; simp
    have d4' : (E.size : Int) = (wk : Nat) := by omega
    clear hd
    by_cases e : m = ql 31 x.toNat y.toNat true
    · obtain ⟨⟨o, v⟩, hu⟩ : ∃ u, cq k E S 31 x.toNat y.toNat m true = u := ⟨_, rfl⟩
      have HU : Hid (cq k E S 31 x.toNat y.toNat m true = (o, v)) := hu
      have HQ : Hid (m = ql 31 x.toNat y.toNat true) := e
      have HB : Hid (chqB k x y E R m S = (decide (o = E) && decide (v = R))) := by
        show _ = _
        unfold chqB
        rw [hu]
        by_cases e1 : o = E
        · by_cases e2 : v = R
          · rw [dT e1, dT e2, dT ⟨⟨hk, hs, by omega, hy, hx1, hxy, e⟩, by rw [hw, hwk], e1, e2⟩]; rfl
          · rw [dT e1, dF e2, dF fun hh => e2 hh.2.2.2]; rfl
        · rw [dF e1, dF fun hh => e1 hh.2.2.1]; rfl
      clear hu e hs hwk
      go_enter Tryz.func23, Tryz.ntmps23
      go_wp2_with (first | (go_at_call 41; refine (widthOf_yes _ _ hk).mono ?_; rw [HW.out]; rintro e w0 ⟨rfl, rfl⟩) | (go_at_call 27; refine (areDig_any k a m c S _ h true HD.out).mono ?_; rintro e w0 ⟨rfl, rfl⟩) | (go_at_call 33; refine (claimOfProof_any k E _).mono ?_; rintro e w1 ⟨rfl, hP1, hb1⟩; have h1 := h.later hb1; have hK1 := keys_later HK.out hb1) | (go_at_call 67; refine (claimProof_yes k E S (by omega) _ _ _ 31 x.toNat y.toNat m true _ _ _ _ _ o v (by omega) (by omega) (by omega) (by omega) (by omega) (by omega) hm HQ.out h1 hc hs2 hK1 hP1 HU.out).mono ?_; rintro e w2 ⟨rfl, hb2⟩))
      all_goals
        go_ret
        exact ⟨ret_bool (by rw [HB.out, ← bytes_eq, ← bytes_eq]; simp [*]), (hb1.trans (hb2.mono hb1.size)).trans ((below1 _ _).mono (Nat.le_trans hb1.size hb2.size))⟩
    · have HB : Hid (chqB k x y E R m S = false) := dF fun hh => e hh.1.2.2.2.2.2.2
      have HQ : Hid (¬ m = ql 31 x.toNat y.toNat true) := e
      clear e hs hwk
      go_enter Tryz.func23, Tryz.ntmps23
      go_wp2_with (first | (go_at_call 41; refine (widthOf_yes _ _ hk).mono ?_; rw [HW.out]; rintro e w0 ⟨rfl, rfl⟩) | (go_at_call 27; refine (areDig_any k a m c S _ h true HD.out).mono ?_; rintro e w0 ⟨rfl, rfl⟩) | (go_at_call 33; refine (claimOfProof_any k E _).mono ?_; rintro e w1 ⟨rfl, hP1, hb1⟩; have h1 := h.later hb1; have hK1 := keys_later HK.out hb1) | (go_at_call 67; refine (claimProof_no k E S _ _ _ 31 x.toNat y.toNat m true _ _ _ _ _ (by omega) (by omega) (by omega) (by omega) (by omega) (by omega) hm HQ.out h1 hc hs2 hK1 hP1).mono ?_; rintro e w2 ⟨⟨o, v, rfl⟩, hb2⟩))
      all_goals
        go_ret
        exact ⟨ret_bool HB.out.symm, (hb1.trans (hb2.mono hb1.size)).trans ((below1 _ _).mono (Nat.le_trans hb1.size hb2.size))⟩
  · have HN : Hid (chqB k x y E R m S = false) := dF fun hh => hr ⟨hh.1.2.2.2.2.1, hh.1.2.2.2.2.2.1, hh.1.2.2.2.1, hh.2.1, digB_yes hh.1.1 hh.1.2.1⟩
    by_cases h1 : x < 1
    · have d1 : decide (x < 1) = true := by simpa using h1
      go_enter Tryz.func23, Tryz.ntmps23
      go_wp2
      go_ret
      exact ⟨ret_bool HN.out.symm, Below.refl _ _⟩
    have d1 : decide (x < 1) = false := by simpa using h1
    by_cases h2 : y < x
    · have d2 : decide (y < x) = true := by simpa using h2
      go_enter Tryz.func23, Tryz.ntmps23
      go_wp2
      go_ret
      exact ⟨ret_bool HN.out.symm, Below.refl _ _⟩
    have d2 : decide (y < x) = false := by simpa using h2
    by_cases h3 : 2147483648 < y
    · have d3 : decide (2147483648 < y) = true := by simpa using h3
      go_enter Tryz.func23, Tryz.ntmps23
      go_wp2
      go_ret
      exact ⟨ret_bool HN.out.symm, Below.refl _ _⟩
    have d3 : decide (2147483648 < y) = false := by simpa using h3
    by_cases hk : k = 0 ∨ k = 1
    · obtain ⟨wk, hwk⟩ : ∃ wk, wid k = wk := ⟨_, rfl⟩
      have HW : Hid (wid k = wk) := hwk
      rw [hwk] at hr
      by_cases h4 : E.size = wk
      · have d4 : ((E.size : Int) == (wk : Nat)) = true := by rw [h4]; simp
        have d4' : (E.size : Int) = (wk : Nat) := by omega
        have hd : digB k m S = false := by
          cases e : digB k m S with
          | false => rfl
          | true => exact absurd ⟨by omega, by omega, by omega, h4, e⟩ hr
        have HD : Hid (digB k m S = false) := hd
        clear hd hr hwk
        go_enter Tryz.func23, Tryz.ntmps23
        go_wp2_with (first | (go_at_call 41; refine (widthOf_yes _ _ hk).mono ?_; rw [HW.out]; rintro e w0 ⟨rfl, rfl⟩) | (go_at_call 27; refine (areDig_any k a m c S _ h false HD.out).mono ?_; rintro e w0 ⟨rfl, rfl⟩))
        go_ret
        exact ⟨ret_bool HN.out.symm, Below.refl _ _⟩
      · have d4 : ((E.size : Int) == (wk : Nat)) = false := by simp; omega
        have d4' : ¬ (E.size : Int) = (wk : Nat) := by omega
        clear hr hwk
        go_enter Tryz.func23, Tryz.ntmps23
        go_wp2_with (go_at_call 41; refine (widthOf_yes _ _ hk).mono ?_; rw [HW.out]; rintro e w0 ⟨rfl, rfl⟩)
        go_ret
        exact ⟨ret_bool HN.out.symm, Below.refl _ _⟩
    · have hd : digB k m S = false := digB_no fun hh => hk hh.1
      have HD : Hid (digB k m S = false) := hd
      clear hd hr
      by_cases h4 : E.size = 0
      · have d4 : ((E.size : Int) == 0) = true := by rw [h4]; rfl
        have d4' : (E.size : Int) = 0 := by omega
        go_enter Tryz.func23, Tryz.ntmps23
        go_wp2_with (first | (go_at_call 41; refine (widthOf_no _ _ hk).mono ?_; rintro e w0 ⟨rfl, rfl⟩) | (go_at_call 27; refine (areDig_any k a m c S _ h false HD.out).mono ?_; rintro e w0 ⟨rfl, rfl⟩))
        go_ret
        exact ⟨ret_bool HN.out.symm, Below.refl _ _⟩
      · have d4 : ((E.size : Int) == 0) = false := beq_eq_false_iff_ne.2 (by omega)
        have d4' : ¬ (E.size : Int) = 0 := by omega
        go_enter Tryz.func23, Tryz.ntmps23
        go_wp2_with (go_at_call 41; refine (widthOf_no _ _ hk).mono ?_; rintro e w0 ⟨rfl, rfl⟩)
        go_ret
        exact ⟨ret_bool HN.out.symm, Below.refl _ _⟩
end Go.Proofs.YtlbackkjjhpljaaGreatDoor
