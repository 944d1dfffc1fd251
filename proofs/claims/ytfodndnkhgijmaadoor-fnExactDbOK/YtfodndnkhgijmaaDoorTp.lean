/-
  Tables: the program's test of a table.
-/
import Derived.Test.YtfodndnkhgijmaaDoorTn
namespace Go.Proofs.YtfodndnkhgijmaaDoor
open Go.RowKit Go.Maps Go.WideMaps
theorem isTab_false {s : ByteArray} {n : Nat} {C : Nat → Clm} {r : Nat} {m : Nat → Nat} {R : Nat → Nat → Itm} (h : isTabB s n C r m R = false) : okTab s n C r m R = false := by rw [← tab_one]; exact h
set_option maxRecDepth 20000 in
set_option maxHeartbeats 8000000 in
theorem iTable (b : Nat) (s : ByteArray) (n : Nat) (C : Nat → Clm) (r : Nat) (m : Nat → Nat) (R : Nat → Nat → Itm) (ac : Option Addr) (cc : Nat) (ar : Option Addr) (cr : Nat) (w : World) (hK : KwAt w b) (hC : CL w ac n C) (hR : OL w ar r m R) (hsm : Sm3 ⟨s, n, C, r, m, R⟩) :
    Calls Tryd.prog 23 #[.map (some b), .agg #[.string s, .slice ac n cc, .slice ar r cr]] w fun e w' => e = .returned (.bool (okTab s n C r m R)) ∧ Below w.heap.size w w' := by
  have hb0 := bal w (.cells #[.string s, .slice ac n cc, .slice ar r cr] 54)
  have hX0 := heap_alloc_new w (.cells #[.string s, .slice ac n cc, .slice ar r cr] 54)
  have hss := hsm.s
  have hn := hsm.co.1
  have hrr := hsm.ro.1
  dsimp only at hss hn hrr
  have c0 : (w.alloc (.cells #[.string s, .slice ac n cc, .slice ar r cr] 54)).cell? ⟨w.heap.size, 0, none⟩ = some (.string s) := (cell_of_row _ _ 0 _ _ _ hX0).trans rfl
  have c1 : (w.alloc (.cells #[.string s, .slice ac n cc, .slice ar r cr] 54)).cell? ⟨w.heap.size, 1, none⟩ = some (.slice ac n cc) := (cell_of_row _ _ 1 _ _ _ hX0).trans rfl
  have c2 : (w.alloc (.cells #[.string s, .slice ac n cc, .slice ar r cr] 54)).cell? ⟨w.heap.size, 2, none⟩ = some (.slice ar r cr) := (cell_of_row _ _ 2 _ _ _ hX0).trans rfl
  clear hX0
  rcases hq1 : okName s
  · have HF : Hid (okTab s n C r m R = false) := isTab_false (by unfold isTabB; rw [hq1]; rfl)
    go_enter Tryd.func23, Tryd.ntmps23
    go_wp2_with (go_at_call 40; refine (iName b s _ (hK.later hb0) hss).mono ?_; rw [hq1]; rintro e w1 ⟨rfl, hb1⟩; have d1 := keepB hb1 c1; have d2 := keepB hb1 c2)
    go_ret
    exact ⟨retB HF.out.symm, bstep hb0 hb1⟩
  rcases hq2 : (btw n 1 20 && allN n (fun j => okCol (C j).s (C j).t))
  · have HF : Hid (okTab s n C r m R = false) := isTab_false (by unfold isTabB; rw [hq1, hq2]; rfl)
    go_enter Tryd.func23, Tryd.ntmps23
    go_wp2_with (first | (go_at_call 40; refine (iName b s _ (hK.later hb0) hss).mono ?_; rw [hq1]; rintro e w1 ⟨rfl, hb1⟩; have d1 := keepB hb1 c1; have d2 := keepB hb1 c2) | (go_at_call 42; refine (iAllCol b _ _ _ C _ (hK.later (bstep hb0 hb1)) (hC.later (bstep hb0 hb1)) hn).mono ?_; rw [hq2]; rintro e w2 ⟨rfl, hb2⟩; have e1 := keepB hb2 d1; have e2 := keepB hb2 d2))
    go_ret
    exact ⟨retB HF.out.symm, bstep hb0 (bstep hb1 hb2)⟩
  rcases hq3 : difB C n
  · have HF : Hid (okTab s n C r m R = false) := isTab_false (by unfold isTabB; rw [hq1, hq2, hq3]; rfl)
    go_enter Tryd.func23, Tryd.ntmps23
    go_wp2_with (first | (go_at_call 40; refine (iName b s _ (hK.later hb0) hss).mono ?_; rw [hq1]; rintro e w1 ⟨rfl, hb1⟩; have d1 := keepB hb1 c1; have d2 := keepB hb1 c2) | (go_at_call 42; refine (iAllCol b _ _ _ C _ (hK.later (bstep hb0 hb1)) (hC.later (bstep hb0 hb1)) hn).mono ?_; rw [hq2]; rintro e w2 ⟨rfl, hb2⟩; have e1 := keepB hb2 d1; have e2 := keepB hb2 d2) | (go_at_call 72; refine (iDifferent _ _ _ C _ (hC.later (bstep hb0 (bstep hb1 hb2))) hn).mono ?_; rw [hq3]; rintro e w3 ⟨rfl, hb3⟩; have f1 := keepB hb3 e1; have f2 := keepB hb3 e2; have B3 : Below w.heap.size w w3 := bstep hb0 (bstep hb1 (bstep hb2 hb3))))
    go_ret
    exact ⟨retB HF.out.symm, B3⟩
  by_cases hq4 : r ≤ 1000
  rotate_left
  · have HF : Hid (okTab s n C r m R = false) := isTab_false (by unfold isTabB; rw [decide_eq_false hq4]; simp)
    have hq5 : (1000 : Int) < r := by omega
    go_enter Tryd.func23, Tryd.ntmps23
    go_wp2_with (first | (go_at_call 40; refine (iName b s _ (hK.later hb0) hss).mono ?_; rw [hq1]; rintro e w1 ⟨rfl, hb1⟩; have d1 := keepB hb1 c1; have d2 := keepB hb1 c2) | (go_at_call 42; refine (iAllCol b _ _ _ C _ (hK.later (bstep hb0 hb1)) (hC.later (bstep hb0 hb1)) hn).mono ?_; rw [hq2]; rintro e w2 ⟨rfl, hb2⟩; have e1 := keepB hb2 d1; have e2 := keepB hb2 d2) | (go_at_call 72; refine (iDifferent _ _ _ C _ (hC.later (bstep hb0 (bstep hb1 hb2))) hn).mono ?_; rw [hq3]; rintro e w3 ⟨rfl, hb3⟩; have f1 := keepB hb3 e1; have f2 := keepB hb3 e2; have B3 : Below w.heap.size w w3 := bstep hb0 (bstep hb1 (bstep hb2 hb3))))
    go_ret
    exact ⟨retB HF.out.symm, B3⟩
  have hq5 : ¬ (1000 : Int) < r := by omega
  have h0 : 0 < n := by
    rw [Bool.and_eq_true] at hq2
    have := hq2.1
    unfold btw at this
    simp at this
    omega
  have HT : ∀ x : Bool, allN r (fun i => rowB (m i) (R i) n C) = x → Hid (okTab s n C r m R = (x && sortB C r R)) := fun x hx => by
    show _ = _
    rw [← tab_one]
    unfold isTabB
    rw [hq1, hq2, hq3, decide_eq_true hq4, hx]
    rfl
  go_enter Tryd.func23, Tryd.ntmps23
  go_wp2_with (first | (go_at_call 40; refine (iName b s _ (hK.later hb0) hss).mono ?_; rw [hq1]; rintro e w1 ⟨rfl, hb1⟩; have d1 := keepB hb1 c1; have d2 := keepB hb1 c2) | (go_at_call 42; refine (iAllCol b _ _ _ C _ (hK.later (bstep hb0 hb1)) (hC.later (bstep hb0 hb1)) hn).mono ?_; rw [hq2]; rintro e w2 ⟨rfl, hb2⟩; have e1 := keepB hb2 d1; have e2 := keepB hb2 d2) | (go_at_call 72; refine (iDifferent _ _ _ C _ (hC.later (bstep hb0 (bstep hb1 hb2))) hn).mono ?_; rw [hq3]; rintro e w3 ⟨rfl, hb3⟩; have f1 := keepB hb3 e1; have f2 := keepB hb3 e2; have B3 : Below w.heap.size w w3 := bstep hb0 (bstep hb1 (bstep hb2 hb3))))
  clear c0 c1 c2 d1 d2 e1 e2
  go_loopw [6, 35] (fun _ i wr => ∃ k : Nat, k ≤ r ∧ i = .int .i64 k ∧ (∀ j, j < k → rowB (m j) (R j) n C = true) ∧ Below w3.heap.size w3 wr) (fun _ i _ => r - (intOf i).toNat)
  case atStart => exact ⟨0, by omega, rfl, fun j hj => by omega, Below.refl _ _⟩
  case round =>
    obtain ⟨k, hk, rfl, hall, hb⟩ := hrel
    have g1 := keepB hb f1
    have g2 := keepB hb f2
    have B4 := bstep B3 hb
    by_cases hlt : k < r
    · obtain ⟨b', off, i, c', rfl, d0, di, dm⟩ := hR.later B4 k hlt
      go_wp2_with (go_at_call 73; refine (iRow _ _ _ _ _ _ _ _ _ di (hC.later B4) dm hn).mono ?_; rintro e w4 ⟨rfl, hb4⟩; rcases ho : rowB (m k) (R k) n C)
      · go_ret
        exact ⟨retB (by rw [(HT false (allN_false (p := fun i => rowB (m i) (R i) n C) hlt ho)).out]; rfl), bstep B4 hb4⟩
      · go_roundw
        case rel => exact ⟨k + 1, by omega, by go_num, fun i hi => by
          by_cases e : i = k
          · subst e; exact ho
          · exact hall i (by omega), bstep hb hb4⟩
        case measure => simp [intOf]; omega
    · obtain rfl : k = r := by omega
      have HQ := HT true (allN_true hall)
      have hm0 : ∀ j, j < k → 0 < m j := fun j hj => by
        have := hall j hj
        unfold rowB typesB at this
        rw [Bool.and_eq_true, Bool.and_eq_true, decide_eq_true_eq] at this
        have := this.2.1
        omega
      have HM : Hid (∀ j, j < k → 0 < m j) := hm0
      clear hm0 HT
      obtain ⟨b', off', rfl, u0, u1, -⟩ := hC.later B4 0 h0
      have i0 : (0 : Int) < (n : Int) := by omega
      rcases ht : ((C 0).t == 1)
      · go_wp2_with (go_at_call 76; refine (iSortT _ _ _ m R _ (hR.later B4) HM.out hrr).mono ?_; rintro e w5 ⟨rfl, hb5⟩)
        go_ret
        exact ⟨retB (by rw [HQ.out]; unfold sortB; rw [ht]; rfl), bstep B4 hb5⟩
      · go_wp2_with (go_at_call 74; refine (iSortN _ _ _ m R _ (hR.later B4) HM.out hrr).mono ?_; rintro e w5 ⟨rfl, hb5⟩)
        go_ret
        exact ⟨retB (by rw [HQ.out]; unfold sortB; rw [ht]; rfl), bstep B4 hb5⟩
end Go.Proofs.YtfodndnkhgijmaaDoor
