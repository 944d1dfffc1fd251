/-
  FsCrash: the specification's side.
-/
import Derived.Test.YtdbcihebhgpblaaKd
import Derived.RangeFuncBox
namespace Go.Proofs.Ytdbcihebhgpblaa
open Go.RowKit
theorem not_own {W : World} {q : Nat} {X : Array Value} {t e : TypeId} {fr : Nat × Nat} (h : W.heap[q]? = some (.cells X t fr)) (hte : t ≠ e) {base size k : Nat} {v : Value} {xs : List Value} (hr : W.ownsRow base e size v k xs) : some q ≠ v.ownBlock := by
  rcases hr.2 with ⟨rfl, _⟩ | ⟨g, cap, cur, rfl, _, hgb, _⟩
  · simp [Value.ownBlock]
  · intro e'
    obtain rfl : q = g := by simpa [Value.ownBlock] using e'
    rw [h] at hgb
    simp at hgb
    exact hte hgb.2.1
set_option maxRecDepth 20000 in
set_option maxHeartbeats 8000000 in
theorem sCrashNo (a : Option Addr) (n c : Nat) (F : Nat → Fil) (x1 x2 x3 x4 : Int) (x5 : Bool) (a' : Option Addr) (m c' : Nat) (w : World) (h : FL w a n F) (hS : Small n F) (hv : okFs n F x1 x2 x3 x4 = false) :
    Calls Try.prog 22 #[.agg #[.slice a n c, .int .i64 x1, .int .i64 x2, .int .i64 x3, .int .i64 x4, .bool x5], .slice a' m c'] w fun e w' => e = .returned (.agg #[.slice none 0 0, .int .i64 0, .int .i64 0, .int .i64 0, .int .i64 0, .bool false]) ∧ Below w.heap.size w w' := by
  have hb0 : Below w.heap.size w ((w.alloc (.cells #[.slice a n c, .int .i64 x1, .int .i64 x2, .int .i64 x3, .int .i64 x4, .bool x5] 36)).alloc (.cells #[.slice none 0 0, .int .i64 0, .int .i64 0, .int .i64 0, .int .i64 0, .bool false] 36)) := bstep (bal _ _) (bal _ _)
  have hR := heap_alloc_new (w.alloc (.cells #[.slice a n c, .int .i64 x1, .int .i64 x2, .int .i64 x3, .int .i64 x4, .bool x5] 36)) (.cells #[.slice none 0 0, .int .i64 0, .int .i64 0, .int .i64 0, .int .i64 0, .bool false] 36)
  rw [World.size_alloc] at hR
  go_enter Try.func22, Try.ntmps22
  go_wp2_with (go_at_call 17; refine (sValid a n c F x1 x2 x3 x4 x5 _ (h.later hb0) hS).mono ?_; rw [hv]; rintro e w1 ⟨rfl, hb1⟩; have hR1 := rowL hR hb1; have gc0 : w1.cell? ⟨w.heap.size + 1, 0, none⟩ = some (.slice none 0 0) := (cell_of_row _ _ 0 _ _ _ hR1).trans rfl; have gf0 : w1.frozen? ⟨w.heap.size + 1, 0, none⟩ = false := frozen_of_row _ _ 0 _ _ hR1; have gc1 : w1.cell? ⟨w.heap.size + 1, 1, none⟩ = some (.int .i64 0) := (cell_of_row _ _ 1 _ _ _ hR1).trans rfl; have gf1 : w1.frozen? ⟨w.heap.size + 1, 1, none⟩ = false := frozen_of_row _ _ 1 _ _ hR1; have gc2 : w1.cell? ⟨w.heap.size + 1, 2, none⟩ = some (.int .i64 0) := (cell_of_row _ _ 2 _ _ _ hR1).trans rfl; have gf2 : w1.frozen? ⟨w.heap.size + 1, 2, none⟩ = false := frozen_of_row _ _ 2 _ _ hR1; have gc3 : w1.cell? ⟨w.heap.size + 1, 3, none⟩ = some (.int .i64 0) := (cell_of_row _ _ 3 _ _ _ hR1).trans rfl; have gf3 : w1.frozen? ⟨w.heap.size + 1, 3, none⟩ = false := frozen_of_row _ _ 3 _ _ hR1; have gc4 : w1.cell? ⟨w.heap.size + 1, 4, none⟩ = some (.int .i64 0) := (cell_of_row _ _ 4 _ _ _ hR1).trans rfl; have gf4 : w1.frozen? ⟨w.heap.size + 1, 4, none⟩ = false := frozen_of_row _ _ 4 _ _ hR1; have gc5 : w1.cell? ⟨w.heap.size + 1, 5, none⟩ = some (.bool false) := (cell_of_row _ _ 5 _ _ _ hR1).trans rfl; have gf5 : w1.frozen? ⟨w.heap.size + 1, 5, none⟩ = false := frozen_of_row _ _ 5 _ _ hR1)
  refine bodyPost_ret (v := .agg #[.slice none 0 0, .int .i64 0, .int .i64 0, .int .i64 0, .int .i64 0, .bool false]) (results_cell_row Try.results22 _ _ (w.heap.size + 1) 36 _ (0, 0) _ rfl (set6_row _ _ _ _ _ _ hR1) Try.underlying36 rfl (by kernel_rfl)) rfl ⟨rfl, set6_below _ _ _ _ _ _ (bstep hb0 hb1) (by omega)⟩
theorem own_slice {w : World} {B n : Nat} {v : Value} {F : Nat → Fil} (h : OwnF w B v n F) : ∃ a cap, v = .slice a n cap := by
  rcases h.2 with ⟨rfl, rfl⟩ | ⟨g, cap, _, rfl, _⟩
  · exact ⟨none, 0, rfl⟩
  · exact ⟨_, _, rfl⟩
theorem ext_all (t : ByteArray) : t.extract 0 t.size = t := rst_zero t
set_option maxRecDepth 20000 in
set_option maxHeartbeats 8000000 in
theorem sCrashYes (a : Option Addr) (n c : Nat) (F : Nat → Fil) (x1 x2 x3 x4 : Int) (x5 : Bool) (a' : Option Addr) (m c' : Nat) (T : Nat → ByteArray) (w : World) (h : FL w a n F) (hS : Small n F) (hv : okFs n F x1 x2 x3 x4 = true) (hT : Sl w a' m T) (hTs : ∀ k, k < m → (T k).size ≤ 1048576) (hm : m ≤ 1048576) :
    Calls Try.prog 22 #[.agg #[.slice a n c, .int .i64 x1, .int .i64 x2, .int .i64 x3, .int .i64 x4, .bool x5], .slice a' m c'] w fun e w' => ∃ v, e = .returned (.agg #[v, .int .i64 x1, .int .i64 x2, .int .i64 0, .int .i64 0, .bool false]) ∧ OwnF w' w.heap.size v n (crF F m T) ∧ Below w.heap.size w w' := by
  have hn := hS.n
  have hn3 := okFs_n hv
  obtain ⟨i0, hi, hz0, hz1, hz2⟩ := info_parts Try.infoFil
  have HI : Hid (Try.prog.info? 69 = some i0) := hi
  clear hi
  have hb0 : Below w.heap.size w ((w.alloc (.cells #[.slice a n c, .int .i64 x1, .int .i64 x2, .int .i64 x3, .int .i64 x4, .bool x5] 36)).alloc (.cells #[.slice none 0 0, .int .i64 0, .int .i64 0, .int .i64 0, .int .i64 0, .bool false] 36)) := bstep (bal _ _) (bal _ _)
  have hR := heap_alloc_new (w.alloc (.cells #[.slice a n c, .int .i64 x1, .int .i64 x2, .int .i64 x3, .int .i64 x4, .bool x5] 36)) (.cells #[.slice none 0 0, .int .i64 0, .int .i64 0, .int .i64 0, .int .i64 0, .bool false] 36)
  rw [World.size_alloc] at hR
  have hX := rowL (heap_alloc_new w (.cells #[.slice a n c, .int .i64 x1, .int .i64 x2, .int .i64 x3, .int .i64 x4, .bool x5] 36)) (bal (w.alloc (.cells #[.slice a n c, .int .i64 x1, .int .i64 x2, .int .i64 x3, .int .i64 x4, .bool x5] 36)) (.cells #[.slice none 0 0, .int .i64 0, .int .i64 0, .int .i64 0, .int .i64 0, .bool false] 36))
  go_enter Try.func22, Try.ntmps22
  go_upto_region 3 with (go_at_call 17; refine (sValid a n c F x1 x2 x3 x4 x5 _ (h.later hb0) hS).mono ?_; rw [hv]; rintro e w1 ⟨rfl, hb1⟩)
  have hX1 := rowL hX hb1
  have uc0 : w1.cell? ⟨w.heap.size, 0, none⟩ = some (.slice a n c) := (cell_of_row _ _ 0 _ _ _ hX1).trans rfl
  have uc1 : w1.cell? ⟨w.heap.size, 1, none⟩ = some (.int .i64 x1) := (cell_of_row _ _ 1 _ _ _ hX1).trans rfl
  have uc2 : w1.cell? ⟨w.heap.size, 2, none⟩ = some (.int .i64 x2) := (cell_of_row _ _ 2 _ _ _ hX1).trans rfl
  have uc3 : w1.cell? ⟨w.heap.size, 3, none⟩ = some (.int .i64 x3) := (cell_of_row _ _ 3 _ _ _ hX1).trans rfl
  have uc4 : w1.cell? ⟨w.heap.size, 4, none⟩ = some (.int .i64 x4) := (cell_of_row _ _ 4 _ _ _ hX1).trans rfl
  have uc5 : w1.cell? ⟨w.heap.size, 5, none⟩ = some (.bool x5) := (cell_of_row _ _ 5 _ _ _ hX1).trans rfl
  have hw1 : w.heap.size + 1 + 1 ≤ w1.heap.size := by have := hb1.size; simpa using this
  have hc1 := bstep hb0 hb1
  go_upto_region 4 with fail
  have hb4 := bal w1 (.cells #[.slice none 0 0, .int .i64 x1, .int .i64 x2, .int .i64 0, .int .i64 0, .bool false] 36)
  have hQ4 := heap_alloc_new w1 (.cells #[.slice none 0 0, .int .i64 x1, .int .i64 x2, .int .i64 0, .int .i64 0, .bool false] 36)
  have hX4 := rowL hX1 hb4
  have hR4 := rowL (rowL hR hb1) hb4
  have hc4 := bstep hc1 hb4
  obtain ⟨W4, hW4⟩ : ∃ W4, w1.alloc (.cells #[.slice none 0 0, .int .i64 x1, .int .i64 x2, .int .i64 0, .int .i64 0, .bool false] 36) = W4 := ⟨_, rfl⟩
  rw [hW4] at hQ4 hX4 hR4 hc4 ⊢
  clear hW4 hb4 uc0 uc1 uc2 uc3 uc4 uc5
  have hx0 : W4.cell? ⟨w.heap.size, 0, none⟩ = some (.slice a n c) := (cell_of_row _ _ 0 _ _ _ hX4).trans rfl
  go_wp2
  clear hx0 hX1 hX4 hX
  go_loopw [6, 7, 8, 21] (fun _ _ _ i wr => ∃ (k : Nat) (v : Value), k ≤ n ∧ i = .int .i64 k ∧ wr.heap[w1.heap.size]? = some (.cells #[v, .int .i64 x1, .int .i64 x2, .int .i64 0, .int .i64 0, .bool false] 36 (0, 0)) ∧ OwnF wr w.heap.size v k (crF F m T) ∧ wr.heap[w.heap.size + 1]? = some (.cells #[.slice none 0 0, .int .i64 0, .int .i64 0, .int .i64 0, .int .i64 0, .bool false] 36 (0, 0)) ∧ Below w.heap.size w wr) (fun _ _ _ i _ => n - (intOf i).toNat)
  case atStart => exact ⟨0, .slice none 0 0, by omega, rfl, hQ4, ⟨rfl, Or.inl ⟨rfl, rfl⟩⟩, hR4, hc4⟩
  case round =>
    obtain ⟨k, v, hk, rfl, hQ, hO, hRr, hb⟩ := hrel
    obtain ⟨av, cv, rfl⟩ := own_slice hO
    have HQ : Hid (wr.heap[w1.heap.size]? = some (.cells #[.slice av k cv, .int .i64 x1, .int .i64 x2, .int .i64 0, .int .i64 0, .bool false] 36 (0, 0))) := hQ
    have HRr : Hid (wr.heap[w.heap.size + 1]? = some (.cells #[.slice none 0 0, .int .i64 0, .int .i64 0, .int .i64 0, .int .i64 0, .bool false] 36 (0, 0))) := hRr
    have HO : Hid (OwnF wr w.heap.size (.slice av k cv) k (crF F m T)) := hO
    have qc0 : wr.cell? ⟨w1.heap.size, 0, none⟩ = some (.slice av k cv) := (cell_of_row _ _ 0 _ _ _ hQ).trans rfl
    have qf0 : wr.frozen? ⟨w1.heap.size, 0, none⟩ = false := frozen_of_row _ _ 0 _ _ hQ
    have hqlt : w1.heap.size < wr.heap.size := (Array.getElem?_eq_some_iff.1 hQ).1
    clear hQ hRr hQ4 hR4
    by_cases hlt : k < n
    · obtain ⟨y0, y1⟩ := okFl_of hv k hlt
      have z2 := hS.d k hlt
      obtain ⟨b, off, rfl, c0, c1, c2⟩ := h.later hb k hlt
      obtain ⟨D, hD⟩ : ∃ D, (F k).d.extract 0 (F k).y.toNat = D := ⟨_, rfl⟩
      have hDs : D.size = (F k).y.toNat := by rw [← hD]; simp; omega
      obtain ⟨t, htt⟩ : ∃ t, tlOf m T k = t := ⟨_, rfl⟩
      have hts : t.size ≤ 1048576 := by
        rw [← htt]
        unfold tlOf
        split
        · exact hTs k (by assumption)
        · decide
      have HCD0 : (crF F m T k).d = D ++ t.extract 0 (min t.size ((F k).d.size - (F k).y.toNat)) := by show crD _ _ (tlOf m T k) = _; rw [htt, ← hD]; rfl
      have qc1 : ∀ o, (wr.alloc o).cell? ⟨w1.heap.size, 0, none⟩ = some (.slice av k cv) := fun o => keepB (bal wr o) qc0
      have q1 : IntKind.i64.wrap (((F k).d.size : Int) - (F k).y) = ((F k).d.size : Int) - (F k).y := by rw [IntKind.wrap_i64]; omega
      have q5 : (0 : Int) ≤ ((F k).d.size : Int) - (F k).y := by omega
      by_cases hkm : k < m
      · have hkm' : (k : Int) < m := by omega
        have htk : tlOf m T k = T k := by simp [tlOf, hkm]
        obtain rfl : T k = t := htk.symm.trans htt
        obtain ⟨bt, ot, rfl, ct⟩ := (hT.later hb).at k hkm
        have ct1 : ∀ o, (wr.alloc o).cell? ⟨bt, ot + k, none⟩ = some (.string (T k)) := fun o => keepB (bal wr o) ct
        clear htk htt
        by_cases hcut : ((F k).d.size : Int) - (F k).y < ((T k).size : Int)
        · have q6 : (((F k).d.size : Int) - (F k).y).toNat = (F k).d.size - (F k).y.toNat := by omega
          have q7 : ((F k).d.size : Int) - (F k).y ≤ ((T k).size : Int) := by omega
          obtain ⟨E, hE⟩ : ∃ E, (T k).extract 0 ((F k).d.size - (F k).y.toNat) = E := ⟨_, rfl⟩
          have hEs : E.size ≤ 1048576 := by rw [← hE]; simp; omega
          obtain ⟨X, hXX⟩ : ∃ X, D ++ E = X := ⟨_, rfl⟩
          have HCD : Hid ((crF F m T k).d = X) := by show _ = _; rw [HCD0, ← hXX, ← hE, show min (T k).size ((F k).d.size - (F k).y.toNat) = (F k).d.size - (F k).y.toNat by omega]
          have z1 : ¬ 9223372036854775807 < D.size + E.size := by omega
          have HCY : Hid ((crF F m T k).y = (X.size : Int)) := by show ((crF F m T k).d.size : Int) = _; rw [HCD.out]
          clear HCD0
          go_wp2_with (at_builtin; refine wpList_append_own _ rfl _ _ 34 rfl w.heap.size 69 i0 _ 3 40 Try.underlying34 HI.out hz0 hz1 hz2 rfl (by omega) _ k _ rfl ((HO.out.alloc _).alloc _) ⟨wr.heap.size + 1, 0, none⟩ 1 1 [.string (F k).s, .string X, .int .i64 (X.size : Int)] rfl rfl (World.news_of_block (by rw [← World.size_alloc]; exact heap_alloc_new _ _)) (by intro u hu; simp at hu; rcases hu with rfl | rfl | rfl <;> rfl) (by unfold maxLen; omega) (by omega) (by have := hb.size; simp; omega) ?_; intro v' w2 hown2 hgrow hnil; obtain ⟨g', cap', rfl⟩ := ownsRow_succ hown2; have hne := not_own HQ.out (by decide) HO.out; have hneR := not_own HRr.out (by decide) HO.out; have hQ2 : w2.heap[w1.heap.size]? = some (.cells #[.slice av k cv, .int .i64 x1, .int .i64 x2, .int .i64 0, .int .i64 0, .bool false] 36 (0, 0)) := (hgrow.block _ (by simp; omega) hne).trans (rowL (rowL HQ.out (bal _ _)) (bal _ _)); have wc0 : w2.cell? ⟨w1.heap.size, 0, none⟩ = some (.slice av k cv) := (cell_of_row _ _ 0 _ _ _ hQ2).trans rfl; have wf0 : w2.frozen? ⟨w1.heap.size, 0, none⟩ = false := frozen_of_row _ _ 0 _ _ hQ2)
          go_roundw
          case rel =>
            have hR2 : w2.heap[w.heap.size + 1]? = some (.cells #[.slice none 0 0, .int .i64 0, .int .i64 0, .int .i64 0, .int .i64 0, .bool false] 36 (0, 0)) := (hgrow.block _ (by simp; omega) hneR).trans (rowL (rowL HRr.out (bal _ _)) (bal _ _))
            refine ⟨k + 1, _, by omega, by go_num, heap_setCell_same _ _ 0 _ _ _ hQ2, ?_, rowO hR2 (by omega), bset ((bstep hb (bstep (bal _ _) (bal _ _))).grown hgrow (by have := hb.size; simp; omega) (fun q e => ?_)) (by omega)⟩
            · have hO2 : OwnF w2 w.heap.size (.slice (some ⟨g', 0, none⟩) (k + 1) cap') (k + 1) (crF F m T) := by
                unfold OwnF
                rw [← flatL_snoc, HCD.out, HCY.out]
                exact hown2
              exact World.ownsRow.kept hO2 (grownBy_setCell' _ _ _) (.inr (not_own hQ2 (by decide) hO2).symm)
            · exact (HO.out.lt q e).1
          case measure => simp [intOf]; omega
        · have q7 : ¬ ((F k).d.size : Int) - (F k).y < ((T k).size : Int) := by omega
          obtain ⟨X, hXX⟩ : ∃ X, D ++ (T k) = X := ⟨_, rfl⟩
          have HCD : Hid ((crF F m T k).d = X) := by show _ = _; rw [HCD0, ← hXX, show min (T k).size ((F k).d.size - (F k).y.toNat) = (T k).size by omega, ext_all]
          have z1 : ¬ 9223372036854775807 < D.size + (T k).size := by omega
          have HCY : Hid ((crF F m T k).y = (X.size : Int)) := by show ((crF F m T k).d.size : Int) = _; rw [HCD.out]
          clear HCD0
          go_wp2_with (at_builtin; refine wpList_append_own _ rfl _ _ 34 rfl w.heap.size 69 i0 _ 3 40 Try.underlying34 HI.out hz0 hz1 hz2 rfl (by omega) _ k _ rfl ((HO.out.alloc _).alloc _) ⟨wr.heap.size + 1, 0, none⟩ 1 1 [.string (F k).s, .string X, .int .i64 (X.size : Int)] rfl rfl (World.news_of_block (by rw [← World.size_alloc]; exact heap_alloc_new _ _)) (by intro u hu; simp at hu; rcases hu with rfl | rfl | rfl <;> rfl) (by unfold maxLen; omega) (by omega) (by have := hb.size; simp; omega) ?_; intro v' w2 hown2 hgrow hnil; obtain ⟨g', cap', rfl⟩ := ownsRow_succ hown2; have hne := not_own HQ.out (by decide) HO.out; have hneR := not_own HRr.out (by decide) HO.out; have hQ2 : w2.heap[w1.heap.size]? = some (.cells #[.slice av k cv, .int .i64 x1, .int .i64 x2, .int .i64 0, .int .i64 0, .bool false] 36 (0, 0)) := (hgrow.block _ (by simp; omega) hne).trans (rowL (rowL HQ.out (bal _ _)) (bal _ _)); have wc0 : w2.cell? ⟨w1.heap.size, 0, none⟩ = some (.slice av k cv) := (cell_of_row _ _ 0 _ _ _ hQ2).trans rfl; have wf0 : w2.frozen? ⟨w1.heap.size, 0, none⟩ = false := frozen_of_row _ _ 0 _ _ hQ2)
          go_roundw
          case rel =>
            have hR2 : w2.heap[w.heap.size + 1]? = some (.cells #[.slice none 0 0, .int .i64 0, .int .i64 0, .int .i64 0, .int .i64 0, .bool false] 36 (0, 0)) := (hgrow.block _ (by simp; omega) hneR).trans (rowL (rowL HRr.out (bal _ _)) (bal _ _))
            refine ⟨k + 1, _, by omega, by go_num, heap_setCell_same _ _ 0 _ _ _ hQ2, ?_, rowO hR2 (by omega), bset ((bstep hb (bstep (bal _ _) (bal _ _))).grown hgrow (by have := hb.size; simp; omega) (fun q e => ?_)) (by omega)⟩
            · have hO2 : OwnF w2 w.heap.size (.slice (some ⟨g', 0, none⟩) (k + 1) cap') (k + 1) (crF F m T) := by
                unfold OwnF
                rw [← flatL_snoc, HCD.out, HCY.out]
                exact hown2
              exact World.ownsRow.kept hO2 (grownBy_setCell' _ _ _) (.inr (not_own hQ2 (by decide) hO2).symm)
            · exact (HO.out.lt q e).1
          case measure => simp [intOf]; omega
      · have hkm' : ¬ (k : Int) < m := by omega
        have htk : tlOf m T k = ByteArray.empty := by simp [tlOf, hkm]
        obtain rfl : (⟨#[]⟩ : ByteArray) = t := htk.symm.trans htt
        clear htk htt
        have e0 : (⟨#[]⟩ : ByteArray).size = 0 := rfl
        have hcut : ¬ ((F k).d.size : Int) - (F k).y < ((⟨#[]⟩ : ByteArray).size : Int) := by rw [e0]; omega
        · have q7 : ¬ ((F k).d.size : Int) - (F k).y < ((⟨#[]⟩ : ByteArray).size : Int) := by omega
          obtain ⟨X, hXX⟩ : ∃ X, D ++ (⟨#[]⟩ : ByteArray) = X := ⟨_, rfl⟩
          have HCD : Hid ((crF F m T k).d = X) := by show _ = _; rw [HCD0, ← hXX, show min (⟨#[]⟩ : ByteArray).size ((F k).d.size - (F k).y.toNat) = (⟨#[]⟩ : ByteArray).size by omega, ext_all]
          have z1 : ¬ 9223372036854775807 < D.size + (⟨#[]⟩ : ByteArray).size := by omega
          have HCY : Hid ((crF F m T k).y = (X.size : Int)) := by show ((crF F m T k).d.size : Int) = _; rw [HCD.out]
          clear HCD0
          go_wp2_with (at_builtin; refine wpList_append_own _ rfl _ _ 34 rfl w.heap.size 69 i0 _ 3 40 Try.underlying34 HI.out hz0 hz1 hz2 rfl (by omega) _ k _ rfl ((HO.out.alloc _).alloc _) ⟨wr.heap.size + 1, 0, none⟩ 1 1 [.string (F k).s, .string X, .int .i64 (X.size : Int)] rfl rfl (World.news_of_block (by rw [← World.size_alloc]; exact heap_alloc_new _ _)) (by intro u hu; simp at hu; rcases hu with rfl | rfl | rfl <;> rfl) (by unfold maxLen; omega) (by omega) (by have := hb.size; simp; omega) ?_; intro v' w2 hown2 hgrow hnil; obtain ⟨g', cap', rfl⟩ := ownsRow_succ hown2; have hne := not_own HQ.out (by decide) HO.out; have hneR := not_own HRr.out (by decide) HO.out; have hQ2 : w2.heap[w1.heap.size]? = some (.cells #[.slice av k cv, .int .i64 x1, .int .i64 x2, .int .i64 0, .int .i64 0, .bool false] 36 (0, 0)) := (hgrow.block _ (by simp; omega) hne).trans (rowL (rowL HQ.out (bal _ _)) (bal _ _)); have wc0 : w2.cell? ⟨w1.heap.size, 0, none⟩ = some (.slice av k cv) := (cell_of_row _ _ 0 _ _ _ hQ2).trans rfl; have wf0 : w2.frozen? ⟨w1.heap.size, 0, none⟩ = false := frozen_of_row _ _ 0 _ _ hQ2)
          go_roundw
          case rel =>
            have hR2 : w2.heap[w.heap.size + 1]? = some (.cells #[.slice none 0 0, .int .i64 0, .int .i64 0, .int .i64 0, .int .i64 0, .bool false] 36 (0, 0)) := (hgrow.block _ (by simp; omega) hneR).trans (rowL (rowL HRr.out (bal _ _)) (bal _ _))
            refine ⟨k + 1, _, by omega, by go_num, heap_setCell_same _ _ 0 _ _ _ hQ2, ?_, rowO hR2 (by omega), bset ((bstep hb (bstep (bal _ _) (bal _ _))).grown hgrow (by have := hb.size; simp; omega) (fun q e => ?_)) (by omega)⟩
            · have hO2 : OwnF w2 w.heap.size (.slice (some ⟨g', 0, none⟩) (k + 1) cap') (k + 1) (crF F m T) := by
                unfold OwnF
                rw [← flatL_snoc, HCD.out, HCY.out]
                exact hown2
              exact World.ownsRow.kept hO2 (grownBy_setCell' _ _ _) (.inr (not_own hQ2 (by decide) hO2).symm)
            · exact (HO.out.lt q e).1
          case measure => simp [intOf]; omega
    · obtain rfl : k = n := by omega
      have sc0 : wr.cell? ⟨w1.heap.size, 0, none⟩ = some (.slice av k cv) := (cell_of_row _ _ 0 _ _ _ HQ.out).trans rfl
      have sc1 : wr.cell? ⟨w1.heap.size, 1, none⟩ = some (.int .i64 x1) := (cell_of_row _ _ 1 _ _ _ HQ.out).trans rfl
      have sc2 : wr.cell? ⟨w1.heap.size, 2, none⟩ = some (.int .i64 x2) := (cell_of_row _ _ 2 _ _ _ HQ.out).trans rfl
      have sc3 : wr.cell? ⟨w1.heap.size, 3, none⟩ = some (.int .i64 0) := (cell_of_row _ _ 3 _ _ _ HQ.out).trans rfl
      have sc4 : wr.cell? ⟨w1.heap.size, 4, none⟩ = some (.int .i64 0) := (cell_of_row _ _ 4 _ _ _ HQ.out).trans rfl
      have sc5 : wr.cell? ⟨w1.heap.size, 5, none⟩ = some (.bool false) := (cell_of_row _ _ 5 _ _ _ HQ.out).trans rfl
      have rc0 : wr.cell? ⟨w.heap.size + 1, 0, none⟩ = some (.slice none 0 0) := (cell_of_row _ _ 0 _ _ _ HRr.out).trans rfl
      have rf0 : wr.frozen? ⟨w.heap.size + 1, 0, none⟩ = false := frozen_of_row _ _ 0 _ _ HRr.out
      have rc1 : wr.cell? ⟨w.heap.size + 1, 1, none⟩ = some (.int .i64 0) := (cell_of_row _ _ 1 _ _ _ HRr.out).trans rfl
      have rf1 : wr.frozen? ⟨w.heap.size + 1, 1, none⟩ = false := frozen_of_row _ _ 1 _ _ HRr.out
      have rc2 : wr.cell? ⟨w.heap.size + 1, 2, none⟩ = some (.int .i64 0) := (cell_of_row _ _ 2 _ _ _ HRr.out).trans rfl
      have rf2 : wr.frozen? ⟨w.heap.size + 1, 2, none⟩ = false := frozen_of_row _ _ 2 _ _ HRr.out
      have rc3 : wr.cell? ⟨w.heap.size + 1, 3, none⟩ = some (.int .i64 0) := (cell_of_row _ _ 3 _ _ _ HRr.out).trans rfl
      have rf3 : wr.frozen? ⟨w.heap.size + 1, 3, none⟩ = false := frozen_of_row _ _ 3 _ _ HRr.out
      have rc4 : wr.cell? ⟨w.heap.size + 1, 4, none⟩ = some (.int .i64 0) := (cell_of_row _ _ 4 _ _ _ HRr.out).trans rfl
      have rf4 : wr.frozen? ⟨w.heap.size + 1, 4, none⟩ = false := frozen_of_row _ _ 4 _ _ HRr.out
      have rc5 : wr.cell? ⟨w.heap.size + 1, 5, none⟩ = some (.bool false) := (cell_of_row _ _ 5 _ _ _ HRr.out).trans rfl
      have rf5 : wr.frozen? ⟨w.heap.size + 1, 5, none⟩ = false := frozen_of_row _ _ 5 _ _ HRr.out
      go_wp2
      refine bodyPost_ret (v := .agg #[.slice av k cv, .int .i64 x1, .int .i64 x2, .int .i64 0, .int .i64 0, .bool false]) (results_cell_row Try.results22 _ _ (w.heap.size + 1) 36 _ (0, 0) _ rfl (set6_row _ _ _ _ _ _ HRr.out) Try.underlying36 rfl (by kernel_rfl)) rfl ⟨_, rfl, ?_, set6_below _ _ _ _ _ _ hb (by omega)⟩
      rcases HO.out.2 with ⟨e, h0⟩ | ⟨g, cap', cur, e, hB, hg, h4⟩
      · exact ⟨HO.out.1, Or.inl ⟨e, h0⟩⟩
      · exact ⟨HO.out.1, Or.inr ⟨g, cap', cur, e, hB, set6_oth _ _ _ _ _ _ hg (fun e' => by subst e'; rw [HRr.out] at hg; simp at hg), h4⟩⟩
end Go.Proofs.Ytdbcihebhgpblaa
