/-
  AppendEntry: the small functions.
-/
import Derived.Test.YtdbcihebhgpblaaDoorPa
import Derived.Test.YtdbcihebhgpblaaDoorPb
namespace Go.Proofs.YtdbcihebhgpblaaDoor
open Go.RowKit
set_option maxRecDepth 20000 in
set_option maxHeartbeats 4000000 in
theorem iCopy (b off n c : Nat) (F : Nat → Fil) (x1 x2 x3 x4 : Int) (x5 : Bool) (w : World) (h : FL w (some ⟨b, off, none⟩) n F) (hn : n ≤ 2097152) : Calls Tryd.prog 29 #[.agg #[.slice (some ⟨b, off, none⟩) n c, .int .i64 x1, .int .i64 x2, .int .i64 x3, .int .i64 x4, .bool x5]] w fun e w' => ∃ g cap, e = .returned (.agg #[.slice (some ⟨g, 0, none⟩) n cap, .int .i64 x1, .int .i64 x2, .int .i64 x3, .int .i64 x4, .bool x5]) ∧ OwnF w' w.heap.size (.slice (some ⟨g, 0, none⟩) n cap) n F ∧ Below w.heap.size w w' := by
  have hb0 := bstep (bal w (.cells #[.slice (some ⟨b, off, none⟩) n c, .int .i64 x1, .int .i64 x2, .int .i64 x3, .int .i64 x4, .bool x5] 30)) (bal (w.alloc (.cells #[.slice (some ⟨b, off, none⟩) n c, .int .i64 x1, .int .i64 x2, .int .i64 x3, .int .i64 x4, .bool x5] 30)) (.cells #[.slice none 0 0, .int .i64 0, .int .i64 0, .int .i64 0, .int .i64 0, .bool false] 30))
  have hX0 := rowL (heap_alloc_new w (.cells #[.slice (some ⟨b, off, none⟩) n c, .int .i64 x1, .int .i64 x2, .int .i64 x3, .int .i64 x4, .bool x5] 30)) (bal (w.alloc (.cells #[.slice (some ⟨b, off, none⟩) n c, .int .i64 x1, .int .i64 x2, .int .i64 x3, .int .i64 x4, .bool x5] 30)) (.cells #[.slice none 0 0, .int .i64 0, .int .i64 0, .int .i64 0, .int .i64 0, .bool false] 30))
  have hR0 := heap_alloc_new (w.alloc (.cells #[.slice (some ⟨b, off, none⟩) n c, .int .i64 x1, .int .i64 x2, .int .i64 x3, .int .i64 x4, .bool x5] 30)) (.cells #[.slice none 0 0, .int .i64 0, .int .i64 0, .int .i64 0, .int .i64 0, .bool false] 30)
  rw [World.size_alloc] at hR0
  have hcl := iCloneF b off n c F ((w.alloc (.cells #[.slice (some ⟨b, off, none⟩) n c, .int .i64 x1, .int .i64 x2, .int .i64 x3, .int .i64 x4, .bool x5] 30)).alloc (.cells #[.slice none 0 0, .int .i64 0, .int .i64 0, .int .i64 0, .int .i64 0, .bool false] 30)) (h.later hb0) hn
  have ux0 : ((w.alloc (.cells #[.slice (some ⟨b, off, none⟩) n c, .int .i64 x1, .int .i64 x2, .int .i64 x3, .int .i64 x4, .bool x5] 30)).alloc (.cells #[.slice none 0 0, .int .i64 0, .int .i64 0, .int .i64 0, .int .i64 0, .bool false] 30)).cell? ⟨w.heap.size, 0, none⟩ = some (.slice (some ⟨b, off, none⟩) n c) := (cell_of_row _ _ 0 _ _ _ hX0).trans rfl
  go_enter Tryd.func29, Tryd.ntmps29
  go_upto_region 2 with (go_at_call 58; refine hcl.mono ?_; rintro e w1 ⟨g, cap, rfl, hO1, hb1⟩; have hX1 := rowL hX0 hb1; have yc0 : w1.cell? ⟨w.heap.size, 0, none⟩ = some (.slice (some ⟨b, off, none⟩) n c) := (cell_of_row _ _ 0 _ _ _ hX1).trans rfl; have yf0 : w1.frozen? ⟨w.heap.size, 0, none⟩ = false := frozen_of_row _ _ 0 _ _ hX1)
  have hR1 := rowL hR0 hb1
  have hX2 : (w1.setCell ⟨w.heap.size, 0, none⟩ (.slice (some ⟨g, 0, none⟩) n cap)).heap[w.heap.size]? = some (.cells #[.slice (some ⟨g, 0, none⟩) n cap, .int .i64 x1, .int .i64 x2, .int .i64 x3, .int .i64 x4, .bool x5] 30 (0, 0)) := heap_setCell_same _ _ 0 _ _ _ hX1
  have hR2 := rowO (B := w.heap.size) (i := 0) (v := .slice (some ⟨g, 0, none⟩) n cap) hR1 (by omega)
  have hg1 := (hO1.lt g rfl).1
  have hs0 := (Array.getElem?_eq_some_iff.1 hR0).1
  have hO2 : OwnF (w1.setCell ⟨w.heap.size, 0, none⟩ (.slice (some ⟨g, 0, none⟩) n cap)) w.heap.size (.slice (some ⟨g, 0, none⟩) n cap) n F := by
    obtain ⟨cur, e1, e2, e3, e4, e5, e6⟩ := hO1.cur
    exact OwnF.mk (rowO e1 (by omega)) (by omega) e3 e4 e5 e6
  have hb2 := bset (B := w.heap.size) (i := 0) (v := .slice (some ⟨g, 0, none⟩) n cap) (bstep hb0 hb1) (Nat.le_refl _)
  obtain ⟨W2, hW2⟩ : ∃ W2, w1.setCell ⟨w.heap.size, 0, none⟩ (.slice (some ⟨g, 0, none⟩) n cap) = W2 := ⟨_, rfl⟩
  rw [hW2] at hX2 hR2 hO2 hb2 ⊢
  clear hW2 yc0 yf0 ux0
  obtain ⟨mc0, mc1, mc2, mc3, mc4, mc5⟩ := B6.of hX2
  obtain ⟨mf0, mf1, mf2, mf3, mf4, mf5⟩ := F6.of hX2
  obtain ⟨rc0, rc1, rc2, rc3, rc4, rc5⟩ := B6.of hR2
  obtain ⟨rf0, rf1, rf2, rf3, rf4, rf5⟩ := F6.of hR2
  go_wp2
  refine bodyPost_ret (v := .agg #[.slice (some ⟨g, 0, none⟩) n cap, .int .i64 x1, .int .i64 x2, .int .i64 x3, .int .i64 x4, .bool x5]) (results_cell_row Tryd.results29 _ _ (w.heap.size + 1) 30 _ (0, 0) _ rfl (set6_row _ _ _ _ _ _ hR2) Tryd.underlying30 rfl (by kernel_rfl)) rfl ⟨g, cap, rfl, ?_, set6_below _ _ _ _ _ _ hb2 (by omega)⟩
  obtain ⟨cur, e1, e2, e3, e4, e5, e6⟩ := hO2.cur
  have hgR : g ≠ w.heap.size + 1 := by omega
  exact OwnF.mk (set6_oth _ _ _ _ _ _ e1 hgR) (by omega) e3 e4 e5 e6
def logB (l s : Int) : Bool := btw l 1 9999 && btw s 0 1000000000
set_option maxRecDepth 20000 in
set_option maxHeartbeats 2000000 in
theorem iLog (l s : Int) (w : World) : Calls Tryd.prog 27 #[.agg #[.int .i64 l, .int .i64 s]] w fun e w' => e = .returned (.bool (logB l s)) ∧ Below w.heap.size w w' := by
  have hX := heap_alloc_new w (.cells #[.int .i64 l, .int .i64 s] 31)
  have c0 : (w.alloc (.cells #[.int .i64 l, .int .i64 s] 31)).cell? ⟨w.heap.size, 0, none⟩ = some (.int .i64 l) := (cell_of_row _ _ 0 _ _ _ hX).trans rfl
  have c1 : (w.alloc (.cells #[.int .i64 l, .int .i64 s] 31)).cell? ⟨w.heap.size, 1, none⟩ = some (.int .i64 s) := (cell_of_row _ _ 1 _ _ _ hX).trans rfl
  by_cases h1 : 1 ≤ l
  · by_cases h2 : l ≤ 9999
    · have hb : btw l 1 9999 = true := by unfold btw; simp; omega
      go_enter Tryd.func27, Tryd.ntmps27
      go_wp2_with (go_at_call 57; refine (iUpTo s 1000000000 _).mono ?_; rintro e w1 ⟨rfl, rfl⟩)
      go_ret
      exact ⟨by unfold logB; rw [hb]; rfl, bal _ _⟩
    · have hb : btw l 1 9999 = false := by unfold btw; simp; omega
      go_enter Tryd.func27, Tryd.ntmps27
      go_wp2
      go_ret
      exact ⟨by unfold logB; rw [hb]; rfl, bal _ _⟩
  · have hb : btw l 1 9999 = false := by unfold btw; simp; omega
    go_enter Tryd.func27, Tryd.ntmps27
    go_wp2
    go_ret
    exact ⟨by unfold logB; rw [hb]; rfl, bal _ _⟩
theorem iMost (s : Int) (w : World) : Calls Tryd.prog 28 #[.int .i64 s] w fun e w' => e = .returned (.bool (btw s 1 1000000000)) ∧ w' = w := by
  by_cases h1 : 1 ≤ s
  · by_cases h2 : s ≤ 1000000000
    · have hb : btw s 1 1000000000 = true := by unfold btw; simp; omega
      go_enter Tryd.func28, Tryd.ntmps28
      go_wp2
      go_ret
      exact ⟨by first | rfl | (rw [hb]; rfl), rfl⟩
    · have hb : btw s 1 1000000000 = false := by unfold btw; simp; omega
      go_enter Tryd.func28, Tryd.ntmps28
      go_wp2
      go_ret
      exact ⟨by first | rfl | (rw [hb]; rfl), rfl⟩
  · have hb : btw s 1 1000000000 = false := by unfold btw; simp; omega
    go_enter Tryd.func28, Tryd.ntmps28
    go_wp2
    go_ret
    exact ⟨by first | rfl | (rw [hb]; rfl), rfl⟩
theorem frm_size (s : ByteArray) : (frm s).size = 0 ∨ (1 ≤ s.size ∧ s.size ≤ 60000 ∧ (frm s).size = 8 + s.size) := by
  rcases h : btw s.size 1 60000
  · rw [frm_no h]; exact .inl rfl
  · rw [frm_yes h]
    unfold btw at h
    simp only [Bool.and_eq_true, decide_eq_true_eq] at h
    refine .inr ⟨by omega, by omega, ?_⟩
    rw [ByteArray.size_append, ByteArray.size_append, bs_size, bs_size, numI_len, numI_len]
theorem toLog (l s : Int) (w : World) : Calls Tryd.prog 8 #[.agg #[.int .i64 l, .int .i64 s]] w fun e w' => e = .returned (.agg #[.int .i64 l, .int .i64 s]) ∧ Below w.heap.size w w' := by
  go_enter Tryd.func8, Tryd.ntmps8
  go_wp2
  exact bodyPost_ret (v := .agg #[.int .i64 l, .int .i64 s]) (by simp [results, Tryd.results8, go_sem]) rfl ⟨rfl, below3 _ _ _ _⟩
theorem eqLog (l s : Int) (w : World) : Calls Tryd.prog 11 #[.agg #[.int .i64 l, .int .i64 s], .agg #[.int .i64 l, .int .i64 s]] w fun e w' => e = .returned (.bool true) ∧ Below w.heap.size w w' := by
  go_enter Tryd.func11, Tryd.ntmps11
  go_wp2
  go_ret
  exact ⟨rfl, bstep (bal _ _) (bal _ _)⟩
end Go.Proofs.YtdbcihebhgpblaaDoor
