/-
  FsStep: a file system copied by the specification.
-/
import Derived.Test.YtdbcihebhgpblaaDoorMb
import Derived.Test.YtdbcihebhgpblaaDoorFg
namespace Go.Proofs.YtdbcihebhgpblaaDoor
open Go.RowKit
theorem cells_of_fl {W : World} {b off n : Nat} {F : Nat → Fil} (h : FL W (some ⟨b, off, none⟩) n F) : ∀ j u, (flatL n F)[j]? = some u → W.cell? ((⟨b, off, none⟩ : Addr).add j) = some u := by
  intro j u hu
  obtain ⟨k, hk, h3⟩ := flatL_get F hu
  obtain ⟨b', off', e, c0, c1, c2⟩ := h k hk
  obtain ⟨rfl, rfl⟩ : b = b' ∧ off = off' := by simpa using e
  have hadd : (⟨b, off, none⟩ : Addr).add j = ⟨b, off + j, none⟩ := by unfold Addr.add; split <;> simp_all
  rw [hadd]
  rcases h3 with ⟨rfl, rfl⟩ | ⟨rfl, rfl⟩ | ⟨rfl, rfl⟩
  · exact c0
  · exact c1
  · exact c2
theorem rowG' {w w' : World} {q : Nat} {r : Option Nat} {o : Obj} (h : w.heap[q]? = some o) (hg : w.grownBy w' r) (hne : some q ≠ r) : w'.heap[q]? = some o := (hg.block q (Array.getElem?_eq_some_iff.1 h).1 hne).trans h
set_option maxRecDepth 20000 in
set_option maxHeartbeats 8000000 in
theorem sCopy (b off n c : Nat) (F : Nat → Fil) (x1 x2 x3 x4 : Int) (x5 : Bool) (w : World) (h : FL w (some ⟨b, off, none⟩) n F) (hn : n ≤ 2097152) : Calls Tryd.prog 22 #[.agg #[.slice (some ⟨b, off, none⟩) n c, .int .i64 x1, .int .i64 x2, .int .i64 x3, .int .i64 x4, .bool x5]] w fun e w' => ∃ g cap, e = .returned (.agg #[.slice (some ⟨g, 0, none⟩) n cap, .int .i64 x1, .int .i64 x2, .int .i64 x3, .int .i64 x4, .bool x5]) ∧ OwnF w' w.heap.size (.slice (some ⟨g, 0, none⟩) n cap) n F ∧ Below w.heap.size w w' := by
  obtain ⟨i0, hi, hz0, hz1, hz2⟩ := info_parts Tryd.infoFil
  have HI : Hid (Tryd.prog.info? 92 = some i0) := hi
  clear hi
  have hb0 : Below w.heap.size w (((w.alloc (.cells #[.slice (some ⟨b, off, none⟩) n c, .int .i64 x1, .int .i64 x2, .int .i64 x3, .int .i64 x4, .bool x5] 30)).alloc (.cells #[.slice none 0 0, .int .i64 0, .int .i64 0, .int .i64 0, .int .i64 0, .bool false] 30)).alloc (.cells #[] 92)) := bstep (bal _ _) (bstep (bal _ _) (bal _ _))
  have hX := rowL (rowL (heap_alloc_new w (.cells #[.slice (some ⟨b, off, none⟩) n c, .int .i64 x1, .int .i64 x2, .int .i64 x3, .int .i64 x4, .bool x5] 30)) (bal (w.alloc (.cells #[.slice (some ⟨b, off, none⟩) n c, .int .i64 x1, .int .i64 x2, .int .i64 x3, .int .i64 x4, .bool x5] 30)) (.cells #[.slice none 0 0, .int .i64 0, .int .i64 0, .int .i64 0, .int .i64 0, .bool false] 30))) (bal ((w.alloc (.cells #[.slice (some ⟨b, off, none⟩) n c, .int .i64 x1, .int .i64 x2, .int .i64 x3, .int .i64 x4, .bool x5] 30)).alloc (.cells #[.slice none 0 0, .int .i64 0, .int .i64 0, .int .i64 0, .int .i64 0, .bool false] 30)) (.cells #[] 92))
  have hR := heap_alloc_new (w.alloc (.cells #[.slice (some ⟨b, off, none⟩) n c, .int .i64 x1, .int .i64 x2, .int .i64 x3, .int .i64 x4, .bool x5] 30)) (.cells #[.slice none 0 0, .int .i64 0, .int .i64 0, .int .i64 0, .int .i64 0, .bool false] 30)
  rw [World.size_alloc] at hR
  replace hR := rowL hR (bal ((w.alloc (.cells #[.slice (some ⟨b, off, none⟩) n c, .int .i64 x1, .int .i64 x2, .int .i64 x3, .int .i64 x4, .bool x5] 30)).alloc (.cells #[.slice none 0 0, .int .i64 0, .int .i64 0, .int .i64 0, .int .i64 0, .bool false] 30)) (.cells #[] 92))
  have hs2 : ((w.alloc (.cells #[.slice (some ⟨b, off, none⟩) n c, .int .i64 x1, .int .i64 x2, .int .i64 x3, .int .i64 x4, .bool x5] 30)).alloc (.cells #[.slice none 0 0, .int .i64 0, .int .i64 0, .int .i64 0, .int .i64 0, .bool false] 30)).heap.size = w.heap.size + 1 + 1 := by simp
  have hO0 : (((w.alloc (.cells #[.slice (some ⟨b, off, none⟩) n c, .int .i64 x1, .int .i64 x2, .int .i64 x3, .int .i64 x4, .bool x5] 30)).alloc (.cells #[.slice none 0 0, .int .i64 0, .int .i64 0, .int .i64 0, .int .i64 0, .bool false] 30)).alloc (.cells #[] 92)).ownsRow (w.heap.size + 1 + 1) 92 3 (.slice (some ⟨w.heap.size + 1 + 1, 0, none⟩) 0 0) 0 [] := by
    have := World.ownsRow_lit (e := 92) (size := 3) ((w.alloc (.cells #[.slice (some ⟨b, off, none⟩) n c, .int .i64 x1, .int .i64 x2, .int .i64 x3, .int .i64 x4, .bool x5] 30)).alloc (.cells #[.slice none 0 0, .int .i64 0, .int .i64 0, .int .i64 0, .int .i64 0, .bool false] 30)) #[] 0 (Nat.le_refl _) (by simp [maxLen]) rfl
    rw [hs2] at this
    exact this
  have HN : Hid (∀ j u, (flatL n F)[j]? = some u → (((w.alloc (.cells #[.slice (some ⟨b, off, none⟩) n c, .int .i64 x1, .int .i64 x2, .int .i64 x3, .int .i64 x4, .bool x5] 30)).alloc (.cells #[.slice none 0 0, .int .i64 0, .int .i64 0, .int .i64 0, .int .i64 0, .bool false] 30)).alloc (.cells #[] 92)).cell? ((⟨b, off, none⟩ : Addr).add j) = some u) := cells_of_fl (h.later hb0)
  have hlen := flatL_len n F
  have hone := flatL_one n F
  have ux0 : (((w.alloc (.cells #[.slice (some ⟨b, off, none⟩) n c, .int .i64 x1, .int .i64 x2, .int .i64 x3, .int .i64 x4, .bool x5] 30)).alloc (.cells #[.slice none 0 0, .int .i64 0, .int .i64 0, .int .i64 0, .int .i64 0, .bool false] 30)).alloc (.cells #[] 92)).cell? ⟨w.heap.size, 0, none⟩ = some (.slice (some ⟨b, off, none⟩) n c) := (cell_of_row _ _ 0 _ _ _ hX).trans rfl
  go_enter Tryd.func22, Tryd.ntmps22
  go_upto_region 2 with (at_builtin; refine wpList_append_own _ rfl _ _ 28 rfl (w.heap.size + 1 + 1) 92 i0 _ 3 40 Tryd.underlying28 HI.out hz0 hz1 hz2 rfl (by omega) _ 0 _ rfl hO0 ⟨b, off, none⟩ n c (flatL n F) rfl hlen HN.out hone (by unfold maxLen; omega) (by omega) (by simp) ?_; intro v' w1 hown1 hgrow hnil; obtain ⟨g, cap, rfl⟩ : ∃ g cap, v' = .slice (some ⟨g, 0, none⟩) n cap := (by
    rcases hown1.2 with ⟨e, _⟩ | ⟨g, cap, _, e, _⟩
    · exact absurd (hnil.1 e).1 (by intro h; cases h)
    · exact ⟨g, cap, by simpa using e⟩); have hX1 := rowG' hX hgrow (by simp [Value.ownBlock, Act.eval]; omega); have xc0 : w1.cell? ⟨w.heap.size, 0, none⟩ = some (.slice (some ⟨b, off, none⟩) n c) := (cell_of_row _ _ 0 _ _ _ hX1).trans rfl; have xf0 : w1.frozen? ⟨w.heap.size, 0, none⟩ = false := frozen_of_row _ _ 0 _ _ hX1)
  replace hgrow : World.grownBy _ w1 (some (w.heap.size + 1 + 1)) := hgrow
  have hR1 := rowG' hR hgrow (by simp)
  have hX2 : (w1.setCell ⟨w.heap.size, 0, none⟩ (.slice (some ⟨g, 0, none⟩) n cap)).heap[w.heap.size]? = some (.cells #[.slice (some ⟨g, 0, none⟩) n cap, .int .i64 x1, .int .i64 x2, .int .i64 x3, .int .i64 x4, .bool x5] 30 (0, 0)) := heap_setCell_same _ _ 0 _ _ _ hX1
  have hR2 := rowO (B := w.heap.size) (i := 0) (v := .slice (some ⟨g, 0, none⟩) n cap) hR1 (by omega)
  have hg1 := hown1.lt g rfl
  have hO2 : OwnF (w1.setCell ⟨w.heap.size, 0, none⟩ (.slice (some ⟨g, 0, none⟩) n cap)) w.heap.size (.slice (some ⟨g, 0, none⟩) n cap) n F := by
    have h1 : OwnF w1 (w.heap.size + 1 + 1) (.slice (some ⟨g, 0, none⟩) n cap) n F := by unfold OwnF; simpa using hown1
    obtain ⟨cur, e1, e2, e3, e4, e5, e6⟩ := h1.cur
    exact OwnF.mk (rowO e1 (by omega)) (by omega) e3 e4 e5 e6
  have hb1 : Below w.heap.size w w1 := hb0.grown hgrow (by simp; omega) (fun q e => by have h1 : w.heap.size + 1 + 1 = q := (by simpa using e); omega)
  have hb2 := bset (B := w.heap.size) (i := 0) (v := .slice (some ⟨g, 0, none⟩) n cap) hb1 (Nat.le_refl _)
  obtain ⟨W2, hW2⟩ : ∃ W2, w1.setCell ⟨w.heap.size, 0, none⟩ (.slice (some ⟨g, 0, none⟩) n cap) = W2 := ⟨_, rfl⟩
  rw [hW2] at hX2 hR2 hO2 hb2 ⊢
  clear hW2 xc0 xf0 ux0
  obtain ⟨xc0, xc1, xc2, xc3, xc4, xc5⟩ := B6.of hX2
  obtain ⟨rc0, rc1, rc2, rc3, rc4, rc5⟩ := B6.of hR2
  obtain ⟨rf0, rf1, rf2, rf3, rf4, rf5⟩ := F6.of hR2
  go_wp2
  refine bodyPost_ret (v := .agg #[.slice (some ⟨g, 0, none⟩) n cap, .int .i64 x1, .int .i64 x2, .int .i64 x3, .int .i64 x4, .bool x5]) (results_cell_row Tryd.results22 _ _ (w.heap.size + 1) 30 _ (0, 0) _ rfl (set6_row _ _ _ _ _ _ hR2) Tryd.underlying30 rfl (by kernel_rfl)) rfl ⟨g, cap, rfl, ?_, set6_below _ _ _ _ _ _ hb2 (by omega)⟩
  obtain ⟨cur, e1, e2, e3, e4, e5, e6⟩ := hO2.cur
  exact OwnF.mk (set6_oth _ _ _ _ _ _ e1 (by omega)) (by omega) e3 e4 e5 e6
end Go.Proofs.YtdbcihebhgpblaaDoor
