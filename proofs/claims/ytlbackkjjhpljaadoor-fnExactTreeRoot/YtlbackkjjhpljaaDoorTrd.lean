/-
  The root of a tree: the law's walk.
-/
import Derived.Test.YtlbackkjjhpljaaDoorIa
import Derived.Test.YtlbackkjjhpljaaDoorTrc
import Derived.RegionCalls
namespace Go.Proofs.YtlbackkjjhpljaaDoor
open Go.RowKit Go.ChangeMaps
set_option maxRecDepth 20000 in
set_option maxHeartbeats 2000000 in
theorem implTreeRoot_any (k z : Int) (a : Option Addr) (n c : Nat) (S : Nat → ByteArray) (w : World) (h : Sl w a n S) (hK : KeysAt w) :
    Calls Tryd.prog 16 #[.int .i64 k, .agg #[.int .i64 z, .slice a n c]] w fun e w' => e = .returned (.string (treeRootD k z n S)) ∧ Below w.heap.size w w' := by
  by_cases hok : okB k z n S = true
  · have HT : Hid (treeRootD k z n S = rootD k n S) := by show treeRootD k z n S = _; unfold treeRootD; rw [if_pos hok]
    rw [HT.out]
    by_cases hn0 : n = 0
    · subst hn0
      obtain ⟨p0, q0⟩ := cell_box w (.int .i64 z) (.slice a 0 c) 31
      have hS0 := h.later (below1 w (.cells #[.int .i64 z, .slice a 0 c] 31))
      have HO : Hid (okB k z 0 S = true) := hok
      have HD : Hid (dg k ⟨#[]⟩ = rootD k 0 S) := rfl
      have HK : Hid (KeysAt w) := hK
      obtain ⟨y, hy⟩ : ∃ y, rootD k 0 S = y := ⟨_, rfl⟩
      rw [hy] at HD ⊢
      clear hy hok hK HT
      obtain ⟨t, ht⟩ : ∃ t, (⟨#[]⟩ : ByteArray) = t := ⟨_, rfl⟩
      have hts : t.size ≤ 8388608 := by rw [← ht]; exact Nat.zero_le _
      rw [ht] at HD
      go_enter Tryd.func16, Tryd.ntmps16
      go_wp2_with (first | (go_at_call 34; refine (implOK_any _ _ _ _ _ S _ hS0).mono ?_; rw [HO.out]; rintro e w1 ⟨rfl, hb1⟩; have p1 := keep hb1 p0; have q1 := keep hb1 q0) | (go_at_call 30; refine (implDg_any k t _ (keys_later (keys_later HK.out (below1 _ _)) hb1) hts y HD.out).mono ?_; rintro e w2 ⟨rfl, hb2⟩))
      go_ret
      exact ⟨rfl, ((below1 _ _).trans (hb1.mono (by simp))).trans (hb2.mono (by have := hb1.size; simp at this; omega))⟩
    · obtain ⟨m, rfl⟩ : ∃ m, n = m + 1 := ⟨n - 1, by omega⟩
      have e : rootD k (m + 1) S = fromR k S (m + 1) m := by unfold rootD; rw [if_neg hn0]; rfl
      rw [e]
      exact implTreeRoot_some k z a m c S w h hK hok
  · have hS0 := h.later (below1 w (.cells #[.int .i64 z, .slice a n c] 31))
    have HT : Hid (treeRootD k z n S = ⟨#[]⟩) := by show treeRootD k z n S = _; unfold treeRootD; rw [if_neg hok]
    have ho : okB k z n S = false := by simpa using hok
    have HO : Hid (okB k z n S = false) := ho
    rw [HT.out]
    clear hok HT ho
    go_enter Tryd.func16, Tryd.ntmps16
    go_wp2_with (go_at_call 34; refine (implOK_any _ _ _ _ _ S _ hS0).mono ?_; rw [HO.out]; rintro e w1 ⟨rfl, hb1⟩)
    go_ret
    exact ⟨rfl, (below1 _ _).trans (hb1.mono (by simp))⟩
set_option maxRecDepth 20000 in
set_option maxHeartbeats 4000000 in
theorem lawTreeRoot_any (k z : Int) (a : Option Addr) (n c : Nat) (S : Nat → ByteArray) (w : World) (h : Sl w a n S) (hK : KeysAt w) :
    Calls Tryd.prog 5 #[.int .i64 k, .agg #[.int .i64 z, .slice a n c]] w fun e w' => e = .returned (.bool true) ∧ Below w.heap.size w w' := by
  have HK : Hid (KeysAt w) := hK
  clear hK
  have hS0 := h.later (below1 w (.cells #[.int .i64 z, .slice a n c] 28))
  have hs := fun j hj => (h.2 j hj).1
  obtain ⟨p0, q0⟩ := cell_box w (.int .i64 z) (.slice a n c) 28
  obtain ⟨y, hy⟩ : ∃ y, treeRootD k z n S = y := ⟨_, rfl⟩
  have hspec : Hid (∀ (a : Option Addr) (c : Nat) (w : World), Sl w a n S → Calls Tryd.prog 14 #[.int .i64 k, .agg #[.int .i64 z, .slice a n c]] w fun e w' => e = .returned (.string y) ∧ Below w.heap.size w w') := fun a c w h => by rw [← hy]; exact specTreeRoot_any k z a n c S w h
  have himpl : Hid (∀ (a : Option Addr) (c : Nat) (w : World), Sl w a n S → KeysAt w → Calls Tryd.prog 16 #[.int .i64 k, .agg #[.int .i64 z, .slice a n c]] w fun e w' => e = .returned (.string y) ∧ Below w.heap.size w w') := fun a c w h hK => by rw [← hy]; exact implTreeRoot_any k z a n c S w h hK
  clear hy
  go_enter Tryd.func5, Tryd.ntmps5
  go_wp2_with (first | (go_at_call 13; refine (szTree_any _ _ _ _ S _ hS0).mono ?_; rintro e w1 ⟨hb1, r, rfl, hall⟩; have hS1 := hS0.later hb1; have p1 := keep hb1 p0; have q1 := keep hb1 q0) | (go_at_call 15; refine (toTree_any _ _ _ _ S _ hS1 (hall (by omega)).1).mono ?_; rintro e w2 ⟨g2, hg2, rfl, hrow2, hb2⟩; have hS2 := sl_of_row w2 g2 n S _ (hall (by omega)).1 hs hrow2; clear hrow2; have p2 := keep hb2 p1; have q2 := keep hb2 q1) | (go_at_call 14; refine (hspec.out _ _ _ hS2).mono ?_; rintro e w3 ⟨rfl, hb3⟩; have hS3 := (hS1.later hb2).later hb3; have p3 := keep hb3 p2; have q3 := keep hb3 q2) | (go_at_call 15; refine (toTree_any _ _ _ _ S _ hS3 (hall (by omega)).1).mono ?_; rintro e w4 ⟨g4, hg4, rfl, hrow4, hb4⟩; have hS4 := sl_of_row w4 g4 n S _ (hall (by omega)).1 hs hrow4; clear hrow4; have p4 := keep (below1 w4 (.cells #[.int .i64 z, .slice (some ⟨g4, 0, none⟩) n n] 31)) (keep hb4 p3); have q4 := keep (below1 w4 (.cells #[.int .i64 z, .slice (some ⟨g4, 0, none⟩) n n] 31)) (keep hb4 q3); obtain ⟨u4, v4⟩ := cell_box w4 (.int .i64 z) (.slice (some ⟨g4, 0, none⟩) n n) 31) | (go_at_call 16; refine (himpl.out _ _ _ (hS4.later (below1 _ _)) (keys_later (keys_later (keys_later (keys_later (keys_later (keys_later HK.out (below1 _ _)) hb1) hb2) hb3) hb4) (below1 _ _))).mono ?_; rintro e w5 ⟨rfl, hb5⟩; have p5 := keep hb5 p4; have q5 := keep hb5 q4; have u5 := keep hb5 u4; have v5 := keep hb5 v4))
  · go_ret
    exact ⟨rfl, (below1 _ _).trans (hb1.mono (by simp))⟩
  · have hnn := (hall (by omega)).1
    have hS5 : Sl w5.drew a n S := Sl.drew1 (((hS3.later hb4).later (below1 _ _)).later hb5)
    have hT5 : Sl w5.drew (some ⟨g4, 0, none⟩) n S := Sl.drew1 ((hS4.later (below1 _ _)).later hb5)
    have b5 : Below w.heap.size w w5 := ((((((below1 _ _).trans (hb1.mono (by simp))).trans (hb2.mono (by have := hb1.size; simp at this; omega))).trans (hb3.mono (by have := hb1.size; have := hb2.size; simp at *; omega))).trans (hb4.mono (by have := hb1.size; have := hb2.size; have := hb3.size; simp at *; omega))).trans ((below1 _ _).mono (by have := hb1.size; have := hb2.size; have := hb3.size; have := hb4.size; simp at *; omega))).trans (hb5.mono (by have := hb1.size; have := hb2.size; have := hb3.size; have := hb4.size; simp at *; omega))
    have hz5 : w.heap.size ≤ w5.heap.size := b5.size
    clear p0 q0 p1 q1 p2 q2 p3 q3 p4 q4 u4 v4 hb1 hb2 hb3 hb4 hb5 hS0 hS1 hS2 hS3 hS4 h hg2 hg4 hall hspec himpl
    go_region_with (first | (go_at_call 15; refine (toTree_any _ _ _ _ S _ hS5 hnn).mono ?_; rintro e w6 ⟨g6, hg6, rfl, hrow6, hb6⟩; have hS6 := sl_of_row w6 g6 n S _ hnn hs hrow6; clear hrow6; have u6 := keep (w := w5.drew) hb6 u5; have v6 := keep (w := w5.drew) hb6 v5; have hT6 := hT5.later hb6) | (go_at_call 17; refine (eqTree_any _ _ _ _ _ _ S S _ hT6 hS6 (fun _ _ => rfl)).mono ?_; rintro e w7 ⟨rfl, hb7⟩))
    all_goals
      go_wp2
      go_ret
      exact ⟨rfl, (b5.trans (undrew (hb6.mono hz5))).trans (hb7.mono (Nat.le_trans hz5 hb6.size))⟩
end Go.Proofs.YtlbackkjjhpljaaDoor
