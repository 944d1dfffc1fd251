/-
  The root of a tree: the law's walk.
-/
import Derived.Test.YtjbbbfplephkpaaGreatDoorIa
import Derived.Test.YtjbbbfplephkpaaGreatDoorTrc
import Derived.RegionCalls
namespace Go.Proofs.YtjbbbfplephkpaaGreatDoor
open Go.RowKit Go.ChangeMaps
set_option maxRecDepth 20000 in
set_option maxHeartbeats 2000000 in
theorem implTreeRoot_any (k z : Int) (a : Option Addr) (n c : Nat) (S : Nat → ByteArray) (w : World) (h : Sl w a n S) (hK : KeysAt w) :
    Calls Tryz.prog 6 #[.int .i64 k, .agg #[.int .i64 z, .slice a n c]] w fun e w' => e = .returned (.string (treeRootD k z n S)) ∧ Below w.heap.size w w' := by
  by_cases hok : okB k z n S = true
  · have HT : Hid (treeRootD k z n S = rootD k n S) := by show treeRootD k z n S = _; unfold treeRootD; rw [if_pos hok]
    rw [HT.out]
    by_cases hn0 : n = 0
    · subst hn0
      obtain ⟨p0, q0⟩ := cell_box w (.int .i64 z) (.slice a 0 c) 28
      have hS0 := h.later (below1 w (.cells #[.int .i64 z, .slice a 0 c] 28))
      have HO : Hid (okB k z 0 S = true) := hok
      have HD : Hid (dg k ⟨#[]⟩ = rootD k 0 S) := rfl
      have HK : Hid (KeysAt w) := hK
      obtain ⟨y, hy⟩ : ∃ y, rootD k 0 S = y := ⟨_, rfl⟩
      rw [hy] at HD ⊢
      clear hy hok hK HT
      obtain ⟨t, ht⟩ : ∃ t, (⟨#[]⟩ : ByteArray) = t := ⟨_, rfl⟩
      have hts : t.size ≤ 8388608 := by rw [← ht]; exact Nat.zero_le _
      rw [ht] at HD
      go_enter Tryz.func6, Tryz.ntmps6
      go_wp2_with (first | (go_at_call 13; refine (implOK_any _ _ _ _ _ S _ hS0).mono ?_; rw [HO.out]; rintro e w1 ⟨rfl, hb1⟩; have p1 := keep hb1 p0; have q1 := keep hb1 q0) | (go_at_call 14; refine (implDg_any k t _ (keys_later (keys_later HK.out (below1 _ _)) hb1) hts y HD.out).mono ?_; rintro e w2 ⟨rfl, hb2⟩))
      go_ret
      exact ⟨rfl, ((below1 _ _).trans (hb1.mono (by simp))).trans (hb2.mono (by have := hb1.size; simp at this; omega))⟩
    · obtain ⟨m, rfl⟩ : ∃ m, n = m + 1 := ⟨n - 1, by omega⟩
      have e : rootD k (m + 1) S = fromR k S (m + 1) m := by unfold rootD; rw [if_neg hn0]; rfl
      rw [e]
      exact implTreeRoot_some k z a m c S w h hK hok
  · have hS0 := h.later (below1 w (.cells #[.int .i64 z, .slice a n c] 28))
    have HT : Hid (treeRootD k z n S = ⟨#[]⟩) := by show treeRootD k z n S = _; unfold treeRootD; rw [if_neg hok]
    have ho : okB k z n S = false := by simpa using hok
    have HO : Hid (okB k z n S = false) := ho
    rw [HT.out]
    clear hok HT ho
    go_enter Tryz.func6, Tryz.ntmps6
    go_wp2_with (go_at_call 13; refine (implOK_any _ _ _ _ _ S _ hS0).mono ?_; rw [HO.out]; rintro e w1 ⟨rfl, hb1⟩)
    go_ret
    exact ⟨rfl, (below1 _ _).trans (hb1.mono (by simp))⟩
end Go.Proofs.YtjbbbfplephkpaaGreatDoor
