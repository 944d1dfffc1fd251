/-
  The root of a tree: the specification's way.
-/
import Derived.Test.YtlbackkjjhpljaaDoorMs
namespace Go.Proofs.YtlbackkjjhpljaaDoor
open Go.RowKit
/-- The root of the Peaks from place i on (n of them): from right to left. -/
def fromR (k : Int) (S : Nat → ByteArray) (n : Nat) : Nat → ByteArray
  | 0 => S (n - 1)
  | j + 1 => nodeD k (S (n - 2 - j)) (fromR k S n j)
/-- What TreeRoot answers at a tree that is OK. -/
def rootD (k : Int) (n : Nat) (S : Nat → ByteArray) : ByteArray := if n = 0 then dg k ⟨#[]⟩ else fromR k S n (n - 1)
def treeRootD (k z : Int) (n : Nat) (S : Nat → ByteArray) : ByteArray := if okB k z n S = true then rootD k n S else ⟨#[]⟩
theorem cell_box (w : World) (x y : Value) (t : TypeId) : (w.alloc (.cells #[x, y] t)).cell? ⟨w.heap.size, 0, none⟩ = some x ∧ (w.alloc (.cells #[x, y] t)).cell? ⟨w.heap.size, 1, none⟩ = some y :=
  ⟨(cell_of_row _ _ 0 _ _ _ (heap_alloc_new w _)).trans rfl, (cell_of_row _ _ 1 _ _ _ (heap_alloc_new w _)).trans rfl⟩
theorem fromR_size (k : Int) (S : Nat → ByteArray) (n : Nat) (hs : ∀ i, i < n → (S i).size ≤ 32) (hn : 0 < n) : ∀ j, (fromR k S n j).size ≤ 32
  | 0 => hs _ (by omega)
  | _ + 1 => dg_le _ _
theorem on12 (z : Int) (n : Nat) (h : n = on z.toNat) : n ≤ 12 := by rw [h]; exact on_le _
set_option maxRecDepth 20000 in
set_option maxHeartbeats 2000000 in
theorem specTreeRoot_any (k z : Int) (a : Option Addr) (n c : Nat) (S : Nat → ByteArray) (w : World) (h : Sl w a n S) :
    Calls Tryd.prog 14 #[.int .i64 k, .agg #[.int .i64 z, .slice a n c]] w fun e w' => e = .returned (.string (treeRootD k z n S)) ∧ Below w.heap.size w w' := by
  obtain ⟨p0, q0⟩ := cell_box w (.int .i64 z) (.slice a n c) 31
  have hS0 := h.later (below1 w (.cells #[.int .i64 z, .slice a n c] 31))
  by_cases hok : okB k z n S = true
  · obtain ⟨hk, hz0, hz1, hn, hs⟩ := okB_out hok
    have HT : Hid (treeRootD k z n S = rootD k n S) := by show treeRootD k z n S = _; unfold treeRootD; rw [if_pos hok]
    have hn12 := on12 z n hn
    rw [HT.out]
    have hw := wid_le k
    have HO : Hid (okB k z n S = true) := hok
    clear hok HT hn
    by_cases hn0 : n = 0
    · subst hn0
      have HD : Hid (dg k ⟨#[]⟩ = rootD k 0 S) := rfl
      obtain ⟨y, hy⟩ : ∃ y, rootD k 0 S = y := ⟨_, rfl⟩
      rw [hy] at HD ⊢
      clear hy
      obtain ⟨t, ht⟩ : ∃ t, (⟨#[]⟩ : ByteArray) = t := ⟨_, rfl⟩
      have hts : t.size ≤ 8388608 := by rw [← ht]; exact Nat.zero_le _
      rw [ht] at HD
      go_enter Tryd.func14, Tryd.ntmps14
      go_wp2_with (first | (go_at_call 33; refine (specOK_any _ _ _ _ _ S _ hS0).mono ?_; rw [HO.out]; rintro e w1 ⟨rfl, hb1⟩; have p1 := keep hb1 p0; have q1 := keep hb1 q0) | (go_at_call 29; refine (specDg_any k t _ hts y HD.out).mono ?_; rintro e w2 ⟨rfl, hb2⟩))
      go_ret
      exact ⟨rfl, ((below1 _ _).trans (hb1.mono (by simp))).trans (hb2.mono (by have := hb1.size; simp at this; omega))⟩
    · have HR : Hid (fromR k S n (n - 1) = rootD k n S) := by show _ = rootD k n S; unfold rootD; rw [if_neg hn0]
      rw [← HR.out]
      have hs32 : ∀ i, i < n → (S i).size ≤ 32 := fun i hi => by rw [hs i hi]; exact hw
      obtain ⟨m, rfl⟩ : ∃ m, n = m + 1 := ⟨n - 1, by omega⟩
      obtain ⟨b0, off0, rfl, hcl⟩ := h.at m (by omega)
      have hq0 : Hid ((fromR k S (m + 1) 0) = S m) := rfl
      go_enter Tryd.func14, Tryd.ntmps14
      go_wp2_with (go_at_call 33; refine (specOK_any _ _ _ _ _ S _ hS0).mono ?_; rw [HO.out]; rintro e w1 ⟨rfl, hb1⟩; have p1 := keep hb1 p0; have q1 := keep hb1 q0; have l1 := keep hb1 (keep (below1 w (.cells #[.int .i64 z, .slice (some ⟨b0, off0, none⟩) (m + 1) c] 31)) hcl))
      have b1 : Below w.heap.size w w1 := (below1 _ _).trans (hb1.mono (by simp))
      have hS1 := hS0.later hb1
      clear p0 q0 hS0 l1 hcl hb1
      go_loopw [5, 6] (fun r i wr => ∃ j : Nat, j ≤ m ∧ i = .int .i64 ((m : Int) - 1 - j) ∧ r = .string (fromR k S (m + 1) j) ∧ wr.cell? ⟨w.heap.size, 1, none⟩ = some (.slice (some ⟨b0, off0, none⟩) (m + 1) c) ∧ Sl wr (some ⟨b0, off0, none⟩) (m + 1) S ∧ Below w.heap.size w wr) (fun _ i _ => (intOf i + 1).toNat)
      case atStart => exact ⟨0, by omega, by simp; omega, rfl, q1, hS1, b1⟩
      case round =>
        clear p1 q1 hS1 b1
        obtain ⟨j, hj, rfl, rfl, q1, hS1, b1⟩ := hrel
        have hfs := fromR_size k S (m + 1) hs32 (by omega) j
        by_cases hlt : j < m
        · obtain ⟨t, ht⟩ : ∃ t : Nat, m - 1 - j = t := ⟨_, rfl⟩
          have HI : Hid ((m : Int) - 1 - j = (t : Int)) := by show (m : Int) - 1 - j = (t : Int); omega
          rw [HI.out]
          obtain ⟨b2, off2, hbb, hct⟩ := hS1.at t (by omega)
          obtain ⟨rfl, rfl⟩ : b0 = b2 ∧ off0 = off2 := by simpa using hbb
          have hst := hs32 t (by omega)
          have htm : (t : Int) < (m : Int) + 1 := by omega
          have htm' : t < m + 1 := by omega
          have hD : Hid (nodeD k (S t) (fromR k S (m + 1) j) = fromR k S (m + 1) (j + 1)) := by
            show nodeD k (S t) (fromR k S (m + 1) j) = nodeD k (S (m + 1 - 2 - j)) (fromR k S (m + 1) j)
            rw [← ht, show m + 1 - 2 - j = m - 1 - j by omega]
          obtain ⟨y, hy⟩ : ∃ y, fromR k S (m + 1) (j + 1) = y := ⟨_, rfl⟩
          obtain ⟨x, hx⟩ : ∃ x, fromR k S (m + 1) j = x := ⟨_, rfl⟩
          rw [hx, hy] at hD
          rw [hx] at hfs
          rw [hx]
          have HY : Hid (fromR k S (m + 1) (j + 1) = y) := hy
          have HJ : Hid (m - 1 - j = t) := ht
          clear hx hy hbb ht
          go_wp2_with (go_at_call 11; refine (specNode_any k (S t) x _ (by omega) (by omega)).mono ?_; rw [hD.out]; rintro e w2 ⟨rfl, hb2⟩)
          go_roundw
          case rel =>
            have R : ∃ j : Nat, j ≤ m ∧ Value.int .i64 ((t : Int) - 1) = .int .i64 ((m : Int) - 1 - j) ∧ Value.string y = .string (fromR k S (m + 1) j) ∧ w2.cell? ⟨w.heap.size, 1, none⟩ = some (.slice (some ⟨b0, off0, none⟩) (m + 1) c) ∧ Sl w2 (some ⟨b0, off0, none⟩) (m + 1) S ∧ Below w.heap.size w w2 :=
              ⟨j + 1, by omega, by congr 1; have := HJ.out; omega, by rw [HY.out], keep hb2 q1, hS1.later hb2, b1.trans (hb2.mono b1.size)⟩
            exact ⟨_, _, _, _, _, _, _, _, _, _, _, _, _, _, R, rfl⟩
          case measure => simp [intOf] <;> (have := HJ.out; omega)
        · obtain rfl : j = m := by omega
          have e1 : (j : Int) - 1 - j = -1 := by omega
          rw [e1]
          go_wp2
          go_ret
          exact ⟨rfl, b1⟩
  · have HT : Hid (treeRootD k z n S = ⟨#[]⟩) := by show treeRootD k z n S = _; unfold treeRootD; rw [if_neg hok]
    have ho : okB k z n S = false := by simpa using hok
    have HO : Hid (okB k z n S = false) := ho
    rw [HT.out]
    clear hok HT ho
    go_enter Tryd.func14, Tryd.ntmps14
    go_wp2_with (go_at_call 33; refine (specOK_any _ _ _ _ _ S _ hS0).mono ?_; rw [HO.out]; rintro e w1 ⟨rfl, hb1⟩)
    go_ret
    exact ⟨rfl, (below1 _ _).trans (hb1.mono (by simp))⟩
end Go.Proofs.YtlbackkjjhpljaaDoor
