/-
  A slice of strings copied.
-/
import Derived.Test.YtjbbbfplephkpaaGreatDoorSl
import Derived.Deep.OwnRows
namespace Go.Proofs.YtjbbbfplephkpaaGreatDoor
open Go.RowKit
theorem below1 (w : World) (a : Obj) : Below w.heap.size w (w.alloc a) := (Below.refl _ _).alloc (Nat.le_refl _) _
theorem below2 (w : World) (a b : Obj) : Below w.heap.size w ((w.alloc a).alloc b) := (below1 w a).alloc (by simp) _
theorem below3 (w : World) (a b c : Obj) : Below w.heap.size w (((w.alloc a).alloc b).alloc c) := (below2 w a b).alloc (by simp; omega) _
def sArr (n : Nat) (S : Nat → ByteArray) (k : Nat) : Array Value := Array.ofFn (n := n) fun i => if i.val < k then .string (S i.val) else .string ByteArray.empty
theorem sArr_size (n : Nat) (S : Nat → ByteArray) (k : Nat) : (sArr n S k).size = n := by simp [sArr]
theorem sArr_get (n : Nat) (S : Nat → ByteArray) (k i : Nat) (h : i < n) : (sArr n S k)[i]? = some (if i < k then .string (S i) else .string ByteArray.empty) := by
  simp [sArr, h]
theorem sArr_set (n : Nat) (S : Nat → ByteArray) (k : Nat) : (sArr n S k).setIfInBounds k (.string (S k)) = sArr n S (k + 1) := by
  apply Array.ext_getElem?
  intro i
  by_cases hi : i < n
  · rw [sArr_get _ _ _ _ hi, Array.getElem?_setIfInBounds, sArr_size]
    by_cases e : k = i
    · subst e; simp [hi]
    · rw [if_neg e, sArr_get _ _ _ _ hi]
      by_cases h1 : i < k
      · rw [if_pos h1, if_pos (by omega)]
      · rw [if_neg h1, if_neg (by omega)]
  · rw [Array.getElem?_eq_none (by simp [sArr_size]; omega), Array.getElem?_eq_none (by simp [sArr_size]; omega)]
theorem sArr_made (n : Nat) (S : Nat → ByteArray) : madeCells #[Value.string ByteArray.empty] n = sArr n S 0 := by
  apply Array.ext_getElem?
  intro i
  by_cases hi : i < n
  · rw [sArr_get _ _ _ _ hi]
    simp [madeCells, hi, Nat.mod_one]
  · rw [Array.getElem?_eq_none (by simp [size_madeCells]; omega), Array.getElem?_eq_none (by simp [sArr_size]; omega)]
set_option maxRecDepth 20000 in
theorem Tryz.info9 : (Tryz.prog.info? 9).map (fun i => (i.zero, i.size, i.bytes)) = some (some (.string ByteArray.empty), 1, 16) := by kernel_rfl
theorem sl_of_row (w : World) (g n : Nat) (S : Nat → ByteArray) (t : TypeId) (hn : n ≤ 1048576) (hs : ∀ k, k < n → (S k).size ≤ 9223372036854775807) (h : w.heap[g]? = some (.cells (sArr n S n) t (0, 0))) :
    Sl w (some ⟨g, 0, none⟩) n S := by
  refine ⟨by omega, fun k hk => ⟨hs k hk, g, 0, rfl, ?_⟩⟩
  rw [Nat.zero_add, cell_of_row w g k _ _ _ h, sArr_get _ _ _ _ hk, if_pos hk]
end Go.Proofs.YtjbbbfplephkpaaGreatDoor
