/-
  The root of a tree: the specification's way.
-/
import Derived.Test.YtjbbbfplephkpaaGreatDoorMs
namespace Go.Proofs.YtjbbbfplephkpaaGreatDoor
open Go.RowKit
/-- The root of the Peaks from place i on (n of them): from right to left. -/
def fromR (k : Int) (S : Nat → ByteArray) (n : Nat) : Nat → ByteArray
  | 0 => S (n - 1)
  | j + 1 => nodeD k (S (n - 2 - j)) (fromR k S n j)
/-- What TreeRoot answers at a tree that is OK. -/
def rootD (k : Int) (n : Nat) (S : Nat → ByteArray) : ByteArray := if n = 0 then dg k ⟨#[]⟩ else fromR k S n (n - 1)
def treeRootD (k z : Int) (n : Nat) (S : Nat → ByteArray) : ByteArray := if okB k z n S = true then rootD k n S else ⟨#[]⟩
theorem cell_box (w : World) (x y : Value) (t : TypeId) : (w.alloc (.cells #[x, y] t)).cell? ⟨w.heap.size, 0, none⟩ = some x ∧ (w.alloc (.cells #[x, y] t)).cell? ⟨w.heap.size, 1, none⟩ = some y :=
  ⟨(cell_of_row _ _ 0 _ _ _ (heap_alloc_new w _)).trans rfl, (cell_of_row _ _ 1 _ _ _ (heap_alloc_new w _)).trans rfl⟩
theorem fromR_size (k : Int) (S : Nat → ByteArray) (n : Nat) (hs : ∀ i, i < n → (S i).size ≤ 32) (hn : 0 < n) : ∀ j, (fromR k S n j).size ≤ 32
  | 0 => hs _ (by omega)
  | _ + 1 => dg_le _ _
theorem on12 (z : Int) (n : Nat) (h : n = on z.toNat) : n ≤ 12 := by rw [h]; exact on_le _
end Go.Proofs.YtjbbbfplephkpaaGreatDoor
