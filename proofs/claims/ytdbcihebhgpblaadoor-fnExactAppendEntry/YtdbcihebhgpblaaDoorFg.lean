/-
  The law on FsValid.
-/
import Derived.Test.YtdbcihebhgpblaaDoorFf
import Derived.Deep.DeepCutAuto
namespace Go.Proofs.YtdbcihebhgpblaaDoor
open Go.RowKit
theorem B6.later {V V' : World} {B : Nat} {v0 v1 v2 v3 v4 v5 : Value} (h : B6 V B v0 v1 v2 v3 v4 v5) (hb : Below V.heap.size V V') : B6 V' B v0 v1 v2 v3 v4 v5 := ⟨keepB hb h.c0, keepB hb h.c1, keepB hb h.c2, keepB hb h.c3, keepB hb h.c4, keepB hb h.c5⟩
theorem B6.new (w : World) (v0 v1 v2 v3 v4 v5 : Value) (t : TypeId) : B6 (w.alloc (.cells #[v0, v1, v2, v3, v4, v5] t)) w.heap.size v0 v1 v2 v3 v4 v5 :=
  have h := heap_alloc_new w (.cells #[v0, v1, v2, v3, v4, v5] t)
  ⟨cell_of_row _ _ 0 _ _ _ h, cell_of_row _ _ 1 _ _ _ h, cell_of_row _ _ 2 _ _ _ h, cell_of_row _ _ 3 _ _ _ h, cell_of_row _ _ 4 _ _ _ h, cell_of_row _ _ 5 _ _ _ h⟩
theorem neqB (b : Bool) : (b != b) = false := by cases b <;> rfl
end Go.Proofs.YtdbcihebhgpblaaDoor
