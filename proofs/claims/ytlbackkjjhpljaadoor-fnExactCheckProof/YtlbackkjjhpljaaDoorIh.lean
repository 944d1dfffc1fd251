/-
  CheckPath: the program's way.
-/
import Derived.Test.YtlbackkjjhpljaaDoorIp
import Derived.Test.YtlbackkjjhpljaaDoorTs
namespace Go.Proofs.YtlbackkjjhpljaaDoor
open Go.RowKit
theorem three_boxes (w : World) (x y f : Value) (s t u : TypeId) :
    (((w.alloc (.cells #[x] s)).alloc (.cells #[y] t)).alloc (.cells #[f] u)).cell? ⟨w.heap.size, 0, none⟩ = some x ∧ (((w.alloc (.cells #[x] s)).alloc (.cells #[y] t)).alloc (.cells #[f] u)).cell? ⟨w.heap.size + 1, 0, none⟩ = some y ∧ (((w.alloc (.cells #[x] s)).alloc (.cells #[y] t)).alloc (.cells #[f] u)).cell? ⟨w.heap.size + 1 + 1, 0, none⟩ = some f := by
  have e2 : ((w.alloc (.cells #[x] s)).alloc (.cells #[y] t)).cell? ⟨w.heap.size + 1, 0, none⟩ = some y := by
    rw [World.cell?_alloc_at _ _ _ _ (by simp)]; rfl
  have e1 : (w.alloc (.cells #[x] s)).cell? ⟨w.heap.size, 0, none⟩ = some x := by
    rw [World.cell?_alloc_at _ _ _ _ rfl]; rfl
  refine ⟨?_, ?_, ?_⟩
  · rw [World.cell?_alloc_lt _ _ _ (by simp; omega), World.cell?_alloc_lt _ _ _ (by simp)]; exact e1
  · rw [World.cell?_alloc_lt _ _ _ (by simp)]; exact e2
  · rw [World.cell?_alloc_at _ _ _ _ (by simp)]; rfl
set_option maxRecDepth 20000 in
theorem claimOfPath_any (k : Int) (X : ByteArray) (w : World) :
    Calls Tryd.prog 50 #[.int .i64 k, .string X] w fun e w' => e = .returned (.func (.func 65) #[] #[.pointer (some ⟨w.heap.size, 0, none⟩), .pointer (some ⟨w.heap.size + 1, 0, none⟩), .pointer (some ⟨w.heap.size + 1 + 1, 0, none⟩)]) ∧ PC w' w.heap.size (w.heap.size + 1) (w.heap.size + 1 + 1) k X ∧ Below w.heap.size w w' := by
  have hmf : ∀ (fn : Fn) (first cap : Array Value) (w : World), (Instr.makeFunc fn first cap).run Tryd.prog w = .ok (.func fn first cap) w := fun _ _ _ _ => rfl
  have e3 : (((w.alloc (.cells #[.int .i64 k] 3)).alloc (.cells #[.string X] 9)).alloc (.cells #[.nilFunc] 69)).cell? ⟨w.heap.size + 1 + 1, 0, none⟩ = some .nilFunc := by rw [World.cell?_alloc_at _ _ _ _ (by simp)]; rfl
  have f3 := frozen_of_row _ _ 0 _ _ (heap_alloc_new ((w.alloc (.cells #[.int .i64 k] 3)).alloc (.cells #[.string X] 9)) (.cells #[.nilFunc] 69))
  simp only [World.size_alloc] at f3
  have e4 := World.cell?_setCell_same' (((w.alloc (.cells #[.int .i64 k] 3)).alloc (.cells #[.string X] 9)).alloc (.cells #[.nilFunc] 69)) ⟨w.heap.size + 1 + 1, 0, none⟩ (.func (.func 65) #[] #[.pointer (some ⟨w.heap.size, 0, none⟩), .pointer (some ⟨w.heap.size + 1, 0, none⟩), .pointer (some ⟨w.heap.size + 1 + 1, 0, none⟩)]) (by rw [e3]; rfl)
  have hst := run_store Tryd.prog (((w.alloc (.cells #[.int .i64 k] 3)).alloc (.cells #[.string X] 9)).alloc (.cells #[.nilFunc] 69)) ⟨w.heap.size + 1 + 1, 0, none⟩ (.func (.func 65) #[] #[.pointer (some ⟨w.heap.size, 0, none⟩), .pointer (some ⟨w.heap.size + 1, 0, none⟩), .pointer (some ⟨w.heap.size + 1 + 1, 0, none⟩)]) .plain (by rfl)
  rw [e3] at hst
  simp only [f3] at hst
  go_enter Tryd.func50, Tryd.ntmps50
  go_wp2
  go_ret
  obtain ⟨a1, a2, a3⟩ := three_boxes w (.int .i64 k) (.string X) (.func (.func 65) #[] #[.pointer (some ⟨w.heap.size, 0, none⟩), .pointer (some ⟨w.heap.size + 1, 0, none⟩), .pointer (some ⟨w.heap.size + 1 + 1, 0, none⟩)]) 3 9 69
  exact ⟨rfl, ⟨a1, a2, a3⟩, below3 w _ _ _⟩
end Go.Proofs.YtlbackkjjhpljaaDoor
