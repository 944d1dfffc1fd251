/-
  A slice of strings that came in, as an argument.
-/
import Derived.Test.YtlbackkjjhpljaaDoorOpen
namespace Go.Proofs.YtlbackkjjhpljaaDoor
open Go.ChangeShapes Go.WideShapes Go.ChangeAt Go.RowKit Go.Deep
set_option maxRecDepth 20000 in
/-- A slice of strings that came in, as an argument. -/
theorem open_slv {H : Type} {enc : TypeId × Value → H} {w : World} {r : Reach} {b0 : Nat} {v : Value} {d : DataW H} {ps : List MemPlace} (hval : Value.okWide Tryd.prog w r b0 26 v)
    (h : DataW.Trod enc Tryd.prog w 0 (fun _ => true) true 26 v d ps) : ∃ a n c S, v = .slice a n c ∧ Sl w a n S := by
  obtain ⟨a, n, c, rfl⟩ := okWide_slice Tryd.underlying26 hval
  obtain ⟨fuel, hf⟩ := h
  exact open_sl hf
end Go.Proofs.YtlbackkjjhpljaaDoor
