/-
  What the rows lean on: the listed variable, the knobs.
-/
import Derived.Test.YtlbackkjjhpljaaDoorCards
import Derived.Test.YtlbackkjjhpljaaDoorTie
import Derived.Test.YtlbackkjjhpljaaDoorLn
import Derived.OpenShut
import Derived.ShutString
import Derived.Deep.DeepHandedRow
import Derived.Lib.LaidTab
import Derived.OpenVars
namespace Go.Proofs.YtlbackkjjhpljaaDoor
open Go.ChangeShapes Go.WideShapes Go.ChangeAt Go.RowKit
open Go.ChangeMaps (open_string shut_string)
set_option maxRecDepth 20000 in
theorem lawOwn : ownKnob Tryd.prog.godebug = none := by kernel_rfl
set_option maxRecDepth 20000 in
theorem lawLaidOut : laidOutB Tryd.prog = true := by kernel_rfl
set_option maxRecDepth 20000 in
theorem gTab : Tryd.prog.globalNamed "loop.example/s02884/impl.shaKeys" = some 0 := by kernel_rfl
set_option maxRecDepth 20000 in
theorem gTabType : (Tryd.prog.globals[0]?).map (·.type) = some 98 := by kernel_rfl
set_option maxRecDepth 20000 in
theorem cells91 : Tryd.prog.cellsOf 98 = 64 := by kernel_rfl
set_option maxRecDepth 20000 in
theorem cells67 : Tryd.prog.cellsOf 83 = 1 := by kernel_rfl
def keysZ : List Int := keysL.map fun n : Nat => (n : Int)
theorem laid_tab {H : Type} : (Rows.laid_loop_example_s02884_impl_shaKeys : DataW H) = Lib.tabData .u32 keysZ := rfl
set_option maxRecDepth 20000 in
theorem table {W : World} (h : laidMetH Tryd.prog [("loop.example/s02884/impl.shaKeys", Rows.laid_loop_example_s02884_impl_shaKeys)] W) : Lib.TabIs Tryd.prog W "loop.example/s02884/impl.shaKeys" .u32 keysZ :=
  Lib.tabIs_of_head (rest := []) gTab gTabType Tryd.underlying98 Tryd.underlying83 cells67 cells91 h
set_option maxRecDepth 20000 in
theorem keys_of {W : World} (h : laidMetH Tryd.prog [("loop.example/s02884/impl.shaKeys", Rows.laid_loop_example_s02884_impl_shaKeys)] W) : KeysAt W := by
  intro i hi
  have hl : i < keysL.length := by simpa [keysL] using hi
  have := (table h).cell gTab i (by simpa [keysZ] using hl)
  rw [this]
  simp [keysZ, key, List.getD_eq_getElem?_getD, hl]

theorem vars_one {H : Type} {enc : TypeId × Value → H} {P : Program} {w : World} {sp : Nat → Bool} {n : String} {gs : List (DataW H)} {ps : List MemPlace} (h : DataW.TrodVars enc P w sp [n] gs ps) : ∃ d, gs = [d] := by
  obtain ⟨_, _, _, _, d, _, e, _⟩ := trodVars_one h
  exact ⟨d, e⟩
end Go.Proofs.YtlbackkjjhpljaaDoor
