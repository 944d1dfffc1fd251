/-
  What the rows lean on: the listed variable, the knobs.
-/
import Derived.Test.YtjbbbfplephkpaaGreatDoorCards
import Derived.Test.YtjbbbfplephkpaaGreatDoorTie
import Derived.Test.YtjbbbfplephkpaaGreatDoorLt
import Derived.OpenShut
import Derived.ShutString
import Derived.Deep.DeepHandedRow
import Derived.Lib.LaidTab
import Derived.OpenVars
import Derived.Carry
import Derived.ChangeSlices
namespace Go.Proofs.YtjbbbfplephkpaaGreatDoor
open Go.ChangeShapes Go.WideShapes Go.ChangeAt Go.RowKit
open Go.ChangeMaps (open_string shut_string)
set_option maxRecDepth 20000 in
theorem lawOwn : ownKnob Tryz.prog.godebug = none := by kernel_rfl
set_option maxRecDepth 20000 in
theorem lawLaidOut : laidOutB Tryz.prog = true := by kernel_rfl
set_option maxRecDepth 20000 in
theorem gTab : Tryz.prog.globalNamed "loop.example/s02884/impl.shaKeys" = some 0 := by kernel_rfl
set_option maxRecDepth 20000 in
theorem gTabType : (Tryz.prog.globals[0]?).map (·.type) = some 112 := by kernel_rfl
set_option maxRecDepth 20000 in
theorem cellsK : Tryz.prog.cellsOf 112 = 64 := by kernel_rfl
set_option maxRecDepth 20000 in
theorem cellsU : Tryz.prog.cellsOf 87 = 1 := by kernel_rfl
def keysZ : List Int := keysL.map fun n : Nat => (n : Int)
set_option maxRecDepth 20000 in
theorem laid_tab {H : Type} : (Rows.laid_loop_example_s02884_impl_shaKeys : DataW H) = Lib.tabData .u32 keysZ := rfl
set_option maxRecDepth 20000 in
theorem table {W : World} (h : laidMetH Tryz.prog [("loop.example/s02884/impl.shaKeys", Rows.laid_loop_example_s02884_impl_shaKeys)] W) : Lib.TabIs Tryz.prog W "loop.example/s02884/impl.shaKeys" .u32 keysZ :=
  Lib.tabIs_of_head (rest := []) gTab gTabType Tryz.underlying112 Tryz.underlying87 cellsU cellsK h
set_option maxRecDepth 20000 in
theorem keys_of {W : World} (h : laidMetH Tryz.prog [("loop.example/s02884/impl.shaKeys", Rows.laid_loop_example_s02884_impl_shaKeys)] W) : KeysAt W := by
  intro i hi
  have hl : i < keysL.length := by simpa [keysL] using hi
  have := (table h).cell gTab i (by simpa [keysZ] using hl)
  rw [this]
  simp [keysZ, key, List.getD_eq_getElem?_getD, hl]

set_option maxRecDepth 20000 in
theorem vars_one {H : Type} {enc : TypeId × Value → H} {P : Program} {w : World} {sp : Nat → Bool} {n : String} {gs : List (DataW H)} {ps : List MemPlace} (h : DataW.TrodVars enc P w sp [n] gs ps) : ∃ d, gs = [d] := by
  obtain ⟨_, _, _, _, d, _, e, _⟩ := trodVars_one h
  exact ⟨d, e⟩
set_option maxRecDepth 20000 in
theorem cellsB : Tryz.prog.cellsOf 5 = 1 := by kernel_rfl
theorem add_zero_spot {a : Addr} {w : World} {v : Value} (h : w.cell? (a.add 0) = some v) : a.spot = none := by simpa [Addr.add] using World.cell?_spot h
set_option maxRecDepth 20000 in
theorem open_code0 {H : Type} {enc : TypeId × Value → H} {w : World} {fuel : Nat} {v : Value} {x : DataW H × List MemPlace}
    (h : DataW.trod enc Tryz.prog w 0 (fun _ => true) true fuel 22 [v] = some x) : ∃ a n c, v = .slice a n c ∧ n ≤ 9223372036854775807 ∧ CodeAt w a n := by
  rcases _root_.Go.ChangeShapes.open_ints Tryz.underlying22 Tryz.underlying5 cellsB h with ⟨hcs, hx⟩ | ⟨a', len, cap, zs, hcs, _, hl, hm, hz, hx, hcell, hwf⟩
  · simp at hcs
    subst hcs
    exact ⟨_, _, _, rfl, Nat.zero_le _, fun j hj => absurd hj (Nat.not_lt_zero _)⟩
  · simp at hcs
    subst hcs
    simp only [if_true] at hz
    unfold maxLen at hm
    refine ⟨_, _, _, rfl, by omega, fun j hj => ?_⟩
    have hc := hcell j (by omega)
    have hsp := add_zero_spot (hcell 0 (by omega))
    have hw := hwf (zs.getD j 0) (by
      have hjl : j < zs.length := by omega
      have e : zs.getD j 0 = zs[j] := by simp [List.getD, hjl]
      rw [e]
      exact List.getElem_mem _)
    obtain ⟨b, off, spot⟩ := a'
    obtain rfl : spot = none := hsp
    refine ⟨b, off, zs.getD j 0, rfl, ?_, ?_⟩
    · have e : (⟨b, off, none⟩ : Addr).add j = ⟨b, off + j, none⟩ := by unfold Addr.add; split <;> simp_all
      rw [← e]
      exact hc
    · have m0 : IntKind.u8.min = 0 := rfl
      have m1 : IntKind.u8.max = 255 := rfl
      have hw2 : (decide (IntKind.u8.min ≤ zs.getD j 0) && decide (zs.getD j 0 ≤ IntKind.u8.max)) = true := hw
      rw [Bool.and_eq_true, decide_eq_true_eq, decide_eq_true_eq, m0, m1] at hw2
      exact hw2
set_option maxRecDepth 20000 in
/-- A code that came in. -/
theorem open_code {H : Type} {enc : TypeId × Value → H} {w : World} {r : Reach} {b0 : Nat} {v : Value} {d : DataW H} {ps : List MemPlace} (hval : Value.okWide Tryz.prog w r b0 22 v)
    (h : DataW.Trod enc Tryz.prog w 0 (fun _ => true) true 22 v d ps) : ∃ a n c, v = .slice a n c ∧ n ≤ 9223372036854775807 ∧ CodeAt w a n := by
  obtain ⟨a, n, c, rfl⟩ := okWide_slice Tryz.underlying22 hval
  obtain ⟨fuel, hf⟩ := h
  exact open_code0 hf
end Go.Proofs.YtjbbbfplephkpaaGreatDoor
