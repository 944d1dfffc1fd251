/-
  A tree that came in, opened.
-/
import Derived.Test.YtlbackkjjhpljaaDoorSl
import Derived.OpenShut
import Derived.ShutString
import Derived.Deep.Strs
import Derived.Carry
import Derived.Lib.SmallJoins
namespace Go.Proofs.YtlbackkjjhpljaaDoor
open Go.ChangeShapes Go.WideShapes Go.ChangeAt Go.RowKit Go.Deep
theorem Tryd.cells9 : Tryd.prog.cellsOf 9 = 1 := by kernel_rfl
/-- A slice of strings that came in. -/
theorem open_sl {H : Type} {enc : TypeId × Value → H} {w : World} {fuel : Nat} {v : Value} {x : DataW H × List MemPlace}
    (h : DataW.trod enc Tryd.prog w 0 (fun _ => true) true fuel 26 [v] = some x) : ∃ a n c S, v = .slice a n c ∧ Sl w a n S := by
  rcases open_strs Tryd.underlying26 Tryd.underlying9 Tryd.cells9 h with ⟨hcs, hx⟩ | ⟨a, len, cap, m, Sx, hcs, _, hl, hm, hmm, hx, hcell⟩
  · simp at hcs
    subst hcs
    exact ⟨_, _, _, fun _ => ByteArray.empty, rfl, Nat.zero_le _, fun k hk => absurd hk (Nat.not_lt_zero _)⟩
  · simp at hcs
    subst hcs
    simp only [if_true] at hmm
    subst hmm
    obtain ⟨b, off, spot⟩ := a
    unfold maxLen at hm hcell
    refine ⟨_, _, _, Sx, rfl, by omega, fun k hk => ⟨by have := (hcell k (by omega)).2; omega, b, off, ?_, ?_⟩⟩
    · have hspot : spot = none := by simpa [Addr.add] using World.cell?_spot (hcell 0 (by omega)).1
      rw [hspot]
    · have hspot : spot = none := by simpa [Addr.add] using World.cell?_spot (hcell 0 (by omega)).1
      subst hspot
      rw [← add_plain]
      exact (hcell k (by omega)).1
end Go.Proofs.YtlbackkjjhpljaaDoor
