/-
  Slices of strings: how long, copied, held against each other.
-/
import Derived.Test.YtjbbbfplephkpaaGreatDoorLn
import Derived.WalkKit
import Derived.ProofKit
import Derived.Laws.CopyOwn
import Derived.Deep.QuietTactic
import Derived.BigQuiet
namespace Go.Proofs.YtjbbbfplephkpaaGreatDoor
open Go.RowKit
/-- A slice of n strings. -/
def Sl (w : World) (a : Option Addr) (n : Nat) (S : Nat → ByteArray) : Prop :=
  n ≤ 9223372036854775807 ∧ ∀ k, k < n → (S k).size ≤ 9223372036854775807 ∧ ∃ b off, a = some ⟨b, off, none⟩ ∧ w.cell? ⟨b, off + k, none⟩ = some (.string (S k))
theorem Sl.at {w : World} {a : Option Addr} {n : Nat} {S : Nat → ByteArray} (h : Sl w a n S) (k : Nat) (hk : k < n) :
    ∃ b off, a = some ⟨b, off, none⟩ ∧ w.cell? ⟨b, off + k, none⟩ = some (.string (S k)) := (h.2 k hk).2
theorem Sl.later {w w' : World} {a : Option Addr} {n : Nat} {S : Nat → ByteArray} (h : Sl w a n S) (hb : Below w.heap.size w w') : Sl w' a n S := by
  refine ⟨h.1, fun k hk => ⟨(h.2 k hk).1, ?_⟩⟩
  obtain ⟨b, off, e, hc⟩ := h.at k hk
  exact ⟨b, off, e, (hb.cell (World.block_lt_of_cell? w _ hc)).trans hc⟩
theorem Sl.drew {w : World} {a : Option Addr} {n : Nat} {S : Nat → ByteArray} (h : Sl w a n S) (q : Nat) : Sl (w.drewN q) a n S := h
end Go.Proofs.YtjbbbfplephkpaaGreatDoor
