/-
  strings.Fields, the table of spaces by its cells.
-/
import Derived.Test.YtfodndnkhgijmaaDoorNb
import Derived.Test.YtfodndnkhgijmaaDoorShelf
namespace Go.Proofs.YtfodndnkhgijmaaDoor
open Go.RowKit
/-- strings.asciiSpace lies there. -/
def SpT (w : World) : Prop := ∀ c : Nat, c < 256 → w.cell? ⟨0, c, none⟩ = some (.int .u8 (if Lib.isSp (UInt8.ofNat c) then 1 else 0))
theorem SpT.later {w w' : World} (h : SpT w) (hb : Below w.heap.size w w') : SpT w' := fun c hc => keepB hb (h c hc)
theorem fieldsAt (s : ByteArray) (w : World) (hs : s.size < 4294967281) (hascii : ∀ (j : Nat) b, s.data.toList[j]? = some b → b.toNat < 128) (hT : SpT w) : Calls Tryd.prog 71 #[.string s] w fun e w' =>
      e = .returned (.slice (some ⟨w.heap.size, 0, none⟩) (Lib.fields s.data.toList).length (Lib.fields s.data.toList).length) ∧ w' = w.alloc (.cells ((Lib.fields s.data.toList).map fun l => Value.string ⟨l.toArray⟩).toArray 9) :=
  Any.strings_Fields_core Tryd.lays157 (by kernel_rfl) s w hs hascii hT
end Go.Proofs.YtfodndnkhgijmaaDoor
