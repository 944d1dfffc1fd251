/-
  What the rows of this seat lean on: the two listed variables, the knobs.
-/
import Derived.Test.YtfodndnkhgijmaaDoorCards
import Derived.Test.YtfodndnkhgijmaaDoorTie
import Derived.Test.YtfodndnkhgijmaaDoorFl
import Derived.OpenShut
import Derived.ShutString
import Derived.Deep.DeepHandedRow
import Derived.Deep.DeepWitnessRowRef
import Derived.Deep.DeepLaidRun
import Derived.Lib.LaidTab
import Derived.Lib.SpaceR
import Derived.Stop.LaidErr
import Derived.OpenVars
namespace Go.Proofs.YtfodndnkhgijmaaDoor
open Go.ChangeShapes Go.WideShapes Go.ChangeAt Go.RowKit
theorem lawOwn : ownKnob Tryd.prog.godebug = none := by kernel_rfl
theorem lawLaidOut : laidOutB Tryd.prog = true := by kernel_rfl
theorem gSp : Tryd.prog.globalNamed "strings.asciiSpace" = some 0 := by kernel_rfl
theorem gSpType : (Tryd.prog.globals[0]?).map (·.type) = some 158 := by kernel_rfl
theorem laid_sp : (Rows.laid_strings_asciiSpace : DataW Unit) = Lib.tabData .u8 Lib.asciiSpaceTab := by kernel_rfl
theorem spt_of {W : World} (h : laidMetH Tryd.prog [("unicode.White_Space", Rows.laid_unicode_White_Space), ("strings.asciiSpace", Rows.laid_strings_asciiSpace)] W) : SpT W := by
  have h1 : laidMet Tryd.prog [("unicode.White_Space", Rows.laid_unicode_White_Space), ("strings.asciiSpace", Rows.laid_strings_asciiSpace)] W := h
  have h2 := h1.tail
  rw [laid_sp] at h2
  have htab := Lib.tabIs_of_head gSp gSpType Tryd.underlying158 Tryd.underlying5 (by kernel_rfl) (by kernel_rfl) h2
  intro c hc
  rw [htab.cell gSp c (by rw [Lib.asciiSpaceTab_length]; exact hc), Lib.asciiSpaceTab_at c hc]
end Go.Proofs.YtfodndnkhgijmaaDoor
