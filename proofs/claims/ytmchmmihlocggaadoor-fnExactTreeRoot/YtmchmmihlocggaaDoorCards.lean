/-
  DERIVED. GIVEN WITH THE SEED: THE CARDS: each row of YtmchmmihlocggaaDoorRows.lean that lists a variable, with what it lists TIED to the program's text (the seventh form; the later family's looks); each row that meets fmt, with fmt's text TOLD by the authors' own Lean function (tested against real Go, not proved from fmt's source: count such statements apart). THE CARD IS WHAT COUNTS. Prove the row's statement (the work); the ties are given (YtmchmmihlocggaaDoorTie.lean); close each card by the builder's one call (the guide's Derived/Test/ToyasCard.lean, 'card_holds'). Laid BY PROGRAM, IN A SANDBOX (cutbox-door.mjs). By AI agents, Wed Nov 11 2026. No macro, syntax, notation, axiom, sorry.
-/
import Derived.Test.YtmchmmihlocggaaDoorRows
import GoSem.ClaimSeven
namespace Go.Proofs.YtmchmmihlocggaaDoor
namespace Rows

/-- THE TIED CARD OF 'laws.FnExactLeaf'. -/
def fnExactLeafCard : Claim7 := { stood := { row := fnExactLeafRow, standIns := [], harness := (true, "b9d83b405f499fe3db8eb0f8e0e144285c456c6cf0c699c7cfede2b5fd65ab0f"), looks := false }, kinds := [], alts := [], laidByText := true, laidKinds := [.data], laidTests := true, laidLooks := .later }
def FnExactLeafCardSaid : Prop := Claim7.holds Tryd.pinned (.plain (OpenSpec.ofChange fnExactLeafSpec)) fnExactLeafCard

/-- THE TIED CARD OF 'laws.FnExactNode'. -/
def fnExactNodeCard : Claim7 := { stood := { row := fnExactNodeRow, standIns := [], harness := (true, "b9d83b405f499fe3db8eb0f8e0e144285c456c6cf0c699c7cfede2b5fd65ab0f"), looks := false }, kinds := [], alts := [], laidByText := true, laidKinds := [.data], laidTests := true, laidLooks := .later }
def FnExactNodeCardSaid : Prop := Claim7.holds Tryd.pinned (.plain (OpenSpec.ofChange fnExactNodeSpec)) fnExactNodeCard

/-- THE TIED CARD OF 'laws.FnExactRoot'. -/
def fnExactRootCard : Claim7 := { stood := { row := fnExactRootRow, standIns := [], harness := (true, "b9d83b405f499fe3db8eb0f8e0e144285c456c6cf0c699c7cfede2b5fd65ab0f"), looks := false }, kinds := [], alts := [], goes := true, laidByText := true, laidKinds := [.data], laidTests := true, laidLooks := .later }
def FnExactRootCardSaid : Prop := Claim7.holds Tryd.pinned (.plain (OpenSpec.ofChange fnExactRootSpec)) fnExactRootCard

/-- THE TIED CARD OF 'laws.FnExactTreeRoot'. -/
def fnExactTreeRootCard : Claim7 := { stood := { row := fnExactTreeRootRow, standIns := [], harness := (true, "b9d83b405f499fe3db8eb0f8e0e144285c456c6cf0c699c7cfede2b5fd65ab0f"), looks := false }, kinds := [], alts := [], laidByText := true, laidKinds := [.data], laidTests := true, laidLooks := .later }
def FnExactTreeRootCardSaid : Prop := Claim7.holds Tryd.pinned (.plain (OpenSpec.ofChange fnExactTreeRootSpec)) fnExactTreeRootCard

/-- THE TIED CARD OF 'laws.FnExactPath'. -/
def fnExactPathCard : Claim7 := { stood := { row := fnExactPathRow, standIns := [], harness := (true, "b9d83b405f499fe3db8eb0f8e0e144285c456c6cf0c699c7cfede2b5fd65ab0f"), looks := false }, kinds := [], alts := [], goes := true, laidByText := true, laidKinds := [.data], laidTests := true, laidLooks := .later }
def FnExactPathCardSaid : Prop := Claim7.holds Tryd.pinned (.plain (OpenSpec.ofChange fnExactPathSpec)) fnExactPathCard

/-- THE SECOND FORM's CARD OF 'laws.FnExactLeaf'. -/
def fnExactLeafUptoCard : Claim7 := { stood := { row := fnExactLeafUptoRow, standIns := [], harness := (true, "b9d83b405f499fe3db8eb0f8e0e144285c456c6cf0c699c7cfede2b5fd65ab0f"), looks := false }, kinds := [], alts := [], laidByText := true, laidKinds := [.data], laidTests := true, laidLooks := .later }
def FnExactLeafUptoCardSaid : Prop := Claim7.holds Tryd.pinned (.plain (OpenSpec.upto fnExactLeafSpec)) fnExactLeafUptoCard

/-- THE SECOND FORM's CARD OF 'laws.FnExactNode'. -/
def fnExactNodeUptoCard : Claim7 := { stood := { row := fnExactNodeUptoRow, standIns := [], harness := (true, "b9d83b405f499fe3db8eb0f8e0e144285c456c6cf0c699c7cfede2b5fd65ab0f"), looks := false }, kinds := [], alts := [], laidByText := true, laidKinds := [.data], laidTests := true, laidLooks := .later }
def FnExactNodeUptoCardSaid : Prop := Claim7.holds Tryd.pinned (.plain (OpenSpec.upto fnExactNodeSpec)) fnExactNodeUptoCard

/-- THE SECOND FORM's CARD OF 'laws.FnExactRoot'. -/
def fnExactRootUptoCard : Claim7 := { stood := { row := fnExactRootUptoRow, standIns := [], harness := (true, "b9d83b405f499fe3db8eb0f8e0e144285c456c6cf0c699c7cfede2b5fd65ab0f"), looks := false }, kinds := [], alts := [], goes := true, laidByText := true, laidKinds := [.data], laidTests := true, laidLooks := .later }
def FnExactRootUptoCardSaid : Prop := Claim7.holds Tryd.pinned (.plain (OpenSpec.upto fnExactRootSpec)) fnExactRootUptoCard

/-- THE SECOND FORM's CARD OF 'laws.FnExactTreeRoot'. -/
def fnExactTreeRootUptoCard : Claim7 := { stood := { row := fnExactTreeRootUptoRow, standIns := [], harness := (true, "b9d83b405f499fe3db8eb0f8e0e144285c456c6cf0c699c7cfede2b5fd65ab0f"), looks := false }, kinds := [], alts := [], laidByText := true, laidKinds := [.data], laidTests := true, laidLooks := .later }
def FnExactTreeRootUptoCardSaid : Prop := Claim7.holds Tryd.pinned (.plain (OpenSpec.upto fnExactTreeRootSpec)) fnExactTreeRootUptoCard

/-- THE SECOND FORM's CARD OF 'laws.FnExactPath'. -/
def fnExactPathUptoCard : Claim7 := { stood := { row := fnExactPathUptoRow, standIns := [], harness := (true, "b9d83b405f499fe3db8eb0f8e0e144285c456c6cf0c699c7cfede2b5fd65ab0f"), looks := false }, kinds := [], alts := [], goes := true, laidByText := true, laidKinds := [.data], laidTests := true, laidLooks := .later }
def FnExactPathUptoCardSaid : Prop := Claim7.holds Tryd.pinned (.plain (OpenSpec.upto fnExactPathSpec)) fnExactPathUptoCard
end Rows
end Go.Proofs.YtmchmmihlocggaaDoor
