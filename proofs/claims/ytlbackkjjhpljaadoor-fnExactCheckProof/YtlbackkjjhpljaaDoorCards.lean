/-
  DERIVED. GIVEN WITH THE SEED: THE CARDS: each row of YtlbackkjjhpljaaDoorRows.lean that lists a variable, with what it lists TIED to the program's text (the seventh form; the later family's looks); each row that meets fmt, with fmt's text TOLD by the authors' own Lean function (tested against real Go, not proved from fmt's source: count such statements apart). THE CARD IS WHAT COUNTS. Prove the row's statement (the work); the ties are given (YtlbackkjjhpljaaDoorTie.lean); close each card by the builder's one call (the guide's Derived/Test/ToyasCard.lean, 'card_holds'). Laid BY PROGRAM, IN A SANDBOX (cutbox-door.mjs). By AI agents, Wed Nov 11 2026. No macro, syntax, notation, axiom, sorry.
-/
import Derived.Test.YtlbackkjjhpljaaDoorRows
import GoSem.ClaimSeven
namespace Go.Proofs.YtlbackkjjhpljaaDoor
namespace Rows

/-- THE TIED CARD OF 'laws.FnExactLeaf'. -/
def fnExactLeafCard : Claim7 := { stood := { row := fnExactLeafRow, standIns := [], harness := (true, "9bb95e2d7d614231625bbec2491608663dbcb81c9ae3710c9d918d0d25dfeb4d"), looks := false }, kinds := [], alts := [], laidByText := true, laidKinds := [.data], laidTests := true, laidLooks := .later }
def FnExactLeafCardSaid : Prop := Claim7.holds Tryd.pinned (.plain (OpenSpec.ofChange fnExactLeafSpec)) fnExactLeafCard

/-- THE TIED CARD OF 'laws.FnExactNode'. -/
def fnExactNodeCard : Claim7 := { stood := { row := fnExactNodeRow, standIns := [], harness := (true, "9bb95e2d7d614231625bbec2491608663dbcb81c9ae3710c9d918d0d25dfeb4d"), looks := false }, kinds := [], alts := [], laidByText := true, laidKinds := [.data], laidTests := true, laidLooks := .later }
def FnExactNodeCardSaid : Prop := Claim7.holds Tryd.pinned (.plain (OpenSpec.ofChange fnExactNodeSpec)) fnExactNodeCard

/-- THE TIED CARD OF 'laws.FnExactTreeRoot'. -/
def fnExactTreeRootCard : Claim7 := { stood := { row := fnExactTreeRootRow, standIns := [], harness := (true, "9bb95e2d7d614231625bbec2491608663dbcb81c9ae3710c9d918d0d25dfeb4d"), looks := false }, kinds := [], alts := [], laidByText := true, laidKinds := [.data], laidTests := true, laidLooks := .later }
def FnExactTreeRootCardSaid : Prop := Claim7.holds Tryd.pinned (.plain (OpenSpec.ofChange fnExactTreeRootSpec)) fnExactTreeRootCard

/-- THE TIED CARD OF 'laws.FnExactCheckProof'. -/
def fnExactCheckProofCard : Claim7 := { stood := { row := fnExactCheckProofRow, standIns := [], harness := (true, "9bb95e2d7d614231625bbec2491608663dbcb81c9ae3710c9d918d0d25dfeb4d"), looks := false }, kinds := [], alts := [], laidByText := true, laidKinds := [.data], laidTests := true, laidLooks := .later }
def FnExactCheckProofCardSaid : Prop := Claim7.holds Tryd.pinned (.plain (OpenSpec.ofChange fnExactCheckProofSpec)) fnExactCheckProofCard

/-- THE TIED CARD OF 'laws.FnExactGrow'. -/
def fnExactGrowCard : Claim7 := { stood := { row := fnExactGrowRow, standIns := [], harness := (true, "9bb95e2d7d614231625bbec2491608663dbcb81c9ae3710c9d918d0d25dfeb4d"), looks := false }, kinds := [], alts := [], laidByText := true, laidKinds := [.data], laidTests := true, laidLooks := .later }
def FnExactGrowCardSaid : Prop := Claim7.holds Tryd.pinned (.plain (OpenSpec.ofChange fnExactGrowSpec)) fnExactGrowCard

/-- THE TIED CARD OF 'laws.FnExactCheckPath'. -/
def fnExactCheckPathCard : Claim7 := { stood := { row := fnExactCheckPathRow, standIns := [], harness := (true, "9bb95e2d7d614231625bbec2491608663dbcb81c9ae3710c9d918d0d25dfeb4d"), looks := false }, kinds := [], alts := [], laidByText := true, laidKinds := [.data], laidTests := true, laidLooks := .later }
def FnExactCheckPathCardSaid : Prop := Claim7.holds Tryd.pinned (.plain (OpenSpec.ofChange fnExactCheckPathSpec)) fnExactCheckPathCard

/-- THE SECOND FORM's CARD OF 'laws.FnExactLeaf'. -/
def fnExactLeafUptoCard : Claim7 := { stood := { row := fnExactLeafUptoRow, standIns := [], harness := (true, "9bb95e2d7d614231625bbec2491608663dbcb81c9ae3710c9d918d0d25dfeb4d"), looks := false }, kinds := [], alts := [], laidByText := true, laidKinds := [.data], laidTests := true, laidLooks := .later }
def FnExactLeafUptoCardSaid : Prop := Claim7.holds Tryd.pinned (.plain (OpenSpec.upto fnExactLeafSpec)) fnExactLeafUptoCard

/-- THE SECOND FORM's CARD OF 'laws.FnExactNode'. -/
def fnExactNodeUptoCard : Claim7 := { stood := { row := fnExactNodeUptoRow, standIns := [], harness := (true, "9bb95e2d7d614231625bbec2491608663dbcb81c9ae3710c9d918d0d25dfeb4d"), looks := false }, kinds := [], alts := [], laidByText := true, laidKinds := [.data], laidTests := true, laidLooks := .later }
def FnExactNodeUptoCardSaid : Prop := Claim7.holds Tryd.pinned (.plain (OpenSpec.upto fnExactNodeSpec)) fnExactNodeUptoCard

/-- THE SECOND FORM's CARD OF 'laws.FnExactTreeRoot'. -/
def fnExactTreeRootUptoCard : Claim7 := { stood := { row := fnExactTreeRootUptoRow, standIns := [], harness := (true, "9bb95e2d7d614231625bbec2491608663dbcb81c9ae3710c9d918d0d25dfeb4d"), looks := false }, kinds := [], alts := [], laidByText := true, laidKinds := [.data], laidTests := true, laidLooks := .later }
def FnExactTreeRootUptoCardSaid : Prop := Claim7.holds Tryd.pinned (.plain (OpenSpec.upto fnExactTreeRootSpec)) fnExactTreeRootUptoCard

/-- THE SECOND FORM's CARD OF 'laws.FnExactCheckProof'. -/
def fnExactCheckProofUptoCard : Claim7 := { stood := { row := fnExactCheckProofUptoRow, standIns := [], harness := (true, "9bb95e2d7d614231625bbec2491608663dbcb81c9ae3710c9d918d0d25dfeb4d"), looks := false }, kinds := [], alts := [], laidByText := true, laidKinds := [.data], laidTests := true, laidLooks := .later }
def FnExactCheckProofUptoCardSaid : Prop := Claim7.holds Tryd.pinned (.plain (OpenSpec.upto fnExactCheckProofSpec)) fnExactCheckProofUptoCard

/-- THE SECOND FORM's CARD OF 'laws.FnExactGrow'. -/
def fnExactGrowUptoCard : Claim7 := { stood := { row := fnExactGrowUptoRow, standIns := [], harness := (true, "9bb95e2d7d614231625bbec2491608663dbcb81c9ae3710c9d918d0d25dfeb4d"), looks := false }, kinds := [], alts := [], laidByText := true, laidKinds := [.data], laidTests := true, laidLooks := .later }
def FnExactGrowUptoCardSaid : Prop := Claim7.holds Tryd.pinned (.plain (OpenSpec.upto fnExactGrowSpec)) fnExactGrowUptoCard

/-- THE SECOND FORM's CARD OF 'laws.FnExactCheckPath'. -/
def fnExactCheckPathUptoCard : Claim7 := { stood := { row := fnExactCheckPathUptoRow, standIns := [], harness := (true, "9bb95e2d7d614231625bbec2491608663dbcb81c9ae3710c9d918d0d25dfeb4d"), looks := false }, kinds := [], alts := [], laidByText := true, laidKinds := [.data], laidTests := true, laidLooks := .later }
def FnExactCheckPathUptoCardSaid : Prop := Claim7.holds Tryd.pinned (.plain (OpenSpec.upto fnExactCheckPathSpec)) fnExactCheckPathUptoCard
end Rows
end Go.Proofs.YtlbackkjjhpljaaDoor
