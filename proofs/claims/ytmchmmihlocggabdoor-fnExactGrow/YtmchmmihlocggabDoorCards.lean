/-
  DERIVED. GIVEN WITH THE SEED: THE CARDS: each row of YtmchmmihlocggabDoorRows.lean that lists a variable, with what it lists TIED to the program's text (the seventh form; the later family's looks); each row that meets fmt, with fmt's text TOLD by the authors' own Lean function (tested against real Go, not proved from fmt's source: count such statements apart). THE CARD IS WHAT COUNTS. Prove the row's statement (the work); the ties are given (YtmchmmihlocggabDoorTie.lean); close each card by the builder's one call (the guide's Derived/Test/ToyasCard.lean, 'card_holds'). Laid BY PROGRAM, IN A SANDBOX (cutbox-door.mjs). By AI agents, Wed Nov 11 2026. No macro, syntax, notation, axiom, sorry.
-/
import Derived.Test.YtmchmmihlocggabDoorRows
import GoSem.ClaimSeven
namespace Go.Proofs.YtmchmmihlocggabDoor
namespace Rows

/-- THE TIED CARD OF 'laws.FnExactProof'. -/
def fnExactProofCard : Claim7 := { stood := { row := fnExactProofRow, standIns := [], harness := (true, "3ded44b943b7a784d3b4edfc4b4b856d0c0c57ce339d6c141330526ffaa0a082"), looks := false }, kinds := [], alts := [], goes := true, laidByText := true, laidKinds := [.data], laidTests := true, laidLooks := .later }
def FnExactProofCardSaid : Prop := Claim7.holds Tryd.pinned (.plain (OpenSpec.ofChange fnExactProofSpec)) fnExactProofCard

/-- THE TIED CARD OF 'laws.FnExactGrow'. -/
def fnExactGrowCard : Claim7 := { stood := { row := fnExactGrowRow, standIns := [], harness := (true, "3ded44b943b7a784d3b4edfc4b4b856d0c0c57ce339d6c141330526ffaa0a082"), looks := false }, kinds := [], alts := [], laidByText := true, laidKinds := [.data], laidTests := true, laidLooks := .later }
def FnExactGrowCardSaid : Prop := Claim7.holds Tryd.pinned (.plain (OpenSpec.ofChange fnExactGrowSpec)) fnExactGrowCard

/-- THE SECOND FORM's CARD OF 'laws.FnExactProof'. -/
def fnExactProofUptoCard : Claim7 := { stood := { row := fnExactProofUptoRow, standIns := [], harness := (true, "3ded44b943b7a784d3b4edfc4b4b856d0c0c57ce339d6c141330526ffaa0a082"), looks := false }, kinds := [], alts := [], goes := true, laidByText := true, laidKinds := [.data], laidTests := true, laidLooks := .later }
def FnExactProofUptoCardSaid : Prop := Claim7.holds Tryd.pinned (.plain (OpenSpec.upto fnExactProofSpec)) fnExactProofUptoCard

/-- THE SECOND FORM's CARD OF 'laws.FnExactGrow'. -/
def fnExactGrowUptoCard : Claim7 := { stood := { row := fnExactGrowUptoRow, standIns := [], harness := (true, "3ded44b943b7a784d3b4edfc4b4b856d0c0c57ce339d6c141330526ffaa0a082"), looks := false }, kinds := [], alts := [], laidByText := true, laidKinds := [.data], laidTests := true, laidLooks := .later }
def FnExactGrowUptoCardSaid : Prop := Claim7.holds Tryd.pinned (.plain (OpenSpec.upto fnExactGrowSpec)) fnExactGrowUptoCard
end Rows
end Go.Proofs.YtmchmmihlocggabDoor
