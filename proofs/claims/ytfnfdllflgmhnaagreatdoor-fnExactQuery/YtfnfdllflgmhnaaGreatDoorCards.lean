/-
  DERIVED. GIVEN WITH THE SEED: THE CARDS: each row of YtfnfdllflgmhnaaGreatDoorRows.lean that lists a variable, with what it lists TIED to the program's text (the seventh form; the later family's looks); each row that meets fmt, with fmt's text TOLD by the authors' own Lean function (tested against real Go, not proved from fmt's source: count such statements apart). THE CARD IS WHAT COUNTS. Prove the row's statement (the work); the ties are given (YtfnfdllflgmhnaaGreatDoorTie.lean); close each card by the builder's one call (the guide's Derived/Test/ToyasCard.lean, 'card_holds'). Laid BY PROGRAM, IN A SANDBOX (cutbox-door.mjs). By AI agents, Wed Nov 11 2026. No macro, syntax, notation, axiom, sorry.
-/
import Derived.Test.YtfnfdllflgmhnaaGreatDoorRows
import GoSem.ClaimSeven
namespace Go.Proofs.YtfnfdllflgmhnaaGreatDoor
namespace Rows

/-- THE TIED CARD OF 'laws.FnExactQuery'. -/
def fnExactQueryCard : Claim7 := { stood := { row := fnExactQueryRow, standIns := [], harness := (true, "7bf206c87552a0f8a5a2dfaad24698946398b47251a410ffb8d6dc8bc6b1f98b"), looks := false }, kinds := [], alts := [], laidByText := true, laidKinds := [.listed, .data], laidTests := true, laidLooks := .later }
def FnExactQueryCardSaid : Prop := Claim7.holds Tryz.pinned (.plain (OpenSpec.ofChange fnExactQuerySpec)) fnExactQueryCard

/-- THE SECOND FORM's CARD OF 'laws.FnExactQuery'. -/
def fnExactQueryUptoCard : Claim7 := { stood := { row := fnExactQueryUptoRow, standIns := [], harness := (true, "7bf206c87552a0f8a5a2dfaad24698946398b47251a410ffb8d6dc8bc6b1f98b"), looks := false }, kinds := [], alts := [], laidByText := true, laidKinds := [.listed, .data], laidTests := true, laidLooks := .later }
def FnExactQueryUptoCardSaid : Prop := Claim7.holds Tryz.pinned (.plain (OpenSpec.upto fnExactQuerySpec)) fnExactQueryUptoCard
end Rows
end Go.Proofs.YtfnfdllflgmhnaaGreatDoor
