/-
  DERIVED. GIVEN WITH THE SEED: THE CARDS: each row of YtlbackkjjhpljaaGreatDoorRows.lean that lists a variable, with what it lists TIED to the program's text (the seventh form; the later family's looks); each row that meets fmt, with fmt's text TOLD by the authors' own Lean function (tested against real Go, not proved from fmt's source: count such statements apart). THE CARD IS WHAT COUNTS. Prove the row's statement (the work); the ties are given (YtlbackkjjhpljaaGreatDoorTie.lean); close each card by the builder's one call (the guide's Derived/Test/ToyasCard.lean, 'card_holds'). Laid BY PROGRAM, IN A SANDBOX (cutbox-door.mjs). By AI agents, Wed Nov 11 2026. No macro, syntax, notation, axiom, sorry.
-/
import Derived.Test.YtlbackkjjhpljaaGreatDoorRows
import GoSem.ClaimSeven
namespace Go.Proofs.YtlbackkjjhpljaaGreatDoor
namespace Rows

/-- THE TIED CARD OF 'laws.FnExactCollidePath'. -/
def fnExactCollidePathCard : Claim7 := { stood := { row := fnExactCollidePathRow, standIns := [], harness := (true, "d0dd355c5cd81b1aba65c272cab2d421b5d00ef4ff9ca050be1644d54fc5c7c0"), looks := true }, kinds := [], alts := [], goes := true, laidByText := true, laidKinds := [.handle, .data], laidTests := true, laidLooks := .later }
def FnExactCollidePathCardSaid : Prop := Claim7.holds Tryz.pinned (.plain (OpenSpec.ofChange fnExactCollidePathSpec)) fnExactCollidePathCard

/-- THE TIED CARD OF 'laws.FnExactCollideProof'. -/
def fnExactCollideProofCard : Claim7 := { stood := { row := fnExactCollideProofRow, standIns := [], harness := (true, "d0dd355c5cd81b1aba65c272cab2d421b5d00ef4ff9ca050be1644d54fc5c7c0"), looks := true }, kinds := [], alts := [], goes := true, laidByText := true, laidKinds := [.handle, .data], laidTests := true, laidLooks := .later }
def FnExactCollideProofCardSaid : Prop := Claim7.holds Tryz.pinned (.plain (OpenSpec.ofChange fnExactCollideProofSpec)) fnExactCollideProofCard

/-- THE TIED CARD OF 'laws.FnLiePath'. -/
def fnLiePathCard : Claim7 := { stood := { row := fnLiePathRow, standIns := [], harness := (true, "d0dd355c5cd81b1aba65c272cab2d421b5d00ef4ff9ca050be1644d54fc5c7c0"), looks := true }, kinds := [], alts := [], goes := true, laidByText := true, laidKinds := [.handle, .data], laidTests := true, laidLooks := .later }
def FnLiePathCardSaid : Prop := Claim7.holds Tryz.pinned (.plain (OpenSpec.ofChange fnLiePathSpec)) fnLiePathCard

/-- THE TIED CARD OF 'laws.FnLie'. -/
def fnLieCard : Claim7 := { stood := { row := fnLieRow, standIns := [], harness := (true, "d0dd355c5cd81b1aba65c272cab2d421b5d00ef4ff9ca050be1644d54fc5c7c0"), looks := true }, kinds := [], alts := [], goes := true, laidByText := true, laidKinds := [.handle, .data], laidTests := true, laidLooks := .later }
def FnLieCardSaid : Prop := Claim7.holds Tryz.pinned (.plain (OpenSpec.ofChange fnLieSpec)) fnLieCard

/-- THE SECOND FORM's CARD OF 'laws.FnExactCollidePath'. -/
def fnExactCollidePathUptoCard : Claim7 := { stood := { row := fnExactCollidePathUptoRow, standIns := [], harness := (true, "d0dd355c5cd81b1aba65c272cab2d421b5d00ef4ff9ca050be1644d54fc5c7c0"), looks := true }, kinds := [], alts := [], goes := true, laidByText := true, laidKinds := [.handle, .data], laidTests := true, laidLooks := .later }
def FnExactCollidePathUptoCardSaid : Prop := Claim7.holds Tryz.pinned (.plain (OpenSpec.upto fnExactCollidePathSpec)) fnExactCollidePathUptoCard

/-- THE SECOND FORM's CARD OF 'laws.FnExactCollideProof'. -/
def fnExactCollideProofUptoCard : Claim7 := { stood := { row := fnExactCollideProofUptoRow, standIns := [], harness := (true, "d0dd355c5cd81b1aba65c272cab2d421b5d00ef4ff9ca050be1644d54fc5c7c0"), looks := true }, kinds := [], alts := [], goes := true, laidByText := true, laidKinds := [.handle, .data], laidTests := true, laidLooks := .later }
def FnExactCollideProofUptoCardSaid : Prop := Claim7.holds Tryz.pinned (.plain (OpenSpec.upto fnExactCollideProofSpec)) fnExactCollideProofUptoCard

/-- THE SECOND FORM's CARD OF 'laws.FnLiePath'. -/
def fnLiePathUptoCard : Claim7 := { stood := { row := fnLiePathUptoRow, standIns := [], harness := (true, "d0dd355c5cd81b1aba65c272cab2d421b5d00ef4ff9ca050be1644d54fc5c7c0"), looks := true }, kinds := [], alts := [], goes := true, laidByText := true, laidKinds := [.handle, .data], laidTests := true, laidLooks := .later }
def FnLiePathUptoCardSaid : Prop := Claim7.holds Tryz.pinned (.plain (OpenSpec.upto fnLiePathSpec)) fnLiePathUptoCard

/-- THE SECOND FORM's CARD OF 'laws.FnLie'. -/
def fnLieUptoCard : Claim7 := { stood := { row := fnLieUptoRow, standIns := [], harness := (true, "d0dd355c5cd81b1aba65c272cab2d421b5d00ef4ff9ca050be1644d54fc5c7c0"), looks := true }, kinds := [], alts := [], goes := true, laidByText := true, laidKinds := [.handle, .data], laidTests := true, laidLooks := .later }
def FnLieUptoCardSaid : Prop := Claim7.holds Tryz.pinned (.plain (OpenSpec.upto fnLieSpec)) fnLieUptoCard
end Rows
end Go.Proofs.YtlbackkjjhpljaaGreatDoor
