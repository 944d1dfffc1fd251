/-
  DERIVED. GIVEN WITH THE SEED: THE CARDS: each row of YtgeiamgeclbiaaaGreatDoorRows.lean that lists a variable, with what it lists TIED to the program's text (the seventh form; the later family's looks); each row that meets fmt, with fmt's text TOLD by the authors' own Lean function (tested against real Go, not proved from fmt's source: count such statements apart). THE CARD IS WHAT COUNTS. Prove the row's statement (the work); the ties are given (YtgeiamgeclbiaaaGreatDoorTie.lean); close each card by the builder's one call (the guide's Derived/Test/ToyasCard.lean, 'card_holds'). Laid BY PROGRAM, IN A SANDBOX (cutbox-door.mjs). By AI agents, Wed Nov 11 2026. No macro, syntax, notation, axiom, sorry.
-/
import Derived.Test.YtgeiamgeclbiaaaGreatDoorRows
import GoSem.ClaimSeven
namespace Go.Proofs.YtgeiamgeclbiaaaGreatDoor
namespace Rows

/-- THE TIED CARD OF 'laws.FnExactSelectRows'. -/
def fnExactSelectRowsCard : Claim7 := { stood := { row := fnExactSelectRowsRow, standIns := [], harness := (true, "a8ae950c79a2216f45e643fafb65131b2688b067764bd049a239dd6c5276cb2a"), looks := false }, kinds := [], alts := [], laidByText := true, laidKinds := [.listed, .data], laidTests := true, laidLooks := .later }
def FnExactSelectRowsCardSaid : Prop := Claim7.holds Tryz.pinned (.plain (OpenSpec.ofChange fnExactSelectRowsSpec)) fnExactSelectRowsCard

/-- THE TIED CARD OF 'laws.FnExactApplyStm'. -/
def fnExactApplyStmCard : Claim7 := { stood := { row := fnExactApplyStmRow, standIns := [], harness := (true, "a8ae950c79a2216f45e643fafb65131b2688b067764bd049a239dd6c5276cb2a"), looks := false }, kinds := [], alts := [], laidByText := true, laidKinds := [.listed, .data], laidTests := true, laidLooks := .later }
def FnExactApplyStmCardSaid : Prop := Claim7.holds Tryz.pinned (.plain (OpenSpec.ofChange fnExactApplyStmSpec)) fnExactApplyStmCard

/-- THE SECOND FORM's CARD OF 'laws.FnExactSelectRows'. -/
def fnExactSelectRowsUptoCard : Claim7 := { stood := { row := fnExactSelectRowsUptoRow, standIns := [], harness := (true, "a8ae950c79a2216f45e643fafb65131b2688b067764bd049a239dd6c5276cb2a"), looks := false }, kinds := [], alts := [], laidByText := true, laidKinds := [.listed, .data], laidTests := true, laidLooks := .later }
def FnExactSelectRowsUptoCardSaid : Prop := Claim7.holds Tryz.pinned (.plain (OpenSpec.upto fnExactSelectRowsSpec)) fnExactSelectRowsUptoCard

/-- THE SECOND FORM's CARD OF 'laws.FnExactApplyStm'. -/
def fnExactApplyStmUptoCard : Claim7 := { stood := { row := fnExactApplyStmUptoRow, standIns := [], harness := (true, "a8ae950c79a2216f45e643fafb65131b2688b067764bd049a239dd6c5276cb2a"), looks := false }, kinds := [], alts := [], laidByText := true, laidKinds := [.listed, .data], laidTests := true, laidLooks := .later }
def FnExactApplyStmUptoCardSaid : Prop := Claim7.holds Tryz.pinned (.plain (OpenSpec.upto fnExactApplyStmSpec)) fnExactApplyStmUptoCard
end Rows
end Go.Proofs.YtgeiamgeclbiaaaGreatDoor
