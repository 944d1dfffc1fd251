/-
  DERIVED. GIVEN WITH THE SEED: THE CARDS: each row of YtnbgdfhfmbgbhaaGreatDoorRows.lean that lists a variable, with what it lists TIED to the program's text (the seventh form; the later family's looks); each row that meets fmt, with fmt's text TOLD by the authors' own Lean function (tested against real Go, not proved from fmt's source: count such statements apart). THE CARD IS WHAT COUNTS. Prove the row's statement (the work); the ties are given (YtnbgdfhfmbgbhaaGreatDoorTie.lean); close each card by the builder's one call (the guide's Derived/Test/ToyasCard.lean, 'card_holds'). Laid BY PROGRAM, IN A SANDBOX (cutbox-door.mjs). By AI agents, Wed Nov 11 2026. No macro, syntax, notation, axiom, sorry.
-/
import Derived.Test.YtnbgdfhfmbgbhaaGreatDoorRows
import GoSem.ClaimSeven
namespace Go.Proofs.YtnbgdfhfmbgbhaaGreatDoor
namespace Rows

/-- THE TIED CARD OF 'laws.FnExactDecodeStm'. -/
def fnExactDecodeStmCard : Claim7 := { stood := { row := fnExactDecodeStmRow, standIns := [], harness := (true, "c91ccfa80d07a2f0f76ba38b66470823fe63a9612d5ac3cadb2a25a3029d45e4"), looks := true }, kinds := [], alts := [], laidByText := true, laidKinds := [.listed, .data], laidTests := true, laidLooks := .later }
def FnExactDecodeStmCardSaid : Prop := Claim7.holds Tryz.pinned (.plain (OpenSpec.ofChange fnExactDecodeStmSpec)) fnExactDecodeStmCard

/-- THE TIED CARD OF 'laws.FnExactPrintSql'. -/
def fnExactPrintSqlCard : Claim7 := { stood := { row := fnExactPrintSqlRow, standIns := [], harness := (true, "c91ccfa80d07a2f0f76ba38b66470823fe63a9612d5ac3cadb2a25a3029d45e4"), looks := true }, kinds := [], alts := [], laidByText := true, laidKinds := [.data, .data, .data, .data, .listed, .data, .pinned], laidTests := true, laidLooks := .later }
def FnExactPrintSqlCardSaid : Prop := Claim7.holds Tryz.pinned (.plain (OpenSpec.ofChange fnExactPrintSqlSpec)) fnExactPrintSqlCard

/-- THE SECOND FORM's CARD OF 'laws.FnExactDecodeStm'. -/
def fnExactDecodeStmUptoCard : Claim7 := { stood := { row := fnExactDecodeStmUptoRow, standIns := [], harness := (true, "c91ccfa80d07a2f0f76ba38b66470823fe63a9612d5ac3cadb2a25a3029d45e4"), looks := true }, kinds := [], alts := [], laidByText := true, laidKinds := [.listed, .data], laidTests := true, laidLooks := .later }
def FnExactDecodeStmUptoCardSaid : Prop := Claim7.holds Tryz.pinned (.plain (OpenSpec.upto fnExactDecodeStmSpec)) fnExactDecodeStmUptoCard

/-- THE SECOND FORM's CARD OF 'laws.FnExactPrintSql'. -/
def fnExactPrintSqlUptoCard : Claim7 := { stood := { row := fnExactPrintSqlUptoRow, standIns := [], harness := (true, "c91ccfa80d07a2f0f76ba38b66470823fe63a9612d5ac3cadb2a25a3029d45e4"), looks := true }, kinds := [], alts := [], laidByText := true, laidKinds := [.data, .data, .data, .data, .listed, .data, .pinned], laidTests := true, laidLooks := .later }
def FnExactPrintSqlUptoCardSaid : Prop := Claim7.holds Tryz.pinned (.plain (OpenSpec.upto fnExactPrintSqlSpec)) fnExactPrintSqlUptoCard
end Rows
end Go.Proofs.YtnbgdfhfmbgbhaaGreatDoor
