/-
  DERIVED. GIVEN WITH THE SEED: THE CARDS: each row of YtfodndnkhgijmaaDoorRows.lean that lists a variable, with what it lists TIED to the program's text (the seventh form; the later family's looks); each row that meets fmt, with fmt's text TOLD by the authors' own Lean function (tested against real Go, not proved from fmt's source: count such statements apart). THE CARD IS WHAT COUNTS. Prove the row's statement (the work); the ties are given (YtfodndnkhgijmaaDoorTie.lean); close each card by the builder's one call (the guide's Derived/Test/ToyasCard.lean, 'card_holds'). Laid BY PROGRAM, IN A SANDBOX (cutbox-door.mjs). By AI agents, Wed Nov 11 2026. No macro, syntax, notation, axiom, sorry.
-/
import Derived.Test.YtfodndnkhgijmaaDoorRows
import GoSem.ClaimSeven
namespace Go.Proofs.YtfodndnkhgijmaaDoor
namespace Rows

/-- THE TIED CARD OF 'laws.FnExactDbOK'. -/
def fnExactDbOKCard : Claim7 := { stood := { row := fnExactDbOKRow, standIns := [], harness := (true, "06bfdeac53d13464783a23740d332c86c4c969af8f8ee96742ad9c40acec9754"), looks := false }, kinds := [], alts := [], laidByText := true, laidKinds := [.listed, .data], laidTests := true, laidLooks := .later }
def FnExactDbOKCardSaid : Prop := Claim7.holds Tryd.pinned (.plain (OpenSpec.ofChange fnExactDbOKSpec)) fnExactDbOKCard

/-- THE TIED CARD OF 'laws.FnExactStmOK'. -/
def fnExactStmOKCard : Claim7 := { stood := { row := fnExactStmOKRow, standIns := [], harness := (true, "06bfdeac53d13464783a23740d332c86c4c969af8f8ee96742ad9c40acec9754"), looks := false }, kinds := [], alts := [], laidByText := true, laidKinds := [.listed, .data], laidTests := true, laidLooks := .later }
def FnExactStmOKCardSaid : Prop := Claim7.holds Tryd.pinned (.plain (OpenSpec.ofChange fnExactStmOKSpec)) fnExactStmOKCard

/-- THE TIED CARD OF 'laws.FnExactEncodeStm'. -/
def fnExactEncodeStmCard : Claim7 := { stood := { row := fnExactEncodeStmRow, standIns := [], harness := (true, "06bfdeac53d13464783a23740d332c86c4c969af8f8ee96742ad9c40acec9754"), looks := false }, kinds := [], alts := [], laidByText := true, laidKinds := [.listed, .data], laidTests := true, laidLooks := .later }
def FnExactEncodeStmCardSaid : Prop := Claim7.holds Tryd.pinned (.plain (OpenSpec.ofChange fnExactEncodeStmSpec)) fnExactEncodeStmCard

/-- THE SECOND FORM's CARD OF 'laws.FnExactDbOK'. -/
def fnExactDbOKUptoCard : Claim7 := { stood := { row := fnExactDbOKUptoRow, standIns := [], harness := (true, "06bfdeac53d13464783a23740d332c86c4c969af8f8ee96742ad9c40acec9754"), looks := false }, kinds := [], alts := [], laidByText := true, laidKinds := [.listed, .data], laidTests := true, laidLooks := .later }
def FnExactDbOKUptoCardSaid : Prop := Claim7.holds Tryd.pinned (.plain (OpenSpec.upto fnExactDbOKSpec)) fnExactDbOKUptoCard

/-- THE SECOND FORM's CARD OF 'laws.FnExactStmOK'. -/
def fnExactStmOKUptoCard : Claim7 := { stood := { row := fnExactStmOKUptoRow, standIns := [], harness := (true, "06bfdeac53d13464783a23740d332c86c4c969af8f8ee96742ad9c40acec9754"), looks := false }, kinds := [], alts := [], laidByText := true, laidKinds := [.listed, .data], laidTests := true, laidLooks := .later }
def FnExactStmOKUptoCardSaid : Prop := Claim7.holds Tryd.pinned (.plain (OpenSpec.upto fnExactStmOKSpec)) fnExactStmOKUptoCard

/-- THE SECOND FORM's CARD OF 'laws.FnExactEncodeStm'. -/
def fnExactEncodeStmUptoCard : Claim7 := { stood := { row := fnExactEncodeStmUptoRow, standIns := [], harness := (true, "06bfdeac53d13464783a23740d332c86c4c969af8f8ee96742ad9c40acec9754"), looks := false }, kinds := [], alts := [], laidByText := true, laidKinds := [.listed, .data], laidTests := true, laidLooks := .later }
def FnExactEncodeStmUptoCardSaid : Prop := Claim7.holds Tryd.pinned (.plain (OpenSpec.upto fnExactEncodeStmSpec)) fnExactEncodeStmUptoCard
end Rows
end Go.Proofs.YtfodndnkhgijmaaDoor
