/-
  DERIVED. GIVEN WITH THE SEED: THE CARDS: each row of YtdbcihebhgpblaaDoorRows.lean that lists a variable, with what it lists TIED to the program's text (the seventh form; the later family's looks); each row that meets fmt, with fmt's text TOLD by the authors' own Lean function (tested against real Go, not proved from fmt's source: count such statements apart). THE CARD IS WHAT COUNTS. Prove the row's statement (the work); the ties are given (YtdbcihebhgpblaaDoorTie.lean); close each card by the builder's one call (the guide's Derived/Test/ToyasCard.lean, 'card_holds'). Laid BY PROGRAM, IN A SANDBOX (cutbox-door.mjs). By AI agents, Wed Nov 11 2026. No macro, syntax, notation, axiom, sorry.
-/
import Derived.Test.YtdbcihebhgpblaaDoorRows
import GoSem.ClaimSeven
namespace Go.Proofs.YtdbcihebhgpblaaDoor
namespace Rows

/-- THE TIED CARD OF 'laws.FnExactAppendEntry'. -/
def fnExactAppendEntryCard : Claim7 := { stood := { row := fnExactAppendEntryRow, standIns := [], harness := (true, "aeb9934970949613b0e3197f525add85be76a51f0e2ef5884661d9c40bab07ea"), looks := false }, kinds := [], alts := [], laidByText := true, laidKinds := [.data, .data, .data], laidTests := true, laidLooks := .later }
def FnExactAppendEntryCardSaid : Prop := Claim7.holds Tryd.pinned (.plain (OpenSpec.ofChange fnExactAppendEntrySpec)) fnExactAppendEntryCard

/-- THE TIED CARD OF 'laws.FnExactDbOK'. -/
def fnExactDbOKCard : Claim7 := { stood := { row := fnExactDbOKRow, standIns := [], harness := (true, "aeb9934970949613b0e3197f525add85be76a51f0e2ef5884661d9c40bab07ea"), looks := false }, kinds := [], alts := [], laidByText := true, laidKinds := [.listed, .data], laidTests := true, laidLooks := .later }
def FnExactDbOKCardSaid : Prop := Claim7.holds Tryd.pinned (.plain (OpenSpec.ofChange fnExactDbOKSpec)) fnExactDbOKCard

/-- THE SECOND FORM's CARD OF 'laws.FnExactAppendEntry'. -/
def fnExactAppendEntryUptoCard : Claim7 := { stood := { row := fnExactAppendEntryUptoRow, standIns := [], harness := (true, "aeb9934970949613b0e3197f525add85be76a51f0e2ef5884661d9c40bab07ea"), looks := false }, kinds := [], alts := [], laidByText := true, laidKinds := [.data, .data, .data], laidTests := true, laidLooks := .later }
def FnExactAppendEntryUptoCardSaid : Prop := Claim7.holds Tryd.pinned (.plain (OpenSpec.upto fnExactAppendEntrySpec)) fnExactAppendEntryUptoCard

/-- THE SECOND FORM's CARD OF 'laws.FnExactDbOK'. -/
def fnExactDbOKUptoCard : Claim7 := { stood := { row := fnExactDbOKUptoRow, standIns := [], harness := (true, "aeb9934970949613b0e3197f525add85be76a51f0e2ef5884661d9c40bab07ea"), looks := false }, kinds := [], alts := [], laidByText := true, laidKinds := [.listed, .data], laidTests := true, laidLooks := .later }
def FnExactDbOKUptoCardSaid : Prop := Claim7.holds Tryd.pinned (.plain (OpenSpec.upto fnExactDbOKSpec)) fnExactDbOKUptoCard
end Rows
end Go.Proofs.YtdbcihebhgpblaaDoor
