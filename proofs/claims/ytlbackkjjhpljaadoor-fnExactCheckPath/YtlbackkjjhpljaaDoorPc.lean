/-
  The law on CheckPath: the card.
-/
import Derived.Test.YtlbackkjjhpljaaDoorProofC
import Derived.Test.YtlbackkjjhpljaaDoorIi
namespace Go.Proofs.YtlbackkjjhpljaaDoor
/-- The statement. -/
theorem checkPath_holds : Rows.FnExactCheckPathCardSaid :=
  checkPath_card implCheckPath
#print axioms checkPath_holds
end Go.Proofs.YtlbackkjjhpljaaDoor
