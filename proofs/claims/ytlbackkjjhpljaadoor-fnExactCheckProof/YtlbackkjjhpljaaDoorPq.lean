/-
  The law on CheckProof: the card.
-/
import Derived.Test.YtlbackkjjhpljaaDoorProofQ
import Derived.Test.YtlbackkjjhpljaaDoorIj
namespace Go.Proofs.YtlbackkjjhpljaaDoor
/-- The statement. -/
theorem checkProof_holds : Rows.FnExactCheckProofCardSaid :=
  checkProof_card implCheckProof
#print axioms checkProof_holds
end Go.Proofs.YtlbackkjjhpljaaDoor
