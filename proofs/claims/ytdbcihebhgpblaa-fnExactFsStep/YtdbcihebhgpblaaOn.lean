/-
  The law's toFsOp.
-/
import Derived.Test.YtdbcihebhgpblaaOm
namespace Go.Proofs.Ytdbcihebhgpblaa
open Go.RowKit
set_option maxRecDepth 20000 in
set_option maxHeartbeats 4000000 in
theorem toOp (kd : Int) (nm dt : ByteArray) (sz : Int) (w : World) : Calls Try.prog 29 #[.agg #[.int .i64 kd, .string nm, .string dt, .int .i64 sz]] w fun e w' => e = .returned (.agg #[.int .i64 kd, .string nm, .string dt, .int .i64 sz]) ∧ Below w.heap.size w w' := by
  go_enter Try.func29, Try.ntmps29
  go_wp2
  exact bodyPost_ret (v := .agg #[.int .i64 kd, .string nm, .string dt, .int .i64 sz]) (by simp [results, Try.results29, go_sem]) rfl ⟨rfl, below3 _ _ _ _⟩
end Go.Proofs.Ytdbcihebhgpblaa
