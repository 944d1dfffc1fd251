/-
  What the program's small functions answer, as later texts want it.
-/
import Derived.Test.YtjbbbfplephkpaaGreatDoorSp
namespace Go.Proofs.YtjbbbfplephkpaaGreatDoor
open Go.RowKit
set_option maxRecDepth 20000 in
theorem implLeaf_as (k : Int) (x : ByteArray) (w : World) (hk : KeysAt w) (hx : x.size ≤ 4194304) (z : ByteArray) (hz : leafD k x = z) :
    Calls Tryz.prog 38 #[.int .i64 k, .string x] w fun e w' => e = .returned (.string z) ∧ Below w.heap.size w w' := by
  subst hz
  exact implLeaf_any k x w hk hx
set_option maxRecDepth 20000 in
theorem implNode_as (k : Int) (x y : ByteArray) (w : World) (hk : KeysAt w) (hx : x.size ≤ 2097152) (hy : y.size ≤ 2097152) (z : ByteArray) (hz : nodeD k x y = z) :
    Calls Tryz.prog 56 #[.int .i64 k, .string x, .string y] w fun e w' => e = .returned (.string z) ∧ Below w.heap.size w w' := by
  subst hz
  exact implNode_any k x y w hk hx hy
set_option maxRecDepth 20000 in
theorem splitOf_as (n : Nat) (z : Int) (w : World) (hz : z = n) (h : 2 ≤ n) (h2 : n ≤ 4294967296) (s : Nat) (hs : spl n = s) :
    Calls Tryz.prog 59 #[.int .i64 z] w fun e w' => e = .returned (.int .i64 (s : Int)) ∧ w' = w := by
  subst hz hs
  exact splitOf_any n w h h2
theorem keep {w w' : World} {p : Addr} {v : Value} (hb : Below w.heap.size w w') (hc : w.cell? p = some v) : w'.cell? p = some v :=
  (hb.cell (World.block_lt_of_cell? w _ hc)).trans hc
theorem Sl.drew1 {w : World} {a : Option Addr} {n : Nat} {S : Nat → ByteArray} (h : Sl w a n S) : Sl w.drew a n S := h
theorem KeysAt.drew1 {w : World} (h : KeysAt w) : KeysAt w.drew := h
end Go.Proofs.YtjbbbfplephkpaaGreatDoor
