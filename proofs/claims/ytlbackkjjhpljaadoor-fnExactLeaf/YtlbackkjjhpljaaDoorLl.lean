/-
  The laws on Leaf and Node, walked.
-/
import Derived.Test.YtlbackkjjhpljaaDoorLn
namespace Go.Proofs.YtlbackkjjhpljaaDoor
open Go.RowKit
set_option maxRecDepth 20000 in
theorem lawLeaf_any (k : Int) (x : ByteArray) (w : World) (hk : KeysAt w) :
    Calls Tryd.prog 3 #[.int .i64 k, .string x] w fun e w' => e = .returned (.bool true) ∧ Below w.heap.size w w' := by
  have HK : Hid (KeysAt w) := hk
  clear hk
  by_cases hs : x.size ≤ 1048576
  · go_enter Tryd.func3, Tryd.ntmps3
    go_wp2_with (first | (go_at_call 9; refine (specLeaf_any _ _ _ (by omega)).mono ?_; rintro e w1 ⟨rfl, hb1⟩) | (go_at_call 10; refine (implLeaf_any _ _ _ (keys_later HK.out hb1) (by omega)).mono ?_; rintro e w2 ⟨rfl, hb2⟩))
    go_ret
    exact ⟨rfl, hb1.trans (hb2.mono hb1.size)⟩
  · have hs' : (1048576 : Int) < (x.size : Int) := by omega
    go_enter Tryd.func3, Tryd.ntmps3
    go_wp2
    go_ret
    exact ⟨rfl, Below.refl _ _⟩
set_option maxRecDepth 20000 in
theorem lawNode_any (k : Int) (x y : ByteArray) (w : World) (hk : KeysAt w) :
    Calls Tryd.prog 4 #[.int .i64 k, .string x, .string y] w fun e w' => e = .returned (.bool true) ∧ Below w.heap.size w w' := by
  have HK : Hid (KeysAt w) := hk
  clear hk
  by_cases hs : x.size ≤ 1048576
  · by_cases ht : y.size ≤ 1048576
    · go_enter Tryd.func4, Tryd.ntmps4
      go_wp2_with (first | (go_at_call 11; refine (specNode_any _ _ _ _ (by omega) (by omega)).mono ?_; rintro e w1 ⟨rfl, hb1⟩) | (go_at_call 12; refine (implNode_any _ _ _ _ (keys_later HK.out hb1) (by omega) (by omega)).mono ?_; rintro e w2 ⟨rfl, hb2⟩))
      go_ret
      exact ⟨rfl, hb1.trans (hb2.mono hb1.size)⟩
    · have ht' : (1048576 : Int) < (y.size : Int) := by omega
      go_enter Tryd.func4, Tryd.ntmps4
      go_wp2
      go_ret
      exact ⟨rfl, Below.refl _ _⟩
  · have hs' : (1048576 : Int) < (x.size : Int) := by omega
    go_enter Tryd.func4, Tryd.ntmps4
    go_wp2
    go_ret
    exact ⟨rfl, Below.refl _ _⟩
end Go.Proofs.YtlbackkjjhpljaaDoor
