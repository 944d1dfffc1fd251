/-
  Expressions: the program's test.
-/
import Derived.Test.YtnbgdfhfmbgbhaaGreatDoorNj
namespace Go.Proofs.YtnbgdfhfmbgbhaaGreatDoor
open Go.RowKit Go.Maps Go.WideMaps
set_option maxRecDepth 20000 in
set_option maxHeartbeats 2000000 in
theorem iExpr (b : Nat) (a : Option Addr) (n c : Nat) (I : Nat → Itm) (w : World) (hK : KwAt w b) (h : IL w a n I) (hn : n ≤ 1048576) : Calls Tryz.prog 101 #[.map (some b), .slice a n c] w fun e w' => e = .returned (.bool (okExp I n)) ∧ Below w.heap.size w w' := by
  go_enter Tryz.func101, Tryz.ntmps101
  go_upto_region 2 with (go_at_call 107; refine (iLift a n c I _ h hn).mono ?_; rintro e w1 ⟨hb1, ⟨rfl, hno⟩ | ⟨t, rfl, hft, hyes, -⟩⟩)
  · go_wp2
    go_ret
    exact ⟨retB (by simp [hno]), hb1⟩
  · have hm := hft.1; have he := hft.2.1; unfold Tr.val
    go_wp2_with (refine (fits_any b t _ hft (hK.later hb1)).mono ?_; rintro e w2 ⟨rfl, hb2⟩)
    go_ret
    exact ⟨retB (by simp [hyes]), bstep hb1 hb2⟩
set_option maxRecDepth 20000 in
set_option maxHeartbeats 2000000 in
theorem iCond (b : Nat) (a : Option Addr) (n c : Nat) (I : Nat → Itm) (w : World) (hK : KwAt w b) (h : IL w a n I) (hn : n ≤ 1048576) : Calls Tryz.prog 102 #[.map (some b), .slice a n c] w fun e w' => e = .returned (.bool (okWhere I n)) ∧ Below w.heap.size w w' := by
  have hb0 := Below.refl w.heap.size w
  go_enter Tryz.func102, Tryz.ntmps102
  by_cases h0 : n = 0
  · subst h0
    go_wp2
    go_ret
    exact ⟨retB (by simp [okWhere]), hb0⟩
  · have h0' : ((n : Int) == 0) = false := by simp; omega
    go_wp2_with (go_at_call 101; refine (iExpr b a n c I _ hK h hn).mono ?_; rintro e w1 ⟨rfl, hb1⟩)
    go_ret
    exact ⟨retB (by simp [okWhere, h0]), hb1⟩
end Go.Proofs.YtnbgdfhfmbgbhaaGreatDoor
