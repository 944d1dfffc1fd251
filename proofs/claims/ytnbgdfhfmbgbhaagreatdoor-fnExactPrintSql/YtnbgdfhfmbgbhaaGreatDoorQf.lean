/-
  Values and columns as SQL, on both sides.
-/
import Derived.Test.YtnbgdfhfmbgbhaaGreatDoorQe
import Derived.Test.YtnbgdfhfmbgbhaaGreatDoorNlx
import Derived.Lib.AppendIntMem
namespace Go.Proofs.YtnbgdfhfmbgbhaaGreatDoor
open Go.RowKit Go.Maps Go.WideMaps
/-- The library's table of powers lies there. -/
def T10 (w : World) : Prop := Lib.TabIs Tryz.prog w "internal/strconv.uint64pow10" .u64 Lib.pow10Tab
theorem T10.later {w w' : World} (h : T10 w) (hb : Below w.heap.size w w') : T10 w' := Lib.tabBelow_of_tabIs h w' hb
/-- What the program's writing leans on. -/
structure PL (w : World) : Prop where
  ml : ML w
  t : T10 w
theorem PL.later {w w' : World} (h : PL w) (hb : Below w.heap.size w w') : PL w' := ⟨h.ml.later hb, h.t.later hb⟩
theorem iItoa (n : Int) (hn : rng n) (w : World) (hT : T10 w) : Calls Tryz.prog 105 #[.int .i64 n] w fun e w' => e = .returned (.string (decB n)) ∧ Below w.heap.size w w' := by
  refine (Tryz.strconv_Itoa n hn.1 hn.2 w hT).mono ?_
  rintro e w1 ⟨rfl, kk, os, hw1⟩
  exact ⟨rfl, by rw [hw1]; exact Lib.below_grow _ _ (Nat.le_refl _) _ _⟩
/-- A value as SQL. -/
def valS (o m : Int) (s : ByteArray) : ByteArray := if o = 1 then decB m else quoB s
def colS (s : ByteArray) (t : Int) : ByteArray := if t = 1 then s ++ ⟨#[32, 105, 110, 116]⟩ else s ++ ⟨#[32, 116, 101, 120, 116]⟩
set_option maxRecDepth 20000 in
set_option maxHeartbeats 2000000 in
theorem sShow (o m : Int) (s : ByteArray) (w : World) (hr : rng m) (hs : s.size ≤ 1048576) : Calls Tryz.prog 39 #[.agg #[.int .i64 o, .int .i64 m, .string s]] w fun e w' => e = .returned (.string (valS o m s)) ∧ Below w.heap.size w w' := by
  have hb0 := bal w (.cells #[.int .i64 o, .int .i64 m, .string s] 51)
  by_cases h : o = 1
  · have HV : Hid (valS o m s = decB m) := by show _ = _; unfold valS; rw [if_pos h]
    subst h
    go_enter Tryz.func39, Tryz.ntmps39
    go_wp2_with (go_at_call 88; refine (sDec m hr _).mono ?_; rintro e w1 ⟨rfl, hb1⟩)
    go_ret
    exact ⟨by rw [HV.out]; rfl, bstep hb0 hb1⟩
  · have HV : Hid (valS o m s = quoB s) := by show _ = _; unfold valS; rw [if_neg h]
    have h' : (o == 1) = false := by simpa using h
    go_enter Tryz.func39, Tryz.ntmps39
    go_wp2_with (go_at_call 89; refine (sQuote s _ hs).mono ?_; rintro e w1 ⟨rfl, rfl⟩)
    go_ret
    exact ⟨by rw [HV.out]; rfl, hb0⟩
set_option maxRecDepth 20000 in
set_option maxHeartbeats 2000000 in
theorem iShow (o m : Int) (s : ByteArray) (w : World) (hP : PL w) (hr : rng m) (hs : s.size ≤ 1048576) : Calls Tryz.prog 50 #[.agg #[.int .i64 o, .int .i64 m, .string s]] w fun e w' => e = .returned (.string (valS o m s)) ∧ Below w.heap.size w w' := by
  have hb0 := bal w (.cells #[.int .i64 o, .int .i64 m, .string s] 51)
  by_cases h : o = 1
  · have HV : Hid (valS o m s = decB m) := by show _ = _; unfold valS; rw [if_pos h]
    subst h
    go_enter Tryz.func50, Tryz.ntmps50
    go_wp2_with (go_at_call 105; refine (iItoa m hr _ (hP.later hb0).t).mono ?_; rintro e w1 ⟨rfl, hb1⟩)
    go_ret
    exact ⟨by rw [HV.out]; rfl, bstep hb0 hb1⟩
  · have HV : Hid (valS o m s = quoB s) := by show _ = _; unfold valS; rw [if_neg h]
    have h' : (o == 1) = false := by simpa using h
    go_enter Tryz.func50, Tryz.ntmps50
    go_wp2_with (go_at_call 106; refine (iQuoted s _ (hP.later hb0).ml hs).mono ?_; rintro e w1 ⟨rfl, hb1⟩)
    go_ret
    exact ⟨by rw [HV.out]; rfl, bstep hb0 hb1⟩
set_option maxRecDepth 20000 in
set_option maxHeartbeats 2000000 in
theorem iCol (s : ByteArray) (t : Int) (w : World) (hs : s.size ≤ 1048576) : Calls Tryz.prog 48 #[.agg #[.string s, .int .i64 t]] w fun e w' => e = .returned (.string (colS s t)) ∧ Below w.heap.size w w' := by
  have hb0 := bal w (.cells #[.string s, .int .i64 t] 49)
  by_cases h : t = 1
  · have HV : Hid (colS s t = s ++ ⟨#[32, 105, 110, 116]⟩) := by show _ = _; unfold colS; rw [if_pos h]
    subst h
    go_enter Tryz.func48, Tryz.ntmps48
    go_wp2
    go_ret
    exact ⟨by rw [HV.out]; rfl, hb0⟩
  · have HV : Hid (colS s t = s ++ ⟨#[32, 116, 101, 120, 116]⟩) := by show _ = _; unfold colS; rw [if_neg h]
    have h' : (t == 1) = false := by simpa using h
    go_enter Tryz.func48, Tryz.ntmps48
    go_wp2
    go_ret
    exact ⟨by rw [HV.out]; rfl, hb0⟩
theorem valS_size {o m : Int} {s : ByteArray} (hr : rng m) : (valS o m s).size ≤ 21 + (2 + 2 * s.size) := by
  unfold valS
  have := decB_size hr
  have := quoB_size s
  split <;> omega
theorem colS_size (s : ByteArray) (t : Int) : (colS s t).size ≤ s.size + 5 := by
  unfold colS
  have e1 : (⟨#[32, 105, 110, 116]⟩ : ByteArray).size = 4 := rfl
  have e2 : (⟨#[32, 116, 101, 120, 116]⟩ : ByteArray).size = 5 := rfl
  split <;> (rw [ByteArray.size_append]; omega)
end Go.Proofs.YtnbgdfhfmbgbhaaGreatDoor
