/-
  Tables: the program's small tests.
-/
import Derived.Test.YtgeiamgeclbiaaaGreatDoorNm
namespace Go.Proofs.YtgeiamgeclbiaaaGreatDoor
open Go.RowKit Go.Maps Go.WideMaps
set_option maxRecDepth 20000 in
set_option maxHeartbeats 1000000 in
theorem isNaN (s : ByteArray) (w : World) : Calls Tryz.prog 153 #[.string s] w fun e w' => e = .returned (.bool false) ∧ w' = w := by
  have hq := eqS_same s
  go_enter Tryz.func153, Tryz.ntmps153
  go_wp2
  go_ret
  exact ⟨rfl, rfl⟩
set_option maxRecDepth 20000 in
set_option maxHeartbeats 1000000 in
theorem isNaNI (x : Int) (w : World) : Calls Tryz.prog 182 #[.int .i64 x] w fun e w' => e = .returned (.bool false) ∧ w' = w := by
  have hq : (x == x) = true := by simp
  go_enter Tryz.func182, Tryz.ntmps182
  go_wp2
  go_ret
  exact ⟨rfl, rfl⟩
set_option maxRecDepth 20000 in
set_option maxHeartbeats 1000000 in
theorem cmpLess (s s' : ByteArray) (w : World) : Calls Tryz.prog 122 #[.string s, .string s'] w fun e w' => e = .returned (.bool (Op.bytesLess s.toList s'.toList)) ∧ w' = w := by
  rcases hl : Op.bytesLess s.toList s'.toList
  all_goals
    go_enter Tryz.func122, Tryz.ntmps122
    go_wp2_with (go_at_call 153; refine (isNaN _ _).mono ?_; rintro e w1 ⟨rfl, rfl⟩)
    go_ret
    exact ⟨rfl, rfl⟩
set_option maxRecDepth 20000 in
set_option maxHeartbeats 1000000 in
theorem cmpLessI (x y : Int) (w : World) : Calls Tryz.prog 152 #[.int .i64 x, .int .i64 y] w fun e w' => e = .returned (.bool (decide (x < y))) ∧ w' = w := by
  by_cases hl : x < y
  · have hd : decide (x < y) = true := by simp [hl]
    go_enter Tryz.func152, Tryz.ntmps152
    go_wp2_with (go_at_call 182; refine (isNaNI _ _).mono ?_; rintro e w1 ⟨rfl, rfl⟩)
    go_ret
    exact ⟨retB hd.symm, rfl⟩
  · have hd : decide (x < y) = false := by simp [hl]
    go_enter Tryz.func152, Tryz.ntmps152
    go_wp2_with (go_at_call 182; refine (isNaNI _ _).mono ?_; rintro e w1 ⟨rfl, rfl⟩)
    go_ret
    exact ⟨retB hd.symm, rfl⟩
set_option maxRecDepth 20000 in
set_option maxHeartbeats 1000000 in
theorem iTabName (s : ByteArray) (x y : Value) (w : World) : Calls Tryz.prog 77 #[.agg #[.string s, x, y]] w fun e w' => e = .returned (.string s) ∧ Below w.heap.size w w' := by
  go_enter Tryz.func77, Tryz.ntmps77
  go_wp2
  go_ret
  exact ⟨rfl, bal _ _⟩
set_option maxRecDepth 20000 in
set_option maxHeartbeats 1000000 in
theorem iNumKey (a : Option Addr) (n c : Nat) (I : Nat → Itm) (w : World) (h : IL w a n I) (hn : 0 < n) : Calls Tryz.prog 119 #[.slice a n c] w fun e w' => e = .returned (.int .i64 (I 0).m) ∧ w' = w := by
  obtain ⟨b, off, rfl, d0, d1, d2, -⟩ := h 0 hn
  have i0 : (0 : Int) < (n : Int) := by omega
  go_enter Tryz.func119, Tryz.ntmps119
  go_wp2
  go_ret
  exact ⟨rfl, rfl⟩
set_option maxRecDepth 20000 in
set_option maxHeartbeats 1000000 in
theorem iTextKey (a : Option Addr) (n c : Nat) (I : Nat → Itm) (w : World) (h : IL w a n I) (hn : 0 < n) : Calls Tryz.prog 121 #[.slice a n c] w fun e w' => e = .returned (.string (I 0).s) ∧ w' = w := by
  obtain ⟨b, off, rfl, d0, d1, d2, -⟩ := h 0 hn
  have i0 : (0 : Int) < (n : Int) := by omega
  go_enter Tryz.func121, Tryz.ntmps121
  go_wp2
  go_ret
  exact ⟨rfl, rfl⟩
set_option maxRecDepth 20000 in
set_option maxHeartbeats 1000000 in
theorem iTypeIs (o m : Int) (s s' : ByteArray) (t : Int) (w : World) : Calls Tryz.prog 161 #[.agg #[.int .i64 o, .int .i64 m, .string s], .agg #[.string s', .int .i64 t]] w fun e w' => e = .returned (.bool (o == t)) ∧ Below w.heap.size w w' := by
  have hb0 := bstep (bal w (.cells #[.int .i64 o, .int .i64 m, .string s] 66)) (bal _ (.cells #[.string s', .int .i64 t] 113))
  go_enter Tryz.func161, Tryz.ntmps161
  go_wp2
  go_ret
  exact ⟨rfl, hb0⟩
set_option maxRecDepth 20000 in
set_option maxHeartbeats 1000000 in
theorem iIntValue (m : Int) (w : World) : Calls Tryz.prog 151 #[.int .i64 m] w fun e w' => e = .returned (.agg #[.int .i64 1, .int .i64 m, .string ⟨#[]⟩]) ∧ Below w.heap.size w w' := by
  go_enter Tryz.func151, Tryz.ntmps151
  go_wp2
  exact bodyPost_ret (v := .agg #[.int .i64 1, .int .i64 m, .string ⟨#[]⟩]) (by simp [results, Tryz.results151, go_sem]) rfl ⟨rfl, bal _ _⟩
def typesB (n n' : Nat) (I : Nat → Itm) (C : Nat → Clm) : Bool := decide (n = n') && allN n (fun j => (I j).o == (C j).t)
set_option maxRecDepth 20000 in
set_option maxHeartbeats 4000000 in
theorem iEqualF (a : Option Addr) (n c : Nat) (I : Nat → Itm) (a' : Option Addr) (n' c' : Nat) (C : Nat → Clm) (w : World) (h : IL w a n I) (h' : CL w a' n' C) (hn : n ≤ 1048576) (hn' : n' ≤ 1048576) :
    Calls Tryz.prog 160 #[.slice a n c, .slice a' n' c', .func (.func 161) #[] #[]] w fun e w' => e = .returned (.bool (typesB n n' I C)) ∧ Below w.heap.size w w' := by
  have hb0 := Below.refl w.heap.size w
  by_cases hq : n = n'
  rotate_left
  · have hq' : ((n : Int) == (n' : Int)) = false := by simp; omega
    have HF : Hid (typesB n n' I C = false) := by simp [Hid, typesB, hq]
    go_enter Tryz.func160, Tryz.ntmps160
    go_wp2
    go_ret
    exact ⟨retB HF.out.symm, hb0⟩
  subst hq
  have hq' : ((n : Int) == (n : Int)) = true := by simp
  go_enter Tryz.func160, Tryz.ntmps160
  go_wp2
  go_loopw [7, 8, 9, 17] (fun _ _ _ i wr => ∃ k : Nat, k ≤ n ∧ i = .int .i64 k ∧ (∀ j, j < k → ((I j).o == (C j).t) = true) ∧ Below w.heap.size w wr) (fun _ _ _ i _ => n - (intOf i).toNat)
  case atStart => exact ⟨0, by omega, rfl, fun j hj => by omega, hb0⟩
  case round =>
    obtain ⟨k, hk, rfl, hall, hb⟩ := hrel
    by_cases hlt : k < n
    · obtain ⟨b, off, rfl, d0, d1, d2, -⟩ := h.later hb k hlt
      obtain ⟨b', off', rfl, e0, e1, -⟩ := h'.later hb k hlt
      have hb1 := bstep (bal wr (.cells #[.int .i64 (I k).o, .int .i64 (I k).m, .string (I k).s] 66)) (bal _ (.cells #[.string (C k).s, .int .i64 (C k).t] 113))
      have f0 := keepB (bal wr (.cells #[.int .i64 (I k).o, .int .i64 (I k).m, .string (I k).s] 66)) e0
      have f1 := keepB (bal wr (.cells #[.int .i64 (I k).o, .int .i64 (I k).m, .string (I k).s] 66)) e1
      go_wp2_with (go_at_call 161; refine (iTypeIs _ _ _ _ _ _).mono ?_; rintro e w3 ⟨rfl, hb3⟩; replace hb3 := bstep hb (bstep hb1 hb3); rcases ho : ((I k).o == (C k).t))
      · go_ret
        exact ⟨retB (by unfold typesB; rw [allN_false hlt ho]; simp), hb3⟩
      · go_roundw
        case rel => exact ⟨k + 1, by omega, by go_num, fun i hi => by
          by_cases e : i = k
          · subst e; exact ho
          · exact hall i (by omega), hb3⟩
        case measure => simp [intOf]; omega
    · obtain rfl : k = n := by omega
      go_wp2
      go_ret
      exact ⟨retB (by unfold typesB; rw [allN_true hall]; simp), hb⟩
set_option maxRecDepth 20000 in
set_option maxHeartbeats 1000000 in
theorem iHaveTypes (a : Option Addr) (n c : Nat) (I : Nat → Itm) (a' : Option Addr) (n' c' : Nat) (C : Nat → Clm) (w : World) (h : IL w a n I) (h' : CL w a' n' C) (hn : n ≤ 1048576) (hn' : n' ≤ 1048576) :
    Calls Tryz.prog 130 #[.slice a n c, .slice a' n' c'] w fun e w' => e = .returned (.bool (typesB n n' I C)) ∧ Below w.heap.size w w' := by
  go_enter Tryz.func130, Tryz.ntmps130
  go_wp2_with (go_at_call 160; refine (iEqualF _ _ _ _ _ _ _ _ _ h h' hn hn').mono ?_; rintro e w1 ⟨rfl, hb1⟩)
  go_ret
  exact ⟨rfl, hb1⟩
end Go.Proofs.YtgeiamgeclbiaaaGreatDoor
