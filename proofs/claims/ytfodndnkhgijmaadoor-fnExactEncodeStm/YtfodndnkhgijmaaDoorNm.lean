/-
  Statements: StmOK, the program's way: lists.
-/
import Derived.Test.YtfodndnkhgijmaaDoorNlx
namespace Go.Proofs.YtfodndnkhgijmaaDoor
open Go.RowKit Go.Maps Go.WideMaps
theorem and_out {n : Nat} {p : Nat → Bool} (h : n = 0 ∨ 20 < n) : (btw n 1 20 && allN n p) = false := by
  have : btw n 1 20 = false := by simp [btw]; omega
  rw [this]; rfl
theorem and_in {n : Nat} {p : Nat → Bool} (h : ∀ j, j < n → p j = true) (h0 : 0 < n) (hm : n ≤ 20) : (btw n 1 20 && allN n p) = true := by
  rw [and_yes h (fun _ => hm)]
  simp [h0]
set_option maxRecDepth 20000 in
set_option maxHeartbeats 4000000 in
theorem iAllCol (b : Nat) (a : Option Addr) (n c : Nat) (C : Nat → Clm) (w : World) (hK : KwAt w b) (h : CL w a n C) (hn : n ≤ 1048576) :
    Calls Tryd.prog 42 #[.slice a n c, .int .i64 20, .func (.func 43) #[.map (some b)] #[]] w fun e w' => e = .returned (.bool (btw n 1 20 && allN n (fun j => okCol (C j).s (C j).t))) ∧ Below w.heap.size w w' := by
  have hb0 := Below.refl w.heap.size w
  go_enter Tryd.func42, Tryd.ntmps42
  by_cases h0 : n = 0
  · subst h0
    go_wp2
    go_ret
    exact ⟨retB (and_out (by omega)).symm, hb0⟩
  have h0' : ((n : Int) == 0) = false := by simp; omega
  by_cases h20 : 20 < n
  · have h20' : (20 : Int) < n := by omega
    go_wp2
    go_ret
    exact ⟨retB (and_out (by omega)).symm, hb0⟩
  have h20' : (n : Int) ≤ 20 := by omega
  go_wp2
  go_loopw [20] (fun i wr => ∃ k : Nat, k ≤ n ∧ i = .int .i64 k ∧ (∀ j, j < k → okCol (C j).s (C j).t = true) ∧ Below w.heap.size w wr) (fun i _ => n - (intOf i).toNat)
  case atStart => exact ⟨0, by omega, rfl, fun j hj => by omega, hb0⟩
  case round =>
    obtain ⟨j, hj, rfl, hall, hb2⟩ := hrel
    by_cases hlt : j < n
    · obtain ⟨b', off, rfl, d0, d1, hs⟩ := h.later hb2 j hlt
      have hK2 := hK.later (bstep hb2 (bal wr (.cells #[.string (C j).s, .int .i64 (C j).t] 70)))
      go_wp2_with (go_at_call 43; refine (iColumn b _ _ _ hK2 hs).mono ?_; rintro e w3 ⟨rfl, hb3⟩; replace hb3 := bj hb2 hb3; rcases ho : okCol (C j).s (C j).t)
      · go_ret
        exact ⟨retB (and_no hlt (Or.inl ho)).symm, hb3⟩
      · go_roundw
        case rel => exact ⟨j + 1, by omega, by go_num, fun i hi => by
          by_cases e : i = j
          · subst e; exact ho
          · exact hall i (by omega), hb3⟩
        case measure => simp [intOf]; omega
    · obtain rfl : j = n := by omega
      go_wp2
      go_ret
      exact ⟨retB (and_in hall (by omega) (by omega)).symm, hb2⟩
set_option maxRecDepth 20000 in
set_option maxHeartbeats 4000000 in
theorem iAllVal (a : Option Addr) (n c : Nat) (V : Nat → Itm) (w : World) (h : IL w a n V) (hn : n ≤ 1048576) :
    Calls Tryd.prog 44 #[.slice a n c, .int .i64 20, .func (.func 45) #[] #[]] w fun e w' => e = .returned (.bool (btw n 1 20 && allN n (fun j => okValue (V j).o (V j).m (V j).s))) ∧ Below w.heap.size w w' := by
  have hb0 := Below.refl w.heap.size w
  go_enter Tryd.func44, Tryd.ntmps44
  by_cases h0 : n = 0
  · subst h0
    go_wp2
    go_ret
    exact ⟨retB (and_out (by omega)).symm, hb0⟩
  have h0' : ((n : Int) == 0) = false := by simp; omega
  by_cases h20 : 20 < n
  · have h20' : (20 : Int) < n := by omega
    go_wp2
    go_ret
    exact ⟨retB (and_out (by omega)).symm, hb0⟩
  have h20' : (n : Int) ≤ 20 := by omega
  go_wp2
  go_loopw [20] (fun i wr => ∃ k : Nat, k ≤ n ∧ i = .int .i64 k ∧ (∀ j, j < k → okValue (V j).o (V j).m (V j).s = true) ∧ Below w.heap.size w wr) (fun i _ => n - (intOf i).toNat)
  case atStart => exact ⟨0, by omega, rfl, fun j hj => by omega, hb0⟩
  case round =>
    obtain ⟨j, hj, rfl, hall, hb2⟩ := hrel
    by_cases hlt : j < n
    · obtain ⟨b', off, rfl, d0, d1, d2, hs⟩ := h.later hb2 j hlt
      go_wp2_with (go_at_call 45; refine (iValue _ _ _ _ hs).mono ?_; rintro e w3 ⟨rfl, hb3⟩; replace hb3 := bj hb2 hb3; rcases ho : okValue (V j).o (V j).m (V j).s)
      · go_ret
        exact ⟨retB (and_no hlt (Or.inl ho)).symm, hb3⟩
      · go_roundw
        case rel => exact ⟨j + 1, by omega, by go_num, fun i hi => by
          by_cases e : i = j
          · subst e; exact ho
          · exact hall i (by omega), hb3⟩
        case measure => simp [intOf]; omega
    · obtain rfl : j = n := by omega
      go_wp2
      go_ret
      exact ⟨retB (and_in hall (by omega) (by omega)).symm, hb2⟩
set_option maxRecDepth 20000 in
set_option maxHeartbeats 4000000 in
theorem iAllOut (b : Nat) (a : Option Addr) (n c : Nat) (m : Nat → Nat) (O : Nat → Nat → Itm) (w : World) (hK : KwAt w b) (h : OL w a n m O) (hn : n ≤ 1048576) :
    Calls Tryd.prog 48 #[.slice a n c, .int .i64 20, .func (.func 46) #[.map (some b)] #[]] w fun e w' => e = .returned (.bool (btw n 1 20 && allN n (fun j => okExp (O j) (m j)))) ∧ Below w.heap.size w w' := by
  have hb0 := Below.refl w.heap.size w
  go_enter Tryd.func48, Tryd.ntmps48
  by_cases h0 : n = 0
  · subst h0
    go_wp2
    go_ret
    exact ⟨retB (and_out (by omega)).symm, hb0⟩
  have h0' : ((n : Int) == 0) = false := by simp; omega
  by_cases h20 : 20 < n
  · have h20' : (20 : Int) < n := by omega
    go_wp2
    go_ret
    exact ⟨retB (and_out (by omega)).symm, hb0⟩
  have h20' : (n : Int) ≤ 20 := by omega
  go_wp2
  go_loopw [20] (fun i wr => ∃ k : Nat, k ≤ n ∧ i = .int .i64 k ∧ (∀ j, j < k → okExp (O j) (m j) = true) ∧ Below w.heap.size w wr) (fun i _ => n - (intOf i).toNat)
  case atStart => exact ⟨0, by omega, rfl, fun j hj => by omega, hb0⟩
  case round =>
    obtain ⟨j, hj, rfl, hall, hb2⟩ := hrel
    by_cases hlt : j < n
    · obtain ⟨b', off, i, c', rfl, d0, di, dm⟩ := h.later hb2 j hlt
      have hK2 := hK.later hb2
      go_wp2_with (go_at_call 46; refine (iExpr b i _ c' _ _ hK2 di dm).mono ?_; rintro e w3 ⟨rfl, hb3⟩; replace hb3 := bstep hb2 hb3; rcases ho : okExp (O j) (m j))
      · go_ret
        exact ⟨retB (and_no hlt (Or.inl ho)).symm, hb3⟩
      · go_roundw
        case rel => exact ⟨j + 1, by omega, by go_num, fun i hi => by
          by_cases e : i = j
          · subst e; exact ho
          · exact hall i (by omega), hb3⟩
        case measure => simp [intOf]; omega
    · obtain rfl : j = n := by omega
      go_wp2
      go_ret
      exact ⟨retB (and_in hall (by omega) (by omega)).symm, hb2⟩
def bareB (n2 n3 : Nat) (col : ByteArray) (n5 n6 n7 : Nat) : Bool := (n2 : Int) == 0 && (n3 : Int) == 0 && decide (col.size = 0) && (n5 : Int) == 0 && (n6 : Int) == 0 && (n7 : Int) == 0
set_option maxRecDepth 20000 in
set_option maxHeartbeats 4000000 in
theorem iBare (k : Int) (tb : ByteArray) (a2 : Option Addr) (n2 c2 : Nat) (a3 : Option Addr) (n3 c3 : Nat) (col : ByteArray) (a5 : Option Addr) (n5 c5 : Nat) (a6 : Option Addr) (n6 c6 : Nat) (a7 : Option Addr) (n7 c7 : Nat) (w : World) :
    Calls Tryd.prog 41 #[.agg #[.int .i64 k, .string tb, .slice a2 n2 c2, .slice a3 n3 c3, .string col, .slice a5 n5 c5, .slice a6 n6 c6, .slice a7 n7 c7]] w fun e w' => e = .returned (.bool (bareB n2 n3 col n5 n6 n7)) ∧ Below w.heap.size w w' := by
  have hE := isE col
  go_enter Tryd.func41, Tryd.ntmps41
  go_wp2
  all_goals
    go_ret
    exact ⟨retB (by simp [bareB, *]), bal _ _⟩
end Go.Proofs.YtfodndnkhgijmaaDoor
