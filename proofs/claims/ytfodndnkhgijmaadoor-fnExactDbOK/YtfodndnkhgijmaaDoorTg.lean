/-
  Tables: the specification's small tests.
-/
import Derived.Test.YtfodndnkhgijmaaDoorTf
import Derived.Test.YtfodndnkhgijmaaDoorNl
import Derived.Laws.Cover1
namespace Go.Proofs.YtfodndnkhgijmaaDoor
open Go.RowKit Go.Maps Go.WideMaps
/-- A value is right for a column of type k. -/
def rightB (o m : Int) (s : ByteArray) (k : Int) : Bool := o == k && (if k == 1 then decide (s.size = 0) else m == 0 && okText s)
set_option maxRecDepth 20000 in
set_option maxHeartbeats 2000000 in
theorem sRight (o m : Int) (s : ByteArray) (k : Int) (w : World) (hs : s.size ≤ 1048576) : Calls Tryd.prog 68 #[.agg #[.int .i64 o, .int .i64 m, .string s], .int .i64 k] w fun e w' => e = .returned (.bool (rightB o m s k)) ∧ Below w.heap.size w w' := by
  have hb0 := bal w (.cells #[.int .i64 o, .int .i64 m, .string s] 73)
  have hE := isE s
  rcases h1 : (o == k)
  · go_enter Tryd.func68, Tryd.ntmps68
    go_wp2
    go_ret
    exact ⟨retB (by simp [rightB, h1]), hb0⟩
  rcases h2 : (k == 1)
  · rcases h3 : (m == 0)
    · go_enter Tryd.func68, Tryd.ntmps68
      go_wp2
      go_ret
      exact ⟨retB (by simp [rightB, h1, h2, h3]), hb0⟩
    · go_enter Tryd.func68, Tryd.ntmps68
      go_wp2_with (go_at_call 88; refine (sText s _ hs).mono ?_; rintro e w1 ⟨rfl, hb1⟩)
      go_ret
      exact ⟨retB (by simp [rightB, h1, h2, h3]), hb0⟩
  · go_enter Tryd.func68, Tryd.ntmps68
    go_wp2
    go_ret
    exact ⟨retB (by simp [rightB, h1, h2]), hb0⟩
/-- One value comes before another of its type. -/
def befV (m : Int) (s : ByteArray) (m' : Int) (s' : ByteArray) : Bool := decide (m < m') || Op.bytesLess s.toList s'.toList
set_option maxRecDepth 20000 in
set_option maxHeartbeats 4000000 in
theorem sCompare (o m : Int) (s : ByteArray) (o' m' : Int) (s' : ByteArray) (w : World) : Calls Tryd.prog 69 #[.agg #[.int .i64 o, .int .i64 m, .string s], .agg #[.int .i64 o', .int .i64 m', .string s']] w fun e w' => ∃ r : Int, e = .returned (.int .i64 r) ∧ (0 ≤ r ↔ befV m s m' s' = false) ∧ Below w.heap.size w w' := by
  have hb0 := bstep (bal w (.cells #[.int .i64 o, .int .i64 m, .string s] 73)) (bal _ (.cells #[.int .i64 o', .int .i64 m', .string s'] 73))
  by_cases h1 : m < m'
  · have HB : Hid (befV m s m' s' = true) := by simp [Hid, befV, h1]
    go_enter Tryd.func69, Tryd.ntmps69
    go_wp2
    all_goals go_ret
    all_goals exact ⟨_, rfl, by rw [HB.out]; simp, hb0⟩
  rcases h2 : Op.bytesLess s.toList s'.toList
  · have HB : Hid (befV m s m' s' = false) := by simp [Hid, befV, h2]; omega
    by_cases h3 : m' < m
    · go_enter Tryd.func69, Tryd.ntmps69
      go_wp2
      all_goals go_ret
      all_goals exact ⟨_, rfl, by rw [HB.out]; simp, hb0⟩
    · rcases h4 : (s.toList == s'.toList)
      · go_enter Tryd.func69, Tryd.ntmps69
        go_wp2
        all_goals go_ret
        all_goals exact ⟨_, rfl, by rw [HB.out]; simp, hb0⟩
      · go_enter Tryd.func69, Tryd.ntmps69
        go_wp2
        all_goals go_ret
        all_goals exact ⟨_, rfl, by rw [HB.out]; simp, hb0⟩
  · have HB : Hid (befV m s m' s' = true) := by simp [Hid, befV, h2]
    go_enter Tryd.func69, Tryd.ntmps69
    go_wp2
    all_goals go_ret
    all_goals exact ⟨_, rfl, by rw [HB.out]; simp, hb0⟩
/-- One of the first n columns bears this name. -/
def hasCol (C : Nat → Clm) (s : ByteArray) : Nat → Bool
  | 0 => false
  | k + 1 => hasCol C s k || (C k).s.toList == s.toList
theorem hasCol_mono {C : Nat → Clm} {s : ByteArray} {k : Nat} (h : hasCol C s k = true) : ∀ n, k ≤ n → hasCol C s n = true := by
  intro n hn
  induction n with
  | zero => obtain rfl : k = 0 := by omega
            exact h
  | succ n ih =>
    by_cases e : k = n + 1
    · subst e; exact h
    · rw [hasCol, ih (by omega)]; rfl
set_option maxRecDepth 20000 in
set_option maxHeartbeats 4000000 in
theorem sCol (a : Option Addr) (n c : Nat) (C : Nat → Clm) (s : ByteArray) (w : World) (h : CL w a n C) (hn : n ≤ 1048576) : Calls Tryd.prog 67 #[.slice a n c, .string s] w fun e w' => ∃ r : Int, e = .returned (.int .i64 r) ∧ (0 ≤ r ↔ hasCol C s n = true) ∧ Below w.heap.size w w' := by
  have hb0 := Below.refl w.heap.size w
  go_enter Tryd.func67, Tryd.ntmps67
  go_wp2
  go_loopw [5, 6, 9] (fun _ _ i wr => ∃ k : Nat, k ≤ n ∧ i = .int .i64 k ∧ hasCol C s k = false ∧ Below w.heap.size w wr) (fun _ _ i _ => n - (intOf i).toNat)
  case atStart => exact ⟨0, by omega, rfl, rfl, hb0⟩
  case round =>
    obtain ⟨k, hk, rfl, hno, hb⟩ := hrel
    by_cases hlt : k < n
    · obtain ⟨b, off, rfl, d0, d1, hs⟩ := h.later hb k hlt
      have HN : Hid (hasCol C s (k + 1) = (hasCol C s k || (C k).s.toList == s.toList)) := rfl
      rcases he : ((C k).s.toList == s.toList)
      · go_wp2
        go_roundw
        case rel => exact ⟨k + 1, by omega, by go_num, by rw [HN.out, hno, he]; rfl, bj hb (Below.refl _ _)⟩
        case measure => simp [intOf]; omega
      · go_wp2
        go_ret
        refine ⟨_, rfl, ⟨fun _ => hasCol_mono (k := k + 1) (by rw [HN.out, he]; simp) n (by omega), fun _ => by omega⟩, bj hb (Below.refl _ _)⟩
    · obtain rfl : k = n := by omega
      go_wp2
      go_ret
      exact ⟨_, rfl, by rw [hno]; simp, hb⟩
end Go.Proofs.YtfodndnkhgijmaaDoor
