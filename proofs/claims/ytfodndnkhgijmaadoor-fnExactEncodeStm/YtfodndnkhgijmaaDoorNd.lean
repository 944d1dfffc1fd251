/-
  Values, columns, items: both sides, exactly.
-/
import Derived.Test.YtfodndnkhgijmaaDoorNc
namespace Go.Proofs.YtfodndnkhgijmaaDoor
open Go.RowKit Go.Maps Go.WideMaps
theorem isE (s : ByteArray) : s.toList.isEmpty = decide (s.size = 0) := by
  rw [Bool.eq_iff_iff, List.isEmpty_iff, empty_iff]
  simp
def okValue (t m : Int) (s : ByteArray) : Bool := (t == 1 && isNum m && decide (s.size = 0)) || (t == 2 && m == 0 && okText s)
def okItem (o m : Int) (s : ByteArray) : Bool := (o == 1 && isNum m && decide (s.size = 0)) || (o == 2 && m == 0 && okText s) || (o == 3 && m == 0 && okName s) || (btw o 4 13 && m == 0 && decide (s.size = 0))
def okCol (s : ByteArray) (t : Int) : Bool := okName s && isTyp t
theorem kept2 {w w2 : World} {x y : Value} {t : TypeId} (hb : Below (w.alloc (.cells #[x, y] t)).heap.size (w.alloc (.cells #[x, y] t)) w2) :
    w2.cell? ⟨w.heap.size, 0, none⟩ = some x ∧ w2.cell? ⟨w.heap.size, 1, none⟩ = some y := by
  have h0 : (w.alloc (.cells #[x, y] t)).cell? ⟨w.heap.size, 0, none⟩ = some x := (cell_of_row _ _ 0 _ _ _ (heap_alloc_new w _)).trans rfl
  have h1 : (w.alloc (.cells #[x, y] t)).cell? ⟨w.heap.size, 1, none⟩ = some y := (cell_of_row _ _ 1 _ _ _ (heap_alloc_new w _)).trans rfl
  exact ⟨keepB hb h0, keepB hb h1⟩
theorem kept3 {w w2 : World} {x y z : Value} {t : TypeId} (hb : Below (w.alloc (.cells #[x, y, z] t)).heap.size (w.alloc (.cells #[x, y, z] t)) w2) :
    w2.cell? ⟨w.heap.size, 0, none⟩ = some x ∧ w2.cell? ⟨w.heap.size, 1, none⟩ = some y ∧ w2.cell? ⟨w.heap.size, 2, none⟩ = some z := by
  have h0 : (w.alloc (.cells #[x, y, z] t)).cell? ⟨w.heap.size, 0, none⟩ = some x := (cell_of_row _ _ 0 _ _ _ (heap_alloc_new w _)).trans rfl
  have h1 : (w.alloc (.cells #[x, y, z] t)).cell? ⟨w.heap.size, 1, none⟩ = some y := (cell_of_row _ _ 1 _ _ _ (heap_alloc_new w _)).trans rfl
  have h2 : (w.alloc (.cells #[x, y, z] t)).cell? ⟨w.heap.size, 2, none⟩ = some z := (cell_of_row _ _ 2 _ _ _ (heap_alloc_new w _)).trans rfl
  exact ⟨keepB hb h0, keepB hb h1, keepB hb h2⟩
theorem bj {w wr w2 : World} {o : Obj} (hb : Below w.heap.size w wr) (h : Below (wr.alloc o).heap.size (wr.alloc o) w2) : Below w.heap.size w w2 := hb.trans ((bal2 h).mono hb.size)
theorem btw_no {o : Int} (h : btw o 4 13 = true) : o ≠ 1 ∧ o ≠ 2 ∧ o ≠ 3 := by simp [btw] at h; omega
set_option maxRecDepth 20000 in
set_option maxHeartbeats 2000000 in
theorem sValue (t m : Int) (s : ByteArray) (w : World) (hs : s.size ≤ 1048576) : Calls Tryd.prog 33 #[.agg #[.int .i64 t, .int .i64 m, .string s]] w fun e w' => e = .returned (.bool (okValue t m s)) ∧ Below w.heap.size w w' := by
  have hE := isE s
  go_enter Tryd.func33, Tryd.ntmps33
  by_cases h1 : t = 1
  · subst h1
    go_wp2_with (first | (go_at_call 87; refine (sNumber _ _).mono ?_; rintro e w1 ⟨rfl, rfl⟩; rcases hn : isNum m) | (go_at_call 88; refine (sText s _ hs).mono ?_; rintro e w1 ⟨rfl, rfl⟩; rcases ht : okText s))
    all_goals
      go_ret
      exact ⟨retB (by simp [okValue, *]), bal _ _⟩
  · have h1' : (t == 1) = false := by simp [h1]
    by_cases h2 : t = 2
    · subst h2
      go_wp2_with (first | (go_at_call 87; refine (sNumber _ _).mono ?_; rintro e w1 ⟨rfl, rfl⟩; rcases hn : isNum m) | (go_at_call 88; refine (sText s _ hs).mono ?_; rintro e w1 ⟨rfl, rfl⟩; rcases ht : okText s))
      all_goals
        go_ret
        exact ⟨retB (by simp [okValue, *]), bal _ _⟩
    · have h2' : (t == 2) = false := by simp [h2]
      go_wp2
      go_ret
      exact ⟨retB (by simp [okValue, *]), bal _ _⟩
set_option maxRecDepth 20000 in
set_option maxHeartbeats 2000000 in
theorem iValue (t m : Int) (s : ByteArray) (w : World) (hs : s.size ≤ 1048576) : Calls Tryd.prog 45 #[.agg #[.int .i64 t, .int .i64 m, .string s]] w fun e w' => e = .returned (.bool (okValue t m s)) ∧ Below w.heap.size w w' := by
  have hE := isE s
  go_enter Tryd.func45, Tryd.ntmps45
  by_cases h1 : t = 1
  · subst h1
    go_wp2_with (first | (go_at_call 95; refine (iNumber _ _).mono ?_; rintro e w1 ⟨rfl, rfl⟩; rcases hn : isNum m) | (go_at_call 96; refine (iText s _ hs).mono ?_; rintro e w1 ⟨rfl, rfl⟩; rcases ht : okText s))
    all_goals
      go_ret
      exact ⟨retB (by simp [okValue, *]), bal _ _⟩
  · have h1' : (t == 1) = false := by simp [h1]
    by_cases h2 : t = 2
    · subst h2
      go_wp2_with (first | (go_at_call 95; refine (iNumber _ _).mono ?_; rintro e w1 ⟨rfl, rfl⟩; rcases hn : isNum m) | (go_at_call 96; refine (iText s _ hs).mono ?_; rintro e w1 ⟨rfl, rfl⟩; rcases ht : okText s))
      all_goals
        go_ret
        exact ⟨retB (by simp [okValue, *]), bal _ _⟩
    · have h2' : (t == 2) = false := by simp [h2]
      go_wp2
      go_ret
      exact ⟨retB (by simp [okValue, *]), bal _ _⟩
set_option maxRecDepth 20000 in
set_option maxHeartbeats 2000000 in
theorem iColumn (b : Nat) (s : ByteArray) (t : Int) (w : World) (hK : KwAt w b) (hs : s.size ≤ 1048576) : Calls Tryd.prog 43 #[.map (some b), .agg #[.string s, .int .i64 t]] w fun e w' => e = .returned (.bool (okCol s t)) ∧ Below w.heap.size w w' := by
  have hK1 := hK.later (bal w (.cells #[.string s, .int .i64 t] 70))
  go_enter Tryd.func43, Tryd.ntmps43
  go_wp2_with (go_at_call 40; refine (iName b s _ hK1 hs).mono ?_; rintro e w1 ⟨rfl, hb⟩; obtain ⟨d0, d1⟩ := kept2 hb; rcases hn : okName s)
  all_goals
    go_ret
    exact ⟨retB (by simp [okCol, isTyp, *]), bal2 hb⟩
set_option maxRecDepth 20000 in
set_option maxHeartbeats 2000000 in
theorem sItem (o m : Int) (s : ByteArray) (w : World) (hs : s.size ≤ 1048576) : Calls Tryd.prog 89 #[.agg #[.int .i64 o, .int .i64 m, .string s]] w fun e w' => e = .returned (.bool (okItem o m s)) ∧ Below w.heap.size w w' := by
  have hE := isE s
  go_enter Tryd.func89, Tryd.ntmps89
  by_cases h1 : o = 1
  · subst h1
    have hbt : btw 1 4 13 = false := rfl
    go_wp2_with (go_at_call 87; refine (sNumber _ _).mono ?_; rintro e w1 ⟨rfl, rfl⟩; rcases hn : isNum m)
    all_goals
      go_ret
      exact ⟨retB (by simp [okItem, *]), bal _ _⟩
  have h1' : (o == 1) = false := by simp [h1]
  by_cases h2 : o = 2
  · subst h2
    have hbt : btw 2 4 13 = false := rfl
    go_wp2_with (go_at_call 88; refine (sText s _ hs).mono ?_; rintro e w1 ⟨rfl, rfl⟩; rcases ht : okText s)
    all_goals
      go_ret
      exact ⟨retB (by simp [okItem, *]), bal _ _⟩
  have h2' : (o == 2) = false := by simp [h2]
  by_cases h3 : o = 3
  · subst h3
    have hbt : btw 3 4 13 = false := rfl
    go_wp2_with (go_at_call 31; refine (sName s _ hs).mono ?_; rintro e w1 ⟨rfl, hb2⟩; rcases ht : okName s)
    all_goals
      go_ret
      first
        | exact ⟨retB (by simp [okItem, *]), bal _ _⟩
        | exact ⟨retB (by simp [okItem, *]), bal2 hb2⟩
  have h3' : (o == 3) = false := by simp [h3]
  go_wp2_with (go_at_call 66; refine (sBetween _ 4 13 _).mono ?_; rintro e w1 ⟨rfl, rfl⟩; rcases hbt : btw o 4 13)
  all_goals
    go_ret
    exact ⟨retB (by simp [okItem, *]), bal _ _⟩
end Go.Proofs.YtfodndnkhgijmaaDoor
