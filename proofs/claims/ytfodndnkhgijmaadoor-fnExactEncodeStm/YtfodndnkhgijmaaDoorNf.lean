/-
  Expressions: the program's way: what an item wants, the nodes.
-/
import Derived.Test.YtfodndnkhgijmaaDoorNe
namespace Go.Proofs.YtfodndnkhgijmaaDoor
open Go.RowKit Go.Maps Go.WideMaps
def isSign (o : Int) : Bool := btw o 4 10 || o == 12
set_option maxRecDepth 20000 in
set_option maxHeartbeats 2000000 in
theorem iSign (o : Int) (w : World) : Calls Tryd.prog 127 #[.int .i64 o] w fun e w' => ∃ s : ByteArray, e = .returned (.string s) ∧ (s.size = 0 ↔ isSign o = false) ∧ w' = w := by
  go_enter Tryd.func127, Tryd.ntmps127
  go_wp2
  all_goals
    go_ret
    exact ⟨_, rfl, by
      (try simp only [beq_iff_eq, beq_eq_false_iff_ne, ne_eq] at *)
      first
        | (subst_vars; decide)
        | (have h1 : (⟨#[]⟩ : ByteArray).size = 0 := rfl
           simp [isSign, btw, h1] <;> omega), rfl⟩
theorem retI {a b : Int} (h : a = b) : Ending.returned (.int .i64 a) = .returned (.int .i64 b) := by rw [h]
def opn (o m : Int) (s : ByteArray) : Int :=
  if (o = 1 ∧ s.size = 0) ∨ (o = 2 ∧ m = 0) ∨ (o = 3 ∧ m = 0) then 0 else if (o = 11 ∨ o = 13) ∧ m = 0 ∧ s.size = 0 then 1 else if m = 0 ∧ s.size = 0 ∧ isSign o = true then 2 else -1
set_option maxRecDepth 20000 in
set_option maxHeartbeats 2000000 in
theorem iOperands (o m : Int) (s : ByteArray) (w : World) : Calls Tryd.prog 119 #[.agg #[.int .i64 o, .int .i64 m, .string s]] w fun e w' => e = .returned (.int .i64 (opn o m s)) ∧ Below w.heap.size w w' := by
  have hE := isE s
  have h0 : ByteArray.empty.size = 0 := rfl
  have hz : s.size = 0 ↔ s = ByteArray.empty := by
    constructor
    · intro h
      exact bytes_inj2 (((empty_iff s).2 h).trans ((empty_iff _).2 rfl).symm)
    · rintro rfl; rfl
  by_cases hs : s = ByteArray.empty
  · by_cases hm : m = 0
    · subst hs hm
      go_enter Tryd.func119, Tryd.ntmps119
      go_wp2_with (go_at_call 127; refine (iSign o _).mono ?_; rintro e w1 ⟨sg, rfl, hsg, rfl⟩; rw [← empty_iff] at hsg; by_cases hq : sg.toList = [])
      all_goals
        go_ret
        exact ⟨retI (by simp_all [opn]), bal _ _⟩
    · subst hs
      have hm' : (m == 0) = false := by simp [hm]
      go_enter Tryd.func119, Tryd.ntmps119
      go_wp2
      all_goals
        go_ret
        exact ⟨retI (by simp_all [opn]), bal _ _⟩
  · go_enter Tryd.func119, Tryd.ntmps119
    go_wp2
    all_goals
      go_ret
      exact ⟨retI (by simp_all [opn]), bal _ _⟩
end Go.Proofs.YtfodndnkhgijmaaDoor
