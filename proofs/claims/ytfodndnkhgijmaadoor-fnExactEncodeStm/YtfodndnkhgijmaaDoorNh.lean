/-
  Expressions: a node is made.
-/
import Derived.Test.YtfodndnkhgijmaaDoorNg
namespace Go.Proofs.YtfodndnkhgijmaaDoor
open Go.RowKit Go.Maps Go.WideMaps
/-- n nodes lie there. -/
def NL (w : World) (a : Option Addr) (n : Nat) (S : Nat → Tr) : Prop :=
  ∀ k, k < n → ∃ b off, a = some ⟨b, off, none⟩ ∧ w.cell? ⟨b, off + k, none⟩ = some (.iface (S k).ty (S k).pay)
theorem NL.later {w w' : World} {a : Option Addr} {n : Nat} {S : Nat → Tr} (h : NL w a n S) (hb : Below w.heap.size w w') : NL w' a n S := fun k hk => by
  obtain ⟨b, off, e, h0⟩ := h k hk
  exact ⟨b, off, e, keepB hb h0⟩
def mkN (o m : Int) (s : ByteArray) (S : Nat → Tr) : Tr :=
  if o = 1 then .num m else if o = 2 then .txt s else if o = 3 then .col s else if o = 11 ∨ o = 13 then .one o (S 0) else .two o (S 0) (S 1)
theorem bdr (w : World) (n : Nat) : Below w.heap.size w (w.drewN n) := ⟨rfl, rfl, rfl, Nat.le_refl _, fun _ _ => rfl⟩
set_option maxRecDepth 20000 in
set_option maxHeartbeats 4000000 in
theorem iMakeNode (o m : Int) (s : ByteArray) (a : Option Addr) (n c : Nat) (S : Nat → Tr) (w : World) (h : NL w a n S) (hn : opn o m s = n) (hcap : n ≤ 1048576) : Calls Tryd.prog 120 #[.agg #[.int .i64 o, .int .i64 m, .string s], .slice a n c] w fun e w' => e = .returned (.iface (mkN o m s S).ty (mkN o m s S).pay) ∧ Below w.heap.size w w' := by
  have hb0 := bal w (.cells #[.int .i64 o, .int .i64 m, .string s] 129)
  go_enter Tryd.func120, Tryd.ntmps120
  by_cases h1 : o = 1
  · subst h1
    go_wp2
    go_ret
    exact ⟨rfl, hb0⟩
  have h1' : (o == 1) = false := by simp [h1]
  by_cases h2 : o = 2
  · subst h2
    go_wp2
    go_ret
    exact ⟨rfl, hb0⟩
  have h2' : (o == 2) = false := by simp [h2]
  by_cases h3 : o = 3
  · subst h3
    go_wp2
    go_ret
    exact ⟨rfl, hb0⟩
  have h3' : (o == 3) = false := by simp [h3]
  by_cases h4 : o = 11 ∨ o = 13
  · have e1 : n = 1 := by
      have : opn o m s = 1 ∨ opn o m s < 0 ∨ opn o m s = 2 := by unfold opn; (repeat' split) <;> omega
      have h5 : opn o m s ≠ 2 := by
        unfold opn
        have : isSign o = false := by rcases h4 with rfl | rfl <;> rfl
        simp [this]
        (repeat' split) <;> omega
      omega
    subst e1
    obtain ⟨b, off, rfl, c0⟩ := h.later hb0 0 (by omega)
    rw [Nat.add_zero] at c0
    have hm : mkN o m s S = .one o (S 0) := by simp [mkN, h1, h2, h3, h4]
    rw [hm]
    rcases h4 with rfl | rfl
    all_goals
      go_wp2
      go_quiet (fail)
      go_wp2
      go_ret
      exact ⟨rfl, bstep hb0 (bdr _ _)⟩
  · have h11 : (o == 11) = false := by simp; omega
    have h13 : (o == 13) = false := by simp; omega
    have e2 : n = 2 := by
      have : opn o m s = 2 ∨ opn o m s < 0 := by
        unfold opn
        rw [if_neg (by omega), if_neg (by omega)]
        split <;> omega
      omega
    subst e2
    obtain ⟨b, off, rfl, c0⟩ := h.later hb0 0 (by omega)
    rw [Nat.add_zero] at c0
    obtain ⟨b', off', e, c1⟩ := h.later hb0 1 (by omega)
    obtain ⟨rfl, rfl⟩ : b = b' ∧ off = off' := by simpa using e
    have hm : mkN o m s S = .two o (S 0) (S 1) := by simp [mkN, h1, h2, h3, h4]
    rw [hm]
    go_wp2
    go_quiet (fail)
    go_wp2
    go_ret
    exact ⟨rfl, bstep hb0 (bdr _ _)⟩
end Go.Proofs.YtfodndnkhgijmaaDoor
