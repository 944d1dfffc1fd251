/-
  Expressions: the specification's way, exactly.
-/
import Derived.Test.YtfodndnkhgijmaaDoorNd
namespace Go.Proofs.YtfodndnkhgijmaaDoor
open Go.RowKit Go.Maps Go.WideMaps
/-- An item (a value has the same three fields). -/
structure Itm where
  o : Int
  m : Int
  s : ByteArray
/-- n items lie there. -/
def IL (w : World) (a : Option Addr) (n : Nat) (I : Nat → Itm) : Prop :=
  ∀ k, k < n → ∃ b off, a = some ⟨b, off, none⟩ ∧ w.cell? ⟨b, off + k * 3, none⟩ = some (.int .i64 (I k).o) ∧ w.cell? ⟨b, off + k * 3 + 1, none⟩ = some (.int .i64 (I k).m) ∧ w.cell? ⟨b, off + k * 3 + 2, none⟩ = some (.string (I k).s) ∧ (I k).s.size ≤ 1048576
theorem IL.later {w w' : World} {a : Option Addr} {n : Nat} {I : Nat → Itm} (h : IL w a n I) (hb : Below w.heap.size w w') : IL w' a n I := fun k hk => by
  obtain ⟨b, off, e, h0, h1, h2, hs⟩ := h k hk
  exact ⟨b, off, e, keepB hb h0, keepB hb h1, keepB hb h2, hs⟩
def ex (I : Nat → Itm) : Nat → Option Int
  | 0 => some 0
  | k + 1 => match ex I k with
    | none => none
    | some d => if okItem (I k).o (I k).m (I k).s = true ∧ arity (I k).o ≤ d then some (d + (1 - arity (I k).o)) else none
theorem ex_none {I : Nat → Itm} {k : Nat} (h : ex I k = none) : ∀ n, k ≤ n → ex I n = none := by
  intro n hn
  induction n with
  | zero => obtain rfl : k = 0 := by omega
            exact h
  | succ n ih =>
    by_cases e : k = n + 1
    · subst e; exact h
    · rw [ex, ih (by omega)]
theorem arity_le (o : Int) : 0 ≤ arity o ∧ arity o ≤ 2 := by unfold arity; (repeat' split) <;> omega
theorem ex_le {I : Nat → Itm} : ∀ {k : Nat} {d : Int}, ex I k = some d → 0 ≤ d ∧ d ≤ k := by
  intro k
  induction k with
  | zero => intro d h; simp [ex] at h; omega
  | succ k ih =>
    intro d h
    have ha := arity_le (I k).o
    rw [ex] at h
    split at h
    · cases h
    · rename_i x hx
      have := ih hx
      split at h
      · rename_i hc
        cases h
        omega
      · cases h
def okExp (I : Nat → Itm) (n : Nat) : Bool := btw n 1 100 && decide (ex I n = some 1)
def okWhere (I : Nat → Itm) (n : Nat) : Bool := decide (n = 0) || okExp I n
set_option maxRecDepth 20000 in
set_option maxHeartbeats 4000000 in
theorem sExp (a : Option Addr) (n c : Nat) (I : Nat → Itm) (w : World) (h : IL w a n I) (hn : n ≤ 1048576) : Calls Tryd.prog 34 #[.slice a n c] w fun e w' => e = .returned (.bool (okExp I n)) ∧ Below w.heap.size w w' := by
  have hb0 := Below.refl w.heap.size w
  go_enter Tryd.func34, Tryd.ntmps34
  go_wp2_with (go_at_call 66; refine (sBetween _ 1 100 _).mono ?_; rintro e w1 ⟨rfl, rfl⟩; rcases hbt : btw n 1 100)
  · go_ret
    exact ⟨retB (by simp [okExp, hbt]), hb0⟩
  · go_loopw [3, 5, 12] (fun d _ i wr => ∃ (k : Nat) (x : Int), k ≤ n ∧ i = .int .i64 k ∧ d = .int .i64 x ∧ ex I k = some x ∧ Below w1.heap.size w1 wr) (fun _ _ i _ => n - (intOf i).toNat)
    case atStart => exact ⟨0, 0, by omega, rfl, rfl, rfl, hb0⟩
    case round =>
      obtain ⟨k, x, hk, rfl, rfl, hx, hb⟩ := hrel
      have hxl := ex_le hx
      by_cases hlt : k < n
      · have hst : ex I (k + 1) = if okItem (I k).o (I k).m (I k).s = true ∧ arity (I k).o ≤ x then some (x + (1 - arity (I k).o)) else none := by rw [ex, hx]
        obtain ⟨b, off, rfl, c0, c1, c2, hs⟩ := h.later hb k hlt
        have ha := arity_le (I k).o
        go_wp2_with (first | (go_at_call 89; refine (sItem _ _ _ _ hs).mono ?_; rintro e w2 ⟨rfl, hb2⟩; obtain ⟨d0, d1, d2⟩ := kept3 hb2; replace hb2 := bj hb hb2; rcases ho : okItem (I k).o (I k).m (I k).s) | (go_at_call 90; refine (sArity (I k).o _).mono ?_; rintro e w3 ⟨rfl, rfl⟩))
        · go_ret
          exact ⟨retB (by simp [okExp, ex_none (hst.trans (by simp [ho])) n (by omega)]), hb2⟩
        · go_ret
          exact ⟨retB (by simp [okExp, ex_none (hst.trans (by rw [if_neg]; omega)) n (by omega)]), hb2⟩
        · go_roundw
          case rel => exact ⟨k + 1, x + (1 - arity (I k).o), by omega, by go_num, rfl, hst.trans (by rw [if_pos]; exact ⟨ho, by omega⟩), hb2⟩
          case measure => simp [intOf]; omega
      · obtain rfl : k = n := by omega
        go_wp2
        go_ret
        exact ⟨retB (Bool.eq_iff_iff.2 (by simp [okExp, hbt, hx])), hb⟩
set_option maxRecDepth 20000 in
set_option maxHeartbeats 1000000 in
theorem sWhere (a : Option Addr) (n c : Nat) (I : Nat → Itm) (w : World) (h : IL w a n I) (hn : n ≤ 1048576) : Calls Tryd.prog 35 #[.slice a n c] w fun e w' => e = .returned (.bool (okWhere I n)) ∧ Below w.heap.size w w' := by
  have hb0 := Below.refl w.heap.size w
  go_enter Tryd.func35, Tryd.ntmps35
  by_cases h0 : n = 0
  · subst h0
    go_wp2
    go_ret
    exact ⟨retB (by simp [okWhere]), hb0⟩
  · have h0' : ((n : Int) == 0) = false := by simp; omega
    go_wp2_with (go_at_call 34; refine (sExp a n c I _ h hn).mono ?_; rintro e w1 ⟨rfl, hb1⟩)
    go_ret
    exact ⟨retB (by simp [okWhere, h0]), hb1⟩
end Go.Proofs.YtfodndnkhgijmaaDoor
