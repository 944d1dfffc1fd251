/-
  Expressions: lifted: the mathematics, and the program's loop.
-/
import Derived.Test.YtnbgdfhfmbgbhaaGreatDoorNh
import Derived.Deep.AppendLies
import Derived.Deep.RegionHeld3
namespace Go.Proofs.YtnbgdfhfmbgbhaaGreatDoor
open Go.RowKit Go.Maps Go.WideMaps
def leafOK (i : Itm) : Bool := (!(i.o == 1) || isNum i.m) && (!(i.o == 2) || okText i.s) && (!(i.o == 3) || okName i.s)
theorem item_split (i : Itm) : okItem i.o i.m i.s = (decide (0 ≤ opn i.o i.m i.s) && leafOK i) := by
  obtain ⟨o, m, s⟩ := i
  rw [Bool.eq_iff_iff]
  simp only [okItem, leafOK, opn, isSign, btw]
  by_cases h1 : o = 1
  · subst h1
    by_cases hs : s.size = 0 <;> simp [hs]
  by_cases h2 : o = 2
  · subst h2
    by_cases hm : m = 0 <;> simp [hm]
  by_cases h3 : o = 3
  · subst h3
    by_cases hm : m = 0 <;> simp [hm]
  by_cases hm : m = 0
  · by_cases hs : s.size = 0
    · simp [h1, h2, h3, hm, hs]
      (repeat' split) <;> omega
    · simp [h1, h2, h3, hm, hs]
  · simp [h1, h2, h3, hm]
theorem sign_no {o : Int} (h : isSign o = true) : o ≠ 1 ∧ o ≠ 2 ∧ o ≠ 3 ∧ o ≠ 11 ∧ o ≠ 13 ∧ 3 < o := by
  simp [isSign, btw] at h
  omega
theorem opn_cases {i : Itm} {q : Int} (h : opn i.o i.m i.s = q) (h0 : 0 ≤ q) : (q = 0 ∧ (i.o = 1 ∨ i.o = 2 ∨ i.o = 3)) ∨ (q = 1 ∧ (i.o = 11 ∨ i.o = 13)) ∨ (q = 2 ∧ isSign i.o = true) := by
  unfold opn at h
  split at h
  · left; omega
  · split at h
    · right; left; omega
    · split at h
      · rename_i h3
        exact Or.inr (Or.inr ⟨h.symm, h3.2.2⟩)
      · omega
theorem opn_arity (i : Itm) (h : 0 ≤ opn i.o i.m i.s) : opn i.o i.m i.s = arity i.o := by
  unfold arity
  rcases opn_cases rfl h with ⟨e, h1⟩ | ⟨e, h1⟩ | ⟨e, h1⟩
  · rw [e, if_pos (by omega)]
  · rw [e, if_neg (by omega), if_pos h1]
  · have := sign_no h1
    rw [e, if_neg (by omega), if_neg (by omega)]
def sh (I : Nat → Itm) : Nat → Option Int
  | 0 => some 0
  | k + 1 => match sh I k with
    | none => none
    | some d => if 0 ≤ opn (I k).o (I k).m (I k).s ∧ opn (I k).o (I k).m (I k).s ≤ d then some (d + (1 - opn (I k).o (I k).m (I k).s)) else none
def lf (I : Nat → Itm) : Nat → Bool
  | 0 => true
  | k + 1 => lf I k && leafOK (I k)
theorem ex_sh (I : Nat → Itm) : ∀ k, ex I k = if lf I k = true then sh I k else none
  | 0 => rfl
  | k + 1 => by
    rw [ex, ex_sh I k, lf, sh]
    by_cases hl : lf I k = true
    · rw [if_pos hl, hl]
      cases hs : sh I k with
      | none => simp
      | some d =>
        simp only [item_split (I k)]
        by_cases h0 : 0 ≤ opn (I k).o (I k).m (I k).s
        · rw [← opn_arity (I k) h0]
          by_cases hf : leafOK (I k) = true <;> simp [h0, hf]
        · simp [h0]
    · simp [hl]
theorem sh_none {I : Nat → Itm} {k : Nat} (h : sh I k = none) : ∀ n, k ≤ n → sh I n = none := by
  intro n hn
  induction n with
  | zero => obtain rfl : k = 0 := by omega
            exact h
  | succ n ih =>
    by_cases e : k = n + 1
    · subst e; exact h
    · rw [sh, ih (by omega)]
theorem exp_no {I : Nat → Itm} {n : Nat} (h : sh I n ≠ some 1) : okExp I n = false := by
  simp only [okExp, ex_sh]
  by_cases hl : lf I n = true <;> simp [hl, h]
theorem exp_yes {I : Nat → Itm} {n : Nat} (h : sh I n = some 1) (hn : n ≤ 100) : okExp I n = lf I n := by
  have h1 : 1 ≤ n := by
    by_cases e : n = 0
    · subst e; simp [sh] at h
    · omega
  simp only [okExp, ex_sh, btw]
  by_cases hl : lf I n = true
  · simp [hl, h]; omega
  · simp [hl]
theorem exp_long {I : Nat → Itm} {n : Nat} (hn : 100 < n) : okExp I n = false := by
  simp only [okExp, btw]
  simp
  omega
/-- A node's value. -/
def Tr.val (t : Tr) : Value := .iface t.ty t.pay
theorem mkN_ok (i : Itm) (S : Nat → Tr) (q : Nat) (hq : opn i.o i.m i.s = q) : (mkN i.o i.m i.s S).ok = (leafOK i && ((List.range q).all fun j => (S j).ok)) := by
  obtain ⟨o, m, s⟩ := i
  rcases opn_cases hq (by omega) with ⟨e, h1⟩ | ⟨e, h1⟩ | ⟨e, h1⟩
  · obtain rfl : q = 0 := by omega
    rcases h1 with h1 | h1 | h1 <;> (dsimp only at h1; subst h1; simp [mkN, leafOK, Tr.num, Tr.txt, Tr.col])
  · obtain rfl : q = 1 := by omega
    rcases h1 with h1 | h1 <;> (dsimp only at h1; subst h1; simp [mkN, leafOK, Tr.one, List.range_succ])
  · obtain rfl : q = 2 := by omega
    dsimp only at h1
    have := sign_no h1
    simp [mkN, leafOK, Tr.two, List.range_succ, this]
theorem mkN_fit (i : Itm) (S : Nat → Tr) (q : Nat) (hq : opn i.o i.m i.s = q) (hs : i.s.size ≤ 1048576) (h : ∀ j, j < q → (S j).fit) : (mkN i.o i.m i.s S).fit := by
  obtain ⟨o, m, s⟩ := i
  rcases opn_cases hq (by omega) with ⟨e, h1⟩ | ⟨e, h1⟩ | ⟨e, h1⟩
  · rcases h1 with h1 | h1 | h1 <;> (dsimp only at h1; subst h1)
    · exact (show mkN 1 m s S = .num m by simp [mkN]) ▸ fit_num m
    · exact (show mkN 2 m s S = .txt s by simp [mkN]) ▸ fit_txt s hs
    · exact (show mkN 3 m s S = .col s by simp [mkN]) ▸ fit_col s hs
  · obtain rfl : q = 1 := by omega
    rcases h1 with h1 | h1 <;> (dsimp only at h1; subst h1)
    · exact (show mkN 11 m s S = .one 11 (S 0) by simp [mkN]) ▸ fit_one 11 (h 0 (by omega))
    · exact (show mkN 13 m s S = .one 13 (S 0) by simp [mkN]) ▸ fit_one 13 (h 0 (by omega))
  · obtain rfl : q = 2 := by omega
    dsimp only at h1
    have h2 := sign_no h1
    exact (show mkN o m s S = .two o (S 0) (S 1) by simp [mkN, h2]) ▸ fit_two o (h 0 (by omega)) (h 1 (by omega))
end Go.Proofs.YtnbgdfhfmbgbhaaGreatDoor
