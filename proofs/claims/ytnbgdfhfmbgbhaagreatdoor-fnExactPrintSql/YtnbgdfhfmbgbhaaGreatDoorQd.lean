/-
  Expressions as SQL: the text of a node; of the nodes behind k items.
-/
import Derived.Test.YtnbgdfhfmbgbhaaGreatDoorNj
import Derived.Test.YtnbgdfhfmbgbhaaGreatDoorQc
namespace Go.Proofs.YtnbgdfhfmbgbhaaGreatDoor
open Go.RowKit Go.Maps Go.WideMaps
theorem sgn_size (o : Int) : (sgn o).size ≤ 3 := by
  unfold sgn
  (repeat' split) <;> decide
theorem sgn3_size (o : Int) : (sgn3 o).size ≤ 5 := by
  unfold sgn3
  have := sgn_size o
  rw [ByteArray.size_append, ByteArray.size_append]
  have e : (⟨#[32]⟩ : ByteArray).size = 1 := rfl
  omega
/-- How long the texts of a list are. -/
def lenT : List Tr → Nat
  | [] => 0
  | t :: r => t.sql.size + lenT r
theorem lenT_app (a b : List Tr) : lenT (a ++ b) = lenT a + lenT b := by
  induction a with
  | nil => simp [lenT]
  | cons t r ih => simp only [List.cons_append, lenT, ih]; omega
theorem lenT_mem {L : List Tr} {t : Tr} (h : t ∈ L) : t.sql.size ≤ lenT L := by
  induction L with
  | nil => cases h
  | cons x r ih =>
    rcases List.mem_cons.1 h with e | e
    · subst e; simp only [lenT]; omega
    · have := ih e
      simp only [lenT]; omega
theorem stk_len {I : Nat → Itm} : ∀ {k : Nat} {d : Int}, sh I k = some d → ((stk I k).length : Int) = d
  | 0, d, h => by
    simp [sh] at h
    subst h
    rfl
  | k + 1, d, h => by
    rw [sh] at h
    cases hs : sh I k with
    | none => rw [hs] at h; simp at h
    | some d' =>
      rw [hs] at h
      dsimp only at h
      split at h
      · rename_i hc
        have ih := stk_len hs
        simp only [Option.some.injEq] at h
        rw [stk]
        simp only [List.length_append, List.length_take, List.length_cons, List.length_nil]
        omega
      · cases h
theorem lf_le {I : Nat → Itm} {n : Nat} (h : lf I n = true) : ∀ k, k ≤ n → lf I k = true := by
  induction n with
  | zero => intro k hk; obtain rfl : k = 0 := by omega
            exact h
  | succ n ih =>
    intro k hk
    rw [lf, Bool.and_eq_true] at h
    by_cases e : k = n + 1
    · subst e; rw [lf, Bool.and_eq_true]; exact h
    · exact ih h.1 k (by omega)
theorem lf_at {I : Nat → Itm} {n k : Nat} (h : lf I n = true) (hk : k < n) : leafOK (I k) = true := by
  have := lf_le h (k + 1) hk
  rw [lf, Bool.and_eq_true] at this
  exact this.2
/-- What an accepted expression says of its k-th item. -/
theorem at_item {I : Nat → Itm} {n k : Nat} (h : sh I n ≠ none) (hk : k < n) : ∃ q r : Nat, opn (I k).o (I k).m (I k).s = q ∧ r + q = (stk I k).length := by
  have h1 : sh I (k + 1) ≠ none := fun e => h (sh_none e n hk)
  rw [sh] at h1
  cases hs : sh I k with
  | none => rw [hs] at h1; simp at h1
  | some d =>
    rw [hs] at h1
    dsimp only at h1
    have hl := stk_len hs
    split at h1
    · rename_i hc
      exact ⟨(opn (I k).o (I k).m (I k).s).toNat, ((stk I k).length - (opn (I k).o (I k).m (I k).s).toNat), by omega, by omega⟩
    · exact absurd rfl h1
theorem lenT_take (L : List Tr) (r : Nat) : lenT L = lenT (L.take r) + lenT (L.drop r) := by
  rw [← lenT_app, List.take_append_drop]
theorem mkN_size {i : Itm} {S : Nat → Tr} {q : Nat} (hq : opn i.o i.m i.s = q) (hl : leafOK i = true) (hr : rng i.m) :
    (mkN i.o i.m i.s S).sql.size ≤ 420 + (if 0 < q then (S 0).sql.size else 0) + (if 1 < q then (S 1).sql.size else 0) := by
  obtain ⟨o, m, s⟩ := i
  unfold leafOK at hl
  dsimp only at hl hq hr ⊢
  rcases opn_cases (i := ⟨o, m, s⟩) hq (by omega) with ⟨e, h1⟩ | ⟨e, h1⟩ | ⟨e, h1⟩
  · obtain rfl : q = 0 := by omega
    dsimp only at h1
    rcases h1 with h1 | h1 | h1
    · subst h1
      have := decB_size hr
      simp [mkN, Tr.num]; omega
    · subst h1
      simp [okText] at hl
      have := quoB_size s
      simp [mkN, Tr.txt]; omega
    · subst h1
      simp [okName, okWord] at hl
      simp [mkN, Tr.col]; omega
  · obtain rfl : q = 1 := by omega
    dsimp only at h1
    have e1 : (⟨#[108, 101, 110, 40]⟩ : ByteArray).size = 4 := rfl
    have e2 : (⟨#[40, 110, 111, 116, 32]⟩ : ByteArray).size = 5 := rfl
    have e3 : (⟨#[41]⟩ : ByteArray).size = 1 := rfl
    rcases h1 with h1 | h1
    · subst h1
      simp [mkN, Tr.one, ByteArray.size_append]; omega
    · subst h1
      simp [mkN, Tr.one, ByteArray.size_append]; omega
  · obtain rfl : q = 2 := by omega
    dsimp only at h1
    have h2 := sign_no h1
    have h3 := sgn3_size o
    have e3 : (⟨#[41]⟩ : ByteArray).size = 1 := rfl
    have e4 : (⟨#[40]⟩ : ByteArray).size = 1 := rfl
    simp [mkN, Tr.two, ByteArray.size_append, h2]; omega
theorem drop_len {L : List Tr} {r q : Nat} (hr : r + q = L.length) : (if 0 < q then (L.getD (r + 0) (.num 0)).sql.size else 0) + (if 1 < q then (L.getD (r + 1) (.num 0)).sql.size else 0) ≤ lenT (L.drop r) := by
  by_cases h0 : 0 < q
  · have hl : r < L.length := by omega
    rw [List.drop_eq_getElem_cons hl, lenT, if_pos h0]
    have g0 : L.getD (r + 0) (.num 0) = L[r] := by simp [hl]
    rw [g0]
    by_cases h1 : 1 < q
    · have hl1 : r + 1 < L.length := by omega
      rw [List.drop_eq_getElem_cons hl1, lenT, if_pos h1]
      have g1 : L.getD (r + 1) (.num 0) = L[r + 1] := by simp [hl1]
      rw [g1]
      omega
    · rw [if_neg h1]; omega
  · rw [if_neg h0, if_neg (by omega)]; exact Nat.zero_le _
theorem stk_lenT {I : Nat → Itm} {n : Nat} (h : sh I n ≠ none) (hl : lf I n = true) (hr : ∀ k, k < n → rng (I k).m) : ∀ k, k ≤ n → lenT (stk I k) ≤ 420 * k
  | 0, _ => Nat.zero_le _
  | k + 1, hk => by
    have ih := stk_lenT h hl hr k (by omega)
    obtain ⟨q, r, hq, hrq⟩ := at_item h (show k < n by omega)
    have e := stk_step rfl hq hrq rfl
    rw [← e, lenT_app]
    have h1 := mkN_size (S := fun j => (stk I k).getD (r + j) (.num 0)) hq (lf_at hl (show k < n by omega)) (hr k (by omega))
    have h2 := drop_len hrq
    have h3 := lenT_take (stk I k) r
    simp only [lenT]
    omega
end Go.Proofs.YtnbgdfhfmbgbhaaGreatDoor
