/-
  Tables: both ways to say that one is right are one.
-/
import Derived.Test.YtfodndnkhgijmaaDoorTl
namespace Go.Proofs.YtfodndnkhgijmaaDoor
open Go.RowKit Go.Maps Go.WideMaps
theorem allN_iff {n : Nat} {p : Nat → Bool} : allN n p = true ↔ ∀ j, j < n → p j = true := by
  refine ⟨fun h j hj => ?_, allN_true⟩
  rcases hq : p j
  · rw [allN_false hj hq] at h; cases h
  · rfl
/-- A value that a row may have. -/
def valB (o m : Int) (s : ByteArray) : Bool := okValue o m s || (o == 1 && decide (s.size = 0))
def rowB (m : Nat) (I : Nat → Itm) (n : Nat) (C : Nat → Clm) : Bool := allN m (fun j => valB (I j).o (I j).m (I j).s) && typesB m n I C
def sortB (C : Nat → Clm) (r : Nat) (R : Nat → Nat → Itm) : Bool := if (C 0).t == 1 then allN r (ltR R) else allN r (ltT R)
def isTabB (s : ByteArray) (n : Nat) (C : Nat → Clm) (r : Nat) (m : Nat → Nat) (R : Nat → Nat → Itm) : Bool :=
  okName s && (btw n 1 20 && allN n (fun j => okCol (C j).s (C j).t)) && difB C n && decide (r ≤ 1000) && allN r (fun i => rowB (m i) (R i) n C) && sortB C r R
theorem less_nil {a b : ByteArray} (h : b.size = 0) : Op.bytesLess a.toList b.toList = false := by
  rw [(empty_iff b).2 h]
  cases a.toList <;> rfl
theorem right_val {o m : Int} {s : ByteArray} {t : Int} (ht : isTyp t = true) : rightB o m s t = (valB o m s && o == t) := by
  unfold isTyp at ht
  simp only [Bool.or_eq_true, beq_iff_eq] at ht
  unfold rightB valB okValue
  rcases ht with rfl | rfl
  · by_cases e : o = 1
    · subst e
      rcases hs : decide (s.size = 0) <;> rcases hm : isNum m <;> simp
    · rw [show (o == 1) = false from by simpa using e]
      simp
  · by_cases e : o = 2
    · subst e
      simp
    · rw [show (o == 2) = false from by simpa using e]
      simp
theorem rows_one {n : Nat} {C : Nat → Clm} {r : Nat} {m : Nat → Nat} {R : Nat → Nat → Itm} (h0 : 0 < n) (hT : ∀ j, j < n → isTyp (C j).t = true) :
    allN r (okRowAt n C m R) = (allN r (fun i => rowB (m i) (R i) n C) && sortB C r R) := by
  rw [Bool.eq_iff_iff]
  simp only [Bool.and_eq_true, allN_iff]
  have key : ∀ i, (rowB (m i) (R i) n C = true ↔ m i = n ∧ ∀ j, j < m i → rightB (R i j).o (R i j).m (R i j).s (C j).t = true) := fun i => by
    unfold rowB typesB
    simp only [Bool.and_eq_true, allN_iff, decide_eq_true_eq]
    constructor
    · rintro ⟨h1, h2, h3⟩
      refine ⟨h2, fun j hj => ?_⟩
      rw [right_val (hT j (by omega)), h1 j hj, h3 j hj]
      rfl
    · rintro ⟨h2, h1⟩
      refine ⟨fun j hj => ?_, h2, fun j hj => ?_⟩
      · have := h1 j hj
        rw [right_val (hT j (by omega)), Bool.and_eq_true] at this
        exact this.1
      · have := h1 j hj
        rw [right_val (hT j (by omega)), Bool.and_eq_true] at this
        exact this.2
  have ord : (∀ i, i < r → m i = n ∧ ∀ j, j < m i → rightB (R i j).o (R i j).m (R i j).s (C j).t = true) → ∀ i, i < r →
      ((decide (i = 0) || befV (R (i - 1) 0).m (R (i - 1) 0).s (R i 0).m (R i 0).s) = if (C 0).t == 1 then ltR R i else ltT R i) := fun hall i hi => by
    by_cases e : i = 0
    · subst e
      simp [ltR, ltT]
    · obtain ⟨a1, a2⟩ := hall i hi
      obtain ⟨b1, b2⟩ := hall (i - 1) (by omega)
      have a3 := a2 0 (by omega)
      have b3 := b2 0 (by omega)
      have ht := hT 0 h0
      unfold isTyp at ht
      simp only [Bool.or_eq_true, beq_iff_eq] at ht
      unfold ltR ltT befV
      rw [decide_eq_false e, Bool.false_or, Bool.false_or, Bool.false_or]
      rcases ht with ht | ht
      · rw [ht] at a3 b3 ⊢
        unfold rightB at a3 b3
        simp at a3 b3
        rw [less_nil (by rw [a3.2]; rfl)]
        simp
      · rw [ht] at a3 b3 ⊢
        unfold rightB at a3 b3
        simp at a3 b3
        rw [a3.2.1, b3.2.1]
        simp
  have hrow : ∀ i, (okRowAt n C m R i = true ↔ (m i = n ∧ ∀ j, j < m i → rightB (R i j).o (R i j).m (R i j).s (C j).t = true) ∧ (decide (i = 0) || befV (R (i - 1) 0).m (R (i - 1) 0).s (R i 0).m (R i 0).s) = true) := fun i => by
    unfold okRowAt
    rw [Bool.and_eq_true, Bool.and_eq_true, decide_eq_true_eq, allN_iff]
  have hsort : sortB C r R = true ↔ ∀ i, i < r → (if (C 0).t == 1 then ltR R i else ltT R i) = true := by
    unfold sortB
    split
    · rw [allN_iff]
    · rw [allN_iff]
  rw [hsort]
  constructor
  · intro h
    have h1 : ∀ i, i < r → m i = n ∧ ∀ j, j < m i → rightB (R i j).o (R i j).m (R i j).s (C j).t = true := fun i hi => ((hrow i).1 (h i hi)).1
    exact ⟨fun i hi => (key i).2 (h1 i hi), fun i hi => by rw [← ord h1 i hi]; exact ((hrow i).1 (h i hi)).2⟩
  · rintro ⟨h1, h2⟩ i hi
    have h3 : ∀ i, i < r → m i = n ∧ ∀ j, j < m i → rightB (R i j).o (R i j).m (R i j).s (C j).t = true := fun i hi => (key i).1 (h1 i hi)
    exact (hrow i).2 ⟨h3 i hi, by rw [ord h3 i hi]; exact h2 i hi⟩
theorem cols_one (C : Nat → Clm) (n : Nat) : allN n (okColAt C) = (allN n (fun j => okCol (C j).s (C j).t) && difB C n) := by
  unfold difB
  rw [Bool.eq_iff_iff]
  simp only [Bool.and_eq_true, allN_iff]
  constructor
  · intro h
    refine ⟨fun j hj => ?_, fun j hj => ?_⟩
    · have := h j hj
      unfold okColAt at this
      rw [Bool.and_eq_true] at this
      exact this.1
    · have := h j hj
      unfold okColAt at this
      rw [Bool.and_eq_true] at this
      exact this.2
  · rintro ⟨h1, h2⟩ j hj
    unfold okColAt
    rw [Bool.and_eq_true]
    exact ⟨h1 j hj, h2 j hj⟩
theorem tab_one (s : ByteArray) (n : Nat) (C : Nat → Clm) (r : Nat) (m : Nat → Nat) (R : Nat → Nat → Itm) : isTabB s n C r m R = okTab s n C r m R := by
  unfold isTabB okTab
  rw [cols_one]
  rcases h1 : okName s
  · rfl
  rcases h2 : btw (n : Int) 1 20
  · rfl
  rcases h3 : allN n (fun j => okCol (C j).s (C j).t)
  · simp
  rcases h4 : difB C n
  · simp
  have h0 : 0 < n := by
    unfold btw at h2
    simp at h2
    omega
  rw [rows_one h0 (fun j hj => by
    have := allN_iff.1 h3 j hj
    unfold okCol at this
    rw [Bool.and_eq_true] at this
    exact this.2)]
  rcases decide (r ≤ 1000) <;> simp
end Go.Proofs.YtfodndnkhgijmaaDoor
