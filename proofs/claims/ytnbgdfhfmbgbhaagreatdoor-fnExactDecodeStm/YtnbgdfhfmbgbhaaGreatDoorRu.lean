/-
  Statements read: what is read, in one way for all kinds; its lists lie apart from each other.
-/
import Derived.Test.YtnbgdfhfmbgbhaaGreatDoorRs
namespace Go.Proofs.YtnbgdfhfmbgbhaaGreatDoor
open Go.RowKit Go.Maps Go.WideMaps
def rd0 (s : ByteArray) : St := ⟨numV s 1 (some 0), tbS s, 0, fun _ => zC, 0, fun _ => z3, ⟨#[]⟩, 0, fun _ => z3, 0, fun _ => z3, 0, fun _ => 0, fun _ _ => z3⟩
/-- How many of n things were read: all, or nothing more was there. -/
def Cnt (f : Option Nat → Option Nat) (q : Option Nat) (n m : Nat) : Prop := m ≤ n ∧ (m = n ∨ rep f q m = none)
/-- What may be read of a text. -/
def Rdg (s : ByteArray) (d : St) : Prop :=
  (numV s 1 (some 0) ≠ 1 ∧ numV s 1 (some 0) ≠ 2 ∧ numV s 1 (some 0) ≠ 3 ∧ numV s 1 (some 0) ≠ 4 ∧ numV s 1 (some 0) ≠ 5 ∧ d = rd0 s) ∨
  (∃ (m : Nat), numV s 1 (some 0) = 1 ∧ Cnt (clP s) (numP s 1 (hd2 s)) (lenV s 1 (hd2 s)) m ∧ d = rd1 s m) ∨
  (∃ (m : Nat), numV s 1 (some 0) = 2 ∧ Cnt (vlP s) (numP s 1 (hd2 s)) (lenV s 1 (hd2 s)) m ∧ d = rd2 s m) ∨
  (∃ (m m' : Nat), numV s 1 (some 0) = 3 ∧ Cnt (itmP s) (numP s 2 (txtP s 1 (hd2 s))) (lenV s 2 (txtP s 1 (hd2 s))) m ∧ Cnt (itmP s) (numP s 2 (exPl s (txtP s 1 (hd2 s)))) (lenV s 2 (exPl s (txtP s 1 (hd2 s)))) m' ∧ d = rd3 s m m') ∨
  (∃ (m' : Nat), numV s 1 (some 0) = 4 ∧ Cnt (itmP s) (numP s 2 (hd2 s)) (lenV s 2 (hd2 s)) m' ∧ d = rd4 s m') ∨
  (∃ (m : Nat) (M : Nat → Nat) (m' : Nat), numV s 1 (some 0) = 5 ∧ Cnt (exPl s) (numP s 1 (hd2 s)) (lenV s 1 (hd2 s)) m ∧ (∀ i, i < m → Cnt (itmP s) (numP s 2 (rep (exPl s) (numP s 1 (hd2 s)) i)) (lenV s 2 (rep (exPl s) (numP s 1 (hd2 s)) i)) (M i)) ∧ (∀ i, m ≤ i → M i = 0) ∧ Cnt (itmP s) (numP s 2 (rep (exPl s) (numP s 1 (hd2 s)) m)) (lenV s 2 (rep (exPl s) (numP s 1 (hd2 s)) m)) m' ∧ d = rd5 s m M m')
theorem Rdg.k0 {s : ByteArray}  (h0 : numV s 1 (some 0) ≠ 1) (h1 : numV s 1 (some 0) ≠ 2) (h2 : numV s 1 (some 0) ≠ 3) (h3 : numV s 1 (some 0) ≠ 4) (h4 : numV s 1 (some 0) ≠ 5) : Rdg s (rd0 s) := Or.inl ⟨h0, h1, h2, h3, h4, rfl⟩
theorem Rdg.k1 {s : ByteArray} (m : Nat) (h0 : numV s 1 (some 0) = 1) (h1 : Cnt (clP s) (numP s 1 (hd2 s)) (lenV s 1 (hd2 s)) m) : Rdg s (rd1 s m) := Or.inr (Or.inl ⟨m, h0, h1, rfl⟩)
theorem Rdg.k2 {s : ByteArray} (m : Nat) (h0 : numV s 1 (some 0) = 2) (h1 : Cnt (vlP s) (numP s 1 (hd2 s)) (lenV s 1 (hd2 s)) m) : Rdg s (rd2 s m) := Or.inr (Or.inr (Or.inl ⟨m, h0, h1, rfl⟩))
theorem Rdg.k3 {s : ByteArray} (m m' : Nat) (h0 : numV s 1 (some 0) = 3) (h1 : Cnt (itmP s) (numP s 2 (txtP s 1 (hd2 s))) (lenV s 2 (txtP s 1 (hd2 s))) m) (h2 : Cnt (itmP s) (numP s 2 (exPl s (txtP s 1 (hd2 s)))) (lenV s 2 (exPl s (txtP s 1 (hd2 s)))) m') : Rdg s (rd3 s m m') := Or.inr (Or.inr (Or.inr (Or.inl ⟨m, m', h0, h1, h2, rfl⟩)))
theorem Rdg.k4 {s : ByteArray} (m' : Nat) (h0 : numV s 1 (some 0) = 4) (h1 : Cnt (itmP s) (numP s 2 (hd2 s)) (lenV s 2 (hd2 s)) m') : Rdg s (rd4 s m') := Or.inr (Or.inr (Or.inr (Or.inr (Or.inl ⟨m', h0, h1, rfl⟩))))
theorem Rdg.k5 {s : ByteArray} (m : Nat) (M : Nat → Nat) (m' : Nat) (h0 : numV s 1 (some 0) = 5) (h1 : Cnt (exPl s) (numP s 1 (hd2 s)) (lenV s 1 (hd2 s)) m) (h2 : (∀ i, i < m → Cnt (itmP s) (numP s 2 (rep (exPl s) (numP s 1 (hd2 s)) i)) (lenV s 2 (rep (exPl s) (numP s 1 (hd2 s)) i)) (M i))) (h3 : (∀ i, m ≤ i → M i = 0)) (h4 : Cnt (itmP s) (numP s 2 (rep (exPl s) (numP s 1 (hd2 s)) m)) (lenV s 2 (rep (exPl s) (numP s 1 (hd2 s)) m)) m') : Rdg s (rd5 s m M m') := Or.inr (Or.inr (Or.inr (Or.inr (Or.inr (⟨m, M, m', h0, h1, h2, h3, h4, rfl⟩)))))
theorem txtP_none (s : ByteArray) (k : Nat) : txtP s k none = none := rfl
theorem clP_none (s : ByteArray) : clP s none = none := rfl
theorem vlP_none (s : ByteArray) : vlP s none = none := by
  unfold vlP
  split <;> rfl
theorem exPl_none (s : ByteArray) : exPl s none = none := by
  unfold exPl
  exact rep_none (itmP_none s) (m := 0) rfl _ (Nat.zero_le _)
/-- If all things were there, all were read. -/
theorem Cnt.all {f : Option Nat → Option Nat} (hf : f none = none) {q : Option Nat} {n m z : Nat} (h : Cnt f q n m) (hz : rep f q n = some z) : m = n := by
  rcases h with ⟨h1, h2 | h2⟩
  · exact h2
  · have := rep_none hf h2 n h1
    rw [this] at hz
    cases hz
theorem enc0 (s : ByteArray) (e1 : numV s 1 (some 0) ≠ 1) (e2 : numV s 1 (some 0) ≠ 2) (e3 : numV s 1 (some 0) ≠ 3) (e4 : numV s 1 (some 0) ≠ 4) (e5 : numV s 1 (some 0) ≠ 5) : okStm (rd0 s) = false := by
  cases h : okStm (rd0 s)
  · rfl
  · rcases okStm_k h with e | e | e | e | e
    · exact absurd e e1
    · exact absurd e e2
    · exact absurd e e3
    · exact absurd e e4
    · exact absurd e e5
theorem kind_ne {s : ByteArray} {a b : Int} (h : numV s 1 (some 0) = a) (h' : numV s 1 (some 0) = b) (hne : a ≠ b) : False := hne (h.symm.trans h')
theorem rep_some {f : Option Nat → Option Nat} (hf : f none = none) {q : Option Nat} {n z : Nat} (h : rep f q n = some z) : ∀ i, i ≤ n → ∃ y, rep f q i = some y := fun i hi => by
  cases e : rep f q i with
  | none => rw [rep_none hf e n hi] at h; cases h
  | some y => exact ⟨y, rfl⟩
/-- Only one statement that may be read is written as the text. -/
theorem read_one {s : ByteArray} {d d' : St} (h : Rdg s d) (h' : Rdg s d') (hs : 0 < s.size) (he : encS d = s) : d = d' := by
  rcases h with ⟨e1, e2, e3, e4, e5, rfl⟩ | ⟨m, ek, hc, rfl⟩ | ⟨m, ek, hc, rfl⟩ | ⟨m, m1, ek, hc, hd, rfl⟩ | ⟨m, ek, hc, rfl⟩ | ⟨m, M, m1, ek, hc, hM, hz, hd, rfl⟩
  · have := (enc_at he hs).1
    rw [enc0 s e1 e2 e3 e4 e5] at this
    cases this
  · obtain ⟨q1, q2⟩ := dec1 he hs
    rcases h' with ⟨e1, _, _, _, _, rfl⟩ | ⟨m', ek', hc', rfl⟩ | ⟨_, e, _, rfl⟩ | ⟨_, _, e, _, _, rfl⟩ | ⟨_, e, _, rfl⟩ | ⟨_, _, _, e, _, _, _, _, rfl⟩
    · exact absurd ek e1
    · rw [← q1] at q2
      have a := hc.all (clP_none s) q2
      have b := hc'.all (clP_none s) q2
      rw [a, b]
    · exact (kind_ne ek e (by decide)).elim
    · exact (kind_ne ek e (by decide)).elim
    · exact (kind_ne ek e (by decide)).elim
    · exact (kind_ne ek e (by decide)).elim
  · obtain ⟨q1, q2⟩ := dec2 he hs
    rcases h' with ⟨_, e1, _, _, _, rfl⟩ | ⟨_, e, _, rfl⟩ | ⟨m', ek', hc', rfl⟩ | ⟨_, _, e, _, _, rfl⟩ | ⟨_, e, _, rfl⟩ | ⟨_, _, _, e, _, _, _, _, rfl⟩
    · exact absurd ek e1
    · exact (kind_ne ek e (by decide)).elim
    · rw [← q1] at q2
      have a := hc.all (vlP_none s) q2
      have b := hc'.all (vlP_none s) q2
      rw [a, b]
    · exact (kind_ne ek e (by decide)).elim
    · exact (kind_ne ek e (by decide)).elim
    · exact (kind_ne ek e (by decide)).elim
  · obtain ⟨-, -, q3⟩ := dec3 he hs
    rcases h' with ⟨_, _, e1, _, _, rfl⟩ | ⟨_, e, _, rfl⟩ | ⟨_, e, _, rfl⟩ | ⟨m', m1', ek', hc', hd', rfl⟩ | ⟨_, e, _, rfl⟩ | ⟨_, _, _, e, _, _, _, _, rfl⟩
    · exact absurd ek e1
    · exact (kind_ne ek e (by decide)).elim
    · exact (kind_ne ek e (by decide)).elim
    · have q4 : ∃ y, exPl s (txtP s 1 (hd2 s)) = some y := by
        cases e : exPl s (txtP s 1 (hd2 s)) with
        | none => rw [e, exPl_none] at q3; cases q3
        | some y => exact ⟨y, rfl⟩
      obtain ⟨y, q4⟩ := q4
      have a := hc.all (itmP_none s) q4
      have b := hc'.all (itmP_none s) q4
      have a' := hd.all (itmP_none s) q3
      have b' := hd'.all (itmP_none s) q3
      rw [a, b, a', b']
    · exact (kind_ne ek e (by decide)).elim
    · exact (kind_ne ek e (by decide)).elim
  · obtain ⟨-, q2⟩ := dec4 he hs
    rcases h' with ⟨_, _, _, e1, _, rfl⟩ | ⟨_, e, _, rfl⟩ | ⟨_, e, _, rfl⟩ | ⟨_, _, e, _, _, rfl⟩ | ⟨m', ek', hc', rfl⟩ | ⟨_, _, _, e, _, _, _, _, rfl⟩
    · exact absurd ek e1
    · exact (kind_ne ek e (by decide)).elim
    · exact (kind_ne ek e (by decide)).elim
    · exact (kind_ne ek e (by decide)).elim
    · have a := hc.all (itmP_none s) q2
      have b := hc'.all (itmP_none s) q2
      rw [a, b]
    · exact (kind_ne ek e (by decide)).elim
  · obtain ⟨q1, -, -, q3⟩ := dec5 he hs
    rcases h' with ⟨_, _, _, _, e1, rfl⟩ | ⟨_, e, _, rfl⟩ | ⟨_, e, _, rfl⟩ | ⟨_, _, e, _, _, rfl⟩ | ⟨_, e, _, rfl⟩ | ⟨m', M', m1', ek', hc', hM', hz', hd', rfl⟩
    · exact absurd ek e1
    · exact (kind_ne ek e (by decide)).elim
    · exact (kind_ne ek e (by decide)).elim
    · exact (kind_ne ek e (by decide)).elim
    · exact (kind_ne ek e (by decide)).elim

    · have q4 : ∃ y, rep (exPl s) (numP s 1 (hd2 s)) m = some y := by
        cases e : rep (exPl s) (numP s 1 (hd2 s)) m with
        | none => rw [e, exPl_none] at q3; cases q3
        | some y => exact ⟨y, rfl⟩
      obtain ⟨y, q4⟩ := q4
      have q5 := q4
      rw [← q1] at q5
      have b := hc'.all (exPl_none s) q5
      rw [q1] at b
      subst b
      have a' := hd.all (itmP_none s) q3
      have b' := hd'.all (itmP_none s) q3
      have c : M = M' := by
        funext i
        by_cases hi : i < m'
        · obtain ⟨u, hu⟩ := rep_some (exPl_none s) q4 (i + 1) hi
          have e1 := (hM i hi).all (itmP_none s) hu
          have e2 := (hM' i hi).all (itmP_none s) hu
          rw [e1, e2]
        · rw [hz i (by omega), hz' i (by omega)]
      rw [a', b', c]
/-- The text is a statement's. -/
def Good (s : ByteArray) (d : St) : Prop := 0 < s.size ∧ Rdg s d ∧ encS d = s
theorem Good.one {s : ByteArray} {d d' : St} (h : Good s d) (h' : Good s d') : d = d' := read_one h.2.1 h'.2.1 h.1 h.2.2
theorem Good.ok {s : ByteArray} {d : St} (h : Good s d) : okStm d = true := (enc_at h.2.2 h.1).1
theorem enc_le (d : St) : (encS d).size ≤ 60000 := by
  unfold encS
  (repeat' split)
  · exact Nat.zero_le _
  · omega
  · exact Nat.zero_le _
theorem Good.le {s : ByteArray} {d : St} (h : Good s d) : s.size ≤ 60000 := by
  have := enc_le d
  rw [h.2.2] at this
  exact this
/-- What one reading says of all. -/
theorem no_good {s : ByteArray} {d : St} (h : Rdg s d) (hne : encS d ≠ s) : ∀ d', ¬ Good s d' := fun d' hg => by
  have e := read_one hg.2.1 h hg.1 hg.2.2
  subst e
  exact hne hg.2.2
end Go.Proofs.YtnbgdfhfmbgbhaaGreatDoor
namespace Go.Proofs.YtnbgdfhfmbgbhaaGreatDoor
open Go.RowKit Go.Maps Go.WideMaps
/-- A list lies in a block between two marks of the heap. -/
def WR (w : World) (lo hi : Nat) (t : TypeId) (z : Nat) (a : Option Addr) (n : Nat) : Prop :=
  n = 0 ∨ ∃ g cur, a = some ⟨g, 0, none⟩ ∧ lo ≤ g ∧ g < hi ∧ w.heap[g]? = some (.cells cur t (0, 0)) ∧ n * z ≤ cur.size
/-- Its block, if it isn't empty. -/
def bk (a : Option Addr) (n : Nat) : Option Nat := if n = 0 then none else a.map (·.block)
/-- Two lists lie apart. -/
def Dj (a : Option Addr) (n : Nat) (a' : Option Addr) (n' : Nat) : Prop := bk a n = none ∨ bk a n ≠ bk a' n'
theorem Dj.zero (a a' : Option Addr) (n' : Nat) : Dj a 0 a' n' := Or.inl rfl
theorem Dj.zero' (a a' : Option Addr) (n : Nat) : Dj a n a' 0 := by
  unfold Dj
  cases h : bk a n with
  | none => exact Or.inl rfl
  | some x => exact Or.inr (by simp [bk])
theorem Dj.of {g g' n n' : Nat} (h : g ≠ g') : Dj (some ⟨g, 0, none⟩) n (some ⟨g', 0, none⟩) n' := by
  unfold Dj bk
  by_cases e : n = 0
  · rw [if_pos e]; exact Or.inl rfl
  · rw [if_neg e]
    refine Or.inr ?_
    by_cases e' : n' = 0
    · rw [if_pos e']; simp
    · rw [if_neg e']
      simpa using h
/-- The blocks between two marks are as they were. -/
def KpR (lo hi : Nat) (w w' : World) : Prop := ∀ g, lo ≤ g → g < hi → ∀ o, w.heap[g]? = some o → w'.heap[g]? = some o
theorem KpR.below {lo hi : Nat} {w w' : World} (h : Below w.heap.size w w') : KpR lo hi w w' := fun _ _ _ _ hg => rowL hg h
theorem KpR.trans {lo hi : Nat} {a b c : World} (h : KpR lo hi a b) (k : KpR lo hi b c) : KpR lo hi a c := fun g h1 h2 o hg => k g h1 h2 o (h g h1 h2 o hg)
theorem KpR.set {lo hi R i : Nat} {w : World} {v : Value} (h : R < lo) : KpR lo hi w (w.setCell ⟨R, i, none⟩ v) := fun g h1 _ o hg => rowO hg (by omega)
theorem WR.kp {w w' : World} {lo hi : Nat} {t : TypeId} {z : Nat} {a : Option Addr} {n : Nat} (h : WR w lo hi t z a n) (k : KpR lo hi w w') : WR w' lo hi t z a n := by
  rcases h with h | ⟨g, cur, h1, h2, h3, h4, h5⟩
  · exact Or.inl h
  · exact Or.inr ⟨g, cur, h1, h2, h3, k g h2 h3 _ h4, h5⟩
theorem own_wr {w : World} {base t z g m cap : Nat} {xs : List Value} (h : w.ownsRow base t z (.slice (some ⟨g, 0, none⟩) m cap) m xs) : WR w base w.heap.size t z (some ⟨g, 0, none⟩) m := by
  have hb := h.lt g rfl
  obtain ⟨_, hh⟩ := h
  rcases hh with hh | ⟨gg, cap', cur, e1, e2, e3, e4, e5, e6, e7⟩
  · simp at hh
  · simp only [Value.slice.injEq, Option.some.injEq, Addr.mk.injEq, and_true] at e1
    obtain ⟨rfl, -, rfl⟩ := e1
    refine Or.inr ⟨g, cur, rfl, hb.1, hb.2, e3, ?_⟩
    rw [e6]
    exact Nat.mul_le_mul_right _ e4
/-- A statement's lists lie apart: no outs. -/
structure WrA (w : World) (lo hi : Nat) (d : St) (p : Sa) : Prop where
  n7 : d.n7 = 0
  c2 : WR w lo hi 49 2 p.a2 d.n2
  c3 : WR w lo hi 51 3 p.a3 d.n3
  c5 : WR w lo hi 85 3 p.a5 d.n5
  c6 : WR w lo hi 85 3 p.a6 d.n6
  j23 : Dj p.a2 d.n2 p.a3 d.n3
  j25 : Dj p.a2 d.n2 p.a5 d.n5
  j26 : Dj p.a2 d.n2 p.a6 d.n6
  j35 : Dj p.a3 d.n3 p.a5 d.n5
  j36 : Dj p.a3 d.n3 p.a6 d.n6
  j56 : Dj p.a5 d.n5 p.a6 d.n6
/-- Its lists of outs. -/
structure OW (w : World) (lo hi : Nat) (d : St) (p : Sa) (g : Nat) (cur : Array Value) (A : Nat → Option Addr) (C : Nat → Nat) : Prop where
  a7 : p.a7 = some ⟨g, 0, none⟩
  ge : lo ≤ g
  lt : g < hi
  row : w.heap[g]? = some (.cells cur 24 (0, 0))
  at' : ∀ i, i < d.n7 → cur[i]? = some (.slice (A i) (d.m7 i) (C i))
  wr : ∀ i, i < d.n7 → WR w lo hi 85 3 (A i) (d.m7 i)
  j6 : bk p.a6 d.n6 ≠ some g
  ji : ∀ i, i < d.n7 → bk (A i) (d.m7 i) ≠ some g
  j6i : ∀ i, i < d.n7 → Dj p.a6 d.n6 (A i) (d.m7 i)
  jik : ∀ i k, k < i → i < d.n7 → Dj (A i) (d.m7 i) (A k) (d.m7 k)
structure WrB (w : World) (lo hi : Nat) (d : St) (p : Sa) : Prop where
  n2 : d.n2 = 0
  n3 : d.n3 = 0
  n5 : d.n5 = 0
  c6 : WR w lo hi 85 3 p.a6 d.n6
  ou : ∃ g cur A C, OW w lo hi d p g cur A C
def Wr (w : World) (lo hi : Nat) (d : St) (p : Sa) : Prop := WrA w lo hi d p ∨ WrB w lo hi d p
theorem WrA.kp {w w' : World} {lo hi : Nat} {d : St} {p : Sa} (h : WrA w lo hi d p) (k : KpR lo hi w w') : WrA w' lo hi d p :=
  ⟨h.n7, h.c2.kp k, h.c3.kp k, h.c5.kp k, h.c6.kp k, h.j23, h.j25, h.j26, h.j35, h.j36, h.j56⟩
theorem OW.kp {w w' : World} {lo hi : Nat} {d : St} {p : Sa} {g : Nat} {cur : Array Value} {A : Nat → Option Addr} {C : Nat → Nat} (h : OW w lo hi d p g cur A C) (k : KpR lo hi w w') : OW w' lo hi d p g cur A C :=
  ⟨h.a7, h.ge, h.lt, k g h.ge h.lt _ h.row, h.at', fun i hi => (h.wr i hi).kp k, h.j6, h.ji, h.j6i, h.jik⟩
theorem WrB.kp {w w' : World} {lo hi : Nat} {d : St} {p : Sa} (h : WrB w lo hi d p) (k : KpR lo hi w w') : WrB w' lo hi d p := by
  obtain ⟨g, cur, A, C, h7⟩ := h.ou
  exact ⟨h.n2, h.n3, h.n5, h.c6.kp k, g, cur, A, C, h7.kp k⟩
theorem Wr.kp {w w' : World} {lo hi : Nat} {d : St} {p : Sa} (h : Wr w lo hi d p) (k : KpR lo hi w w') : Wr w' lo hi d p := h.imp (fun h => h.kp k) (fun h => h.kp k)
theorem zeroIL (w : World) (a : Option Addr) (I : Nat → Itm) : IL w a 0 I := fun _ hk => absurd hk (Nat.not_lt_zero _)
theorem zeroCL (w : World) (a : Option Addr) (I : Nat → Clm) : CL w a 0 I := fun _ hk => absurd hk (Nat.not_lt_zero _)
theorem zeroOL (w : World) (a : Option Addr) (m : Nat → Nat) (I : Nat → Nat → Itm) : OL w a 0 m I := fun _ hk => absurd hk (Nat.not_lt_zero _)
theorem zero_size : (⟨#[]⟩ : ByteArray).size ≤ 1048576 := Nat.zero_le _
def noP : Sa := ⟨none, 0, none, 0, none, 0, none, 0, none, 0⟩
theorem WR.mono {w : World} {lo hi lo' hi' : Nat} {t : TypeId} {z : Nat} {a : Option Addr} {n : Nat} (h : WR w lo hi t z a n) (h1 : lo' ≤ lo) (h2 : hi ≤ hi') : WR w lo' hi' t z a n := by
  rcases h with h | ⟨g, cur, e1, e2, e3, e4, e5⟩
  · exact Or.inl h
  · exact Or.inr ⟨g, cur, e1, by omega, by omega, e4, e5⟩
theorem Wr.mono {w : World} {lo hi lo' hi' : Nat} {d : St} {p : Sa} (h : Wr w lo hi d p) (h1 : lo' ≤ lo) (h2 : hi ≤ hi') : Wr w lo' hi' d p := by
  rcases h with h | h
  · exact Or.inl ⟨h.n7, h.c2.mono h1 h2, h.c3.mono h1 h2, h.c5.mono h1 h2, h.c6.mono h1 h2, h.j23, h.j25, h.j26, h.j35, h.j36, h.j56⟩
  · obtain ⟨g, cur, A, C, o⟩ := h.ou
    exact Or.inr ⟨h.n2, h.n3, h.n5, h.c6.mono h1 h2, g, cur, A, C, o.a7, Nat.le_trans h1 o.ge, Nat.lt_of_lt_of_le o.lt h2, o.row, o.at', fun i hi => (o.wr i hi).mono h1 h2, o.j6, o.ji, o.j6i, o.jik⟩
theorem CL.kw {w w' : World} {lo hi : Nat} {a : Option Addr} {n : Nat} {C : Nat → Clm} (h : CL w a n C) (hW : WR w lo hi 49 2 a n) (k : Kp lo w w') : CL w' a n C := by
  rcases hW with rfl | ⟨g, cur, rfl, h2, -⟩
  · exact zeroCL _ _ _
  · exact h.kp k h2
theorem IL.kw {w w' : World} {lo hi : Nat} {t : TypeId} {a : Option Addr} {n : Nat} {I : Nat → Itm} (h : IL w a n I) (hW : WR w lo hi t 3 a n) (k : Kp lo w w') : IL w' a n I := by
  rcases hW with rfl | ⟨g, cur, rfl, h2, -⟩
  · exact zeroIL _ _ _
  · exact h.kp k h2
/-- A statement whose lists lie behind lo stays, if what lies there stays. -/
theorem SM.kw {w w' : World} {lo hi : Nat} {d : St} {p : Sa} (h : SM w d p) (hW : Wr w lo hi d p) (k : Kp lo w w') : SM w' d p := by
  rcases hW with hW | hW
  · refine ⟨h.tb, h.col, h.co.kw hW.c2 k, h.va.kw hW.c3 k, h.ex.kw hW.c5 k, h.wh.kw hW.c6 k, ?_, h.l2, h.l3, h.l5, h.l6, h.l7⟩
    rw [hW.n7]
    exact zeroOL _ _ _ _
  · obtain ⟨g, cur, A, C, o⟩ := hW.ou
    refine ⟨h.tb, h.col, by rw [hW.n2]; exact zeroCL _ _ _, by rw [hW.n3]; exact zeroIL _ _ _, by rw [hW.n5]; exact zeroIL _ _ _, h.wh.kw hW.c6 k, fun j hj => ?_, h.l2, h.l3, h.l5, h.l6, h.l7⟩
    obtain ⟨b, off, i, c, e, h0, hi, hm⟩ := h.ou j hj
    rw [o.a7] at e
    obtain ⟨rfl, rfl⟩ : g = b ∧ 0 = off := by simpa using e
    have h0' := h0
    rw [Nat.zero_add, cell_of_row _ _ j _ _ _ o.row, o.at' j hj] at h0'
    obtain ⟨rfl, rfl⟩ : A j = i ∧ C j = c := by simpa using h0'
    exact ⟨g, 0, A j, C j, o.a7, k ⟨g, 0 + j, none⟩ _ o.ge h0, hi.kw (o.wr j hj) k, hm⟩
/-- What grew but one block, that lies behind, stands below. -/
theorem gB {w a b : World} {B : Nat} (h : Below w.heap.size w a) (g : a.grownBy b (some B)) (hB : w.heap.size ≤ B) : Below w.heap.size w b :=
  ⟨g.os.trans h.os, g.tape.trans h.tape, g.output.trans h.output, Nat.le_trans h.size g.size, fun k hk => (g.block k (Nat.lt_of_lt_of_le hk h.size) (by simp; omega)).trans (h.block k hk)⟩
theorem exC_get {X : Nat → Ex3} {m i : Nat} (h : i < m) : (exC X m)[i]? = some (.slice (some ⟨(X i).g, 0, none⟩) (X i).m (X i).c) := by
  unfold exC
  rw [List.getElem?_map, List.getElem?_eq_getElem (by simpa using h)]
  simp
theorem own_row {w : World} {base t g m cap : Nat} {xs : List Value} (h : w.ownsRow base t 1 (.slice (some ⟨g, 0, none⟩) m cap) m xs) : ∃ cur, w.heap[g]? = some (.cells cur t (0, 0)) ∧ ∀ i, i < m → cur[i]? = xs[i]? := by
  obtain ⟨_, hh⟩ := h
  rcases hh with hh | ⟨gg, cap', cur, e1, e2, e3, e4, e5, e6, e7⟩
  · simp at hh
  · simp only [Value.slice.injEq, Option.some.injEq, Addr.mk.injEq, and_true] at e1
    obtain ⟨rfl, -, rfl⟩ := e1
    refine ⟨cur, e3, fun i hi => ?_⟩
    rw [← e7, List.getElem?_take, if_pos (by omega)]
    simp
theorem LsI.cnt {w : World} {base B : Nat} {s : ByteArray} {q : Option Nat} {n m g cap : Nat} (h : LsI w base B s q n m g cap) : Cnt (itmP s) q n m := ⟨h.le, h.at'⟩
theorem readAny (B : Nat) (s : ByteArray) (w : World) (h : PI w B s (some 0)) (hs : s.size ≤ 1048576) :
    Calls Tryz.prog 18 #[.pointer (some ⟨B, 0, none⟩)] w fun e w' => ∃ d p, e = .returned (.agg (cs8 d p)) ∧ Rdg s d ∧ SM w' d p ∧ Wr w' w.heap.size w'.heap.size d p ∧ w.grownBy w' (some B) := by
  have ht : (tbS s).size ≤ 1048576 := Nat.le_trans (txt_size _ _ _) hs
  by_cases e1 : numV s 1 (some 0) = 1
  · refine (readStm1 B s (some 0) w h e1).mono ?_
    rintro e w' ⟨m, g, cap, rfl, hO, hm, hat, hP, hg⟩
    have hl := (lenV_le s (hd2 s)).2
    have hml : m ≤ 1048576 := by have : m ≤ lenV s 1 (hd2 s) := hm; omega
    refine ⟨rd1 s m, ⟨some ⟨g, 0, none⟩, cap, none, 0, none, 0, none, 0, none, 0⟩, rfl, .k1 m e1 ⟨hm, hat⟩, ⟨ht, zero_size, own_cl hO hs, zeroIL _ _ _, zeroIL _ _ _, zeroIL _ _ _, zeroOL _ _ _ _, hml, Nat.zero_le _, Nat.zero_le _, Nat.zero_le _, Nat.zero_le _⟩, Or.inl ?_, hg⟩
    exact ⟨rfl, own_wr hO, Or.inl rfl, Or.inl rfl, Or.inl rfl, Dj.zero' _ _ _, Dj.zero' _ _ _, Dj.zero' _ _ _, Dj.zero' _ _ _, Dj.zero' _ _ _, Dj.zero' _ _ _⟩
  by_cases e2 : numV s 1 (some 0) = 2
  · refine (readStm2 B s (some 0) w h e2).mono ?_
    rintro e w' ⟨m, g, cap, rfl, hO, hm, hat, hP, hg⟩
    have hl := (lenV_le s (hd2 s)).2
    have hml : m ≤ 1048576 := by have : m ≤ lenV s 1 (hd2 s) := hm; omega
    refine ⟨rd2 s m, ⟨none, 0, some ⟨g, 0, none⟩, cap, none, 0, none, 0, none, 0⟩, rfl, .k2 m e2 ⟨hm, hat⟩, ⟨ht, zero_size, zeroCL _ _ _, own_il hO hs, zeroIL _ _ _, zeroIL _ _ _, zeroOL _ _ _ _, Nat.zero_le _, hml, Nat.zero_le _, Nat.zero_le _, Nat.zero_le _⟩, Or.inl ?_, hg⟩
    exact ⟨rfl, Or.inl rfl, own_wr hO, Or.inl rfl, Or.inl rfl, Dj.zero _ _ _, Dj.zero _ _ _, Dj.zero _ _ _, Dj.zero' _ _ _, Dj.zero' _ _ _, Dj.zero' _ _ _⟩
  by_cases e3 : numV s 1 (some 0) = 3
  · refine (readStm3 B s (some 0) w h e3).mono ?_
    rintro e w' ⟨m, g, cap, m', g', cap', rfl, hL, hL', hne, hP, hg⟩
    have hl := (lenV_le s (txtP s 1 (hd2 s))).1
    have hml : m ≤ 1048576 := by have : m ≤ lenV s 2 (txtP s 1 (hd2 s)) := hL.le; omega
    have hl' := (lenV_le s (exPl s (txtP s 1 (hd2 s)))).1
    have hml' : m' ≤ 1048576 := by have : m' ≤ lenV s 2 (exPl s (txtP s 1 (hd2 s))) := hL'.le; omega
    refine ⟨rd3 s m m', ⟨none, 0, none, 0, some ⟨g, 0, none⟩, cap, some ⟨g', 0, none⟩, cap', none, 0⟩, rfl, .k3 m m' e3 hL.cnt hL'.cnt, ⟨ht, Nat.le_trans (txt_size _ _ _) hs, zeroCL _ _ _, zeroIL _ _ _, hL.il hs, hL'.il hs, zeroOL _ _ _ _, Nat.zero_le _, Nat.zero_le _, hml, hml', Nat.zero_le _⟩, Or.inl ?_, hg⟩
    exact ⟨rfl, Or.inl rfl, Or.inl rfl, own_wr hL.own, own_wr hL'.own, Dj.zero _ _ _, Dj.zero _ _ _, Dj.zero _ _ _, Dj.zero _ _ _, Dj.zero _ _ _, Dj.of hne⟩
  by_cases e4 : numV s 1 (some 0) = 4
  · refine (readStm4 B s (some 0) w h e4).mono ?_
    rintro e w' ⟨m', g', cap', rfl, hL', hP, hg⟩
    have hl' := (lenV_le s (hd2 s)).1
    have hml' : m' ≤ 1048576 := by have : m' ≤ lenV s 2 (hd2 s) := hL'.le; omega
    refine ⟨rd4 s m', ⟨none, 0, none, 0, none, 0, some ⟨g', 0, none⟩, cap', none, 0⟩, rfl, .k4 m' e4 hL'.cnt, ⟨ht, zero_size, zeroCL _ _ _, zeroIL _ _ _, zeroIL _ _ _, hL'.il hs, zeroOL _ _ _ _, Nat.zero_le _, Nat.zero_le _, Nat.zero_le _, hml', Nat.zero_le _⟩, Or.inl ?_, hg⟩
    exact ⟨rfl, Or.inl rfl, Or.inl rfl, Or.inl rfl, own_wr hL'.own, Dj.zero _ _ _, Dj.zero _ _ _, Dj.zero _ _ _, Dj.zero _ _ _, Dj.zero _ _ _, Dj.zero _ _ _⟩
  by_cases e5 : numV s 1 (some 0) = 5
  · refine (readStm5 B s (some 0) w h e5).mono ?_
    rintro e w' ⟨m, g, cap, X, m', g', cap', rfl, hO, hX, hm, hat, hL', hne, hP, hg⟩
    have hl := (lenV_le s (hd2 s)).2
    have hml : m ≤ 1048576 := by have : m ≤ lenV s 1 (hd2 s) := hm; omega
    have hl' := (lenV_le s (rep (exPl s) (numP s 1 (hd2 s)) m)).1
    have hml' : m' ≤ 1048576 := by have : m' ≤ lenV s 2 (rep (exPl s) (numP s 1 (hd2 s)) m) := hL'.le; omega
    have hM : ∀ i, i < m → (fun i => if i < m then (X i).m else 0) i = (X i).m := fun i hi => if_pos hi
    have hol : OL w' (some ⟨g, 0, none⟩) m (fun i => if i < m then (X i).m else 0) (fun i j => itmV s (rep (itmP s) (numP s 2 (rep (exPl s) (numP s 1 (hd2 s)) i)) j)) := fun k hk => by
      have := own_ol (Q := fun i => rep (exPl s) (numP s 1 (hd2 s)) i) hO (fun i hi => (hX i hi).2.2.2) hs k hk
      rw [hM k hk]
      exact this
    obtain ⟨cur, hrow, hcur⟩ := own_row hO
    have hgb := hO.lt g rfl
    refine ⟨rd5 s m (fun i => if i < m then (X i).m else 0) m', ⟨none, 0, none, 0, none, 0, some ⟨g', 0, none⟩, cap', some ⟨g, 0, none⟩, cap⟩, rfl, .k5 m _ m' e5 ⟨hm, hat⟩ (fun i hi => ?_) (fun i hi => if_neg (by omega)) hL'.cnt, ⟨ht, zero_size, zeroCL _ _ _, zeroIL _ _ _, zeroIL _ _ _, hL'.il hs, hol, Nat.zero_le _, Nat.zero_le _, Nat.zero_le _, hml', hml⟩, Or.inr ?_, hg⟩
    · rw [if_pos hi]; exact (hX i hi).2.2.2.cnt
    · refine ⟨rfl, rfl, rfl, own_wr hL'.own, g, cur, fun i => some ⟨(X i).g, 0, none⟩, fun i => (X i).c, rfl, hgb.1, hgb.2, hrow, fun i hi => ?_, fun i hi => ?_, ?_, fun i hi => ?_, fun i hi => Dj.of (hX i hi).2.1.symm, fun i k hk hi => Dj.of ((hX i hi).2.2.1 k hk).symm⟩
      · have hi' : i < m := hi
        rw [hcur i hi', exC_get hi']
        show _ = some (Value.slice _ (if i < m then (X i).m else 0) _)
        rw [if_pos hi']
      · have hi' : i < m := hi
        show WR _ _ _ _ _ _ (if i < m then (X i).m else 0)
        rw [if_pos hi']
        exact own_wr (hX i hi).2.2.2.own
      · unfold bk
        split
        · simp
        · simpa using hne.symm
      · unfold bk
        split
        · simp
        · simpa using (hX i hi).1
  · refine (readStm0 B s (some 0) w h e1 e2 e3 e4 e5).mono ?_
    rintro e w' ⟨rfl, hP, hg⟩
    refine ⟨rd0 s, noP, rfl, .k0 e1 e2 e3 e4 e5, ⟨ht, zero_size, zeroCL _ _ _, zeroIL _ _ _, zeroIL _ _ _, zeroIL _ _ _, zeroOL _ _ _ _, Nat.zero_le _, Nat.zero_le _, Nat.zero_le _, Nat.zero_le _, Nat.zero_le _⟩, Or.inl ?_, hg⟩
    exact ⟨rfl, Or.inl rfl, Or.inl rfl, Or.inl rfl, Or.inl rfl, Dj.zero _ _ _, Dj.zero _ _ _, Dj.zero _ _ _, Dj.zero _ _ _, Dj.zero _ _ _, Dj.zero _ _ _⟩
end Go.Proofs.YtnbgdfhfmbgbhaaGreatDoor
