/-
  Statements: StmOK, the specification's way, exactly.
-/
import Derived.Test.YtnbgdfhfmbgbhaaGreatDoorNk
namespace Go.Proofs.YtnbgdfhfmbgbhaaGreatDoor
open Go.RowKit Go.Maps Go.WideMaps
/-- A column. -/
structure Clm where
  s : ByteArray
  t : Int
/-- n columns lie there. -/
def CL (w : World) (a : Option Addr) (n : Nat) (C : Nat → Clm) : Prop :=
  ∀ k, k < n → ∃ b off, a = some ⟨b, off, none⟩ ∧ w.cell? ⟨b, off + k * 2, none⟩ = some (.string (C k).s) ∧ w.cell? ⟨b, off + k * 2 + 1, none⟩ = some (.int .i64 (C k).t) ∧ (C k).s.size ≤ 1048576
theorem CL.later {w w' : World} {a : Option Addr} {n : Nat} {C : Nat → Clm} (h : CL w a n C) (hb : Below w.heap.size w w') : CL w' a n C := fun k hk => by
  obtain ⟨b, off, e, h0, h1, hs⟩ := h k hk
  exact ⟨b, off, e, keepB hb h0, keepB hb h1, hs⟩
/-- n expressions lie there. -/
def OL (w : World) (a : Option Addr) (n : Nat) (m : Nat → Nat) (O : Nat → Nat → Itm) : Prop :=
  ∀ k, k < n → ∃ b off i c, a = some ⟨b, off, none⟩ ∧ w.cell? ⟨b, off + k, none⟩ = some (.slice i (m k) c) ∧ IL w i (m k) (O k) ∧ m k ≤ 1048576
theorem OL.later {w w' : World} {a : Option Addr} {n : Nat} {m : Nat → Nat} {O : Nat → Nat → Itm} (h : OL w a n m O) (hb : Below w.heap.size w w') : OL w' a n m O := fun k hk => by
  obtain ⟨b, off, i, c, e, h0, hi, hm⟩ := h k hk
  exact ⟨b, off, i, c, e, keepB hb h0, hi.later hb, hm⟩
/-- What a statement says. -/
structure St where
  k : Int
  tb : ByteArray
  n2 : Nat
  C : Nat → Clm
  n3 : Nat
  V : Nat → Itm
  col : ByteArray
  n5 : Nat
  E : Nat → Itm
  n6 : Nat
  W : Nat → Itm
  n7 : Nat
  m7 : Nat → Nat
  O : Nat → Nat → Itm
/-- Where its lists lie. -/
structure Sa where
  a2 : Option Addr
  c2 : Nat
  a3 : Option Addr
  c3 : Nat
  a5 : Option Addr
  c5 : Nat
  a6 : Option Addr
  c6 : Nat
  a7 : Option Addr
  c7 : Nat
/-- Its cells. -/
abbrev cs8 (d : St) (p : Sa) : Array Value := #[.int .i64 d.k, .string d.tb, .slice p.a2 d.n2 p.c2, .slice p.a3 d.n3 p.c3, .string d.col, .slice p.a5 d.n5 p.c5, .slice p.a6 d.n6 p.c6, .slice p.a7 d.n7 p.c7]
/-- A statement lies there. -/
structure SM (w : World) (d : St) (p : Sa) : Prop where
  tb : d.tb.size ≤ 1048576
  col : d.col.size ≤ 1048576
  co : CL w p.a2 d.n2 d.C
  va : IL w p.a3 d.n3 d.V
  ex : IL w p.a5 d.n5 d.E
  wh : IL w p.a6 d.n6 d.W
  ou : OL w p.a7 d.n7 d.m7 d.O
  l2 : d.n2 ≤ 1048576
  l3 : d.n3 ≤ 1048576
  l5 : d.n5 ≤ 1048576
  l6 : d.n6 ≤ 1048576
  l7 : d.n7 ≤ 1048576
theorem SM.later {w w' : World} {d : St} {p : Sa} (h : SM w d p) (hb : Below w.heap.size w w') : SM w' d p :=
  ⟨h.tb, h.col, h.co.later hb, h.va.later hb, h.ex.later hb, h.wh.later hb, h.ou.later hb, h.l2, h.l3, h.l5, h.l6, h.l7⟩
/-- The eight cells of a statement's own block. -/
structure B8 (w : World) (g : Nat) (d : St) (p : Sa) : Prop where
  c0 : w.cell? ⟨g, 0, none⟩ = some (.int .i64 d.k)
  c1 : w.cell? ⟨g, 1, none⟩ = some (.string d.tb)
  c2 : w.cell? ⟨g, 2, none⟩ = some (.slice p.a2 d.n2 p.c2)
  c3 : w.cell? ⟨g, 3, none⟩ = some (.slice p.a3 d.n3 p.c3)
  c4 : w.cell? ⟨g, 4, none⟩ = some (.string d.col)
  c5 : w.cell? ⟨g, 5, none⟩ = some (.slice p.a5 d.n5 p.c5)
  c6 : w.cell? ⟨g, 6, none⟩ = some (.slice p.a6 d.n6 p.c6)
  c7 : w.cell? ⟨g, 7, none⟩ = some (.slice p.a7 d.n7 p.c7)
theorem B8.new (w : World) (d : St) (p : Sa) (t : TypeId) : B8 (w.alloc (.cells (cs8 d p) t)) w.heap.size d p :=
  ⟨(cell_of_row _ _ 0 _ _ _ (heap_alloc_new w _)).trans rfl, (cell_of_row _ _ 1 _ _ _ (heap_alloc_new w _)).trans rfl, (cell_of_row _ _ 2 _ _ _ (heap_alloc_new w _)).trans rfl, (cell_of_row _ _ 3 _ _ _ (heap_alloc_new w _)).trans rfl, (cell_of_row _ _ 4 _ _ _ (heap_alloc_new w _)).trans rfl, (cell_of_row _ _ 5 _ _ _ (heap_alloc_new w _)).trans rfl, (cell_of_row _ _ 6 _ _ _ (heap_alloc_new w _)).trans rfl, (cell_of_row _ _ 7 _ _ _ (heap_alloc_new w _)).trans rfl⟩
theorem B8.later {w w' : World} {g : Nat} {d : St} {p : Sa} (h : B8 w g d p) (hb : Below w.heap.size w w') : B8 w' g d p :=
  ⟨keepB hb h.c0, keepB hb h.c1, keepB hb h.c2, keepB hb h.c3, keepB hb h.c4, keepB hb h.c5, keepB hb h.c6, keepB hb h.c7⟩
/-- p holds at all numbers below n. -/
def allN (n : Nat) (p : Nat → Bool) : Bool := (List.range n).all p
theorem allN_true {n : Nat} {p : Nat → Bool} (h : ∀ j, j < n → p j = true) : allN n p = true := by
  unfold allN
  rw [List.all_eq_true]
  exact fun j hj => h j (List.mem_range.1 hj)
theorem allN_false {n j : Nat} {p : Nat → Bool} (hj : j < n) (h : p j = false) : allN n p = false := by
  unfold allN
  rw [List.all_eq_false]
  exact ⟨j, List.mem_range.2 hj, by simp [h]⟩
theorem and_no {n j : Nat} {p : Nat → Bool} (hj : j < n) (h : p j = false ∨ 20 < n) : (btw n 1 20 && allN n p) = false := by
  rcases h with h | h
  · rw [allN_false hj h]; simp
  · simp [btw]
    intros
    omega
theorem and_yes {n : Nat} {p : Nat → Bool} (h : ∀ j, j < n → p j = true) (hm : 0 < n → n ≤ 20) : (btw n 1 20 && allN n p) = decide (0 < n) := by
  rw [allN_true h, Bool.eq_iff_iff]
  simp [btw]
  omega
theorem and_no2 {a b : Bool} (h : a = false) : (a && b) = false := by rw [h]; rfl
def badS (d : St) : Bool := (d.k != 1 && (d.n2 : Int) != 0) || (d.k != 2 && (d.n3 : Int) != 0) || (d.k != 3 && (!decide (d.col.size = 0) || (d.n5 : Int) != 0)) || (d.k != 5 && (d.n7 : Int) != 0)
def restS (d : St) : Bool :=
  if d.k = 1 then btw d.n2 1 20 && allN d.n2 (fun j => okCol (d.C j).s (d.C j).t)
  else if d.k = 2 then btw d.n3 1 20 && allN d.n3 (fun j => okValue (d.V j).o (d.V j).m (d.V j).s)
  else if d.k = 3 then okName d.col && okExp d.E d.n5 && okWhere d.W d.n6
  else if d.k = 4 then okWhere d.W d.n6
  else if d.k = 5 then btw d.n7 1 20 && allN d.n7 (fun j => okExp (d.O j) (d.m7 j)) && okWhere d.W d.n6
  else false
def okStm (d : St) : Bool := okName d.tb && !badS d && !(decide (d.k < 3) && (d.n6 : Int) != 0) && restS d
end Go.Proofs.YtnbgdfhfmbgbhaaGreatDoor
