/-
  What is drawn, and that it is right: lists and statements.
-/
import Derived.Test.YtlilmbeehmjpkaaCb
import Derived.Test.YtlilmbeehmjpkaaEv
import Derived.Deep.DeepCutAuto
namespace Go.Proofs.Ytlilmbeehmjpkaa
open Go.RowKit
/-- n columns lie there, right ones. -/
def Co (w : World) (a : Option Addr) (n : Nat) : Prop :=
  ∀ k, k < n → ∃ b off m s, a = some ⟨b, off, none⟩ ∧ w.cell? ⟨b, off + k * 2, none⟩ = some (.string s) ∧ w.cell? ⟨b, off + k * 2 + 1, none⟩ = some (.int .i64 m) ∧ okCol s m = true
theorem Co.later {w w' : World} {a : Option Addr} {n : Nat} (h : Co w a n) (hb : Below w.heap.size w w') : Co w' a n := fun k hk => by
  obtain ⟨b, off, m, s, e, h0, h1, hs⟩ := h k hk
  exact ⟨b, off, m, s, e, keepB hb h0, keepB hb h1, hs⟩
/-- n values lie there, right ones. -/
def It (w : World) (a : Option Addr) (n : Nat) : Prop :=
  ∀ k, k < n → ∃ b off o m s, a = some ⟨b, off, none⟩ ∧ w.cell? ⟨b, off + k * 3, none⟩ = some (.int .i64 o) ∧ w.cell? ⟨b, off + k * 3 + 1, none⟩ = some (.int .i64 m) ∧ w.cell? ⟨b, off + k * 3 + 2, none⟩ = some (.string s) ∧ okValue o m s = true
theorem It.later {w w' : World} {a : Option Addr} {n : Nat} (h : It w a n) (hb : Below w.heap.size w w') : It w' a n := fun k hk => by
  obtain ⟨b, off, o, m, s, e, h0, h1, h2, hs⟩ := h k hk
  exact ⟨b, off, o, m, s, e, keepB hb h0, keepB hb h1, keepB hb h2, hs⟩
/-- An expression, or none, lies there. -/
def Ie (w : World) (a : Option Addr) (n : Nat) : Prop := ∃ I : Nat → Itm, IL w a n I ∧ okWhere I n = true ∧ n ≤ 15
theorem Ie.later {w w' : World} {a : Option Addr} {n : Nat} (h : Ie w a n) (hb : Below w.heap.size w w') : Ie w' a n := by
  obtain ⟨I, h1, h2⟩ := h
  exact ⟨I, h1.later hb, h2⟩
theorem ie_nil (w : World) (a : Option Addr) : Ie w a 0 := ⟨fun _ => ⟨0, 0, ⟨#[]⟩⟩, fun k hk => absurd hk (Nat.not_lt_zero _), by simp [okWhere], by omega⟩
/-- n expressions lie there. -/
def Ou (w : World) (a : Option Addr) (n : Nat) : Prop :=
  ∀ k, k < n → ∃ b off i m c, a = some ⟨b, off, none⟩ ∧ w.cell? ⟨b, off + k, none⟩ = some (.slice i m c) ∧ Ie w i m ∧ 1 ≤ m
theorem Ou.later {w w' : World} {a : Option Addr} {n : Nat} (h : Ou w a n) (hb : Below w.heap.size w w') : Ou w' a n := fun k hk => by
  obtain ⟨b, off, i, m, c, e, h0, hi, hm⟩ := h k hk
  exact ⟨b, off, i, m, c, e, keepB hb h0, hi.later hb, hm⟩
/-- The parts of a statement. -/
structure SP where
  k : Int
  tb : ByteArray
  a2 : Option Addr
  n2 : Nat
  c2 : Nat
  a3 : Option Addr
  n3 : Nat
  c3 : Nat
  col : ByteArray
  a5 : Option Addr
  n5 : Nat
  c5 : Nat
  a6 : Option Addr
  n6 : Nat
  c6 : Nat
  a7 : Option Addr
  n7 : Nat
  c7 : Nat
/-- Its cells. -/
@[reducible] def SP.cs (p : SP) : Array Value := #[.int .i64 p.k, .string p.tb, .slice p.a2 p.n2 p.c2, .slice p.a3 p.n3 p.c3, .string p.col, .slice p.a5 p.n5 p.c5, .slice p.a6 p.n6 p.c6, .slice p.a7 p.n7 p.c7]
/-- A statement lies there. -/
structure Sm (w : World) (p : SP) : Prop where
  tb : okName p.tb = true
  col : p.col.size = 0 ∨ okName p.col = true
  co : Co w p.a2 p.n2
  va : It w p.a3 p.n3
  ex : Ie w p.a5 p.n5
  wh : Ie w p.a6 p.n6
  ou : Ou w p.a7 p.n7
  l2 : p.n2 ≤ 100
  l3 : p.n3 ≤ 100
  l7 : p.n7 ≤ 3
theorem Sm.later {w w' : World} {p : SP} (h : Sm w p) (hb : Below w.heap.size w w') : Sm w' p :=
  ⟨h.tb, h.col, h.co.later hb, h.va.later hb, h.ex.later hb, h.wh.later hb, h.ou.later hb, h.l2, h.l3, h.l7⟩
/-- Its fields fit its kind. -/
def Shp (p : SP) : Prop :=
  (p.k = 1 ∧ 1 ≤ p.n2 ∧ p.n2 ≤ 20 ∧ p.n3 = 0 ∧ p.col.size = 0 ∧ p.n5 = 0 ∧ p.n6 = 0 ∧ p.n7 = 0) ∨ (p.k = 2 ∧ p.n2 = 0 ∧ 1 ≤ p.n3 ∧ p.n3 ≤ 20 ∧ p.col.size = 0 ∧ p.n5 = 0 ∧ p.n6 = 0 ∧ p.n7 = 0) ∨ (p.k = 3 ∧ p.n2 = 0 ∧ p.n3 = 0 ∧ okName p.col = true ∧ 1 ≤ p.n5 ∧ p.n7 = 0) ∨ (p.k = 4 ∧ p.n2 = 0 ∧ p.n3 = 0 ∧ p.col.size = 0 ∧ p.n5 = 0 ∧ p.n7 = 0) ∨ (p.k = 5 ∧ p.n2 = 0 ∧ p.n3 = 0 ∧ p.col.size = 0 ∧ p.n5 = 0 ∧ 1 ≤ p.n7)
/-- The eight cells of a statement's own block. -/
structure Bj (w : World) (g : Nat) (p : SP) : Prop where
  c0 : w.cell? ⟨g, 0, none⟩ = some (.int .i64 p.k)
  c1 : w.cell? ⟨g, 1, none⟩ = some (.string p.tb)
  c2 : w.cell? ⟨g, 2, none⟩ = some (.slice p.a2 p.n2 p.c2)
  c3 : w.cell? ⟨g, 3, none⟩ = some (.slice p.a3 p.n3 p.c3)
  c4 : w.cell? ⟨g, 4, none⟩ = some (.string p.col)
  c5 : w.cell? ⟨g, 5, none⟩ = some (.slice p.a5 p.n5 p.c5)
  c6 : w.cell? ⟨g, 6, none⟩ = some (.slice p.a6 p.n6 p.c6)
  c7 : w.cell? ⟨g, 7, none⟩ = some (.slice p.a7 p.n7 p.c7)
theorem Bj.new (w : World) (p : SP) (t : TypeId) : Bj (w.alloc (.cells p.cs t)) w.heap.size p :=
  ⟨(cell_of_row _ _ 0 _ _ _ (heap_alloc_new w _)).trans rfl, (cell_of_row _ _ 1 _ _ _ (heap_alloc_new w _)).trans rfl, (cell_of_row _ _ 2 _ _ _ (heap_alloc_new w _)).trans rfl, (cell_of_row _ _ 3 _ _ _ (heap_alloc_new w _)).trans rfl, (cell_of_row _ _ 4 _ _ _ (heap_alloc_new w _)).trans rfl, (cell_of_row _ _ 5 _ _ _ (heap_alloc_new w _)).trans rfl, (cell_of_row _ _ 6 _ _ _ (heap_alloc_new w _)).trans rfl, (cell_of_row _ _ 7 _ _ _ (heap_alloc_new w _)).trans rfl⟩
theorem Bj.later {w w' : World} {g : Nat} {p : SP} (h : Bj w g p) (hb : Below w.heap.size w w') : Bj w' g p :=
  ⟨keepB hb h.c0, keepB hb h.c1, keepB hb h.c2, keepB hb h.c3, keepB hb h.c4, keepB hb h.c5, keepB hb h.c6, keepB hb h.c7⟩
end Go.Proofs.Ytlilmbeehmjpkaa
