/-
  What the specification draws: a statement (what is kept while it is made).
-/
import Derived.Test.YtlilmbeehmjpkaaJk
namespace Go.Proofs.Ytlilmbeehmjpkaa
open Go.RowKit
/-- The eight cells of a statement's block, that may be written. -/
structure W8 (w : World) (b : Nat) (p : SP) : Prop where
  q : Bj w b p
  f : ∀ i, i < 8 → w.frozen? ⟨b, i, none⟩ = false
theorem keepG8 {w w' : World} {b : Nat} {p : SP} {r : Option Nat} (h : Bj w b p) (hg : w.grownBy w' r) (hne : some b ≠ r) : Bj w' b p :=
  ⟨keepG hg h.c0 hne, keepG hg h.c1 hne, keepG hg h.c2 hne, keepG hg h.c3 hne, keepG hg h.c4 hne, keepG hg h.c5 hne, keepG hg h.c6 hne, keepG hg h.c7 hne⟩
theorem W8.gr {w w' : World} {b : Nat} {p : SP} {r : Option Nat} (h : W8 w b p) (hg : w.grownBy w' r) (hne : some b ≠ r) : W8 w' b p :=
  ⟨keepG8 h.q hg hne, fun i hi => (World.frozen?_of_block (hg.block b (World.block_lt_of_cell? _ _ h.q.c0) hne)).trans (h.f i hi)⟩
theorem W8.new (w : World) (p : SP) (t : TypeId) : W8 (w.alloc (.cells p.cs t)) w.heap.size p := ⟨Bj.new w p t, fun i _ => frozen_of_row _ _ i _ _ (heap_alloc_new w _)⟩
theorem same8 (w : World) (b i : Nat) (v u : Value) (h : w.cell? ⟨b, i, none⟩ = some u) : (w.setCell ⟨b, i, none⟩ v).cell? ⟨b, i, none⟩ = some v := World.cell?_setCell_same (h := h) ..
theorem other8 (w : World) (b i j : Nat) (v u : Value) (hne : i ≠ j) (h : w.cell? ⟨b, j, none⟩ = some u) : (w.setCell ⟨b, i, none⟩ v).cell? ⟨b, j, none⟩ = some u := (World.cell?_setCell_other (h := fun e => hne (by cases e; rfl)) ..).trans h
/-- One of the eight cells is written. -/
theorem W8.s0 {w : World} {b : Nat} {p : SP} (h : W8 w b p) (k : Int) : W8 (w.setCell ⟨b, 0, none⟩ (.int .i64 k)) b { p with k := k } :=
  ⟨⟨same8 _ _ _ _ _ h.q.c0, other8 _ _ 0 1 _ _ (by omega) h.q.c1, other8 _ _ 0 2 _ _ (by omega) h.q.c2, other8 _ _ 0 3 _ _ (by omega) h.q.c3, other8 _ _ 0 4 _ _ (by omega) h.q.c4, other8 _ _ 0 5 _ _ (by omega) h.q.c5, other8 _ _ 0 6 _ _ (by omega) h.q.c6, other8 _ _ 0 7 _ _ (by omega) h.q.c7⟩, fun i hi => by simpa using h.f i hi⟩
theorem W8.s2 {w : World} {b : Nat} {p : SP} (h : W8 w b p) (a : Option Addr) (n c : Nat) : W8 (w.setCell ⟨b, 2, none⟩ (.slice a n c)) b { p with a2 := a, n2 := n, c2 := c } :=
  ⟨⟨other8 _ _ 2 0 _ _ (by omega) h.q.c0, other8 _ _ 2 1 _ _ (by omega) h.q.c1, same8 _ _ _ _ _ h.q.c2, other8 _ _ 2 3 _ _ (by omega) h.q.c3, other8 _ _ 2 4 _ _ (by omega) h.q.c4, other8 _ _ 2 5 _ _ (by omega) h.q.c5, other8 _ _ 2 6 _ _ (by omega) h.q.c6, other8 _ _ 2 7 _ _ (by omega) h.q.c7⟩, fun i hi => by simpa using h.f i hi⟩
theorem W8.s3 {w : World} {b : Nat} {p : SP} (h : W8 w b p) (a : Option Addr) (n c : Nat) : W8 (w.setCell ⟨b, 3, none⟩ (.slice a n c)) b { p with a3 := a, n3 := n, c3 := c } :=
  ⟨⟨other8 _ _ 3 0 _ _ (by omega) h.q.c0, other8 _ _ 3 1 _ _ (by omega) h.q.c1, other8 _ _ 3 2 _ _ (by omega) h.q.c2, same8 _ _ _ _ _ h.q.c3, other8 _ _ 3 4 _ _ (by omega) h.q.c4, other8 _ _ 3 5 _ _ (by omega) h.q.c5, other8 _ _ 3 6 _ _ (by omega) h.q.c6, other8 _ _ 3 7 _ _ (by omega) h.q.c7⟩, fun i hi => by simpa using h.f i hi⟩
theorem W8.s4 {w : World} {b : Nat} {p : SP} (h : W8 w b p) (t : ByteArray) : W8 (w.setCell ⟨b, 4, none⟩ (.string t)) b { p with col := t } :=
  ⟨⟨other8 _ _ 4 0 _ _ (by omega) h.q.c0, other8 _ _ 4 1 _ _ (by omega) h.q.c1, other8 _ _ 4 2 _ _ (by omega) h.q.c2, other8 _ _ 4 3 _ _ (by omega) h.q.c3, same8 _ _ _ _ _ h.q.c4, other8 _ _ 4 5 _ _ (by omega) h.q.c5, other8 _ _ 4 6 _ _ (by omega) h.q.c6, other8 _ _ 4 7 _ _ (by omega) h.q.c7⟩, fun i hi => by simpa using h.f i hi⟩
theorem W8.s5 {w : World} {b : Nat} {p : SP} (h : W8 w b p) (a : Option Addr) (n c : Nat) : W8 (w.setCell ⟨b, 5, none⟩ (.slice a n c)) b { p with a5 := a, n5 := n, c5 := c } :=
  ⟨⟨other8 _ _ 5 0 _ _ (by omega) h.q.c0, other8 _ _ 5 1 _ _ (by omega) h.q.c1, other8 _ _ 5 2 _ _ (by omega) h.q.c2, other8 _ _ 5 3 _ _ (by omega) h.q.c3, other8 _ _ 5 4 _ _ (by omega) h.q.c4, same8 _ _ _ _ _ h.q.c5, other8 _ _ 5 6 _ _ (by omega) h.q.c6, other8 _ _ 5 7 _ _ (by omega) h.q.c7⟩, fun i hi => by simpa using h.f i hi⟩
theorem W8.s6 {w : World} {b : Nat} {p : SP} (h : W8 w b p) (a : Option Addr) (n c : Nat) : W8 (w.setCell ⟨b, 6, none⟩ (.slice a n c)) b { p with a6 := a, n6 := n, c6 := c } :=
  ⟨⟨other8 _ _ 6 0 _ _ (by omega) h.q.c0, other8 _ _ 6 1 _ _ (by omega) h.q.c1, other8 _ _ 6 2 _ _ (by omega) h.q.c2, other8 _ _ 6 3 _ _ (by omega) h.q.c3, other8 _ _ 6 4 _ _ (by omega) h.q.c4, other8 _ _ 6 5 _ _ (by omega) h.q.c5, same8 _ _ _ _ _ h.q.c6, other8 _ _ 6 7 _ _ (by omega) h.q.c7⟩, fun i hi => by simpa using h.f i hi⟩
theorem W8.s7 {w : World} {b : Nat} {p : SP} (h : W8 w b p) (a : Option Addr) (n c : Nat) : W8 (w.setCell ⟨b, 7, none⟩ (.slice a n c)) b { p with a7 := a, n7 := n, c7 := c } :=
  ⟨⟨other8 _ _ 7 0 _ _ (by omega) h.q.c0, other8 _ _ 7 1 _ _ (by omega) h.q.c1, other8 _ _ 7 2 _ _ (by omega) h.q.c2, other8 _ _ 7 3 _ _ (by omega) h.q.c3, other8 _ _ 7 4 _ _ (by omega) h.q.c4, other8 _ _ 7 5 _ _ (by omega) h.q.c5, other8 _ _ 7 6 _ _ (by omega) h.q.c6, same8 _ _ _ _ _ h.q.c7⟩, fun i hi => by simpa using h.f i hi⟩
/-- What lies above block x stands. -/
def KA (x : Nat) (w w' : World) : Prop := ∀ (q : Addr) (v : Value), x < q.block → w.cell? q = some v → w'.cell? q = some v
theorem KA.gr {x : Nat} {w w' : World} {r : Option Nat} (h : w.grownBy w' r) (hr : ∀ k, r = some k → k ≤ x) : KA x w w' := fun q v hq hc => keepG h hc (fun e => by have := hr q.block e.symm; omega)
theorem KA.set {x : Nat} (w : World) (b i : Nat) (v : Value) (hb : b ≤ x) : KA x w (w.setCell ⟨b, i, none⟩ v) := KA.gr (gset w b i v) (fun k e => by have := Option.some.inj e; omega)
theorem KA.trans {x : Nat} {a b c : World} (h : KA x a b) (k : KA x b c) : KA x a c := fun q v hq hc => k q v hq (h q v hq hc)
/-- A slice that is nil or lies above block x. -/
def Far (x : Nat) (a : Option Addr) : Prop := ∀ b off, a = some ⟨b, off, none⟩ → x < b
theorem far_none (x : Nat) : Far x none := fun _ _ e => by cases e
theorem far_some {x b off : Nat} (h : x < b) : Far x (some ⟨b, off, none⟩) := fun b' off' e => by cases e; exact h
theorem It.ka {x : Nat} {w w' : World} {a : Option Addr} {n : Nat} (h : It w a n) (hk : KA x w w') (ha : Far x a) : It w' a n := fun k hkn => by
  obtain ⟨b, off, o, m, s, e, h0, h1, h2, hs⟩ := h k hkn
  exact ⟨b, off, o, m, s, e, hk _ _ (ha _ _ e) h0, hk _ _ (ha _ _ e) h1, hk _ _ (ha _ _ e) h2, hs⟩
theorem Ie.ka {x : Nat} {w w' : World} {a : Option Addr} {n : Nat} (h : Ie w a n) (hk : KA x w w') (ha : Far x a) : Ie w' a n := by
  obtain ⟨I, h1, h2⟩ := h
  refine ⟨I, fun k hkn => ?_, h2⟩
  obtain ⟨b, off, e, c0, c1, c2, hs⟩ := h1 k hkn
  exact ⟨b, off, e, hk _ _ (ha _ _ e) c0, hk _ _ (ha _ _ e) c1, hk _ _ (ha _ _ e) c2, hs⟩
theorem Co.ka {x : Nat} {w w' : World} {a : Option Addr} {n : Nat} (h : Co w a n) (hk : KA x w w') (ha : Far x a) : Co w' a n := fun k hkn => by
  obtain ⟨b, off, m, s, e, h0, h1, hs⟩ := h k hkn
  exact ⟨b, off, m, s, e, hk _ _ (ha _ _ e) h0, hk _ _ (ha _ _ e) h1, hs⟩
/-- n expressions that lie above block x. -/
def Of (x : Nat) (w : World) (a : Option Addr) (n : Nat) : Prop :=
  ∀ k, k < n → ∃ b off i m c, a = some ⟨b, off, none⟩ ∧ x < b ∧ Far x i ∧ w.cell? ⟨b, off + k, none⟩ = some (.slice i m c) ∧ Ie w i m ∧ 1 ≤ m
theorem Of.ka {x : Nat} {w w' : World} {a : Option Addr} {n : Nat} (h : Of x w a n) (hk : KA x w w') : Of x w' a n := fun k hkn => by
  obtain ⟨b, off, i, m, c, e, hb, hi, h0, hit, hm⟩ := h k hkn
  exact ⟨b, off, i, m, c, e, hb, hi, hk _ _ hb h0, hit.ka hk hi, hm⟩
/-- A statement whose lists lie above block x. -/
structure Sf (x : Nat) (w : World) (p : SP) : Prop where
  tb : okName p.tb = true
  col : p.col.size = 0 ∨ okName p.col = true
  co : Co w p.a2 p.n2
  va : It w p.a3 p.n3
  ex : Ie w p.a5 p.n5
  wh : Ie w p.a6 p.n6
  ou : Of x w p.a7 p.n7
  l2 : p.n2 ≤ 100
  l3 : p.n3 ≤ 100
  l5 : p.n5 ≤ 100
  l6 : p.n6 ≤ 100
  l7 : p.n7 ≤ 3
  f2 : Far x p.a2
  f3 : Far x p.a3
  f5 : Far x p.a5
  f6 : Far x p.a6
theorem Sf.ka {x : Nat} {w w' : World} {p : SP} (h : Sf x w p) (hk : KA x w w') : Sf x w' p :=
  ⟨h.tb, h.col, h.co.ka hk h.f2, h.va.ka hk h.f3, h.ex.ka hk h.f5, h.wh.ka hk h.f6, h.ou.ka hk, h.l2, h.l3, h.l5, h.l6, h.l7, h.f2, h.f3, h.f5, h.f6⟩
theorem Sf.sm {x : Nat} {w : World} {p : SP} (h : Sf x w p) : Sm w p :=
  ⟨h.tb, h.col, h.co, h.va, h.ex, h.wh, fun k hk => by obtain ⟨b, off, i, m, c, e, -, -, h0, hi, hm⟩ := h.ou k hk; exact ⟨b, off, i, m, c, e, h0, hi, hm⟩, h.l2, h.l3, h.l7⟩
/-- A statement that has a table's name alone. -/
def p0 (k : Int) (tb : ByteArray) : SP := ⟨k, tb, none, 0, 0, none, 0, 0, ⟨#[]⟩, none, 0, 0, none, 0, 0, none, 0, 0⟩
theorem sf0 (x : Nat) (w : World) (k : Int) (tb : ByteArray) (h : okName tb = true) : Sf x w (p0 k tb) :=
  ⟨h, Or.inl rfl, fun _ h => absurd h (Nat.not_lt_zero _), fun _ h => absurd h (Nat.not_lt_zero _), ie_nil _ _, ie_nil _ _, fun _ h => absurd h (Nat.not_lt_zero _), Nat.zero_le _, Nat.zero_le _, Nat.zero_le _, Nat.zero_le _, Nat.zero_le _, far_none x, far_none x, far_none x, far_none x⟩
end Go.Proofs.Ytlilmbeehmjpkaa
