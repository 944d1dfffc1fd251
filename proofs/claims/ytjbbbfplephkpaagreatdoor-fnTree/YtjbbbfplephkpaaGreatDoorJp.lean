/-
  What the specification draws: a statement made wrong (rows of columns and of values).
-/
import Derived.Test.YtjbbbfplephkpaaGreatDoorJk
import Derived.Deep.RegionHeld3
namespace Go.Proofs.YtjbbbfplephkpaaGreatDoor
open Go.RowKit
/-- The eight cells of a statement's block, that may be written. -/
structure W8 (w : World) (b : Nat) (p : SP) : Prop where
  q : B8 w b p
  f : ∀ i, i < 8 → w.frozen? ⟨b, i, none⟩ = false
theorem keepG8 {w w' : World} {b : Nat} {p : SP} {r : Option Nat} (h : B8 w b p) (hg : w.grownBy w' r) (hne : some b ≠ r) : B8 w' b p :=
  ⟨keepG hg h.c0 hne, keepG hg h.c1 hne, keepG hg h.c2 hne, keepG hg h.c3 hne, keepG hg h.c4 hne, keepG hg h.c5 hne, keepG hg h.c6 hne, keepG hg h.c7 hne⟩
theorem W8.gr {w w' : World} {b : Nat} {p : SP} {r : Option Nat} (h : W8 w b p) (hg : w.grownBy w' r) (hne : some b ≠ r) : W8 w' b p :=
  ⟨keepG8 h.q hg hne, fun i hi => (World.frozen?_of_block (hg.block b (World.block_lt_of_cell? _ _ h.q.c0) hne)).trans (h.f i hi)⟩
theorem W8.new (w : World) (p : SP) (t : TypeId) : W8 (w.alloc (.cells p.cs t)) w.heap.size p := ⟨B8.new w p t, fun i _ => frozen_of_row _ _ i _ _ (heap_alloc_new w _)⟩
theorem same8 (w : World) (b i : Nat) (v u : Value) (h : w.cell? ⟨b, i, none⟩ = some u) : (w.setCell ⟨b, i, none⟩ v).cell? ⟨b, i, none⟩ = some v := World.cell?_setCell_same (h := h) ..
theorem other8 (w : World) (b i j : Nat) (v u : Value) (hne : i ≠ j) (h : w.cell? ⟨b, j, none⟩ = some u) : (w.setCell ⟨b, i, none⟩ v).cell? ⟨b, j, none⟩ = some u := (World.cell?_setCell_other (h := fun e => hne (by cases e; rfl)) ..).trans h
/-- One of the eight cells is written. -/
theorem W8.s0 {w : World} {b : Nat} {p : SP} (h : W8 w b p) (k : Int) : W8 (w.setCell ⟨b, 0, none⟩ (.int .i64 k)) b { p with k := k } :=
  ⟨⟨same8 _ _ _ _ _ h.q.c0, other8 _ _ 0 1 _ _ (by omega) h.q.c1, other8 _ _ 0 2 _ _ (by omega) h.q.c2, other8 _ _ 0 3 _ _ (by omega) h.q.c3, other8 _ _ 0 4 _ _ (by omega) h.q.c4, other8 _ _ 0 5 _ _ (by omega) h.q.c5, other8 _ _ 0 6 _ _ (by omega) h.q.c6, other8 _ _ 0 7 _ _ (by omega) h.q.c7⟩, fun i hi => by simpa using h.f i hi⟩
theorem W8.s2 {w : World} {b : Nat} {p : SP} (h : W8 w b p) (a : Option Addr) (n c : Nat) : W8 (w.setCell ⟨b, 2, none⟩ (.slice a n c)) b { p with a2 := a, n2 := n, c2 := c } :=
  ⟨⟨other8 _ _ 2 0 _ _ (by omega) h.q.c0, other8 _ _ 2 1 _ _ (by omega) h.q.c1, same8 _ _ _ _ _ h.q.c2, other8 _ _ 2 3 _ _ (by omega) h.q.c3, other8 _ _ 2 4 _ _ (by omega) h.q.c4, other8 _ _ 2 5 _ _ (by omega) h.q.c5, other8 _ _ 2 6 _ _ (by omega) h.q.c6, other8 _ _ 2 7 _ _ (by omega) h.q.c7⟩, fun i hi => by simpa using h.f i hi⟩
theorem W8.s3 {w : World} {b : Nat} {p : SP} (h : W8 w b p) (a : Option Addr) (n c : Nat) : W8 (w.setCell ⟨b, 3, none⟩ (.slice a n c)) b { p with a3 := a, n3 := n, c3 := c } :=
  ⟨⟨other8 _ _ 3 0 _ _ (by omega) h.q.c0, other8 _ _ 3 1 _ _ (by omega) h.q.c1, other8 _ _ 3 2 _ _ (by omega) h.q.c2, same8 _ _ _ _ _ h.q.c3, other8 _ _ 3 4 _ _ (by omega) h.q.c4, other8 _ _ 3 5 _ _ (by omega) h.q.c5, other8 _ _ 3 6 _ _ (by omega) h.q.c6, other8 _ _ 3 7 _ _ (by omega) h.q.c7⟩, fun i hi => by simpa using h.f i hi⟩
theorem W8.s4 {w : World} {b : Nat} {p : SP} (h : W8 w b p) (t : ByteArray) : W8 (w.setCell ⟨b, 4, none⟩ (.string t)) b { p with col := t } :=
  ⟨⟨other8 _ _ 4 0 _ _ (by omega) h.q.c0, other8 _ _ 4 1 _ _ (by omega) h.q.c1, other8 _ _ 4 2 _ _ (by omega) h.q.c2, other8 _ _ 4 3 _ _ (by omega) h.q.c3, same8 _ _ _ _ _ h.q.c4, other8 _ _ 4 5 _ _ (by omega) h.q.c5, other8 _ _ 4 6 _ _ (by omega) h.q.c6, other8 _ _ 4 7 _ _ (by omega) h.q.c7⟩, fun i hi => by simpa using h.f i hi⟩
theorem W8.s5 {w : World} {b : Nat} {p : SP} (h : W8 w b p) (a : Option Addr) (n c : Nat) : W8 (w.setCell ⟨b, 5, none⟩ (.slice a n c)) b { p with a5 := a, n5 := n, c5 := c } :=
  ⟨⟨other8 _ _ 5 0 _ _ (by omega) h.q.c0, other8 _ _ 5 1 _ _ (by omega) h.q.c1, other8 _ _ 5 2 _ _ (by omega) h.q.c2, other8 _ _ 5 3 _ _ (by omega) h.q.c3, other8 _ _ 5 4 _ _ (by omega) h.q.c4, same8 _ _ _ _ _ h.q.c5, other8 _ _ 5 6 _ _ (by omega) h.q.c6, other8 _ _ 5 7 _ _ (by omega) h.q.c7⟩, fun i hi => by simpa using h.f i hi⟩
theorem W8.s6 {w : World} {b : Nat} {p : SP} (h : W8 w b p) (a : Option Addr) (n c : Nat) : W8 (w.setCell ⟨b, 6, none⟩ (.slice a n c)) b { p with a6 := a, n6 := n, c6 := c } :=
  ⟨⟨other8 _ _ 6 0 _ _ (by omega) h.q.c0, other8 _ _ 6 1 _ _ (by omega) h.q.c1, other8 _ _ 6 2 _ _ (by omega) h.q.c2, other8 _ _ 6 3 _ _ (by omega) h.q.c3, other8 _ _ 6 4 _ _ (by omega) h.q.c4, other8 _ _ 6 5 _ _ (by omega) h.q.c5, same8 _ _ _ _ _ h.q.c6, other8 _ _ 6 7 _ _ (by omega) h.q.c7⟩, fun i hi => by simpa using h.f i hi⟩
theorem W8.s7 {w : World} {b : Nat} {p : SP} (h : W8 w b p) (a : Option Addr) (n c : Nat) : W8 (w.setCell ⟨b, 7, none⟩ (.slice a n c)) b { p with a7 := a, n7 := n, c7 := c } :=
  ⟨⟨other8 _ _ 7 0 _ _ (by omega) h.q.c0, other8 _ _ 7 1 _ _ (by omega) h.q.c1, other8 _ _ 7 2 _ _ (by omega) h.q.c2, other8 _ _ 7 3 _ _ (by omega) h.q.c3, other8 _ _ 7 4 _ _ (by omega) h.q.c4, other8 _ _ 7 5 _ _ (by omega) h.q.c5, other8 _ _ 7 6 _ _ (by omega) h.q.c6, same8 _ _ _ _ _ h.q.c7⟩, fun i hi => by simpa using h.f i hi⟩
/-- What lies above block x stands. -/
def KA (x : Nat) (w w' : World) : Prop := ∀ (q : Addr) (v : Value), x < q.block → w.cell? q = some v → w'.cell? q = some v
theorem KA.gr {x : Nat} {w w' : World} {r : Option Nat} (h : w.grownBy w' r) (hr : ∀ k, r = some k → k ≤ x) : KA x w w' := fun q v hq hc => keepG h hc (fun e => by have := hr q.block e.symm; omega)
theorem KA.set {x : Nat} (w : World) (b i : Nat) (v : Value) (hb : b ≤ x) : KA x w (w.setCell ⟨b, i, none⟩ v) := KA.gr (gset w b i v) (fun k e => by have := Option.some.inj e; omega)
theorem KA.trans {x : Nat} {a b c : World} (h : KA x a b) (k : KA x b c) : KA x a c := fun q v hq hc => k q v hq (h q v hq hc)
/-- A slice that is nil or lies above block x. -/
def Far (x : Nat) (a : Option Addr) : Prop := ∀ b off, a = some ⟨b, off, none⟩ → x < b
theorem far_none (x : Nat) : Far x none := fun _ _ e => by cases e
theorem far_some {x b off : Nat} (h : x < b) : Far x (some ⟨b, off, none⟩) := fun b' off' e => by cases e; exact h
theorem It.ka {x : Nat} {w w' : World} {a : Option Addr} {n : Nat} (h : It w a n) (hk : KA x w w') (ha : Far x a) : It w' a n := fun k hkn => by
  obtain ⟨b, off, o, m, s, e, h0, h1, h2, hs⟩ := h k hkn
  exact ⟨b, off, o, m, s, e, hk _ _ (ha _ _ e) h0, hk _ _ (ha _ _ e) h1, hk _ _ (ha _ _ e) h2, hs⟩
theorem Co.ka {x : Nat} {w w' : World} {a : Option Addr} {n : Nat} (h : Co w a n) (hk : KA x w w') (ha : Far x a) : Co w' a n := fun k hkn => by
  obtain ⟨b, off, m, s, e, h0, h1, hs⟩ := h k hkn
  exact ⟨b, off, m, s, e, hk _ _ (ha _ _ e) h0, hk _ _ (ha _ _ e) h1, hs⟩
/-- n expressions that lie above block x. -/
def Of (x : Nat) (w : World) (a : Option Addr) (n : Nat) : Prop :=
  ∀ k, k < n → ∃ b off i m c, a = some ⟨b, off, none⟩ ∧ x < b ∧ Far x i ∧ w.cell? ⟨b, off + k, none⟩ = some (.slice i m c) ∧ It w i m ∧ m ≤ 100
theorem Of.ka {x : Nat} {w w' : World} {a : Option Addr} {n : Nat} (h : Of x w a n) (hk : KA x w w') : Of x w' a n := fun k hkn => by
  obtain ⟨b, off, i, m, c, e, hb, hi, h0, hit, hm⟩ := h k hkn
  exact ⟨b, off, i, m, c, e, hb, hi, hk _ _ hb h0, hit.ka hk hi, hm⟩
/-- A statement whose lists lie above block x. -/
structure Sf (x : Nat) (w : World) (p : SP) : Prop where
  tb : p.tb.size ≤ 40
  col : p.col.size ≤ 40
  co : Co w p.a2 p.n2
  va : It w p.a3 p.n3
  ex : It w p.a5 p.n5
  wh : It w p.a6 p.n6
  ou : Of x w p.a7 p.n7
  l2 : p.n2 ≤ 100
  l3 : p.n3 ≤ 100
  l5 : p.n5 ≤ 100
  l6 : p.n6 ≤ 100
  l7 : p.n7 ≤ 100
  f2 : Far x p.a2
  f3 : Far x p.a3
  f5 : Far x p.a5
  f6 : Far x p.a6
theorem Sf.ka {x : Nat} {w w' : World} {p : SP} (h : Sf x w p) (hk : KA x w w') : Sf x w' p :=
  ⟨h.tb, h.col, h.co.ka hk h.f2, h.va.ka hk h.f3, h.ex.ka hk h.f5, h.wh.ka hk h.f6, h.ou.ka hk, h.l2, h.l3, h.l5, h.l6, h.l7, h.f2, h.f3, h.f5, h.f6⟩
theorem Sf.sm {x : Nat} {w : World} {p : SP} (h : Sf x w p) : Sm w p :=
  ⟨h.tb, h.col, h.co, h.va, h.ex, h.wh, fun k hk => by obtain ⟨b, off, i, m, c, e, -, -, h0, hi, hm⟩ := h.ou k hk; exact ⟨b, off, i, m, c, e, h0, hi, hm⟩, h.l2, h.l3, h.l5, h.l6, h.l7⟩
/-- A statement that has a table's name alone. -/
def p0 (k : Int) (tb : ByteArray) : SP := ⟨k, tb, none, 0, 0, none, 0, 0, ⟨#[]⟩, none, 0, 0, none, 0, 0, none, 0, 0⟩
theorem sf0 (x : Nat) (w : World) (k : Int) (tb : ByteArray) (h : tb.size ≤ 40) : Sf x w (p0 k tb) :=
  ⟨h, Nat.zero_le _, fun _ h => absurd h (Nat.not_lt_zero _), fun _ h => absurd h (Nat.not_lt_zero _), fun _ h => absurd h (Nat.not_lt_zero _), fun _ h => absurd h (Nat.not_lt_zero _), fun _ h => absurd h (Nat.not_lt_zero _), Nat.zero_le _, Nat.zero_le _, Nat.zero_le _, Nat.zero_le _, Nat.zero_le _, far_none x, far_none x, far_none x, far_none x⟩
end Go.Proofs.YtjbbbfplephkpaaGreatDoor
namespace Go.Proofs.YtjbbbfplephkpaaGreatDoor
open Go.RowKit
/-- What stands while a statement is made: the cursor, the box of the answer, the box of the statement. -/
structure Mk8 (g B : Nat) (ca : Option Addr) (cn cc : Nat) (w : World) (b2 b3 : Nat) (p : SP) (z s : Nat) (wx : World) : Prop where
  cu : Cu wx g B ca cn cc z s
  r2 : ∃ p2, W8 wx b2 p2
  r3 : W8 wx b3 p
  sf : Sf b3 wx p
  gr : w.grownBy wx (some g)
theorem Mk8.lt3 {g B : Nat} {ca : Option Addr} {cn cc : Nat} {w : World} {b2 b3 : Nat} {p : SP} {z s : Nat} {wx : World} (h : Mk8 g B ca cn cc w b2 b3 p z s wx) : b3 < wx.heap.size := World.block_lt_of_cell? _ _ h.r3.q.c0
theorem Mk8.call {g B : Nat} {ca : Option Addr} {cn cc : Nat} {w : World} {b2 b3 : Nat} {p : SP} {z s z' s' : Nat} {wx w' : World} (h : Mk8 g B ca cn cc w b2 b3 p z s wx) (hg : wx.grownBy w' (some g)) (hc : Cu w' g B ca cn cc z' s') (h2 : g < b2) (h3 : b2 < b3) : Mk8 g B ca cn cc w b2 b3 p z' s' w' :=
  ⟨hc, h.r2.imp fun _ q => q.gr hg (fun e => by have := Option.some.inj e; omega), h.r3.gr hg (fun e => by have := Option.some.inj e; omega), h.sf.ka (KA.gr hg (fun k e => by have := Option.some.inj e; omega)), gtrans h.gr hg⟩
theorem Mk8.al {g B : Nat} {ca : Option Addr} {cn cc : Nat} {w : World} {b2 b3 : Nat} {p : SP} {z s : Nat} {wx : World} (h : Mk8 g B ca cn cc w b2 b3 p z s wx) (hB : B ≤ w.heap.size) (o : Obj) : Mk8 g B ca cn cc w b2 b3 p z s (wx.alloc o) :=
  ⟨h.cu.al (Nat.le_trans hB h.gr.size) o, h.r2.imp fun _ q => q.gr (galloc wx o none) (fun e => by cases e), h.r3.gr (galloc wx o none) (fun e => by cases e), h.sf.ka (KA.gr (galloc wx o none) (fun k e => by cases e)), gtrans h.gr (galloc _ _ _)⟩
/-- A cell of the statement's box is written. -/
theorem Mk8.put {g B : Nat} {ca : Option Addr} {cn cc : Nat} {w : World} {b2 b3 : Nat} {p p' : SP} {z s i : Nat} {v : Value} {wx : World} (h : Mk8 g B ca cn cc w b2 b3 p z s wx) (hB : B ≤ w.heap.size) (h2 : w.heap.size ≤ b2) (h3 : b2 < b3) (hw : W8 (wx.setCell ⟨b3, i, none⟩ v) b3 p') (hs : Sf b3 wx p') : Mk8 g B ca cn cc w b2 b3 p' z s (wx.setCell ⟨b3, i, none⟩ v) :=
  ⟨h.cu.gw (gset wx b3 i v) (by omega) (Nat.le_trans hB h.gr.size), h.r2.imp fun _ q => q.gr (gset wx b3 i v) (fun e => by have := Option.some.inj e; omega), hw, hs.ka (KA.set wx b3 i v (Nat.le_refl _)), gjoin h.gr (gset wx b3 i v) (fun j e => by have := Option.some.inj e; omega)⟩
theorem gnone {w w' : World} {r : Option Nat} (h : w.grownBy w' none) : w.grownBy w' r := ⟨h.os, h.tape, h.output, h.size, fun k hk _ => h.block k hk (fun e => by cases e)⟩
theorem Sf.wk {x : Nat} {w : World} {p : SP} (h : Sf x w p) (k : Int) : Sf x w { p with k := k } :=
  ⟨h.tb, h.col, h.co, h.va, h.ex, h.wh, h.ou, h.l2, h.l3, h.l5, h.l6, h.l7, h.f2, h.f3, h.f5, h.f6⟩
theorem Sf.w2 {x : Nat} {w : World} {p : SP} (h : Sf x w p) (a : Option Addr) (n c : Nat) (hc : Co w a n) (hn : n ≤ 100) (hf : Far x a) : Sf x w { p with a2 := a, n2 := n, c2 := c } :=
  ⟨h.tb, h.col, hc, h.va, h.ex, h.wh, h.ou, hn, h.l3, h.l5, h.l6, h.l7, hf, h.f3, h.f5, h.f6⟩
theorem Sf.w3 {x : Nat} {w : World} {p : SP} (h : Sf x w p) (a : Option Addr) (n c : Nat) (hc : It w a n) (hn : n ≤ 100) (hf : Far x a) : Sf x w { p with a3 := a, n3 := n, c3 := c } :=
  ⟨h.tb, h.col, h.co, hc, h.ex, h.wh, h.ou, h.l2, hn, h.l5, h.l6, h.l7, h.f2, hf, h.f5, h.f6⟩
theorem Sf.w4 {x : Nat} {w : World} {p : SP} (h : Sf x w p) (t : ByteArray) (ht : t.size ≤ 40) : Sf x w { p with col := t } :=
  ⟨h.tb, ht, h.co, h.va, h.ex, h.wh, h.ou, h.l2, h.l3, h.l5, h.l6, h.l7, h.f2, h.f3, h.f5, h.f6⟩
theorem Sf.w5 {x : Nat} {w : World} {p : SP} (h : Sf x w p) (a : Option Addr) (n c : Nat) (hc : It w a n) (hn : n ≤ 100) (hf : Far x a) : Sf x w { p with a5 := a, n5 := n, c5 := c } :=
  ⟨h.tb, h.col, h.co, h.va, hc, h.wh, h.ou, h.l2, h.l3, hn, h.l6, h.l7, h.f2, h.f3, hf, h.f6⟩
theorem Sf.w6 {x : Nat} {w : World} {p : SP} (h : Sf x w p) (a : Option Addr) (n c : Nat) (hc : It w a n) (hn : n ≤ 100) (hf : Far x a) : Sf x w { p with a6 := a, n6 := n, c6 := c } :=
  ⟨h.tb, h.col, h.co, h.va, h.ex, hc, h.ou, h.l2, h.l3, h.l5, hn, h.l7, h.f2, h.f3, h.f5, hf⟩
theorem Sf.w7 {x : Nat} {w : World} {p : SP} (h : Sf x w p) (a : Option Addr) (n c : Nat) (hc : Of x w a n) (hn : n ≤ 100) : Sf x w { p with a7 := a, n7 := n, c7 := c } :=
  ⟨h.tb, h.col, h.co, h.va, h.ex, h.wh, hc, h.l2, h.l3, h.l5, h.l6, hn, h.f2, h.f3, h.f5, h.f6⟩
/-- The same, with what lay above the box when the making began. -/
structure Mj (g B : Nat) (ca : Option Addr) (cn cc : Nat) (w w0 : World) (b3 : Nat) (p : SP) (z s : Nat) (wx : World) : Prop where
  m : Mk8 g B ca cn cc w w.heap.size b3 p z s wx
  ka : KA b3 w0 wx
  hB : B ≤ w.heap.size
  hg : g < B
  h3 : w.heap.size < b3
  sz : w0.heap.size ≤ wx.heap.size
theorem Mj.call {g B : Nat} {ca : Option Addr} {cn cc : Nat} {w w0 : World} {b3 : Nat} {p : SP} {z s : Nat} {wx : World} {z' s' : Nat} {w' : World} (h : Mj g B ca cn cc w w0 b3 p z s wx) (hg : wx.grownBy w' (some g)) (hc : Cu w' g B ca cn cc z' s') : Mj g B ca cn cc w w0 b3 p z' s' w' :=
  ⟨h.m.call hg hc (by have := h.hB; have := h.hg; omega) h.h3, h.ka.trans (KA.gr hg (fun k e => by have := h.hB; have := h.hg; have := h.h3; have e : g = k := Option.some.inj e; omega)), h.hB, h.hg, h.h3, Nat.le_trans h.sz hg.size⟩
theorem Mj.al {g B : Nat} {ca : Option Addr} {cn cc : Nat} {w w0 : World} {b3 : Nat} {p : SP} {z s : Nat} {wx : World} (h : Mj g B ca cn cc w w0 b3 p z s wx) (o : Obj) : Mj g B ca cn cc w w0 b3 p z s (wx.alloc o) :=
  ⟨h.m.al h.hB o, h.ka.trans (KA.gr (galloc wx o none) (fun k e => by cases e)), h.hB, h.hg, h.h3, Nat.le_trans h.sz (galloc wx o none).size⟩
/-- Rows above the box grow. -/
theorem Mj.row {g B : Nat} {ca : Option Addr} {cn cc : Nat} {w w0 : World} {b3 : Nat} {p : SP} {z s : Nat} {wx : World} {w' : World} {q : Nat} (h : Mj g B ca cn cc w w0 b3 p z s wx) (hg : wx.grownBy w' (some q)) (hq : b3 < q) (hs : Sf b3 w' p) (hk : KA b3 w0 w') : Mj g B ca cn cc w w0 b3 p z s w' :=
  ⟨⟨h.m.cu.gw hg (by have := h.hB; have := h.h3; omega) (Nat.le_trans h.hB h.m.gr.size), h.m.r2.imp fun _ x => x.gr hg (fun e => by have := h.h3; have e : w.heap.size = q := Option.some.inj e; omega), h.m.r3.gr hg (fun e => by have e : b3 = q := Option.some.inj e; omega), hs, gjoin h.m.gr hg (fun j e => by have := h.h3; have e : q = j := Option.some.inj e; omega)⟩, hk, h.hB, h.hg, h.h3, Nat.le_trans h.sz hg.size⟩
theorem Mj.wk {g B : Nat} {ca : Option Addr} {cn cc : Nat} {w w0 : World} {b3 : Nat} {p : SP} {z s : Nat} {wx : World} (h : Mj g B ca cn cc w w0 b3 p z s wx) (k : Int) : Mj g B ca cn cc w w0 b3 { p with k := k } z s (wx.setCell ⟨b3, 0, none⟩ (.int .i64 k)) :=
  ⟨h.m.put h.hB (Nat.le_refl _) h.h3 (h.m.r3.s0 k) (h.m.sf.wk k), h.ka.trans (KA.set wx b3 0 _ (Nat.le_refl _)), h.hB, h.hg, h.h3, Nat.le_trans h.sz (gset wx b3 0 _).size⟩
theorem Mj.w2 {g B : Nat} {ca : Option Addr} {cn cc : Nat} {w w0 : World} {b3 : Nat} {p : SP} {z s : Nat} {wx : World} (h : Mj g B ca cn cc w w0 b3 p z s wx) (a : Option Addr) (n c : Nat) (hc : Co wx a n) (hn : n ≤ 100) (hf : Far b3 a) : Mj g B ca cn cc w w0 b3 { p with a2 := a, n2 := n, c2 := c } z s (wx.setCell ⟨b3, 2, none⟩ (.slice a n c)) :=
  ⟨h.m.put h.hB (Nat.le_refl _) h.h3 (h.m.r3.s2 a n c) (h.m.sf.w2 a n c hc hn hf), h.ka.trans (KA.set wx b3 2 _ (Nat.le_refl _)), h.hB, h.hg, h.h3, Nat.le_trans h.sz (gset wx b3 2 _).size⟩
theorem Mj.w3 {g B : Nat} {ca : Option Addr} {cn cc : Nat} {w w0 : World} {b3 : Nat} {p : SP} {z s : Nat} {wx : World} (h : Mj g B ca cn cc w w0 b3 p z s wx) (a : Option Addr) (n c : Nat) (hc : It wx a n) (hn : n ≤ 100) (hf : Far b3 a) : Mj g B ca cn cc w w0 b3 { p with a3 := a, n3 := n, c3 := c } z s (wx.setCell ⟨b3, 3, none⟩ (.slice a n c)) :=
  ⟨h.m.put h.hB (Nat.le_refl _) h.h3 (h.m.r3.s3 a n c) (h.m.sf.w3 a n c hc hn hf), h.ka.trans (KA.set wx b3 3 _ (Nat.le_refl _)), h.hB, h.hg, h.h3, Nat.le_trans h.sz (gset wx b3 3 _).size⟩
theorem Mj.w4 {g B : Nat} {ca : Option Addr} {cn cc : Nat} {w w0 : World} {b3 : Nat} {p : SP} {z s : Nat} {wx : World} (h : Mj g B ca cn cc w w0 b3 p z s wx) (t : ByteArray) (ht : t.size ≤ 40) : Mj g B ca cn cc w w0 b3 { p with col := t } z s (wx.setCell ⟨b3, 4, none⟩ (.string t)) :=
  ⟨h.m.put h.hB (Nat.le_refl _) h.h3 (h.m.r3.s4 t) (h.m.sf.w4 t ht), h.ka.trans (KA.set wx b3 4 _ (Nat.le_refl _)), h.hB, h.hg, h.h3, Nat.le_trans h.sz (gset wx b3 4 _).size⟩
theorem Mj.w5 {g B : Nat} {ca : Option Addr} {cn cc : Nat} {w w0 : World} {b3 : Nat} {p : SP} {z s : Nat} {wx : World} (h : Mj g B ca cn cc w w0 b3 p z s wx) (a : Option Addr) (n c : Nat) (hc : It wx a n) (hn : n ≤ 100) (hf : Far b3 a) : Mj g B ca cn cc w w0 b3 { p with a5 := a, n5 := n, c5 := c } z s (wx.setCell ⟨b3, 5, none⟩ (.slice a n c)) :=
  ⟨h.m.put h.hB (Nat.le_refl _) h.h3 (h.m.r3.s5 a n c) (h.m.sf.w5 a n c hc hn hf), h.ka.trans (KA.set wx b3 5 _ (Nat.le_refl _)), h.hB, h.hg, h.h3, Nat.le_trans h.sz (gset wx b3 5 _).size⟩
theorem Mj.w6 {g B : Nat} {ca : Option Addr} {cn cc : Nat} {w w0 : World} {b3 : Nat} {p : SP} {z s : Nat} {wx : World} (h : Mj g B ca cn cc w w0 b3 p z s wx) (a : Option Addr) (n c : Nat) (hc : It wx a n) (hn : n ≤ 100) (hf : Far b3 a) : Mj g B ca cn cc w w0 b3 { p with a6 := a, n6 := n, c6 := c } z s (wx.setCell ⟨b3, 6, none⟩ (.slice a n c)) :=
  ⟨h.m.put h.hB (Nat.le_refl _) h.h3 (h.m.r3.s6 a n c) (h.m.sf.w6 a n c hc hn hf), h.ka.trans (KA.set wx b3 6 _ (Nat.le_refl _)), h.hB, h.hg, h.h3, Nat.le_trans h.sz (gset wx b3 6 _).size⟩
theorem Mj.w7 {g B : Nat} {ca : Option Addr} {cn cc : Nat} {w w0 : World} {b3 : Nat} {p : SP} {z s : Nat} {wx : World} (h : Mj g B ca cn cc w w0 b3 p z s wx) (a : Option Addr) (n c : Nat) (hc : Of b3 wx a n) (hn : n ≤ 100) : Mj g B ca cn cc w w0 b3 { p with a7 := a, n7 := n, c7 := c } z s (wx.setCell ⟨b3, 7, none⟩ (.slice a n c)) :=
  ⟨h.m.put h.hB (Nat.le_refl _) h.h3 (h.m.r3.s7 a n c) (h.m.sf.w7 a n c hc hn), h.ka.trans (KA.set wx b3 7 _ (Nat.le_refl _)), h.hB, h.hg, h.h3, Nat.le_trans h.sz (gset wx b3 7 _).size⟩
set_option maxRecDepth 20000 in
theorem Tryz.info58s : (Tryz.prog.info? 58).map (fun i => (i.zero, i.size, i.bytes)) = some (some (.slice none 0 0), 1, 24) := by kernel_rfl
set_option maxRecDepth 20000 in
theorem Tryz.info78v : (Tryz.prog.info? 78).map (fun i => (i.zero, i.size, i.bytes)) = some (some (.agg #[.int .i64 0, .int .i64 0, .string ⟨#[]⟩]), 3, 32) := by kernel_rfl
theorem it_g {w w' : World} {b m : Nat} {y : Option Nat} (h : It w (some ⟨b, 0, none⟩) m) (hg : w.grownBy w' y) (hy : some b ≠ y) : It w' (some ⟨b, 0, none⟩) m := fun k hk => by
  obtain ⟨b', off, o, q, s, e, h0, h1, h2, hs⟩ := h k hk
  cases e
  exact ⟨b, 0, o, q, s, rfl, keepG hg h0 hy, keepG hg h1 hy, keepG hg h2 hy, hs⟩
/-- Slices of items, in a row whose block is r. -/
def Osl (x : Nat) (w : World) (r : Option Nat) (xs : List Value) : Prop := ∀ (k : Nat) (v : Value), xs[k]? = some v → ∃ b m c, v = .slice (some ⟨b, 0, none⟩) m c ∧ x < b ∧ some b ≠ r ∧ b < w.heap.size ∧ It w (some ⟨b, 0, none⟩) m ∧ m ≤ 100
theorem Osl.gr {x : Nat} {w w' : World} {r y : Option Nat} {xs : List Value} (h : Osl x w r xs) (hg : w.grownBy w' y) (hy : y = r ∨ ∀ k, y = some k → k ≤ x) : Osl x w' r xs := fun k v hv => by
  obtain ⟨b, m, c, e, hx, hr, hl, hi, hm⟩ := h k v hv
  refine ⟨b, m, c, e, hx, hr, Nat.lt_of_lt_of_le hl hg.size, it_g hi hg ?_, hm⟩
  rcases hy with rfl | hy
  · exact hr
  · intro e'
    have := hy b e'.symm
    omega
theorem Osl.to {x : Nat} {w : World} {r : Option Nat} {xs : List Value} (h : Osl x w r xs) (g' : Nat) (hg : r = some g' ∨ w.heap.size ≤ g') : Osl x w (some g') xs := fun k v hv => by
  obtain ⟨b, m, c, e, hx, hr, hl, hi, hm⟩ := h k v hv
  refine ⟨b, m, c, e, hx, ?_, hl, hi, hm⟩
  rcases hg with rfl | hg
  · exact hr
  · intro e'
    have : b = g' := Option.some.inj e'
    omega
theorem Osl.grow {x : Nat} {w w' : World} {r : Option Nat} {xs : List Value} (h : Osl x w r xs) (hg : w.grownBy w' r) (g' : Nat) (hat : r = some g' ∨ g' = w.heap.size) : Osl x w' (some g') xs := fun k v hv => by
  obtain ⟨b, m, c, e, hx, hr, hl, hi, hm⟩ := h k v hv
  refine ⟨b, m, c, e, hx, ?_, Nat.lt_of_lt_of_le hl hg.size, it_g hi hg hr, hm⟩
  rcases hat with rfl | hat
  · exact hr
  · intro e'
    have : b = g' := Option.some.inj e'
    omega
theorem Osl.nil (x : Nat) (w : World) (r : Option Nat) : Osl x w r [] := fun k v hv => by simp at hv
theorem Osl.snoc {x : Nat} {w : World} {r : Option Nat} {xs : List Value} (h : Osl x w r xs) {b m c : Nat} (hx : x < b) (hr : some b ≠ r) (hl : b < w.heap.size) (hi : It w (some ⟨b, 0, none⟩) m) (hm : m ≤ 100) : Osl x w r (xs ++ [.slice (some ⟨b, 0, none⟩) m c]) := fun k v hv => by
  by_cases hk : k < xs.length
  · rw [List.getElem?_append_left hk] at hv
    exact h k v hv
  · rw [List.getElem?_append_right (by omega)] at hv
    have hk0 : k - xs.length = 0 := by
      rcases Nat.eq_zero_or_pos (k - xs.length) with e | e
      · exact e
      · rw [List.getElem?_eq_none (by simp; omega)] at hv
        cases hv
    rw [hk0] at hv
    exact ⟨b, m, c, (Option.some.inj hv).symm, hx, hr, hl, hi, hm⟩
theorem of_own {x base e n c : Nat} {w : World} {a : Option Addr} {r : Option Nat} {xs : List Value} (h : w.ownsRow base e 1 (.slice a n c) n xs) (ho : Osl x w r xs) (hb : x < base) : Of x w a n := fun k hk => by
  obtain ⟨g, cap, e1, hg, -⟩ := h.form (by omega)
  have hl : xs.length = n * 1 := h.1
  cases e1
  have hkl : k < xs.length := by omega
  obtain ⟨b, m, c', ev, hx, -, -, hi, hm⟩ := ho k xs[k] (List.getElem?_eq_getElem hkl)
  have hc := h.cells (g := g) rfl k _ (List.getElem?_eq_getElem hkl)
  rw [addj, ev] at hc
  exact ⟨g, 0, some ⟨b, 0, none⟩, m, c', rfl, by omega, far_some hx, by rw [Nat.zero_add]; exact hc, hi, hm⟩
theorem gd (w : World) (r : Option Nat) : w.grownBy w.drew r := ⟨rfl, rfl, rfl, Nat.le_refl _, fun _ _ _ => rfl⟩
theorem Mj.dr {g B : Nat} {ca : Option Addr} {cn cc : Nat} {w w0 : World} {b3 : Nat} {p : SP} {z s : Nat} {wx : World} (h : Mj g B ca cn cc w w0 b3 p z s wx) : Mj g B ca cn cc w w0 b3 p z s wx.drew :=
  h.call (gd wx _) (h.m.cu.gr (gd wx none) (fun _ e => by cases e) (Nat.le_trans h.hB h.m.gr.size))
/-- A row of one's own above the box has grown. -/
theorem Mj.w8 {g B : Nat} {ca : Option Addr} {cn cc : Nat} {w w0 : World} {b3 : Nat} {p : SP} {z s : Nat} {wx : World} {w' : World} {r : Option Nat} (h : Mj g B ca cn cc w w0 b3 p z s wx) (hg : wx.grownBy w' r) (hr : ∀ k, r = some k → w0.heap.size ≤ k) (h0 : b3 < w0.heap.size) : W8 w' b3 p :=
  h.m.r3.gr hg (fun e => by have := hr b3 e.symm; omega)
theorem Mj.app {g B : Nat} {ca : Option Addr} {cn cc : Nat} {w w0 : World} {b3 : Nat} {p : SP} {z s : Nat} {wx : World} {p' : SP} {w' : World} {r : Option Nat} {i : Nat} {v : Value} (h : Mj g B ca cn cc w w0 b3 p z s wx) (hg : wx.grownBy w' r) (hr : ∀ k, r = some k → w0.heap.size ≤ k) (h0 : b3 < w0.heap.size) (hw : W8 (w'.setCell ⟨b3, i, none⟩ v) b3 p') (hs : Sf b3 w' p') : Mj g B ca cn cc w w0 b3 p' z s (w'.setCell ⟨b3, i, none⟩ v) := by
  have hB := h.hB
  have h3 := h.h3
  have hG := h.m.gr.size
  have hG' := hg.size
  refine ⟨⟨(h.m.cu.gr hg (fun k e => by have := hr k e; omega) (by omega)).gw (gset w' b3 i v) (by omega) (by omega), h.m.r2.imp fun _ q => (q.gr hg (fun e => by have := hr _ e.symm; omega)).gr (gset w' b3 i v) (fun e => by have e : w.heap.size = b3 := Option.some.inj e; omega), hw, hs.ka (KA.set w' b3 i v (Nat.le_refl _)), gjoin (gjoin h.m.gr hg (fun j e => by have := hr j e; omega)) (gset w' b3 i v) (fun j e => by have e : b3 = j := Option.some.inj e; omega)⟩, ?_, h.hB, h.hg, h.h3, Nat.le_trans h.sz (Nat.le_trans hg.size (gset w' b3 i v).size)⟩
  refine KA.trans (fun q u hq hc => keepG hg (h.ka q u hq hc) (fun e => ?_)) (KA.set w' b3 i v (Nat.le_refl _))
  have h1 := hr q.block e.symm
  have h2 := World.block_lt_of_cell? _ _ hc
  omega
end Go.Proofs.YtjbbbfplephkpaaGreatDoor
namespace Go.Proofs.YtjbbbfplephkpaaGreatDoor
open Go.RowKit
variable {P : Program} {ops : Array Oper} {Q : Exit → Act → World → Prop} {md : Region.Mode} {S : World → Prop} {t : Nat}
/-- S stands behind every operation but number t. -/
def AnyT (P : Program) (md : Region.Mode) (ops : Array Oper) (Q : Exit → Act → World → Prop) (S : World → Prop) (t : Nat) : Nat → Array Bool → Act → World → Prop
  | 0, l, a, w => Region.ready md ops l = [] ∧ Q .normal a w
  | n + 1, l, a, w => (Region.ready md ops l = [] → Q .normal a w) ∧ ∀ i ∈ Region.ready md ops l, wpOp P ops Q i (fun a' w' => (i ≠ t → S w') ∧ AnyT P md ops Q S t n (l.setIfInBounds i true) a' w') a w
theorem AnyT.any : ∀ (n : Nat) (l : Array Bool) (a : Act) (w : World), AnyT P md ops Q S t n l a w → wpAny P md ops Q n l a w
  | 0, _, _, _, h => h
  | n + 1, _, _, _, h => ⟨h.1, fun i hi => wpOp_mono (fun a' w' h' => AnyT.any n _ a' w' h'.2) (h.2 i hi)⟩
theorem unlisted {i : Nat} {l : Array Bool} (h0 : l.getD i true = false) (h1 : l.getD i false = true) : False := by
  rcases Nat.lt_or_ge i l.size with h | h
  · simp [h] at h0 h1
    rw [h0] at h1
    cases h1
  · simp [Array.getElem?_eq_none h] at h1
theorem AnyT.first {i : Nat} {oi ot : Oper} {v : Value} (hi : ops[i]? = some oi) (hit : i ≠ t) (ht : ops[t]? = some ot) (hw : ∃ e ∈ ot.after, Region.binds md e = true ∧ e.on = i) (hsel : ∀ (j : Nat) (o : Oper) cs b, ops[j]? = some o → o.op ≠ .select cs b) (hQ : ∀ c a w, Q (.panic c) (a.put oi.dst v) w → Q (.panic c) a w) (n : Nat) :
    ∀ (l : Array Bool) (a : Act) (w : World), (∀ j oj, ops[j]? = some oj → j ≠ i → l.getD j true = false → (∀ e ∈ oj.after, Region.binds md e = true → e.on ≠ i) → oi.apart ops oj = true) →
      i ∈ Region.ready md ops l → YieldsIf P ops S oi v a → S w → AnyT P md ops Q S t n (l.setIfInBounds i true) (a.put oi.dst v) w → AnyT P md ops Q S t (n + 1) l a w := by
  have none : ∀ {l : Array Bool}, i ∈ Region.ready md ops l → Region.ready md ops l ≠ [] := fun hr e => by rw [e] at hr; cases hr
  induction n with
  | zero =>
    intro l a w _ hr hy hS H
    refine ⟨fun e => absurd e (none hr), fun j hj => ?_⟩
    rcases Decidable.em (j = i) with rfl | hne
    · exact hy.wpOp hi hS ⟨fun _ => hS, H⟩
    · have := ready_mono hj hne
      rw [H.1] at this
      cases this
  | succ n ih =>
    intro l a w hfree hr hy hS H
    refine ⟨fun e => absurd e (none hr), fun j hj => ?_⟩
    rcases Decidable.em (j = i) with rfl | hne
    · exact hy.wpOp hi hS ⟨fun _ => hS, H⟩
    · obtain ⟨hun, oj, hoj, hall⟩ := mem_ready.1 hj
      have hiu := (mem_ready.1 hr).1
      have hjt : j ≠ t := by
        rintro rfl
        rw [ht] at hoj
        cases hoj
        obtain ⟨e, he, hb, rfl⟩ := hw
        exact unlisted hiu (hall e he hb)
      have hno : ∀ e ∈ oj.after, Region.binds md e = true → e.on ≠ i := fun e he hb heq => by
        have := hall e he hb
        rw [heq] at this
        exact unlisted hiu this
      refine wpOp_mono (fun a' w' h3 => ⟨fun _ => h3.2.1 hjt, ih (l.setIfInBounds j true) a' w' (fun k ok hk hki hku hkn => hfree k ok hk hki ?_ hkn) (ready_mono hr (Ne.symm hne)) h3.1 (h3.2.1 hjt) ?_⟩) (wpOp_putIf hoj (hfree j oj hoj hne hun hno) (fun cs b => hsel i oi cs b hi) (fun cs b => hsel j oj cs b hoj) hQ hy (H.2 j (ready_mono hj hne)))
      · rcases Decidable.em (j = k) with rfl | hjk
        · exact hun
        · rwa [getD_set_ne true hjk] at hku
      · rw [Array.setIfInBounds_comm _ _ hne]
        exact h3.2.2
theorem AnyT.take {i : Nat} {oi ot : Oper} {v : Value} {n : Nat} {l : Array Bool} {a : Act} {w : World} (hi : ops[i]? = some oi) (hit : i ≠ t) (ht : ops[t]? = some ot) (hw : (ot.after.any fun e => Region.binds md e && e.on == i) = true)
    (hs : Region.noSelect ops = true) (hf : Region.free md ops l i = true) (hr : (Region.ready md ops l).contains i = true)
    (hQ : ∀ c a w, Q (.panic c) (a.put oi.dst v) w → Q (.panic c) a w) (hy : YieldsIf P ops S oi v a) (hS : S w)
    (h : AnyT P md ops Q S t n (l.setIfInBounds i true) (a.put oi.dst v) w) : AnyT P md ops Q S t (n + 1) l a w := by
  have hw' : ∃ e ∈ ot.after, Region.binds md e = true ∧ e.on = i := by
    obtain ⟨k, hk, he⟩ := Array.any_eq_true.1 hw
    rw [Bool.and_eq_true] at he
    exact ⟨ot.after[k], Array.getElem_mem hk, he.1, by simpa using he.2⟩
  exact AnyT.first hi hit ht hw' (Region.noSelect_spec hs) hQ n l a w (Region.free_spec hi hf) (by simpa using hr) hy hS h
/-- Those that may come up, one by one. -/
def ReadyT (P : Program) (md : Region.Mode) (ops : Array Oper) (Q : Exit → Act → World → Prop) (S : World → Prop) (t n : Nat) (l : Array Bool) (a : Act) (w : World) (rs : List Nat) : Prop :=
  ∀ i ∈ rs, wpOp P ops Q i (fun a' w' => (i ≠ t → S w') ∧ AnyT P md ops Q S t n (l.setIfInBounds i true) a' w') a w
theorem ReadyT.nil {n : Nat} {l : Array Bool} {a : Act} {w : World} : ReadyT P md ops Q S t n l a w [] := fun _ h => by cases h
theorem ReadyT.cons {n : Nat} {l : Array Bool} {a : Act} {w : World} {i : Nat} {o : Oper} {rs : List Nat} (ho : ops[i]? = some o)
    (h : ∀ K' : Act → World → Prop, Shut (∀ a w, (i ≠ t → S w) → AnyT P md ops Q S t n (l.setIfInBounds i true) a w → K' a w) → if Region.wanted o (yielded ops a.tmps) = true then Oper.wp P o a w K' Q else K' (a.put o.dst undef) w)
    (hs : ReadyT P md ops Q S t n l a w rs) : ReadyT P md ops Q S t n l a w (i :: rs) := fun j hj => by
  rcases List.mem_cons.1 hj with rfl | hj
  · exact wpOp_step ho (fun K' hK => h K' (fun a w hS hW => hK a w ⟨hS, hW⟩))
  · exact hs j hj
theorem AnyT.ready {rs : List Nat} {n : Nat} {l : Array Bool} {a : Act} {w : World} (hr : Region.ready md ops l = rs) (hne : rs ≠ []) (h : ReadyT P md ops Q S t n l a w rs) : AnyT P md ops Q S t (n + 1) l a w :=
  ⟨fun h0 => absurd (hr ▸ h0) hne, hr ▸ h⟩
theorem AnyT.done {l : Array Bool} {a : Act} {w : World} (hr : Region.ready md ops l = []) (h : Q .normal a w) : ∀ n, AnyT P md ops Q S t n l a w
  | 0 => ⟨hr, h⟩
  | _ + 1 => ⟨fun _ => h, by rw [hr]; simp⟩
theorem AnyT.begin (S : World → Prop) (t : Nat) {id : Nat} {a : Act} {w : World} (hm : P.follows .mixedOrders = true) (h : AnyT P .any ops Q S t ops.size (Array.replicate ops.size false) a w.drew) : (Code.region id ops true).wp P Q a w :=
  wp_region_any hm (AnyT.any _ _ _ _ h)
end Go.Proofs.YtjbbbfplephkpaaGreatDoor
namespace Go.Proofs.YtjbbbfplephkpaaGreatDoor
open Go.RowKit
set_option maxRecDepth 20000 in
theorem Tryz.info76c : (Tryz.prog.info? 76).map (fun i => (i.zero, i.size, i.bytes)) = some (some (.agg #[.string ⟨#[]⟩, .int .i64 0]), 2, 24) := by kernel_rfl
/-- The cells of n columns. -/
def Cls (n : Nat) (xs : List Value) : Prop := xs.length = n * 2 ∧ ∀ k, k < n → ∃ (m : Int) (s : ByteArray), xs[k * 2]? = some (.string s) ∧ xs[k * 2 + 1]? = some (.int .i64 m) ∧ s.size ≤ 40
theorem Cls.nil : Cls 0 [] := ⟨rfl, fun _ h => absurd h (Nat.not_lt_zero _)⟩
theorem Cls.one (m : Int) (s : ByteArray) (hs : s.size ≤ 40) : Cls 1 [.string s, .int .i64 m] := ⟨rfl, fun k hk => by
  obtain rfl : k = 0 := by omega
  exact ⟨m, s, rfl, rfl, hs⟩⟩
theorem Cls.app {n m : Nat} {xs ys : List Value} (h : Cls n xs) (k : Cls m ys) : Cls (n + m) (xs ++ ys) := ⟨by rw [List.length_append, h.1, k.1]; omega, fun j hj => by
  have h1 := h.1
  by_cases hjn : j < n
  · obtain ⟨q, s, e0, e1, hs⟩ := h.2 j hjn
    refine ⟨q, s, ?_, ?_, hs⟩
    · rw [List.getElem?_append_left (by omega)]; exact e0
    · rw [List.getElem?_append_left (by omega)]; exact e1
  · obtain ⟨q, s, e0, e1, hs⟩ := k.2 (j - n) (by omega)
    refine ⟨q, s, ?_, ?_, hs⟩
    · rw [List.getElem?_append_right (by omega), ← e0]; congr 1; omega
    · rw [List.getElem?_append_right (by omega), ← e1]; congr 1; omega⟩
theorem Cls.cells1 {n : Nat} {xs : List Value} (h : Cls n xs) : ∀ u ∈ xs, u.oneCell' = true := fun u hu => by
  obtain ⟨i, hi, rfl⟩ := List.mem_iff_getElem.1 hu
  have hl := h.1
  obtain ⟨m, s, e0, e1, -⟩ := h.2 (i / 2) (by omega)
  have hi' : xs[i]? = some xs[i] := List.getElem?_eq_getElem hi
  rcases (show i = i / 2 * 2 ∨ i = i / 2 * 2 + 1 by omega) with e | e
  · rw [← e, hi'] at e0
    rw [Option.some.inj e0]
    rfl
  · rw [← e, hi'] at e1
    rw [Option.some.inj e1]
    rfl
theorem co_own {w : World} {base e g n cap : Nat} {xs : List Value} (h : w.ownsRow base e 2 (.slice (some ⟨g, 0, none⟩) n cap) n xs) (hx : Cls n xs) : Co w (some ⟨g, 0, none⟩) n := fun k hk => by
  obtain ⟨m, s, e0, e1, hs⟩ := hx.2 k hk
  have hc := h.cells (g := g) rfl
  refine ⟨g, 0, m, s, rfl, ?_, ?_, hs⟩
  · rw [Nat.zero_add]; have := hc _ _ e0; rwa [addj] at this
  · rw [Nat.zero_add]; have := hc _ _ e1; rwa [addj] at this
theorem addo (b off j : Nat) : (⟨b, off, none⟩ : Addr).add j = ⟨b, off + j, none⟩ := by unfold Addr.add; split <;> simp_all
/-- Columns as a list of cells. -/
theorem co_list {w : World} {b off : Nat} : ∀ (n : Nat), Co w (some ⟨b, off, none⟩) n → ∃ xs, Cls n xs ∧ ∀ j u, xs[j]? = some u → w.cell? ⟨b, off + j, none⟩ = some u
  | 0, _ => ⟨[], Cls.nil, fun j u h => by simp at h⟩
  | n + 1, h => by
    obtain ⟨xs, hx, hc⟩ := co_list n (fun k hk => h k (by omega))
    obtain ⟨b', off', m, s, e, h0, h1, hs⟩ := h n (by omega)
    cases e
    refine ⟨xs ++ [.string s, .int .i64 m], hx.app (Cls.one m s hs), fun j u hu => ?_⟩
    have hl := hx.1
    by_cases hj : j < xs.length
    · rw [List.getElem?_append_left hj] at hu
      exact hc j u hu
    · rw [List.getElem?_append_right (by omega)] at hu
      have hjj : j - xs.length = 0 ∨ j - xs.length = 1 := by
        rcases (show j - xs.length = 0 ∨ j - xs.length = 1 ∨ 2 ≤ j - xs.length by omega) with e | e | e
        · exact Or.inl e
        · exact Or.inr e
        · rw [List.getElem?_eq_none (by simp; omega)] at hu
          cases hu
      rcases hjj with e | e
      · rw [e] at hu
        cases hu
        rw [show off + j = off + n * 2 by omega]
        exact h0
      · rw [e] at hu
        cases hu
        rw [show off + j = off + n * 2 + 1 by omega]
        exact h1
theorem it_set0 {w : World} {gv n : Nat} (h : It w (some ⟨gv, 0, none⟩) n) (o q : Int) (T : ByteArray) (hT : T.size ≤ 40) : It (((w.setCell ⟨gv, 0, none⟩ (.int .i64 o)).setCell ⟨gv, 1, none⟩ (.int .i64 q)).setCell ⟨gv, 2, none⟩ (.string T)) (some ⟨gv, 0, none⟩) n := fun k hk => by
  obtain ⟨b, off, o', q', s, e, h0, h1, h2, hs⟩ := h k hk
  cases e
  rw [Nat.zero_add] at h0 h1 h2
  by_cases hk0 : k = 0
  · subst hk0
    refine ⟨gv, 0, o, q, T, rfl, ?_, ?_, ?_, hT⟩
    · exact other8 _ _ 2 0 _ _ (by omega) (other8 _ _ 1 0 _ _ (by omega) (same8 _ _ 0 _ _ h0))
    · exact other8 _ _ 2 1 _ _ (by omega) (same8 _ _ 1 _ _ (other8 _ _ 0 1 _ _ (by omega) h1))
    · exact same8 _ _ 2 _ _ (other8 _ _ 1 2 _ _ (by omega) (other8 _ _ 0 2 _ _ (by omega) h2))
  · refine ⟨gv, 0, o', q', s, rfl, ?_, ?_, ?_, hs⟩
    · rw [Nat.zero_add]; exact other8 _ _ 2 _ _ _ (by omega) (other8 _ _ 1 _ _ _ (by omega) (other8 _ _ 0 _ _ _ (by omega) h0))
    · rw [Nat.zero_add]; exact other8 _ _ 2 _ _ _ (by omega) (other8 _ _ 1 _ _ _ (by omega) (other8 _ _ 0 _ _ _ (by omega) h1))
    · rw [Nat.zero_add]; exact other8 _ _ 2 _ _ _ (by omega) (other8 _ _ 1 _ _ _ (by omega) (other8 _ _ 0 _ _ _ (by omega) h2))
theorem news2 {w : World} {a : Nat} {x y : Value} (h0 : w.cell? ⟨a, 0, none⟩ = some x) (h1 : w.cell? ⟨a, 1, none⟩ = some y) : ∀ j u, [x, y][j]? = some u → w.cell? ((⟨a, 0, none⟩ : Addr).add j) = some u := fun j u hu => by
  rw [addj]
  rcases j with _ | _ | j
  · cases hu
    exact h0
  · cases hu
    exact h1
  · simp at hu
theorem own_capn {w : World} {base e size g n cap : Nat} {xs : List Value} (h : w.ownsRow base e size (.slice (some ⟨g, 0, none⟩) n cap) n xs) : n ≤ cap := by
  rcases h.2 with ⟨e, _⟩ | ⟨g', cap', cur, e, _, _, hc, _⟩
  · cases e
  · cases e
    exact hc
theorem own_three {w : World} {base e g n cap : Nat} {xs : List Value} (h : w.ownsRow base e 3 (.slice (some ⟨g, 0, none⟩) n cap) n xs) (hn : 1 ≤ n) : ∃ x y z, w.cell? ⟨g, 0, none⟩ = some x ∧ w.cell? ⟨g, 1, none⟩ = some y ∧ w.cell? ⟨g, 2, none⟩ = some z := by
  have hl := h.1
  have hc := h.cells (g := g) rfl
  have h0 := hc 0 _ (List.getElem?_eq_getElem (by omega))
  have h1 := hc 1 _ (List.getElem?_eq_getElem (by omega))
  have h2 := hc 2 _ (List.getElem?_eq_getElem (by omega))
  rw [addj] at h0 h1 h2
  exact ⟨_, _, _, h0, h1, h2⟩
/-- A row above the box is written. -/
theorem Mk8.rowset {g B : Nat} {ca : Option Addr} {cn cc : Nat} {w : World} {b2 b3 : Nat} {p : SP} {z s : Nat} {wx w' : World} {q : Nat} (h : Mk8 g B ca cn cc w b2 b3 p z s wx) (hg : wx.grownBy w' (some q)) (hB : B ≤ w.heap.size) (h2 : w.heap.size ≤ b2) (h3 : b2 < b3) (hq : b3 < q) (hs : Sf b3 w' p) : Mk8 g B ca cn cc w b2 b3 p z s w' :=
  ⟨h.cu.gw hg (by omega) (Nat.le_trans hB h.gr.size), h.r2.imp fun _ x => x.gr hg (fun e => by have e : b2 = q := Option.some.inj e; omega), h.r3.gr hg (fun e => by have e : b3 = q := Option.some.inj e; omega), hs, gjoin h.gr hg (fun j e => by have e : q = j := Option.some.inj e; omega)⟩
/-- A row made since w0 has grown. -/
theorem Mj.rowq {g B : Nat} {ca : Option Addr} {cn cc : Nat} {w w0 : World} {b3 : Nat} {p : SP} {z s : Nat} {wx w' : World} {r : Option Nat} (h : Mj g B ca cn cc w w0 b3 p z s wx) (hS0 : Sf b3 w0 p) (hg : wx.grownBy w' r) (hr : ∀ k, r = some k → w0.heap.size ≤ k) (h0 : b3 < w0.heap.size) : Mj g B ca cn cc w w0 b3 p z s w' := by
  have hB := h.hB
  have h3 := h.h3
  have hG := h.m.gr.size
  have hka : KA b3 w0 w' := fun q u hq hc => keepG hg (h.ka q u hq hc) (fun e => by
    have h1 := hr q.block e.symm
    have h2 := World.block_lt_of_cell? _ _ hc
    omega)
  exact ⟨⟨h.m.cu.gr hg (fun k e => by have := hr k e; omega) (by omega), h.m.r2.imp fun _ q => q.gr hg (fun e => by have := hr _ e.symm; omega), h.m.r3.gr hg (fun e => by have := hr b3 e.symm; omega), hS0.ka hka, gjoin h.m.gr hg (fun j e => by have := hr j e; omega)⟩, hka, h.hB, h.hg, h.h3, Nat.le_trans h.sz hg.size⟩
theorem W8.s1 {w : World} {b : Nat} {p : SP} (h : W8 w b p) (t : ByteArray) : W8 (w.setCell ⟨b, 1, none⟩ (.string t)) b { p with tb := t } :=
  ⟨⟨other8 _ _ 1 0 _ _ (by omega) h.q.c0, same8 _ _ _ _ _ h.q.c1, other8 _ _ 1 2 _ _ (by omega) h.q.c2, other8 _ _ 1 3 _ _ (by omega) h.q.c3, other8 _ _ 1 4 _ _ (by omega) h.q.c4, other8 _ _ 1 5 _ _ (by omega) h.q.c5, other8 _ _ 1 6 _ _ (by omega) h.q.c6, other8 _ _ 1 7 _ _ (by omega) h.q.c7⟩, fun i hi => by simpa using h.f i hi⟩
/-- All eight cells are written. -/
@[reducible] def sets8 (w : World) (b : Nat) (p : SP) : World := (((((((w.setCell ⟨b, 0, none⟩ (.int .i64 p.k)).setCell ⟨b, 1, none⟩ (.string p.tb)).setCell ⟨b, 2, none⟩ (.slice p.a2 p.n2 p.c2)).setCell ⟨b, 3, none⟩ (.slice p.a3 p.n3 p.c3)).setCell ⟨b, 4, none⟩ (.string p.col)).setCell ⟨b, 5, none⟩ (.slice p.a5 p.n5 p.c5)).setCell ⟨b, 6, none⟩ (.slice p.a6 p.n6 p.c6)).setCell ⟨b, 7, none⟩ (.slice p.a7 p.n7 p.c7)
theorem W8.all {w : World} {b : Nat} {p2 : SP} (h : W8 w b p2) (p : SP) : W8 (sets8 w b p) b p :=
  (((((((h.s0 p.k).s1 p.tb).s2 p.a2 p.n2 p.c2).s3 p.a3 p.n3 p.c3).s4 p.col).s5 p.a5 p.n5 p.c5).s6 p.a6 p.n6 p.c6).s7 p.a7 p.n7 p.c7
theorem gsets8 (w : World) (b : Nat) (p : SP) : w.grownBy (sets8 w b p) (some b) :=
  gtrans (gtrans (gtrans (gtrans (gtrans (gtrans (gtrans (gset _ _ _ _) (gset _ _ _ _)) (gset _ _ _ _)) (gset _ _ _ _)) (gset _ _ _ _)) (gset _ _ _ _)) (gset _ _ _ _)) (gset _ _ _ _)
end Go.Proofs.YtjbbbfplephkpaaGreatDoor
