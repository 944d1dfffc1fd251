/-
  What the specification draws: a statement (what stands while it is made).
-/
import Derived.Test.YtlilmbeehmjpkaaJl
namespace Go.Proofs.Ytlilmbeehmjpkaa
open Go.RowKit
/-- What stands while a statement is made: the cursor, the box of the answer, the box of the statement. -/
structure Mk8 (g B : Nat) (ca : Option Addr) (cn cc : Nat) (w : World) (b2 b3 : Nat) (p : SP) (z s : Nat) (wx : World) : Prop where
  cu : Cu wx g B ca cn cc z s
  r2 : ∃ p2, W8 wx b2 p2
  r3 : W8 wx b3 p
  sf : Sf b3 wx p
  gr : w.grownBy wx (some g)
theorem Mk8.lt3 {g B : Nat} {ca : Option Addr} {cn cc : Nat} {w : World} {b2 b3 : Nat} {p : SP} {z s : Nat} {wx : World} (h : Mk8 g B ca cn cc w b2 b3 p z s wx) : b3 < wx.heap.size := World.block_lt_of_cell? _ _ h.r3.q.c0
theorem Mk8.call {g B : Nat} {ca : Option Addr} {cn cc : Nat} {w : World} {b2 b3 : Nat} {p : SP} {z s z' s' : Nat} {wx w' : World} (h : Mk8 g B ca cn cc w b2 b3 p z s wx) (hg : wx.grownBy w' (some g)) (hc : Cu w' g B ca cn cc z' s') (h2 : g < b2) (h3 : b2 < b3) : Mk8 g B ca cn cc w b2 b3 p z' s' w' :=
  ⟨hc, h.r2.imp fun _ q => q.gr hg (fun e => by have := Option.some.inj e; omega), h.r3.gr hg (fun e => by have := Option.some.inj e; omega), h.sf.ka (KA.gr hg (fun k e => by have := Option.some.inj e; omega)), gtrans h.gr hg⟩
theorem Mk8.al {g B : Nat} {ca : Option Addr} {cn cc : Nat} {w : World} {b2 b3 : Nat} {p : SP} {z s : Nat} {wx : World} (h : Mk8 g B ca cn cc w b2 b3 p z s wx) (hB : B ≤ w.heap.size) (o : Obj) : Mk8 g B ca cn cc w b2 b3 p z s (wx.alloc o) :=
  ⟨h.cu.al (Nat.le_trans hB h.gr.size) o, h.r2.imp fun _ q => q.gr (galloc wx o none) (fun e => by cases e), h.r3.gr (galloc wx o none) (fun e => by cases e), h.sf.ka (KA.gr (galloc wx o none) (fun k e => by cases e)), gtrans h.gr (galloc _ _ _)⟩
/-- A cell of the statement's box is written. -/
theorem Mk8.put {g B : Nat} {ca : Option Addr} {cn cc : Nat} {w : World} {b2 b3 : Nat} {p p' : SP} {z s i : Nat} {v : Value} {wx : World} (h : Mk8 g B ca cn cc w b2 b3 p z s wx) (hB : B ≤ w.heap.size) (h2 : w.heap.size ≤ b2) (h3 : b2 < b3) (hw : W8 (wx.setCell ⟨b3, i, none⟩ v) b3 p') (hs : Sf b3 wx p') : Mk8 g B ca cn cc w b2 b3 p' z s (wx.setCell ⟨b3, i, none⟩ v) :=
  ⟨h.cu.gw (gset wx b3 i v) (by omega) (Nat.le_trans hB h.gr.size), h.r2.imp fun _ q => q.gr (gset wx b3 i v) (fun e => by have := Option.some.inj e; omega), hw, hs.ka (KA.set wx b3 i v (Nat.le_refl _)), gjoin h.gr (gset wx b3 i v) (fun j e => by have := Option.some.inj e; omega)⟩
theorem gnone {w w' : World} {r : Option Nat} (h : w.grownBy w' none) : w.grownBy w' r := ⟨h.os, h.tape, h.output, h.size, fun k hk _ => h.block k hk (fun e => by cases e)⟩
theorem Sf.wk {x : Nat} {w : World} {p : SP} (h : Sf x w p) (k : Int) : Sf x w { p with k := k } :=
  ⟨h.tb, h.col, h.co, h.va, h.ex, h.wh, h.ou, h.l2, h.l3, h.l5, h.l6, h.l7, h.f2, h.f3, h.f5, h.f6⟩
theorem Sf.w2 {x : Nat} {w : World} {p : SP} (h : Sf x w p) (a : Option Addr) (n c : Nat) (hc : Co w a n) (hn : n ≤ 100) (hf : Far x a) : Sf x w { p with a2 := a, n2 := n, c2 := c } :=
  ⟨h.tb, h.col, hc, h.va, h.ex, h.wh, h.ou, hn, h.l3, h.l5, h.l6, h.l7, hf, h.f3, h.f5, h.f6⟩
theorem Sf.w3 {x : Nat} {w : World} {p : SP} (h : Sf x w p) (a : Option Addr) (n c : Nat) (hc : It w a n) (hn : n ≤ 100) (hf : Far x a) : Sf x w { p with a3 := a, n3 := n, c3 := c } :=
  ⟨h.tb, h.col, h.co, hc, h.ex, h.wh, h.ou, h.l2, hn, h.l5, h.l6, h.l7, h.f2, hf, h.f5, h.f6⟩
theorem Sf.w4 {x : Nat} {w : World} {p : SP} (h : Sf x w p) (t : ByteArray) (ht : t.size = 0 ∨ okName t = true) : Sf x w { p with col := t } :=
  ⟨h.tb, ht, h.co, h.va, h.ex, h.wh, h.ou, h.l2, h.l3, h.l5, h.l6, h.l7, h.f2, h.f3, h.f5, h.f6⟩
theorem Sf.w5 {x : Nat} {w : World} {p : SP} (h : Sf x w p) (a : Option Addr) (n c : Nat) (hc : Ie w a n) (hn : n ≤ 100) (hf : Far x a) : Sf x w { p with a5 := a, n5 := n, c5 := c } :=
  ⟨h.tb, h.col, h.co, h.va, hc, h.wh, h.ou, h.l2, h.l3, hn, h.l6, h.l7, h.f2, h.f3, hf, h.f6⟩
theorem Sf.w6 {x : Nat} {w : World} {p : SP} (h : Sf x w p) (a : Option Addr) (n c : Nat) (hc : Ie w a n) (hn : n ≤ 100) (hf : Far x a) : Sf x w { p with a6 := a, n6 := n, c6 := c } :=
  ⟨h.tb, h.col, h.co, h.va, h.ex, hc, h.ou, h.l2, h.l3, h.l5, hn, h.l7, h.f2, h.f3, h.f5, hf⟩
theorem Sf.w7 {x : Nat} {w : World} {p : SP} (h : Sf x w p) (a : Option Addr) (n c : Nat) (hc : Of x w a n) (hn : n ≤ 3) : Sf x w { p with a7 := a, n7 := n, c7 := c } :=
  ⟨h.tb, h.col, h.co, h.va, h.ex, h.wh, hc, h.l2, h.l3, h.l5, h.l6, hn, h.f2, h.f3, h.f5, h.f6⟩
/-- The same, with what lay above the box when the making began. -/
structure Mj (g B : Nat) (ca : Option Addr) (cn cc : Nat) (w w0 : World) (b3 : Nat) (p : SP) (z s : Nat) (wx : World) : Prop where
  m : Mk8 g B ca cn cc w w.heap.size b3 p z s wx
  ka : KA b3 w0 wx
  hB : B ≤ w.heap.size
  hg : g < B
  h3 : w.heap.size < b3
  sz : w0.heap.size ≤ wx.heap.size
theorem Mj.call {g B : Nat} {ca : Option Addr} {cn cc : Nat} {w w0 : World} {b3 : Nat} {p : SP} {z s : Nat} {wx : World} {z' s' : Nat} {w' : World} (h : Mj g B ca cn cc w w0 b3 p z s wx) (hg : wx.grownBy w' (some g)) (hc : Cu w' g B ca cn cc z' s') : Mj g B ca cn cc w w0 b3 p z' s' w' :=
  ⟨h.m.call hg hc (by have := h.hB; have := h.hg; omega) h.h3, h.ka.trans (KA.gr hg (fun k e => by have := h.hB; have := h.hg; have := h.h3; have e : g = k := Option.some.inj e; omega)), h.hB, h.hg, h.h3, Nat.le_trans h.sz hg.size⟩
theorem Mj.al {g B : Nat} {ca : Option Addr} {cn cc : Nat} {w w0 : World} {b3 : Nat} {p : SP} {z s : Nat} {wx : World} (h : Mj g B ca cn cc w w0 b3 p z s wx) (o : Obj) : Mj g B ca cn cc w w0 b3 p z s (wx.alloc o) :=
  ⟨h.m.al h.hB o, h.ka.trans (KA.gr (galloc wx o none) (fun k e => by cases e)), h.hB, h.hg, h.h3, Nat.le_trans h.sz (galloc wx o none).size⟩
/-- Rows above the box grow. -/
theorem Mj.row {g B : Nat} {ca : Option Addr} {cn cc : Nat} {w w0 : World} {b3 : Nat} {p : SP} {z s : Nat} {wx : World} {w' : World} {q : Nat} (h : Mj g B ca cn cc w w0 b3 p z s wx) (hg : wx.grownBy w' (some q)) (hq : b3 < q) (hs : Sf b3 w' p) (hk : KA b3 w0 w') : Mj g B ca cn cc w w0 b3 p z s w' :=
  ⟨⟨h.m.cu.gw hg (by have := h.hB; have := h.h3; omega) (Nat.le_trans h.hB h.m.gr.size), h.m.r2.imp fun _ x => x.gr hg (fun e => by have := h.h3; have e : w.heap.size = q := Option.some.inj e; omega), h.m.r3.gr hg (fun e => by have e : b3 = q := Option.some.inj e; omega), hs, gjoin h.m.gr hg (fun j e => by have := h.h3; have e : q = j := Option.some.inj e; omega)⟩, hk, h.hB, h.hg, h.h3, Nat.le_trans h.sz hg.size⟩
theorem Mj.wk {g B : Nat} {ca : Option Addr} {cn cc : Nat} {w w0 : World} {b3 : Nat} {p : SP} {z s : Nat} {wx : World} (h : Mj g B ca cn cc w w0 b3 p z s wx) (k : Int) : Mj g B ca cn cc w w0 b3 { p with k := k } z s (wx.setCell ⟨b3, 0, none⟩ (.int .i64 k)) :=
  ⟨h.m.put h.hB (Nat.le_refl _) h.h3 (h.m.r3.s0 k) (h.m.sf.wk k), h.ka.trans (KA.set wx b3 0 _ (Nat.le_refl _)), h.hB, h.hg, h.h3, Nat.le_trans h.sz (gset wx b3 0 _).size⟩
theorem Mj.w2 {g B : Nat} {ca : Option Addr} {cn cc : Nat} {w w0 : World} {b3 : Nat} {p : SP} {z s : Nat} {wx : World} (h : Mj g B ca cn cc w w0 b3 p z s wx) (a : Option Addr) (n c : Nat) (hc : Co wx a n) (hn : n ≤ 100) (hf : Far b3 a) : Mj g B ca cn cc w w0 b3 { p with a2 := a, n2 := n, c2 := c } z s (wx.setCell ⟨b3, 2, none⟩ (.slice a n c)) :=
  ⟨h.m.put h.hB (Nat.le_refl _) h.h3 (h.m.r3.s2 a n c) (h.m.sf.w2 a n c hc hn hf), h.ka.trans (KA.set wx b3 2 _ (Nat.le_refl _)), h.hB, h.hg, h.h3, Nat.le_trans h.sz (gset wx b3 2 _).size⟩
theorem Mj.w3 {g B : Nat} {ca : Option Addr} {cn cc : Nat} {w w0 : World} {b3 : Nat} {p : SP} {z s : Nat} {wx : World} (h : Mj g B ca cn cc w w0 b3 p z s wx) (a : Option Addr) (n c : Nat) (hc : It wx a n) (hn : n ≤ 100) (hf : Far b3 a) : Mj g B ca cn cc w w0 b3 { p with a3 := a, n3 := n, c3 := c } z s (wx.setCell ⟨b3, 3, none⟩ (.slice a n c)) :=
  ⟨h.m.put h.hB (Nat.le_refl _) h.h3 (h.m.r3.s3 a n c) (h.m.sf.w3 a n c hc hn hf), h.ka.trans (KA.set wx b3 3 _ (Nat.le_refl _)), h.hB, h.hg, h.h3, Nat.le_trans h.sz (gset wx b3 3 _).size⟩
theorem Mj.w4 {g B : Nat} {ca : Option Addr} {cn cc : Nat} {w w0 : World} {b3 : Nat} {p : SP} {z s : Nat} {wx : World} (h : Mj g B ca cn cc w w0 b3 p z s wx) (t : ByteArray) (ht : t.size = 0 ∨ okName t = true) : Mj g B ca cn cc w w0 b3 { p with col := t } z s (wx.setCell ⟨b3, 4, none⟩ (.string t)) :=
  ⟨h.m.put h.hB (Nat.le_refl _) h.h3 (h.m.r3.s4 t) (h.m.sf.w4 t ht), h.ka.trans (KA.set wx b3 4 _ (Nat.le_refl _)), h.hB, h.hg, h.h3, Nat.le_trans h.sz (gset wx b3 4 _).size⟩
theorem Mj.w5 {g B : Nat} {ca : Option Addr} {cn cc : Nat} {w w0 : World} {b3 : Nat} {p : SP} {z s : Nat} {wx : World} (h : Mj g B ca cn cc w w0 b3 p z s wx) (a : Option Addr) (n c : Nat) (hc : Ie wx a n) (hn : n ≤ 100) (hf : Far b3 a) : Mj g B ca cn cc w w0 b3 { p with a5 := a, n5 := n, c5 := c } z s (wx.setCell ⟨b3, 5, none⟩ (.slice a n c)) :=
  ⟨h.m.put h.hB (Nat.le_refl _) h.h3 (h.m.r3.s5 a n c) (h.m.sf.w5 a n c hc hn hf), h.ka.trans (KA.set wx b3 5 _ (Nat.le_refl _)), h.hB, h.hg, h.h3, Nat.le_trans h.sz (gset wx b3 5 _).size⟩
theorem Mj.w6 {g B : Nat} {ca : Option Addr} {cn cc : Nat} {w w0 : World} {b3 : Nat} {p : SP} {z s : Nat} {wx : World} (h : Mj g B ca cn cc w w0 b3 p z s wx) (a : Option Addr) (n c : Nat) (hc : Ie wx a n) (hn : n ≤ 100) (hf : Far b3 a) : Mj g B ca cn cc w w0 b3 { p with a6 := a, n6 := n, c6 := c } z s (wx.setCell ⟨b3, 6, none⟩ (.slice a n c)) :=
  ⟨h.m.put h.hB (Nat.le_refl _) h.h3 (h.m.r3.s6 a n c) (h.m.sf.w6 a n c hc hn hf), h.ka.trans (KA.set wx b3 6 _ (Nat.le_refl _)), h.hB, h.hg, h.h3, Nat.le_trans h.sz (gset wx b3 6 _).size⟩
theorem Mj.w7 {g B : Nat} {ca : Option Addr} {cn cc : Nat} {w w0 : World} {b3 : Nat} {p : SP} {z s : Nat} {wx : World} (h : Mj g B ca cn cc w w0 b3 p z s wx) (a : Option Addr) (n c : Nat) (hc : Of b3 wx a n) (hn : n ≤ 3) : Mj g B ca cn cc w w0 b3 { p with a7 := a, n7 := n, c7 := c } z s (wx.setCell ⟨b3, 7, none⟩ (.slice a n c)) :=
  ⟨h.m.put h.hB (Nat.le_refl _) h.h3 (h.m.r3.s7 a n c) (h.m.sf.w7 a n c hc hn), h.ka.trans (KA.set wx b3 7 _ (Nat.le_refl _)), h.hB, h.hg, h.h3, Nat.le_trans h.sz (gset wx b3 7 _).size⟩
set_option maxRecDepth 20000 in
theorem Try.info47s : (Try.prog.info? 47).map (fun i => (i.zero, i.size, i.bytes)) = some (some (.slice none 0 0), 1, 24) := by kernel_rfl
set_option maxRecDepth 20000 in
theorem Try.info67v : (Try.prog.info? 67).map (fun i => (i.zero, i.size, i.bytes)) = some (some (.agg #[.int .i64 0, .int .i64 0, .string ⟨#[]⟩]), 3, 32) := by kernel_rfl
theorem it_g {w w' : World} {b m : Nat} {y : Option Nat} (h : Ie w (some ⟨b, 0, none⟩) m) (hg : w.grownBy w' y) (hy : some b ≠ y) : Ie w' (some ⟨b, 0, none⟩) m := by
  obtain ⟨I, h1, h2⟩ := h
  refine ⟨I, fun k hk => ?_, h2⟩
  obtain ⟨b', off, e, h0, h1, h2, hs⟩ := h1 k hk
  cases e
  exact ⟨b, 0, rfl, keepG hg h0 hy, keepG hg h1 hy, keepG hg h2 hy, hs⟩
/-- Slices of items, in a row whose block is r. -/
def Osl (x : Nat) (w : World) (r : Option Nat) (xs : List Value) : Prop := ∀ (k : Nat) (v : Value), xs[k]? = some v → ∃ b m c, v = .slice (some ⟨b, 0, none⟩) m c ∧ x < b ∧ some b ≠ r ∧ b < w.heap.size ∧ Ie w (some ⟨b, 0, none⟩) m ∧ 1 ≤ m
theorem Osl.gr {x : Nat} {w w' : World} {r y : Option Nat} {xs : List Value} (h : Osl x w r xs) (hg : w.grownBy w' y) (hy : y = r ∨ ∀ k, y = some k → k ≤ x) : Osl x w' r xs := fun k v hv => by
  obtain ⟨b, m, c, e, hx, hr, hl, hi, hm⟩ := h k v hv
  refine ⟨b, m, c, e, hx, hr, Nat.lt_of_lt_of_le hl hg.size, it_g hi hg ?_, hm⟩
  rcases hy with rfl | hy
  · exact hr
  · intro e'
    have := hy b e'.symm
    omega
theorem Osl.to {x : Nat} {w : World} {r : Option Nat} {xs : List Value} (h : Osl x w r xs) (g' : Nat) (hg : r = some g' ∨ w.heap.size ≤ g') : Osl x w (some g') xs := fun k v hv => by
  obtain ⟨b, m, c, e, hx, hr, hl, hi, hm⟩ := h k v hv
  refine ⟨b, m, c, e, hx, ?_, hl, hi, hm⟩
  rcases hg with rfl | hg
  · exact hr
  · intro e'
    have : b = g' := Option.some.inj e'
    omega
theorem Osl.grow {x : Nat} {w w' : World} {r : Option Nat} {xs : List Value} (h : Osl x w r xs) (hg : w.grownBy w' r) (g' : Nat) (hat : r = some g' ∨ g' = w.heap.size) : Osl x w' (some g') xs := fun k v hv => by
  obtain ⟨b, m, c, e, hx, hr, hl, hi, hm⟩ := h k v hv
  refine ⟨b, m, c, e, hx, ?_, Nat.lt_of_lt_of_le hl hg.size, it_g hi hg hr, hm⟩
  rcases hat with rfl | hat
  · exact hr
  · intro e'
    have : b = g' := Option.some.inj e'
    omega
theorem Osl.nil (x : Nat) (w : World) (r : Option Nat) : Osl x w r [] := fun k v hv => by simp at hv
theorem Osl.snoc {x : Nat} {w : World} {r : Option Nat} {xs : List Value} (h : Osl x w r xs) {b m c : Nat} (hx : x < b) (hr : some b ≠ r) (hl : b < w.heap.size) (hi : Ie w (some ⟨b, 0, none⟩) m) (hm : 1 ≤ m) : Osl x w r (xs ++ [.slice (some ⟨b, 0, none⟩) m c]) := fun k v hv => by
  by_cases hk : k < xs.length
  · rw [List.getElem?_append_left hk] at hv
    exact h k v hv
  · rw [List.getElem?_append_right (by omega)] at hv
    have hk0 : k - xs.length = 0 := by
      rcases Nat.eq_zero_or_pos (k - xs.length) with e | e
      · exact e
      · rw [List.getElem?_eq_none (by simp; omega)] at hv
        cases hv
    rw [hk0] at hv
    exact ⟨b, m, c, (Option.some.inj hv).symm, hx, hr, hl, hi, hm⟩
theorem of_own {x base e n c : Nat} {w : World} {a : Option Addr} {r : Option Nat} {xs : List Value} (h : w.ownsRow base e 1 (.slice a n c) n xs) (ho : Osl x w r xs) (hb : x < base) : Of x w a n := fun k hk => by
  obtain ⟨g, cap, e1, hg, -⟩ := h.form (by omega)
  have hl : xs.length = n * 1 := h.1
  cases e1
  have hkl : k < xs.length := by omega
  obtain ⟨b, m, c', ev, hx, -, -, hi, hm⟩ := ho k xs[k] (List.getElem?_eq_getElem hkl)
  have hc := h.cells (g := g) rfl k _ (List.getElem?_eq_getElem hkl)
  rw [addj, ev] at hc
  exact ⟨g, 0, some ⟨b, 0, none⟩, m, c', rfl, by omega, far_some hx, by rw [Nat.zero_add]; exact hc, hi, hm⟩
theorem gd (w : World) (r : Option Nat) : w.grownBy w.drew r := ⟨rfl, rfl, rfl, Nat.le_refl _, fun _ _ _ => rfl⟩
theorem Mj.dr {g B : Nat} {ca : Option Addr} {cn cc : Nat} {w w0 : World} {b3 : Nat} {p : SP} {z s : Nat} {wx : World} (h : Mj g B ca cn cc w w0 b3 p z s wx) : Mj g B ca cn cc w w0 b3 p z s wx.drew :=
  h.call (gd wx _) (h.m.cu.gr (gd wx none) (fun _ e => by cases e) (Nat.le_trans h.hB h.m.gr.size))
/-- A row of one's own above the box has grown. -/
theorem Mj.w8 {g B : Nat} {ca : Option Addr} {cn cc : Nat} {w w0 : World} {b3 : Nat} {p : SP} {z s : Nat} {wx : World} {w' : World} {r : Option Nat} (h : Mj g B ca cn cc w w0 b3 p z s wx) (hg : wx.grownBy w' r) (hr : ∀ k, r = some k → w0.heap.size ≤ k) (h0 : b3 < w0.heap.size) : W8 w' b3 p :=
  h.m.r3.gr hg (fun e => by have := hr b3 e.symm; omega)
theorem Mj.app {g B : Nat} {ca : Option Addr} {cn cc : Nat} {w w0 : World} {b3 : Nat} {p : SP} {z s : Nat} {wx : World} {p' : SP} {w' : World} {r : Option Nat} {i : Nat} {v : Value} (h : Mj g B ca cn cc w w0 b3 p z s wx) (hg : wx.grownBy w' r) (hr : ∀ k, r = some k → w0.heap.size ≤ k) (h0 : b3 < w0.heap.size) (hw : W8 (w'.setCell ⟨b3, i, none⟩ v) b3 p') (hs : Sf b3 w' p') : Mj g B ca cn cc w w0 b3 p' z s (w'.setCell ⟨b3, i, none⟩ v) := by
  have hB := h.hB
  have h3 := h.h3
  have hG := h.m.gr.size
  have hG' := hg.size
  refine ⟨⟨(h.m.cu.gr hg (fun k e => by have := hr k e; omega) (by omega)).gw (gset w' b3 i v) (by omega) (by omega), h.m.r2.imp fun _ q => (q.gr hg (fun e => by have := hr _ e.symm; omega)).gr (gset w' b3 i v) (fun e => by have e : w.heap.size = b3 := Option.some.inj e; omega), hw, hs.ka (KA.set w' b3 i v (Nat.le_refl _)), gjoin (gjoin h.m.gr hg (fun j e => by have := hr j e; omega)) (gset w' b3 i v) (fun j e => by have e : b3 = j := Option.some.inj e; omega)⟩, ?_, h.hB, h.hg, h.h3, Nat.le_trans h.sz (Nat.le_trans hg.size (gset w' b3 i v).size)⟩
  refine KA.trans (fun q u hq hc => keepG hg (h.ka q u hq hc) (fun e => ?_)) (KA.set w' b3 i v (Nat.le_refl _))
  have h1 := hr q.block e.symm
  have h2 := World.block_lt_of_cell? _ _ hc
  omega
end Go.Proofs.Ytlilmbeehmjpkaa
