/-
  What the specification draws: a statement made wrong (rows of columns and of values).
-/
import Derived.Test.YtlilmbeehmjpkaaJo
namespace Go.Proofs.Ytlilmbeehmjpkaa
open Go.RowKit
set_option maxRecDepth 20000 in
theorem Try.info65c : (Try.prog.info? 65).map (fun i => (i.zero, i.size, i.bytes)) = some (some (.agg #[.string ⟨#[]⟩, .int .i64 0]), 2, 24) := by kernel_rfl
/-- The cells of n columns. -/
def Cls (n : Nat) (xs : List Value) : Prop := xs.length = n * 2 ∧ ∀ k, k < n → ∃ (m : Int) (s : ByteArray), xs[k * 2]? = some (.string s) ∧ xs[k * 2 + 1]? = some (.int .i64 m) ∧ okCol s m = true
theorem Cls.nil : Cls 0 [] := ⟨rfl, fun _ h => absurd h (Nat.not_lt_zero _)⟩
theorem Cls.one (m : Int) (s : ByteArray) (hs : okCol s m = true) : Cls 1 [.string s, .int .i64 m] := ⟨rfl, fun k hk => by
  obtain rfl : k = 0 := by omega
  exact ⟨m, s, rfl, rfl, hs⟩⟩
theorem Cls.app {n m : Nat} {xs ys : List Value} (h : Cls n xs) (k : Cls m ys) : Cls (n + m) (xs ++ ys) := ⟨by rw [List.length_append, h.1, k.1]; omega, fun j hj => by
  have h1 := h.1
  by_cases hjn : j < n
  · obtain ⟨q, s, e0, e1, hs⟩ := h.2 j hjn
    refine ⟨q, s, ?_, ?_, hs⟩
    · rw [List.getElem?_append_left (by omega)]; exact e0
    · rw [List.getElem?_append_left (by omega)]; exact e1
  · obtain ⟨q, s, e0, e1, hs⟩ := k.2 (j - n) (by omega)
    refine ⟨q, s, ?_, ?_, hs⟩
    · rw [List.getElem?_append_right (by omega), ← e0]; congr 1; omega
    · rw [List.getElem?_append_right (by omega), ← e1]; congr 1; omega⟩
theorem Cls.cells1 {n : Nat} {xs : List Value} (h : Cls n xs) : ∀ u ∈ xs, u.oneCell' = true := fun u hu => by
  obtain ⟨i, hi, rfl⟩ := List.mem_iff_getElem.1 hu
  have hl := h.1
  obtain ⟨m, s, e0, e1, -⟩ := h.2 (i / 2) (by omega)
  have hi' : xs[i]? = some xs[i] := List.getElem?_eq_getElem hi
  rcases (show i = i / 2 * 2 ∨ i = i / 2 * 2 + 1 by omega) with e | e
  · rw [← e, hi'] at e0
    rw [Option.some.inj e0]
    rfl
  · rw [← e, hi'] at e1
    rw [Option.some.inj e1]
    rfl
theorem co_own {w : World} {base e g n cap : Nat} {xs : List Value} (h : w.ownsRow base e 2 (.slice (some ⟨g, 0, none⟩) n cap) n xs) (hx : Cls n xs) : Co w (some ⟨g, 0, none⟩) n := fun k hk => by
  obtain ⟨m, s, e0, e1, hs⟩ := hx.2 k hk
  have hc := h.cells (g := g) rfl
  refine ⟨g, 0, m, s, rfl, ?_, ?_, hs⟩
  · rw [Nat.zero_add]; have := hc _ _ e0; rwa [addj] at this
  · rw [Nat.zero_add]; have := hc _ _ e1; rwa [addj] at this
theorem addo (b off j : Nat) : (⟨b, off, none⟩ : Addr).add j = ⟨b, off + j, none⟩ := by unfold Addr.add; split <;> simp_all
/-- Columns as a list of cells. -/
theorem co_list {w : World} {b off : Nat} : ∀ (n : Nat), Co w (some ⟨b, off, none⟩) n → ∃ xs, Cls n xs ∧ ∀ j u, xs[j]? = some u → w.cell? ⟨b, off + j, none⟩ = some u
  | 0, _ => ⟨[], Cls.nil, fun j u h => by simp at h⟩
  | n + 1, h => by
    obtain ⟨xs, hx, hc⟩ := co_list n (fun k hk => h k (by omega))
    obtain ⟨b', off', m, s, e, h0, h1, hs⟩ := h n (by omega)
    cases e
    refine ⟨xs ++ [.string s, .int .i64 m], hx.app (Cls.one m s hs), fun j u hu => ?_⟩
    have hl := hx.1
    by_cases hj : j < xs.length
    · rw [List.getElem?_append_left hj] at hu
      exact hc j u hu
    · rw [List.getElem?_append_right (by omega)] at hu
      have hjj : j - xs.length = 0 ∨ j - xs.length = 1 := by
        rcases (show j - xs.length = 0 ∨ j - xs.length = 1 ∨ 2 ≤ j - xs.length by omega) with e | e | e
        · exact Or.inl e
        · exact Or.inr e
        · rw [List.getElem?_eq_none (by simp; omega)] at hu
          cases hu
      rcases hjj with e | e
      · rw [e] at hu
        cases hu
        rw [show off + j = off + n * 2 by omega]
        exact h0
      · rw [e] at hu
        cases hu
        rw [show off + j = off + n * 2 + 1 by omega]
        exact h1
theorem it_set0 {w : World} {gv n : Nat} (h : It w (some ⟨gv, 0, none⟩) n) (o q : Int) (T : ByteArray) (hT : okValue o q T = true) : It (((w.setCell ⟨gv, 0, none⟩ (.int .i64 o)).setCell ⟨gv, 1, none⟩ (.int .i64 q)).setCell ⟨gv, 2, none⟩ (.string T)) (some ⟨gv, 0, none⟩) n := fun k hk => by
  obtain ⟨b, off, o', q', s, e, h0, h1, h2, hs⟩ := h k hk
  cases e
  rw [Nat.zero_add] at h0 h1 h2
  by_cases hk0 : k = 0
  · subst hk0
    refine ⟨gv, 0, o, q, T, rfl, ?_, ?_, ?_, hT⟩
    · exact other8 _ _ 2 0 _ _ (by omega) (other8 _ _ 1 0 _ _ (by omega) (same8 _ _ 0 _ _ h0))
    · exact other8 _ _ 2 1 _ _ (by omega) (same8 _ _ 1 _ _ (other8 _ _ 0 1 _ _ (by omega) h1))
    · exact same8 _ _ 2 _ _ (other8 _ _ 1 2 _ _ (by omega) (other8 _ _ 0 2 _ _ (by omega) h2))
  · refine ⟨gv, 0, o', q', s, rfl, ?_, ?_, ?_, hs⟩
    · rw [Nat.zero_add]; exact other8 _ _ 2 _ _ _ (by omega) (other8 _ _ 1 _ _ _ (by omega) (other8 _ _ 0 _ _ _ (by omega) h0))
    · rw [Nat.zero_add]; exact other8 _ _ 2 _ _ _ (by omega) (other8 _ _ 1 _ _ _ (by omega) (other8 _ _ 0 _ _ _ (by omega) h1))
    · rw [Nat.zero_add]; exact other8 _ _ 2 _ _ _ (by omega) (other8 _ _ 1 _ _ _ (by omega) (other8 _ _ 0 _ _ _ (by omega) h2))
theorem news2 {w : World} {a : Nat} {x y : Value} (h0 : w.cell? ⟨a, 0, none⟩ = some x) (h1 : w.cell? ⟨a, 1, none⟩ = some y) : ∀ j u, [x, y][j]? = some u → w.cell? ((⟨a, 0, none⟩ : Addr).add j) = some u := fun j u hu => by
  rw [addj]
  rcases j with _ | _ | j
  · cases hu
    exact h0
  · cases hu
    exact h1
  · simp at hu
theorem own_capn {w : World} {base e size g n cap : Nat} {xs : List Value} (h : w.ownsRow base e size (.slice (some ⟨g, 0, none⟩) n cap) n xs) : n ≤ cap := by
  rcases h.2 with ⟨e, _⟩ | ⟨g', cap', cur, e, _, _, hc, _⟩
  · cases e
  · cases e
    exact hc
theorem own_three {w : World} {base e g n cap : Nat} {xs : List Value} (h : w.ownsRow base e 3 (.slice (some ⟨g, 0, none⟩) n cap) n xs) (hn : 1 ≤ n) : ∃ x y z, w.cell? ⟨g, 0, none⟩ = some x ∧ w.cell? ⟨g, 1, none⟩ = some y ∧ w.cell? ⟨g, 2, none⟩ = some z := by
  have hl := h.1
  have hc := h.cells (g := g) rfl
  have h0 := hc 0 _ (List.getElem?_eq_getElem (by omega))
  have h1 := hc 1 _ (List.getElem?_eq_getElem (by omega))
  have h2 := hc 2 _ (List.getElem?_eq_getElem (by omega))
  rw [addj] at h0 h1 h2
  exact ⟨_, _, _, h0, h1, h2⟩
/-- A row above the box is written. -/
theorem Mk8.rowset {g B : Nat} {ca : Option Addr} {cn cc : Nat} {w : World} {b2 b3 : Nat} {p : SP} {z s : Nat} {wx w' : World} {q : Nat} (h : Mk8 g B ca cn cc w b2 b3 p z s wx) (hg : wx.grownBy w' (some q)) (hB : B ≤ w.heap.size) (h2 : w.heap.size ≤ b2) (h3 : b2 < b3) (hq : b3 < q) (hs : Sf b3 w' p) : Mk8 g B ca cn cc w b2 b3 p z s w' :=
  ⟨h.cu.gw hg (by omega) (Nat.le_trans hB h.gr.size), h.r2.imp fun _ x => x.gr hg (fun e => by have e : b2 = q := Option.some.inj e; omega), h.r3.gr hg (fun e => by have e : b3 = q := Option.some.inj e; omega), hs, gjoin h.gr hg (fun j e => by have e : q = j := Option.some.inj e; omega)⟩
/-- A row made since w0 has grown. -/
theorem Mj.rowq {g B : Nat} {ca : Option Addr} {cn cc : Nat} {w w0 : World} {b3 : Nat} {p : SP} {z s : Nat} {wx w' : World} {r : Option Nat} (h : Mj g B ca cn cc w w0 b3 p z s wx) (hS0 : Sf b3 w0 p) (hg : wx.grownBy w' r) (hr : ∀ k, r = some k → w0.heap.size ≤ k) (h0 : b3 < w0.heap.size) : Mj g B ca cn cc w w0 b3 p z s w' := by
  have hB := h.hB
  have h3 := h.h3
  have hG := h.m.gr.size
  have hka : KA b3 w0 w' := fun q u hq hc => keepG hg (h.ka q u hq hc) (fun e => by
    have h1 := hr q.block e.symm
    have h2 := World.block_lt_of_cell? _ _ hc
    omega)
  exact ⟨⟨h.m.cu.gr hg (fun k e => by have := hr k e; omega) (by omega), h.m.r2.imp fun _ q => q.gr hg (fun e => by have := hr _ e.symm; omega), h.m.r3.gr hg (fun e => by have := hr b3 e.symm; omega), hS0.ka hka, gjoin h.m.gr hg (fun j e => by have := hr j e; omega)⟩, hka, h.hB, h.hg, h.h3, Nat.le_trans h.sz hg.size⟩
theorem W8.s1 {w : World} {b : Nat} {p : SP} (h : W8 w b p) (t : ByteArray) : W8 (w.setCell ⟨b, 1, none⟩ (.string t)) b { p with tb := t } :=
  ⟨⟨other8 _ _ 1 0 _ _ (by omega) h.q.c0, same8 _ _ _ _ _ h.q.c1, other8 _ _ 1 2 _ _ (by omega) h.q.c2, other8 _ _ 1 3 _ _ (by omega) h.q.c3, other8 _ _ 1 4 _ _ (by omega) h.q.c4, other8 _ _ 1 5 _ _ (by omega) h.q.c5, other8 _ _ 1 6 _ _ (by omega) h.q.c6, other8 _ _ 1 7 _ _ (by omega) h.q.c7⟩, fun i hi => by simpa using h.f i hi⟩
/-- All eight cells are written. -/
@[reducible] def sets8 (w : World) (b : Nat) (p : SP) : World := (((((((w.setCell ⟨b, 0, none⟩ (.int .i64 p.k)).setCell ⟨b, 1, none⟩ (.string p.tb)).setCell ⟨b, 2, none⟩ (.slice p.a2 p.n2 p.c2)).setCell ⟨b, 3, none⟩ (.slice p.a3 p.n3 p.c3)).setCell ⟨b, 4, none⟩ (.string p.col)).setCell ⟨b, 5, none⟩ (.slice p.a5 p.n5 p.c5)).setCell ⟨b, 6, none⟩ (.slice p.a6 p.n6 p.c6)).setCell ⟨b, 7, none⟩ (.slice p.a7 p.n7 p.c7)
theorem W8.all {w : World} {b : Nat} {p2 : SP} (h : W8 w b p2) (p : SP) : W8 (sets8 w b p) b p :=
  (((((((h.s0 p.k).s1 p.tb).s2 p.a2 p.n2 p.c2).s3 p.a3 p.n3 p.c3).s4 p.col).s5 p.a5 p.n5 p.c5).s6 p.a6 p.n6 p.c6).s7 p.a7 p.n7 p.c7
theorem gsets8 (w : World) (b : Nat) (p : SP) : w.grownBy (sets8 w b p) (some b) :=
  gtrans (gtrans (gtrans (gtrans (gtrans (gtrans (gtrans (gset _ _ _ _) (gset _ _ _ _)) (gset _ _ _ _)) (gset _ _ _ _)) (gset _ _ _ _)) (gset _ _ _ _)) (gset _ _ _ _)) (gset _ _ _ _)
end Go.Proofs.Ytlilmbeehmjpkaa
