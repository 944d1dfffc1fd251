/-
  Tables that came in, opened.
-/
import Derived.Test.YtfodndnkhgijmaaDoorNo
import Derived.Test.YtfodndnkhgijmaaDoorTb
namespace Go.Proofs.YtfodndnkhgijmaaDoor
open Go.ChangeShapes Go.WideShapes Go.ChangeAt Go.RowKit Go.Deep Go.Joins
theorem open_rows {H : Type} {enc : TypeId × Value → H} {w : World} {fuel : Nat} {v : Value} {x : DataW H × List MemPlace}
    (h : DataW.trod enc Tryd.prog w 0 (fun _ => true) true fuel 100 [v] = some x) : ∃ a n c m O, v = .slice a n c ∧ OX w a n m O := by
  rcases open_slice1 Tryd.underlying100 (by kernel_rfl) h with ⟨hcs, -⟩ | ⟨a, len, cap, m, n, V, D, Pl, hcs, _, hl, hm, hmm, -, hx⟩
  · simp at hcs
    subst hcs
    exact ⟨_, _, _, fun _ => 0, fun _ _ => ⟨0, 0, ByteArray.empty⟩, rfl, Nat.zero_le _, fun k hk => absurd hk (Nat.not_lt_zero _)⟩
  · simp at hcs
    subst hcs
    simp only [if_true] at hmm
    subst hmm
    obtain ⟨b, off, spot⟩ := a
    unfold maxLen at hm
    obtain ⟨R, hR⟩ := @choose_lt Row1 ⟨⟨none, 0, 0, fun _ => ⟨0, 0, ByteArray.empty⟩⟩⟩ m (fun i r => V i = .slice r.a r.n r.c ∧ IX w r.a r.n r.I) (fun i hi => by
      obtain ⟨a, n, c, I, e, hI⟩ := open_vals (hx i hi).2
      exact ⟨⟨a, n, c, I⟩, e, hI⟩)
    refine ⟨_, _, _, fun k => (R k).n, fun k => (R k).I, rfl, by omega, fun k hk => ⟨b, off, (R k).a, (R k).c, ?_, ?_, (hR k (by omega)).2⟩⟩
    · have hspot : spot = none := by simpa [Addr.add] using World.cell?_spot (hx 0 (by omega)).1
      rw [hspot]
    · have hspot : spot = none := by simpa [Addr.add] using World.cell?_spot (hx 0 (by omega)).1
      subst hspot
      rw [← add_plain, ← (hR k (by omega)).1]
      exact (hx k (by omega)).1
/-- A table with where its lists lie. -/
structure Tdp where
  d : Td
  ac : Option Addr
  cc : Nat
  ar : Option Addr
  cr : Nat
theorem open_tabs {H : Type} {enc : TypeId × Value → H} {w : World} {fuel : Nat} {v : Value} {x : DataW H × List MemPlace}
    (h : DataW.trod enc Tryd.prog w 0 (fun _ => true) true fuel 22 [v] = some x) : ∃ a n c T, v = .slice a n c ∧ TX w a n T := by
  have cs : Tryd.prog.cellsOf 9 = 1 := by kernel_rfl
  have cc : Tryd.prog.cellsOf 33 = 1 := by kernel_rfl
  have cr : Tryd.prog.cellsOf 100 = 1 := by kernel_rfl
  have ce : Tryd.prog.cellsOf 102 = 3 := by kernel_rfl
  rcases open_slice Tryd.underlying22 h with ⟨hcs, -⟩ | ⟨a, len, cap, m, n, D, Pl, hcs, _, hl, hm, hmm, -, hx⟩
  · simp at hcs
    subst hcs
    exact ⟨_, _, _, fun _ => ⟨ByteArray.empty, 0, fun _ => ⟨ByteArray.empty, 0⟩, 0, fun _ => 0, fun _ _ => ⟨0, 0, ByteArray.empty⟩⟩, rfl, Nat.zero_le _, fun k hk => absurd hk (Nat.not_lt_zero _)⟩
  · simp at hcs
    subst hcs
    simp only [if_true] at hmm
    subst hmm
    obtain ⟨b, off, spot⟩ := a
    unfold maxLen at hm
    obtain ⟨I, hI⟩ := @choose_lt Tdp ⟨⟨⟨ByteArray.empty, 0, fun _ => ⟨ByteArray.empty, 0⟩, 0, fun _ => 0, fun _ _ => ⟨0, 0, ByteArray.empty⟩⟩, none, 0, none, 0⟩⟩ m (fun i c => w.cell? ((⟨b, off, spot⟩ : Addr).add (i * 3)) = some (.string c.d.s) ∧ w.cell? ((⟨b, off, spot⟩ : Addr).add (i * 3 + 1)) = some (.slice c.ac c.d.n c.cc) ∧ w.cell? ((⟨b, off, spot⟩ : Addr).add (i * 3 + 2)) = some (.slice c.ar c.d.r c.cr) ∧ c.d.s.size ≤ 9223372036854775807 ∧ CX w c.ac c.d.n c.d.C ∧ OX w c.ar c.d.r c.d.m c.d.R) (fun i hi => by
      obtain ⟨cs', h1, h2⟩ := hx i hi
      rw [ce] at h1
      obtain ⟨_, hlen, hcell⟩ := World.cells?_some h1
      obtain ⟨y0, y1, y2, k, -, -, g0, g1, g2⟩ := trod_struct3 Tryd.underlying102 h2
      obtain ⟨v0, v1, v2, rfl⟩ := list3 hlen
      have q0 := hcell 0 (by omega)
      have q1 := hcell 1 (by omega)
      have q2 := hcell 2 (by omega)
      rw [add_add] at q0 q1 q2
      simp [cs] at g0
      simp [cc] at g1
      simp [cr] at g2
      obtain ⟨s, r0, -, hs⟩ := DataW.trod_string Tryd.underlying9 g0
      obtain ⟨ac, n1, c1, C, rfl, hC⟩ := open_cols g1
      obtain ⟨ar, n2, c2, m2, R, rfl, hR⟩ := open_rows g2
      simp at r0 q0 q1 q2
      unfold maxLen at hs
      exact ⟨⟨⟨s, n1, C, n2, m2, R⟩, ac, c1, ar, c2⟩, by rw [← r0]; exact q0, q1, q2, by show s.size ≤ _; omega, hC, hR⟩)
    refine ⟨_, _, _, fun k => (I k).d, rfl, by omega, fun k hk => ⟨b, off, (I k).ac, (I k).cc, (I k).ar, (I k).cr, ?_, ?_, ?_, ?_, (hI k (by omega)).2.2.2.1, (hI k (by omega)).2.2.2.2.1, (hI k (by omega)).2.2.2.2.2⟩⟩
    · have hspot : spot = none := by simpa [Addr.add] using World.cell?_spot (hI 0 (by omega)).1
      rw [hspot]
    all_goals
      have hspot : spot = none := by simpa [Addr.add] using World.cell?_spot (hI 0 (by omega)).1
      subst hspot
    · rw [← add_plain]
      exact (hI k (by omega)).1
    · rw [Nat.add_assoc, ← add_plain]
      exact (hI k (by omega)).2.1
    · rw [Nat.add_assoc, ← add_plain]
      exact (hI k (by omega)).2.2.1
theorem array1 {α : Type} {cs : Array α} (h : cs.size = 1) : ∃ c0, cs = #[c0] := by
  obtain ⟨l⟩ := cs
  match l, h with
  | [c0], _ => exact ⟨c0, rfl⟩
set_option maxRecDepth 20000 in
theorem open_db {H : Type} {enc : TypeId × Value → H} {w : World} {base : Nat} {v : Value} {d : DataW H} {p : List MemPlace} (hv : Value.okWide Tryd.prog w .any base 24 v)
    (h : DataW.Trod enc Tryd.prog w 0 (fun _ => true) true 24 v d p) : ∃ a n c T, v = .agg #[.slice a n c] ∧ TX w a n T := by
  obtain ⟨cs, rfl, hsz⟩ := okWide_struct Tryd.underlying24 hv
  obtain ⟨c0, rfl⟩ := array1 (hsz.trans (by kernel_rfl))
  obtain ⟨fuel, hf⟩ := h
  obtain ⟨xs, n, -, -, -, hlen, hfld⟩ := DataW.trod_struct Tryd.underlying24 hf
  have h1 := hfld 0 _ rfl
  have hl : 0 < xs.length := by rw [hlen]; exact Nat.zero_lt_one
  rw [List.getElem?_eq_getElem hl] at h1
  have h2 : DataW.trod enc Tryd.prog w 0 (fun _ => true) true n 22 [c0] = some xs[0] := by
    rw [← h1]
    rfl
  obtain ⟨a, n2, c, T, rfl, hT⟩ := open_tabs h2
  exact ⟨a, n2, c, T, rfl, hT⟩
end Go.Proofs.YtfodndnkhgijmaaDoor
