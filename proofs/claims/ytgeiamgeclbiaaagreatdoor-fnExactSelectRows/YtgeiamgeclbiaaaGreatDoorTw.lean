/-
  Tables that came in, opened.
-/
import Derived.Test.YtgeiamgeclbiaaaGreatDoorTf
import Derived.OpenShut
import Derived.ShutString
import Derived.Deep.Slices
import Derived.Deep.SlicePairs
import Derived.Deep.Strs
import Derived.Carry
import Derived.Lib.SmallJoins
namespace Go.Proofs.YtgeiamgeclbiaaaGreatDoor
open Go.ChangeShapes Go.WideShapes Go.ChangeAt Go.RowKit Go.Deep Go.Joins
/-- Columns that came in. -/
theorem open_cols {H : Type} {enc : TypeId × Value → H} {w : World} {fuel : Nat} {v : Value} {x : DataW H × List MemPlace}
    (h : DataW.trod enc Tryz.prog w 0 (fun _ => true) true fuel 25 [v] = some x) : ∃ a n c C, v = .slice a n c ∧ CX w a n C := by
  rcases open_slice_pairs Tryz.underlying25 Tryz.underlying102 (by kernel_rfl) rfl rfl (by kernel_rfl) (by kernel_rfl) h with ⟨hcs, -⟩ | ⟨a, len, cap, m, n, V0, V1, D0, D1, P0, P1, hcs, _, hl, hm, hmm, -, hcell⟩
  · simp at hcs
    subst hcs
    exact ⟨_, _, _, fun _ => ⟨ByteArray.empty, 0⟩, rfl, Nat.zero_le _, fun k hk => absurd hk (Nat.not_lt_zero _)⟩
  · simp at hcs
    subst hcs
    simp only [if_true] at hmm
    subst hmm
    obtain ⟨b, off, spot⟩ := a
    unfold maxLen at hm
    obtain ⟨C, hC⟩ := @choose_lt Clm ⟨⟨ByteArray.empty, 0⟩⟩ m (fun i c => V0 i = .string c.s ∧ V1 i = .int .i64 c.t ∧ c.s.size ≤ 9223372036854775807) (fun i hi => by
      obtain ⟨-, -, t0, t1⟩ := hcell i hi
      obtain ⟨s, e0, -, hs⟩ := DataW.trod_string Tryz.underlying9 t0
      obtain ⟨z, e1, -, -⟩ := DataW.trod_int Tryz.underlying3 t1
      unfold maxLen at hs
      exact ⟨⟨s, z⟩, by simpa using e0, by simpa using e1, by omega⟩)
    refine ⟨_, _, _, C, rfl, by omega, fun k hk => ⟨b, off, ?_, ?_, ?_, (hC k (by omega)).2.2⟩⟩
    · have hspot : spot = none := by simpa [Addr.add] using World.cell?_spot (hcell 0 (by omega)).1
      rw [hspot]
    · have hspot : spot = none := by simpa [Addr.add] using World.cell?_spot (hcell 0 (by omega)).1
      subst hspot
      rw [← add_plain, ← (hC k (by omega)).1]
      exact (hcell k (by omega)).1
    · have hspot : spot = none := by simpa [Addr.add] using World.cell?_spot (hcell 0 (by omega)).1
      subst hspot
      rw [Nat.add_assoc, ← add_plain, ← (hC k (by omega)).2.1]
      exact (hcell k (by omega)).2.1
theorem list3 {α : Type} {l : List α} (h : l.length = 3) : ∃ a b c, l = [a, b, c] := by
  match l, h with
  | [a, b, c], _ => exact ⟨a, b, c, rfl⟩
/-- Rows of three cells that came in: two integers and a string. -/
theorem open_trips {H : Type} {enc : TypeId × Value → H} {w : World} {fuel : Nat} {v : Value} {x : DataW H × List MemPlace} {t e : TypeId} {f0 f1 f2 : Field} (ht : Tryz.prog.underlying t = some (.slice e)) (he : Tryz.prog.underlying e = some (.struct #[f0, f1, f2]))
    (ce : Tryz.prog.cellsOf e = 3) (o0 : f0.offset = 0) (o1 : f1.offset = 1) (o2 : f2.offset = 2) (e0 : f0.type = 3) (e1 : f1.type = 3) (e2 : f2.type = 9)
    (h : DataW.trod enc Tryz.prog w 0 (fun _ => true) true fuel t [v] = some x) : ∃ a n c I, v = .slice a n c ∧ IX w a n I := by
  have ci : Tryz.prog.cellsOf 3 = 1 := by kernel_rfl
  have cs : Tryz.prog.cellsOf 9 = 1 := by kernel_rfl
  rcases open_slice ht h with ⟨hcs, -⟩ | ⟨a, len, cap, m, n, D, Pl, hcs, _, hl, hm, hmm, -, hx⟩
  · simp at hcs
    subst hcs
    exact ⟨_, _, _, fun _ => ⟨0, 0, ByteArray.empty⟩, rfl, Nat.zero_le _, fun k hk => absurd hk (Nat.not_lt_zero _)⟩
  · simp at hcs
    subst hcs
    simp only [if_true] at hmm
    subst hmm
    obtain ⟨b, off, spot⟩ := a
    unfold maxLen at hm
    obtain ⟨I, hI⟩ := @choose_lt Itm ⟨⟨0, 0, ByteArray.empty⟩⟩ m (fun i c => w.cell? ((⟨b, off, spot⟩ : Addr).add (i * 3)) = some (.int .i64 c.o) ∧ w.cell? ((⟨b, off, spot⟩ : Addr).add (i * 3 + 1)) = some (.int .i64 c.m) ∧ w.cell? ((⟨b, off, spot⟩ : Addr).add (i * 3 + 2)) = some (.string c.s) ∧ c.s.size ≤ 9223372036854775807) (fun i hi => by
      obtain ⟨cs', h1, h2⟩ := hx i hi
      rw [ce] at h1
      obtain ⟨_, hlen, hcell⟩ := World.cells?_some h1
      obtain ⟨y0, y1, y2, k, -, -, g0, g1, g2⟩ := trod_struct3 he h2
      obtain ⟨v0, v1, v2, rfl⟩ := list3 hlen
      have q0 := hcell 0 (by omega)
      have q1 := hcell 1 (by omega)
      have q2 := hcell 2 (by omega)
      rw [add_add] at q0 q1 q2
      simp [o0, e0, ci] at g0
      simp [o1, e1, ci] at g1
      simp [o2, e2, cs] at g2
      obtain ⟨z0, r0, -, -⟩ := DataW.trod_int Tryz.underlying3 g0
      obtain ⟨z1, r1, -, -⟩ := DataW.trod_int Tryz.underlying3 g1
      obtain ⟨s, r2, -, hs⟩ := DataW.trod_string Tryz.underlying9 g2
      simp at r0 r1 r2 q0 q1 q2
      unfold maxLen at hs
      exact ⟨⟨z0, z1, s⟩, by rw [← r0]; exact q0, by rw [← r1]; exact q1, by rw [← r2]; exact q2, by omega⟩)
    refine ⟨_, _, _, I, rfl, by omega, fun k hk => ⟨b, off, ?_, ?_, ?_, ?_, (hI k (by omega)).2.2.2⟩⟩
    · have hspot : spot = none := by simpa [Addr.add] using World.cell?_spot (hI 0 (by omega)).1
      rw [hspot]
    all_goals
      have hspot : spot = none := by simpa [Addr.add] using World.cell?_spot (hI 0 (by omega)).1
      subst hspot
    · rw [← add_plain]
      exact (hI k (by omega)).1
    · rw [Nat.add_assoc, ← add_plain]
      exact (hI k (by omega)).2.1
    · rw [Nat.add_assoc, ← add_plain]
      exact (hI k (by omega)).2.2.1
theorem open_vals {H : Type} {enc : TypeId × Value → H} {w : World} {fuel : Nat} {v : Value} {x : DataW H × List MemPlace}
    (h : DataW.trod enc Tryz.prog w 0 (fun _ => true) true fuel 26 [v] = some x) : ∃ a n c I, v = .slice a n c ∧ IX w a n I :=
  open_trips Tryz.underlying26 Tryz.underlying104 (by kernel_rfl) rfl rfl rfl rfl rfl rfl h
theorem open_itms {H : Type} {enc : TypeId × Value → H} {w : World} {fuel : Nat} {v : Value} {x : DataW H × List MemPlace}
    (h : DataW.trod enc Tryz.prog w 0 (fun _ => true) true fuel 27 [v] = some x) : ∃ a n c I, v = .slice a n c ∧ IX w a n I :=
  open_trips Tryz.underlying27 Tryz.underlying107 (by kernel_rfl) rfl rfl rfl rfl rfl rfl h
/-- What an inner list is. -/
structure Row1 where
  a : Option Addr
  n : Nat
  c : Nat
  I : Nat → Itm
theorem open_outs {H : Type} {enc : TypeId × Value → H} {w : World} {fuel : Nat} {v : Value} {x : DataW H × List MemPlace}
    (h : DataW.trod enc Tryz.prog w 0 (fun _ => true) true fuel 28 [v] = some x) : ∃ a n c m O, v = .slice a n c ∧ OX w a n m O := by
  rcases open_slice1 Tryz.underlying28 (by kernel_rfl) h with ⟨hcs, -⟩ | ⟨a, len, cap, m, n, V, D, Pl, hcs, _, hl, hm, hmm, -, hx⟩
  · simp at hcs
    subst hcs
    exact ⟨_, _, _, fun _ => 0, fun _ _ => ⟨0, 0, ByteArray.empty⟩, rfl, Nat.zero_le _, fun k hk => absurd hk (Nat.not_lt_zero _)⟩
  · simp at hcs
    subst hcs
    simp only [if_true] at hmm
    subst hmm
    obtain ⟨b, off, spot⟩ := a
    unfold maxLen at hm
    obtain ⟨R, hR⟩ := @choose_lt Row1 ⟨⟨none, 0, 0, fun _ => ⟨0, 0, ByteArray.empty⟩⟩⟩ m (fun i r => V i = .slice r.a r.n r.c ∧ IX w r.a r.n r.I) (fun i hi => by
      obtain ⟨a, n, c, I, e, hI⟩ := open_itms (hx i hi).2
      exact ⟨⟨a, n, c, I⟩, e, hI⟩)
    refine ⟨_, _, _, fun k => (R k).n, fun k => (R k).I, rfl, by omega, fun k hk => ⟨b, off, (R k).a, (R k).c, ?_, ?_, (hR k (by omega)).2⟩⟩
    · have hspot : spot = none := by simpa [Addr.add] using World.cell?_spot (hx 0 (by omega)).1
      rw [hspot]
    · have hspot : spot = none := by simpa [Addr.add] using World.cell?_spot (hx 0 (by omega)).1
      subst hspot
      rw [← add_plain, ← (hR k (by omega)).1]
      exact (hx k (by omega)).1
theorem array8 {α : Type} {cs : Array α} (h : cs.size = 8) : ∃ c0 c1 c2 c3 c4 c5 c6 c7, cs = #[c0, c1, c2, c3, c4, c5, c6, c7] := by
  obtain ⟨l⟩ := cs
  match l, h with
  | [c0, c1, c2, c3, c4, c5, c6, c7], _ => exact ⟨c0, c1, c2, c3, c4, c5, c6, c7, rfl⟩
set_option maxRecDepth 20000 in
theorem open_stm {H : Type} {enc : TypeId × Value → H} {w : World} {base : Nat} {v : Value} {d : DataW H} {p : List MemPlace} (hv : Value.okWide Tryz.prog w .any base 30 v)
    (h : DataW.Trod enc Tryz.prog w 0 (fun _ => true) true 30 v d p) : ∃ (D : St) (P : Sa), v = .agg (cs8 D P) ∧ SX w D P := by
  have ci : Tryz.prog.cellsOf 3 = 1 := by kernel_rfl
  obtain ⟨cs, rfl, hsz⟩ := okWide_struct Tryz.underlying30 hv
  obtain ⟨c0, c1, c2, c3, c4, c5, c6, c7, rfl⟩ := array8 (hsz.trans (by kernel_rfl))
  obtain ⟨fuel, hf⟩ := h
  obtain ⟨xs, n, -, -, -, hlen, hfld⟩ := DataW.trod_struct Tryz.underlying30 hf
  have one : ∀ t, Tryz.prog.cellsOf t = 1 → ∀ i, i < 8 → ∀ c : Value, (((Value.agg #[c0, c1, c2, c3, c4, c5, c6, c7]).cells.toList.drop i).take (Tryz.prog.cellsOf t) = [c]) → ∀ f : Field, f.type = t → f.offset = i → (∀ (h : DataW.trod enc Tryz.prog w 0 (fun _ => true) true n f.type (((Value.agg #[c0, c1, c2, c3, c4, c5, c6, c7]).cells.toList.drop f.offset).take (Tryz.prog.cellsOf f.type)) = xs[i]?), ∃ x, DataW.trod enc Tryz.prog w 0 (fun _ => true) true n t [c] = some x) := by
    intro t ht i hi c hc f e1 e2 h
    subst e1 e2
    rw [hc] at h
    have hl : f.offset < xs.length := by rw [hlen]; exact hi
    rw [List.getElem?_eq_getElem hl] at h
    exact ⟨_, h⟩
  obtain ⟨y0, t0⟩ := one 3 (by kernel_rfl) 0 (by omega) c0 (by rw [show Tryz.prog.cellsOf 3 = 1 by kernel_rfl]; rfl) _ rfl rfl (hfld 0 _ rfl)
  obtain ⟨y1, t1⟩ := one 9 (by kernel_rfl) 1 (by omega) c1 (by rw [show Tryz.prog.cellsOf 9 = 1 by kernel_rfl]; rfl) _ rfl rfl (hfld 1 _ rfl)
  obtain ⟨y2, t2⟩ := one 25 (by kernel_rfl) 2 (by omega) c2 (by rw [show Tryz.prog.cellsOf 25 = 1 by kernel_rfl]; rfl) _ rfl rfl (hfld 2 _ rfl)
  obtain ⟨y3, t3⟩ := one 26 (by kernel_rfl) 3 (by omega) c3 (by rw [show Tryz.prog.cellsOf 26 = 1 by kernel_rfl]; rfl) _ rfl rfl (hfld 3 _ rfl)
  obtain ⟨y4, t4⟩ := one 9 (by kernel_rfl) 4 (by omega) c4 (by rw [show Tryz.prog.cellsOf 9 = 1 by kernel_rfl]; rfl) _ rfl rfl (hfld 4 _ rfl)
  obtain ⟨y5, t5⟩ := one 27 (by kernel_rfl) 5 (by omega) c5 (by rw [show Tryz.prog.cellsOf 27 = 1 by kernel_rfl]; rfl) _ rfl rfl (hfld 5 _ rfl)
  obtain ⟨y6, t6⟩ := one 27 (by kernel_rfl) 6 (by omega) c6 (by rw [show Tryz.prog.cellsOf 27 = 1 by kernel_rfl]; rfl) _ rfl rfl (hfld 6 _ rfl)
  obtain ⟨y7, t7⟩ := one 28 (by kernel_rfl) 7 (by omega) c7 (by rw [show Tryz.prog.cellsOf 28 = 1 by kernel_rfl]; rfl) _ rfl rfl (hfld 7 _ rfl)
  obtain ⟨z, q0, -, -⟩ := DataW.trod_int Tryz.underlying3 t0
  obtain ⟨tb, q1, -, hs1⟩ := DataW.trod_string Tryz.underlying9 t1
  obtain ⟨a2, n2, d2, C, rfl, h2⟩ := open_cols t2
  obtain ⟨a3, n3, d3, V, rfl, h3⟩ := open_vals t3
  obtain ⟨col, q4, -, hs4⟩ := DataW.trod_string Tryz.underlying9 t4
  obtain ⟨a5, n5, d5, E, rfl, h5⟩ := open_itms t5
  obtain ⟨a6, n6, d6, X, rfl, h6⟩ := open_itms t6
  obtain ⟨a7, n7, d7, m7, O, rfl, h7⟩ := open_outs t7
  obtain rfl : c0 = .int .i64 z := by simpa using q0
  obtain rfl : c1 = .string tb := by simpa using q1
  obtain rfl : c4 = .string col := by simpa using q4
  unfold maxLen at hs1 hs4
  exact ⟨⟨z, tb, n2, C, n3, V, col, n5, E, n6, X, n7, m7, O⟩, ⟨a2, d2, a3, d3, a5, d5, a6, d6, a7, d7⟩, rfl, ⟨by omega, by omega, h2, h3, h5, h6, h7⟩⟩
end Go.Proofs.YtgeiamgeclbiaaaGreatDoor
namespace Go.Proofs.YtgeiamgeclbiaaaGreatDoor
open Go.ChangeShapes Go.WideShapes Go.ChangeAt Go.RowKit Go.Deep Go.Joins
theorem open_rows {H : Type} {enc : TypeId × Value → H} {w : World} {fuel : Nat} {v : Value} {x : DataW H × List MemPlace}
    (h : DataW.trod enc Tryz.prog w 0 (fun _ => true) true fuel 97 [v] = some x) : ∃ a n c m O, v = .slice a n c ∧ OX w a n m O := by
  rcases open_slice1 Tryz.underlying97 (by kernel_rfl) h with ⟨hcs, -⟩ | ⟨a, len, cap, m, n, V, D, Pl, hcs, _, hl, hm, hmm, -, hx⟩
  · simp at hcs
    subst hcs
    exact ⟨_, _, _, fun _ => 0, fun _ _ => ⟨0, 0, ByteArray.empty⟩, rfl, Nat.zero_le _, fun k hk => absurd hk (Nat.not_lt_zero _)⟩
  · simp at hcs
    subst hcs
    simp only [if_true] at hmm
    subst hmm
    obtain ⟨b, off, spot⟩ := a
    unfold maxLen at hm
    obtain ⟨R, hR⟩ := @choose_lt Row1 ⟨⟨none, 0, 0, fun _ => ⟨0, 0, ByteArray.empty⟩⟩⟩ m (fun i r => V i = .slice r.a r.n r.c ∧ IX w r.a r.n r.I) (fun i hi => by
      obtain ⟨a, n, c, I, e, hI⟩ := open_vals (hx i hi).2
      exact ⟨⟨a, n, c, I⟩, e, hI⟩)
    refine ⟨_, _, _, fun k => (R k).n, fun k => (R k).I, rfl, by omega, fun k hk => ⟨b, off, (R k).a, (R k).c, ?_, ?_, (hR k (by omega)).2⟩⟩
    · have hspot : spot = none := by simpa [Addr.add] using World.cell?_spot (hx 0 (by omega)).1
      rw [hspot]
    · have hspot : spot = none := by simpa [Addr.add] using World.cell?_spot (hx 0 (by omega)).1
      subst hspot
      rw [← add_plain, ← (hR k (by omega)).1]
      exact (hx k (by omega)).1
/-- A table with where its lists lie. -/
structure Tdp where
  d : Td
  ac : Option Addr
  cc : Nat
  ar : Option Addr
  cr : Nat
theorem open_tabs {H : Type} {enc : TypeId × Value → H} {w : World} {fuel : Nat} {v : Value} {x : DataW H × List MemPlace}
    (h : DataW.trod enc Tryz.prog w 0 (fun _ => true) true fuel 22 [v] = some x) : ∃ a n c T, v = .slice a n c ∧ TX w a n T := by
  have cs : Tryz.prog.cellsOf 9 = 1 := by kernel_rfl
  have cc : Tryz.prog.cellsOf 25 = 1 := by kernel_rfl
  have cr : Tryz.prog.cellsOf 97 = 1 := by kernel_rfl
  have ce : Tryz.prog.cellsOf 99 = 3 := by kernel_rfl
  rcases open_slice Tryz.underlying22 h with ⟨hcs, -⟩ | ⟨a, len, cap, m, n, D, Pl, hcs, _, hl, hm, hmm, -, hx⟩
  · simp at hcs
    subst hcs
    exact ⟨_, _, _, fun _ => ⟨ByteArray.empty, 0, fun _ => ⟨ByteArray.empty, 0⟩, 0, fun _ => 0, fun _ _ => ⟨0, 0, ByteArray.empty⟩⟩, rfl, Nat.zero_le _, fun k hk => absurd hk (Nat.not_lt_zero _)⟩
  · simp at hcs
    subst hcs
    simp only [if_true] at hmm
    subst hmm
    obtain ⟨b, off, spot⟩ := a
    unfold maxLen at hm
    obtain ⟨I, hI⟩ := @choose_lt Tdp ⟨⟨⟨ByteArray.empty, 0, fun _ => ⟨ByteArray.empty, 0⟩, 0, fun _ => 0, fun _ _ => ⟨0, 0, ByteArray.empty⟩⟩, none, 0, none, 0⟩⟩ m (fun i c => w.cell? ((⟨b, off, spot⟩ : Addr).add (i * 3)) = some (.string c.d.s) ∧ w.cell? ((⟨b, off, spot⟩ : Addr).add (i * 3 + 1)) = some (.slice c.ac c.d.n c.cc) ∧ w.cell? ((⟨b, off, spot⟩ : Addr).add (i * 3 + 2)) = some (.slice c.ar c.d.r c.cr) ∧ c.d.s.size ≤ 9223372036854775807 ∧ CX w c.ac c.d.n c.d.C ∧ OX w c.ar c.d.r c.d.m c.d.R) (fun i hi => by
      obtain ⟨cs', h1, h2⟩ := hx i hi
      rw [ce] at h1
      obtain ⟨_, hlen, hcell⟩ := World.cells?_some h1
      obtain ⟨y0, y1, y2, k, -, -, g0, g1, g2⟩ := trod_struct3 Tryz.underlying99 h2
      obtain ⟨v0, v1, v2, rfl⟩ := list3 hlen
      have q0 := hcell 0 (by omega)
      have q1 := hcell 1 (by omega)
      have q2 := hcell 2 (by omega)
      rw [add_add] at q0 q1 q2
      simp [cs] at g0
      simp [cc] at g1
      simp [cr] at g2
      obtain ⟨s, r0, -, hs⟩ := DataW.trod_string Tryz.underlying9 g0
      obtain ⟨ac, n1, c1, C, rfl, hC⟩ := open_cols g1
      obtain ⟨ar, n2, c2, m2, R, rfl, hR⟩ := open_rows g2
      simp at r0 q0 q1 q2
      unfold maxLen at hs
      exact ⟨⟨⟨s, n1, C, n2, m2, R⟩, ac, c1, ar, c2⟩, by rw [← r0]; exact q0, q1, q2, by show s.size ≤ _; omega, hC, hR⟩)
    refine ⟨_, _, _, fun k => (I k).d, rfl, by omega, fun k hk => ⟨b, off, (I k).ac, (I k).cc, (I k).ar, (I k).cr, ?_, ?_, ?_, ?_, (hI k (by omega)).2.2.2.1, (hI k (by omega)).2.2.2.2.1, (hI k (by omega)).2.2.2.2.2⟩⟩
    · have hspot : spot = none := by simpa [Addr.add] using World.cell?_spot (hI 0 (by omega)).1
      rw [hspot]
    all_goals
      have hspot : spot = none := by simpa [Addr.add] using World.cell?_spot (hI 0 (by omega)).1
      subst hspot
    · rw [← add_plain]
      exact (hI k (by omega)).1
    · rw [Nat.add_assoc, ← add_plain]
      exact (hI k (by omega)).2.1
    · rw [Nat.add_assoc, ← add_plain]
      exact (hI k (by omega)).2.2.1
theorem array1 {α : Type} {cs : Array α} (h : cs.size = 1) : ∃ c0, cs = #[c0] := by
  obtain ⟨l⟩ := cs
  match l, h with
  | [c0], _ => exact ⟨c0, rfl⟩
set_option maxRecDepth 20000 in
theorem open_db {H : Type} {enc : TypeId × Value → H} {w : World} {base : Nat} {v : Value} {d : DataW H} {p : List MemPlace} (hv : Value.okWide Tryz.prog w .any base 24 v)
    (h : DataW.Trod enc Tryz.prog w 0 (fun _ => true) true 24 v d p) : ∃ a n c T, v = .agg #[.slice a n c] ∧ TX w a n T := by
  obtain ⟨cs, rfl, hsz⟩ := okWide_struct Tryz.underlying24 hv
  obtain ⟨c0, rfl⟩ := array1 (hsz.trans (by kernel_rfl))
  obtain ⟨fuel, hf⟩ := h
  obtain ⟨xs, n, -, -, -, hlen, hfld⟩ := DataW.trod_struct Tryz.underlying24 hf
  have h1 := hfld 0 _ rfl
  have hl : 0 < xs.length := by rw [hlen]; exact Nat.zero_lt_one
  rw [List.getElem?_eq_getElem hl] at h1
  have h2 : DataW.trod enc Tryz.prog w 0 (fun _ => true) true n 22 [c0] = some xs[0] := by
    rw [← h1]
    rfl
  obtain ⟨a, n2, c, T, rfl, hT⟩ := open_tabs h2
  exact ⟨a, n2, c, T, rfl, hT⟩
end Go.Proofs.YtgeiamgeclbiaaaGreatDoor
