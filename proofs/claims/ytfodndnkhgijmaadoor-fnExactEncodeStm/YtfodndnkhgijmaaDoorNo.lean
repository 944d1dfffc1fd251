/-
  A statement that came in, opened.
-/
import Derived.Test.YtfodndnkhgijmaaDoorNs
import Derived.OpenShut
import Derived.ShutString
import Derived.Deep.Slices
import Derived.Deep.SlicePairs
import Derived.Deep.Strs
import Derived.Carry
import Derived.Lib.SmallJoins
namespace Go.Proofs.YtfodndnkhgijmaaDoor
open Go.ChangeShapes Go.WideShapes Go.ChangeAt Go.RowKit Go.Deep Go.Joins
/-- Columns that came in. -/
theorem open_cols {H : Type} {enc : TypeId × Value → H} {w : World} {fuel : Nat} {v : Value} {x : DataW H × List MemPlace}
    (h : DataW.trod enc Tryd.prog w 0 (fun _ => true) true fuel 33 [v] = some x) : ∃ a n c C, v = .slice a n c ∧ CX w a n C := by
  rcases open_slice_pairs Tryd.underlying33 Tryd.underlying120 (by kernel_rfl) rfl rfl (by kernel_rfl) (by kernel_rfl) h with ⟨hcs, -⟩ | ⟨a, len, cap, m, n, V0, V1, D0, D1, P0, P1, hcs, _, hl, hm, hmm, -, hcell⟩
  · simp at hcs
    subst hcs
    exact ⟨_, _, _, fun _ => ⟨ByteArray.empty, 0⟩, rfl, Nat.zero_le _, fun k hk => absurd hk (Nat.not_lt_zero _)⟩
  · simp at hcs
    subst hcs
    simp only [if_true] at hmm
    subst hmm
    obtain ⟨b, off, spot⟩ := a
    unfold maxLen at hm
    obtain ⟨C, hC⟩ := @choose_lt Clm ⟨⟨ByteArray.empty, 0⟩⟩ m (fun i c => V0 i = .string c.s ∧ V1 i = .int .i64 c.t ∧ c.s.size ≤ 9223372036854775807) (fun i hi => by
      obtain ⟨-, -, t0, t1⟩ := hcell i hi
      obtain ⟨s, e0, -, hs⟩ := DataW.trod_string Tryd.underlying9 t0
      obtain ⟨z, e1, -, -⟩ := DataW.trod_int Tryd.underlying3 t1
      unfold maxLen at hs
      exact ⟨⟨s, z⟩, by simpa using e0, by simpa using e1, by omega⟩)
    refine ⟨_, _, _, C, rfl, by omega, fun k hk => ⟨b, off, ?_, ?_, ?_, (hC k (by omega)).2.2⟩⟩
    · have hspot : spot = none := by simpa [Addr.add] using World.cell?_spot (hcell 0 (by omega)).1
      rw [hspot]
    · have hspot : spot = none := by simpa [Addr.add] using World.cell?_spot (hcell 0 (by omega)).1
      subst hspot
      rw [← add_plain, ← (hC k (by omega)).1]
      exact (hcell k (by omega)).1
    · have hspot : spot = none := by simpa [Addr.add] using World.cell?_spot (hcell 0 (by omega)).1
      subst hspot
      rw [Nat.add_assoc, ← add_plain, ← (hC k (by omega)).2.1]
      exact (hcell k (by omega)).2.1
theorem list3 {α : Type} {l : List α} (h : l.length = 3) : ∃ a b c, l = [a, b, c] := by
  match l, h with
  | [a, b, c], _ => exact ⟨a, b, c, rfl⟩
/-- Rows of three cells that came in: two integers and a string. -/
theorem open_trips {H : Type} {enc : TypeId × Value → H} {w : World} {fuel : Nat} {v : Value} {x : DataW H × List MemPlace} {t e : TypeId} {f0 f1 f2 : Field} (ht : Tryd.prog.underlying t = some (.slice e)) (he : Tryd.prog.underlying e = some (.struct #[f0, f1, f2]))
    (ce : Tryd.prog.cellsOf e = 3) (o0 : f0.offset = 0) (o1 : f1.offset = 1) (o2 : f2.offset = 2) (e0 : f0.type = 3) (e1 : f1.type = 3) (e2 : f2.type = 9)
    (h : DataW.trod enc Tryd.prog w 0 (fun _ => true) true fuel t [v] = some x) : ∃ a n c I, v = .slice a n c ∧ IX w a n I := by
  have ci : Tryd.prog.cellsOf 3 = 1 := by kernel_rfl
  have cs : Tryd.prog.cellsOf 9 = 1 := by kernel_rfl
  rcases open_slice ht h with ⟨hcs, -⟩ | ⟨a, len, cap, m, n, D, Pl, hcs, _, hl, hm, hmm, -, hx⟩
  · simp at hcs
    subst hcs
    exact ⟨_, _, _, fun _ => ⟨0, 0, ByteArray.empty⟩, rfl, Nat.zero_le _, fun k hk => absurd hk (Nat.not_lt_zero _)⟩
  · simp at hcs
    subst hcs
    simp only [if_true] at hmm
    subst hmm
    obtain ⟨b, off, spot⟩ := a
    unfold maxLen at hm
    obtain ⟨I, hI⟩ := @choose_lt Itm ⟨⟨0, 0, ByteArray.empty⟩⟩ m (fun i c => w.cell? ((⟨b, off, spot⟩ : Addr).add (i * 3)) = some (.int .i64 c.o) ∧ w.cell? ((⟨b, off, spot⟩ : Addr).add (i * 3 + 1)) = some (.int .i64 c.m) ∧ w.cell? ((⟨b, off, spot⟩ : Addr).add (i * 3 + 2)) = some (.string c.s) ∧ c.s.size ≤ 9223372036854775807) (fun i hi => by
      obtain ⟨cs', h1, h2⟩ := hx i hi
      rw [ce] at h1
      obtain ⟨_, hlen, hcell⟩ := World.cells?_some h1
      obtain ⟨y0, y1, y2, k, -, -, g0, g1, g2⟩ := trod_struct3 he h2
      obtain ⟨v0, v1, v2, rfl⟩ := list3 hlen
      have q0 := hcell 0 (by omega)
      have q1 := hcell 1 (by omega)
      have q2 := hcell 2 (by omega)
      rw [add_add] at q0 q1 q2
      simp [o0, e0, ci] at g0
      simp [o1, e1, ci] at g1
      simp [o2, e2, cs] at g2
      obtain ⟨z0, r0, -, -⟩ := DataW.trod_int Tryd.underlying3 g0
      obtain ⟨z1, r1, -, -⟩ := DataW.trod_int Tryd.underlying3 g1
      obtain ⟨s, r2, -, hs⟩ := DataW.trod_string Tryd.underlying9 g2
      simp at r0 r1 r2 q0 q1 q2
      unfold maxLen at hs
      exact ⟨⟨z0, z1, s⟩, by rw [← r0]; exact q0, by rw [← r1]; exact q1, by rw [← r2]; exact q2, by omega⟩)
    refine ⟨_, _, _, I, rfl, by omega, fun k hk => ⟨b, off, ?_, ?_, ?_, ?_, (hI k (by omega)).2.2.2⟩⟩
    · have hspot : spot = none := by simpa [Addr.add] using World.cell?_spot (hI 0 (by omega)).1
      rw [hspot]
    all_goals
      have hspot : spot = none := by simpa [Addr.add] using World.cell?_spot (hI 0 (by omega)).1
      subst hspot
    · rw [← add_plain]
      exact (hI k (by omega)).1
    · rw [Nat.add_assoc, ← add_plain]
      exact (hI k (by omega)).2.1
    · rw [Nat.add_assoc, ← add_plain]
      exact (hI k (by omega)).2.2.1
theorem open_vals {H : Type} {enc : TypeId × Value → H} {w : World} {fuel : Nat} {v : Value} {x : DataW H × List MemPlace}
    (h : DataW.trod enc Tryd.prog w 0 (fun _ => true) true fuel 34 [v] = some x) : ∃ a n c I, v = .slice a n c ∧ IX w a n I :=
  open_trips Tryd.underlying34 Tryd.underlying122 (by kernel_rfl) rfl rfl rfl rfl rfl rfl h
theorem open_itms {H : Type} {enc : TypeId × Value → H} {w : World} {fuel : Nat} {v : Value} {x : DataW H × List MemPlace}
    (h : DataW.trod enc Tryd.prog w 0 (fun _ => true) true fuel 35 [v] = some x) : ∃ a n c I, v = .slice a n c ∧ IX w a n I :=
  open_trips Tryd.underlying35 Tryd.underlying125 (by kernel_rfl) rfl rfl rfl rfl rfl rfl h
/-- What an inner list is. -/
structure Row1 where
  a : Option Addr
  n : Nat
  c : Nat
  I : Nat → Itm
theorem open_outs {H : Type} {enc : TypeId × Value → H} {w : World} {fuel : Nat} {v : Value} {x : DataW H × List MemPlace}
    (h : DataW.trod enc Tryd.prog w 0 (fun _ => true) true fuel 36 [v] = some x) : ∃ a n c m O, v = .slice a n c ∧ OX w a n m O := by
  rcases open_slice1 Tryd.underlying36 (by kernel_rfl) h with ⟨hcs, -⟩ | ⟨a, len, cap, m, n, V, D, Pl, hcs, _, hl, hm, hmm, -, hx⟩
  · simp at hcs
    subst hcs
    exact ⟨_, _, _, fun _ => 0, fun _ _ => ⟨0, 0, ByteArray.empty⟩, rfl, Nat.zero_le _, fun k hk => absurd hk (Nat.not_lt_zero _)⟩
  · simp at hcs
    subst hcs
    simp only [if_true] at hmm
    subst hmm
    obtain ⟨b, off, spot⟩ := a
    unfold maxLen at hm
    obtain ⟨R, hR⟩ := @choose_lt Row1 ⟨⟨none, 0, 0, fun _ => ⟨0, 0, ByteArray.empty⟩⟩⟩ m (fun i r => V i = .slice r.a r.n r.c ∧ IX w r.a r.n r.I) (fun i hi => by
      obtain ⟨a, n, c, I, e, hI⟩ := open_itms (hx i hi).2
      exact ⟨⟨a, n, c, I⟩, e, hI⟩)
    refine ⟨_, _, _, fun k => (R k).n, fun k => (R k).I, rfl, by omega, fun k hk => ⟨b, off, (R k).a, (R k).c, ?_, ?_, (hR k (by omega)).2⟩⟩
    · have hspot : spot = none := by simpa [Addr.add] using World.cell?_spot (hx 0 (by omega)).1
      rw [hspot]
    · have hspot : spot = none := by simpa [Addr.add] using World.cell?_spot (hx 0 (by omega)).1
      subst hspot
      rw [← add_plain, ← (hR k (by omega)).1]
      exact (hx k (by omega)).1
theorem array8 {α : Type} {cs : Array α} (h : cs.size = 8) : ∃ c0 c1 c2 c3 c4 c5 c6 c7, cs = #[c0, c1, c2, c3, c4, c5, c6, c7] := by
  obtain ⟨l⟩ := cs
  match l, h with
  | [c0, c1, c2, c3, c4, c5, c6, c7], _ => exact ⟨c0, c1, c2, c3, c4, c5, c6, c7, rfl⟩
set_option maxRecDepth 20000 in
theorem open_stm {H : Type} {enc : TypeId × Value → H} {w : World} {base : Nat} {v : Value} {d : DataW H} {p : List MemPlace} (hv : Value.okWide Tryd.prog w .any base 38 v)
    (h : DataW.Trod enc Tryd.prog w 0 (fun _ => true) true 38 v d p) : ∃ (D : St) (P : Sa), v = .agg (cs8 D P) ∧ SX w D P := by
  have ci : Tryd.prog.cellsOf 3 = 1 := by kernel_rfl
  obtain ⟨cs, rfl, hsz⟩ := okWide_struct Tryd.underlying38 hv
  obtain ⟨c0, c1, c2, c3, c4, c5, c6, c7, rfl⟩ := array8 (hsz.trans (by kernel_rfl))
  obtain ⟨fuel, hf⟩ := h
  obtain ⟨xs, n, -, -, -, hlen, hfld⟩ := DataW.trod_struct Tryd.underlying38 hf
  have one : ∀ t, Tryd.prog.cellsOf t = 1 → ∀ i, i < 8 → ∀ c : Value, (((Value.agg #[c0, c1, c2, c3, c4, c5, c6, c7]).cells.toList.drop i).take (Tryd.prog.cellsOf t) = [c]) → ∀ f : Field, f.type = t → f.offset = i → (∀ (h : DataW.trod enc Tryd.prog w 0 (fun _ => true) true n f.type (((Value.agg #[c0, c1, c2, c3, c4, c5, c6, c7]).cells.toList.drop f.offset).take (Tryd.prog.cellsOf f.type)) = xs[i]?), ∃ x, DataW.trod enc Tryd.prog w 0 (fun _ => true) true n t [c] = some x) := by
    intro t ht i hi c hc f e1 e2 h
    subst e1 e2
    rw [hc] at h
    have hl : f.offset < xs.length := by rw [hlen]; exact hi
    rw [List.getElem?_eq_getElem hl] at h
    exact ⟨_, h⟩
  obtain ⟨y0, t0⟩ := one 3 (by kernel_rfl) 0 (by omega) c0 (by rw [show Tryd.prog.cellsOf 3 = 1 by kernel_rfl]; rfl) _ rfl rfl (hfld 0 _ rfl)
  obtain ⟨y1, t1⟩ := one 9 (by kernel_rfl) 1 (by omega) c1 (by rw [show Tryd.prog.cellsOf 9 = 1 by kernel_rfl]; rfl) _ rfl rfl (hfld 1 _ rfl)
  obtain ⟨y2, t2⟩ := one 33 (by kernel_rfl) 2 (by omega) c2 (by rw [show Tryd.prog.cellsOf 33 = 1 by kernel_rfl]; rfl) _ rfl rfl (hfld 2 _ rfl)
  obtain ⟨y3, t3⟩ := one 34 (by kernel_rfl) 3 (by omega) c3 (by rw [show Tryd.prog.cellsOf 34 = 1 by kernel_rfl]; rfl) _ rfl rfl (hfld 3 _ rfl)
  obtain ⟨y4, t4⟩ := one 9 (by kernel_rfl) 4 (by omega) c4 (by rw [show Tryd.prog.cellsOf 9 = 1 by kernel_rfl]; rfl) _ rfl rfl (hfld 4 _ rfl)
  obtain ⟨y5, t5⟩ := one 35 (by kernel_rfl) 5 (by omega) c5 (by rw [show Tryd.prog.cellsOf 35 = 1 by kernel_rfl]; rfl) _ rfl rfl (hfld 5 _ rfl)
  obtain ⟨y6, t6⟩ := one 35 (by kernel_rfl) 6 (by omega) c6 (by rw [show Tryd.prog.cellsOf 35 = 1 by kernel_rfl]; rfl) _ rfl rfl (hfld 6 _ rfl)
  obtain ⟨y7, t7⟩ := one 36 (by kernel_rfl) 7 (by omega) c7 (by rw [show Tryd.prog.cellsOf 36 = 1 by kernel_rfl]; rfl) _ rfl rfl (hfld 7 _ rfl)
  obtain ⟨z, q0, -, -⟩ := DataW.trod_int Tryd.underlying3 t0
  obtain ⟨tb, q1, -, hs1⟩ := DataW.trod_string Tryd.underlying9 t1
  obtain ⟨a2, n2, d2, C, rfl, h2⟩ := open_cols t2
  obtain ⟨a3, n3, d3, V, rfl, h3⟩ := open_vals t3
  obtain ⟨col, q4, -, hs4⟩ := DataW.trod_string Tryd.underlying9 t4
  obtain ⟨a5, n5, d5, E, rfl, h5⟩ := open_itms t5
  obtain ⟨a6, n6, d6, X, rfl, h6⟩ := open_itms t6
  obtain ⟨a7, n7, d7, m7, O, rfl, h7⟩ := open_outs t7
  obtain rfl : c0 = .int .i64 z := by simpa using q0
  obtain rfl : c1 = .string tb := by simpa using q1
  obtain rfl : c4 = .string col := by simpa using q4
  unfold maxLen at hs1 hs4
  exact ⟨⟨z, tb, n2, C, n3, V, col, n5, E, n6, X, n7, m7, O⟩, ⟨a2, d2, a3, d3, a5, d5, a6, d6, a7, d7⟩, rfl, ⟨by omega, by omega, h2, h3, h5, h6, h7⟩⟩
end Go.Proofs.YtfodndnkhgijmaaDoor
