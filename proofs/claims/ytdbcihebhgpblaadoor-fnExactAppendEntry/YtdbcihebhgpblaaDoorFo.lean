/-
  A file system that came in, opened.
-/
import Derived.Test.YtdbcihebhgpblaaDoorFc
import Derived.OpenShut
import Derived.ShutString
import Derived.Deep.Slices
import Derived.Deep.SlicePairs
import Derived.Deep.Strs
import Derived.Carry
import Derived.Lib.SmallJoins
namespace Go.Proofs.YtdbcihebhgpblaaDoor
open Go.ChangeShapes Go.WideShapes Go.ChangeAt Go.RowKit Go.Deep Go.Joins
theorem list3 {α : Type} {l : List α} (h : l.length = 3) : ∃ a b c, l = [a, b, c] := by
  match l, h with
  | [a, b, c], _ => exact ⟨a, b, c, rfl⟩
/-- Files that came in. -/
theorem open_files_at {H : Type} {enc : TypeId × Value → H} {w : World} {fuel : Nat} {v : Value} {x : DataW H × List MemPlace} {t e : TypeId} {f0 f1 f2 : Field} (ht : Tryd.prog.underlying t = some (.slice e)) (he : Tryd.prog.underlying e = some (.struct #[f0, f1, f2]))
    (ce : Tryd.prog.cellsOf e = 3) (o0 : f0.offset = 0) (o1 : f1.offset = 1) (o2 : f2.offset = 2) (e0 : f0.type = 9) (e1 : f1.type = 9) (e2 : f2.type = 3)
    (h : DataW.trod enc Tryd.prog w 0 (fun _ => true) true fuel t [v] = some x) : ∃ a n c F, v = .slice a n c ∧ FX w a n F := by
  have ci : Tryd.prog.cellsOf 3 = 1 := by kernel_rfl
  have cs : Tryd.prog.cellsOf 9 = 1 := by kernel_rfl
  rcases open_slice ht h with ⟨hcs, -⟩ | ⟨a, len, cap, m, n, D, Pl, hcs, _, hl, hm, hmm, -, hx⟩
  · simp at hcs
    subst hcs
    exact ⟨_, _, _, fun _ => ⟨ByteArray.empty, ByteArray.empty, 0⟩, rfl, Nat.zero_le _, fun k hk => absurd hk (Nat.not_lt_zero _)⟩
  · simp at hcs
    subst hcs
    simp only [if_true] at hmm
    subst hmm
    obtain ⟨b, off, spot⟩ := a
    unfold maxLen at hm
    obtain ⟨I, hI⟩ := @choose_lt Fil ⟨⟨ByteArray.empty, ByteArray.empty, 0⟩⟩ m (fun i c => w.cell? ((⟨b, off, spot⟩ : Addr).add (i * 3)) = some (.string c.s) ∧ w.cell? ((⟨b, off, spot⟩ : Addr).add (i * 3 + 1)) = some (.string c.d) ∧ w.cell? ((⟨b, off, spot⟩ : Addr).add (i * 3 + 2)) = some (.int .i64 c.y) ∧ c.s.size ≤ 9223372036854775807 ∧ c.d.size ≤ 9223372036854775807) (fun i hi => by
      obtain ⟨cs', h1, h2⟩ := hx i hi
      rw [ce] at h1
      obtain ⟨_, hlen, hcell⟩ := World.cells?_some h1
      obtain ⟨y0, y1, y2, k, -, -, g0, g1, g2⟩ := trod_struct3 he h2
      obtain ⟨v0, v1, v2, rfl⟩ := list3 hlen
      have q0 := hcell 0 (by omega)
      have q1 := hcell 1 (by omega)
      have q2 := hcell 2 (by omega)
      rw [add_add] at q0 q1 q2
      simp [o0, e0, cs] at g0
      simp [o1, e1, cs] at g1
      simp [o2, e2, ci] at g2
      obtain ⟨z0, r0, -, hs0⟩ := DataW.trod_string Tryd.underlying9 g0
      obtain ⟨z1, r1, -, hs1⟩ := DataW.trod_string Tryd.underlying9 g1
      obtain ⟨s, r2, -, -⟩ := DataW.trod_int Tryd.underlying3 g2
      simp at r0 r1 r2 q0 q1 q2
      unfold maxLen at hs0 hs1
      exact ⟨⟨z0, z1, s⟩, by rw [← r0]; exact q0, by rw [← r1]; exact q1, by rw [← r2]; exact q2, by dsimp only; omega, by dsimp only; omega⟩)
    refine ⟨_, _, _, I, rfl, by omega, fun k hk => ⟨b, off, ?_, ?_, ?_, ?_, (hI k (by omega)).2.2.2⟩⟩
    · have hspot : spot = none := by simpa [Addr.add] using World.cell?_spot (hI 0 (by omega)).1
      rw [hspot]
    all_goals
      have hspot : spot = none := by simpa [Addr.add] using World.cell?_spot (hI 0 (by omega)).1
      subst hspot
    · rw [← add_plain]
      exact (hI k (by omega)).1
    · rw [Nat.add_assoc, ← add_plain]
      exact (hI k (by omega)).2.1
    · rw [Nat.add_assoc, ← add_plain]
      exact (hI k (by omega)).2.2.1
theorem open_files {H : Type} {enc : TypeId × Value → H} {w : World} {fuel : Nat} {v : Value} {x : DataW H × List MemPlace}
    (h : DataW.trod enc Tryd.prog w 0 (fun _ => true) true fuel 22 [v] = some x) : ∃ a n c F, v = .slice a n c ∧ FX w a n F :=
  open_files_at Tryd.underlying22 Tryd.underlying87 (by kernel_rfl) rfl rfl rfl rfl rfl rfl h
theorem array6 {α : Type} {cs : Array α} (h : cs.size = 6) : ∃ c0 c1 c2 c3 c4 c5, cs = #[c0, c1, c2, c3, c4, c5] := by
  obtain ⟨l⟩ := cs
  match l, h with
  | [c0, c1, c2, c3, c4, c5], _ => exact ⟨c0, c1, c2, c3, c4, c5, rfl⟩
set_option maxRecDepth 20000 in
theorem open_fs {H : Type} {enc : TypeId × Value → H} {w : World} {base : Nat} {v : Value} {d : DataW H} {p : List MemPlace} (hv : Value.okWide Tryd.prog w .any base 24 v)
    (h : DataW.Trod enc Tryd.prog w 0 (fun _ => true) true 24 v d p) : ∃ a n c F x1 x2 x3 x4 x5, v = .agg #[.slice a n c, .int .i64 x1, .int .i64 x2, .int .i64 x3, .int .i64 x4, .bool x5] ∧ FX w a n F := by
  have ci : Tryd.prog.cellsOf 3 = 1 := by kernel_rfl
  obtain ⟨cs, rfl, hsz⟩ := okWide_struct Tryd.underlying24 hv
  obtain ⟨c0, c1, c2, c3, c4, c5, rfl⟩ := array6 (hsz.trans (by kernel_rfl))
  obtain ⟨fuel, hf⟩ := h
  obtain ⟨xs, n, -, -, -, hlen, hfld⟩ := DataW.trod_struct Tryd.underlying24 hf
  have one : ∀ t, Tryd.prog.cellsOf t = 1 → ∀ i, i < 6 → ∀ c : Value, (((Value.agg #[c0, c1, c2, c3, c4, c5]).cells.toList.drop i).take (Tryd.prog.cellsOf t) = [c]) → ∀ f : Field, f.type = t → f.offset = i → (∀ (h : DataW.trod enc Tryd.prog w 0 (fun _ => true) true n f.type (((Value.agg #[c0, c1, c2, c3, c4, c5]).cells.toList.drop f.offset).take (Tryd.prog.cellsOf f.type)) = xs[i]?), ∃ x, DataW.trod enc Tryd.prog w 0 (fun _ => true) true n t [c] = some x) := by
    intro t ht i hi c hc f e1 e2 h
    subst e1 e2
    rw [hc] at h
    have hl : f.offset < xs.length := by rw [hlen]; exact hi
    rw [List.getElem?_eq_getElem hl] at h
    exact ⟨_, h⟩
  obtain ⟨y0, t0⟩ := one 22 (by kernel_rfl) 0 (by omega) c0 (by rw [show Tryd.prog.cellsOf 22 = 1 by kernel_rfl]; rfl) _ rfl rfl (hfld 0 _ rfl)
  obtain ⟨y1, t1⟩ := one 3 (by kernel_rfl) 1 (by omega) c1 (by rw [show Tryd.prog.cellsOf 3 = 1 by kernel_rfl]; rfl) _ rfl rfl (hfld 1 _ rfl)
  obtain ⟨y2, t2⟩ := one 3 (by kernel_rfl) 2 (by omega) c2 (by rw [show Tryd.prog.cellsOf 3 = 1 by kernel_rfl]; rfl) _ rfl rfl (hfld 2 _ rfl)
  obtain ⟨y3, t3⟩ := one 3 (by kernel_rfl) 3 (by omega) c3 (by rw [show Tryd.prog.cellsOf 3 = 1 by kernel_rfl]; rfl) _ rfl rfl (hfld 3 _ rfl)
  obtain ⟨y4, t4⟩ := one 3 (by kernel_rfl) 4 (by omega) c4 (by rw [show Tryd.prog.cellsOf 3 = 1 by kernel_rfl]; rfl) _ rfl rfl (hfld 4 _ rfl)
  obtain ⟨y5, t5⟩ := one 4 (by kernel_rfl) 5 (by omega) c5 (by rw [show Tryd.prog.cellsOf 4 = 1 by kernel_rfl]; rfl) _ rfl rfl (hfld 5 _ rfl)
  obtain ⟨a, m, c, F, rfl, hF⟩ := open_files t0
  obtain ⟨z1, q1, -, -⟩ := DataW.trod_int Tryd.underlying3 t1
  obtain rfl : c1 = .int .i64 z1 := by simpa using q1
  obtain ⟨z2, q2, -, -⟩ := DataW.trod_int Tryd.underlying3 t2
  obtain rfl : c2 = .int .i64 z2 := by simpa using q2
  obtain ⟨z3, q3, -, -⟩ := DataW.trod_int Tryd.underlying3 t3
  obtain rfl : c3 = .int .i64 z3 := by simpa using q3
  obtain ⟨z4, q4, -, -⟩ := DataW.trod_int Tryd.underlying3 t4
  obtain rfl : c4 = .int .i64 z4 := by simpa using q4
  obtain ⟨z5, q5, -⟩ := DataW.trod_bool Tryd.underlying4 t5
  obtain rfl : c5 = .bool z5 := by simpa using q5
  exact ⟨a, m, c, F, z1, z2, z3, z4, z5, rfl, hF⟩
end Go.Proofs.YtdbcihebhgpblaaDoor
