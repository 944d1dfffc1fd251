/-
  The law on FsStep: the row's step.
-/
import Derived.Test.YtdbcihebhgpblaaRows
import Derived.Test.YtdbcihebhgpblaaOo
import Derived.Test.YtdbcihebhgpblaaFo
namespace Go.Proofs.Ytdbcihebhgpblaa
open Go.ChangeShapes Go.WideShapes Go.ChangeAt Go.RowKit Go.Deep Go.Joins
theorem array4 {α : Type} {cs : Array α} (h : cs.size = 4) : ∃ c0 c1 c2 c3, cs = #[c0, c1, c2, c3] := by
  obtain ⟨l⟩ := cs
  match l, h with
  | [c0, c1, c2, c3], _ => exact ⟨c0, c1, c2, c3, rfl⟩
set_option maxRecDepth 20000 in
/-- An operation that came in. -/
theorem open_op {H : Type} {enc : TypeId × Value → H} {w : World} {base : Nat} {v : Value} {d : DataW H} {p : List MemPlace} (hv : Value.okWide Try.prog w .any base 45 v)
    (h : DataW.Trod enc Try.prog w 0 (fun _ => true) true 45 v d p) : ∃ kd nm dt sz, v = .agg #[.int .i64 kd, .string nm, .string dt, .int .i64 sz] ∧ nm.size ≤ 9223372036854775807 ∧ dt.size ≤ 9223372036854775807 := by
  obtain ⟨cs, rfl, hsz⟩ := okWide_struct Try.underlying45 hv
  obtain ⟨c0, c1, c2, c3, rfl⟩ := array4 (hsz.trans (by kernel_rfl))
  obtain ⟨fuel, hf⟩ := h
  obtain ⟨xs, n, -, -, -, hlen, hfld⟩ := DataW.trod_struct Try.underlying45 hf
  have one : ∀ t, Try.prog.cellsOf t = 1 → ∀ i, i < 4 → ∀ c : Value, (((Value.agg #[c0, c1, c2, c3]).cells.toList.drop i).take (Try.prog.cellsOf t) = [c]) → ∀ f : Field, f.type = t → f.offset = i → (∀ (h : DataW.trod enc Try.prog w 0 (fun _ => true) true n f.type (((Value.agg #[c0, c1, c2, c3]).cells.toList.drop f.offset).take (Try.prog.cellsOf f.type)) = xs[i]?), ∃ x, DataW.trod enc Try.prog w 0 (fun _ => true) true n t [c] = some x) := by
    intro t ht i hi c hc f e1 e2 h
    subst e1 e2
    rw [hc] at h
    have hl : f.offset < xs.length := by rw [hlen]; exact hi
    rw [List.getElem?_eq_getElem hl] at h
    exact ⟨_, h⟩
  obtain ⟨y0, t0⟩ := one 3 (by kernel_rfl) 0 (by omega) c0 (by rw [show Try.prog.cellsOf 3 = 1 by kernel_rfl]; rfl) _ rfl rfl (hfld 0 _ rfl)
  obtain ⟨y1, t1⟩ := one 9 (by kernel_rfl) 1 (by omega) c1 (by rw [show Try.prog.cellsOf 9 = 1 by kernel_rfl]; rfl) _ rfl rfl (hfld 1 _ rfl)
  obtain ⟨y2, t2⟩ := one 9 (by kernel_rfl) 2 (by omega) c2 (by rw [show Try.prog.cellsOf 9 = 1 by kernel_rfl]; rfl) _ rfl rfl (hfld 2 _ rfl)
  obtain ⟨y3, t3⟩ := one 3 (by kernel_rfl) 3 (by omega) c3 (by rw [show Try.prog.cellsOf 3 = 1 by kernel_rfl]; rfl) _ rfl rfl (hfld 3 _ rfl)
  obtain ⟨z0, q0, -, -⟩ := DataW.trod_int Try.underlying3 t0
  obtain rfl : c0 = .int .i64 z0 := by simpa using q0
  obtain ⟨z1, q1, -, hs1⟩ := DataW.trod_string Try.underlying9 t1
  obtain rfl : c1 = .string z1 := by simpa using q1
  obtain ⟨z2, q2, -, hs2⟩ := DataW.trod_string Try.underlying9 t2
  obtain rfl : c2 = .string z2 := by simpa using q2
  obtain ⟨z3, q3, -, -⟩ := DataW.trod_int Try.underlying3 t3
  obtain rfl : c3 = .int .i64 z3 := by simpa using q3
  unfold maxLen at hs1 hs2
  exact ⟨z0, z1, z2, z3, rfl, by omega, by omega⟩
theorem lawOwn : ownKnob Try.prog.godebug = none := by kernel_rfl
theorem lawLaidOut : laidOutB Try.prog = true := by kernel_rfl
set_option maxRecDepth 100000 in
theorem lifted (os : Os) (started : os.Started) (H : Type) (enc : TypeId × Value → H) :
    ReturnsInHanded {} Try.checked os 7 .any (Rows.fnExactFsStepSpec.pre6 enc Try.prog Try.f7 Rows.fnExactFsStepRow.domain false) (Rows.fnExactFsStepSpec.post enc Try.prog Try.f7 false true false false) := by
  refine returnsInHanded_of_change (C := Try.checked) lawOwn started (by kernel_rfl) Try.func7
    (ChangeSpec.witness6 (enc := enc) (C := Try.checked) false ⟨#[], #[.agg #[.slice none 0 0, .int .i64 0, .int .i64 0, .int .i64 0, .int .i64 0, .bool false], .agg #[.int .i64 0, .string ⟨#[]⟩, .string ⟨#[]⟩, .int .i64 0]], []⟩ 8 (by kernel_rfl) (by kernel_rfl) (by kernel_rfl) (by kernel_rfl)) ?_
  intro W base args ds gs before hval0 hW hcnd _
  have hval : ∀ (j : Nat) t v, Try.f7.params[j]? = some t → args[j]? = some v → Value.okWide Try.prog W .any base t v := hval0
  have hW' := hW
  obtain ⟨p, q, hA0, hV, rfl, hfz, hnd⟩ := hW
  have hA : DataW.TrodAll enc Try.prog W 0 (fun _ => true) true Try.f7.params.toList args.toList ds p := hA0
  rw [Try.params7] at hA hval
  obtain ⟨v0, vs0, d0, ds0, p0, q0, hargs, rfl, rfl, h0, r0⟩ := trodAll_cons hA
  obtain ⟨v1, vs1, d1, ds1, p1, q1, rfl, rfl, rfl, h1, r1⟩ := trodAll_cons r0
  obtain ⟨rfl, rfl, rfl⟩ := trodAll_nil r1
  obtain rfl : args = #[v0, v1] := by cases args; simp_all
  obtain ⟨rfl, rfl⟩ := trodVars_none hV
  have h0k := h0
  have h1k := h1
  obtain ⟨a, n, c, F, x1, x2, x3, x4, x5, rfl, hF⟩ := open_fs (hval 0 31 v0 rfl rfl) h0
  obtain ⟨kd, nm, dt, sz, rfl, hq1, hq2⟩ := open_op (hval 1 45 v1 rfl rfl) h1
  clear hA0 hval0
  simp only [List.append_nil] at hW'
  have hlt : ∀ x ∈ p0 ++ p1, x.block < W.heap.size := fun x hx => by simpa using hW'.lt x hx
  have hlt0 : ∀ x ∈ p0, x.block < W.heap.size := fun x hx => hlt x (List.mem_append_left _ hx)
  have hlt1 : ∀ x ∈ p1, x.block < W.heap.size := fun x hx => hlt x (List.mem_append_right _ hx)
  refine (lawStep a n c F x1 x2 x3 x4 x5 kd nm dt sz W hF hq1 hq2).mono fun e W' ⟨he, bel⟩ => ?_
  subst he
  exact ⟨_, rfl, _, _, _, [], _, [], hW', trodAll_mk1 (shut_bool Try.underlying4 _), (trodAll_cons_mk (Below.trod lawLaidOut (by kernel_rfl) (of_decide_eq_true (by kernel_rfl)) h0k bel hlt0) (trodAll_cons_mk (Below.trod lawLaidOut (by kernel_rfl) (of_decide_eq_true (by kernel_rfl)) h1k bel hlt1) trodAll_mk0)), rfl, bel.frame _, fun h => by cases h⟩
theorem over : Rows.fnExactFsStepRow.holds Try.pinned (OpenSpec.ofChange Rows.fnExactFsStepSpec) :=
  OpenClaim.holds_of_wide 7 Try.f7 rfl rfl rfl rfl rfl rfl rfl ⟨rfl, rfl, rfl, rfl, rfl⟩ rfl rfl rfl rfl rfl (by kernel_rfl) Try.func7 (by kernel_rfl)
    (of_decide_eq_true (by kernel_rfl)) (by unfold Func.isWrapper; first | (rw [if_pos (by decide +kernel)]; kernel_rfl) | (rw [if_neg (by decide +kernel)]; exact ⟨rfl, rfl⟩))
    (fun os started H enc _ => lifted os started H enc)
/-- The statement. -/
theorem fsStep_holds : Rows.FnExactFsStepSaid :=
  over
#print axioms fsStep_holds
end Go.Proofs.Ytdbcihebhgpblaa
