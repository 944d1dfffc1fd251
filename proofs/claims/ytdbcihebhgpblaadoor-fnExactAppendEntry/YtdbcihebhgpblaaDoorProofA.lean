/-
  The law on AppendEntry: the row, and its tied card.
-/
import Derived.Test.YtdbcihebhgpblaaDoorCards
import Derived.Test.YtdbcihebhgpblaaDoorTie
import Derived.Test.YtdbcihebhgpblaaDoorPq
import Derived.Test.YtdbcihebhgpblaaDoorFo
import Derived.OpenShut
import Derived.ShutString
import Derived.Deep.DeepHandedRow
import Derived.Deep.DeepWitnessRowRef
import Derived.Deep.DeepLaidRun
import Derived.Lib.LaidTab
import Derived.Stop.LaidErr
import Derived.OpenVars
namespace Go.Proofs.YtdbcihebhgpblaaDoor
open Go.ChangeShapes Go.WideShapes Go.ChangeAt Go.RowKit Go.Deep Go.Joins
open Go.ChangeMaps (open_string shut_string)
theorem lawOwn : ownKnob Tryd.prog.godebug = none := by kernel_rfl
theorem lawLaidOut : laidOutB Tryd.prog = true := by kernel_rfl
def tb32 : List Int := [0, 1, 28, 2, 29, 14, 24, 3, 30, 22, 20, 15, 25, 17, 4, 8, 31, 27, 13, 23, 21, 19, 16, 7, 26, 12, 18, 6, 11, 5, 10, 9]
def tb64 : List Int := [0, 1, 56, 2, 57, 49, 28, 3, 61, 58, 42, 50, 38, 29, 17, 4, 62, 47, 59, 36, 45, 43, 51, 22, 53, 39, 33, 30, 24, 18, 12, 5, 63, 55, 48, 27, 60, 41, 37, 16, 46, 35, 44, 21, 52, 32, 23, 11, 54, 26, 40, 15, 34, 20, 31, 10, 25, 14, 19, 9, 13, 8, 7, 6]
theorem gPow : Tryd.prog.globalNamed "internal/strconv.uint64pow10" = some 2 := by kernel_rfl
theorem gPowType : (Tryd.prog.globals[2]?).map (·.type) = some 214 := by kernel_rfl
theorem laid_pow : (Rows.laid_internal_strconv_uint64pow10 : DataW Unit) = Lib.tabData .u64 Lib.pow10Tab := by kernel_rfl
theorem t10_of {W : World} (h : laidMetH Tryd.prog [("math/bits.deBruijn32tab", Rows.laid_math_bits_deBruijn32tab), ("math/bits.deBruijn64tab", Rows.laid_math_bits_deBruijn64tab), ("internal/strconv.uint64pow10", Rows.laid_internal_strconv_uint64pow10)] W) : T10 W := by
  have h1 : laidMet Tryd.prog [("math/bits.deBruijn32tab", Rows.laid_math_bits_deBruijn32tab), ("math/bits.deBruijn64tab", Rows.laid_math_bits_deBruijn64tab), ("internal/strconv.uint64pow10", Rows.laid_internal_strconv_uint64pow10)] W := h
  have h2 := h1.tail.tail
  rw [laid_pow] at h2
  exact Lib.tabIs_of_head gPow gPowType Tryd.underlying214 Tryd.underlying95 (by kernel_rfl) (by kernel_rfl) h2
theorem array2 {α : Type} {cs : Array α} (h : cs.size = 2) : ∃ c0 c1, cs = #[c0, c1] := by
  obtain ⟨l⟩ := cs
  match l, h with
  | [c0, c1], _ => exact ⟨c0, c1, rfl⟩
set_option maxRecDepth 20000 in
/-- A log that came in. -/
theorem open_log {H : Type} {enc : TypeId × Value → H} {w : World} {base : Nat} {v : Value} {d : DataW H} {p : List MemPlace} (hv : Value.okWide Tryd.prog w .any base 26 v)
    (h : DataW.Trod enc Tryd.prog w 0 (fun _ => true) true 26 v d p) : ∃ l s, v = .agg #[.int .i64 l, .int .i64 s] := by
  obtain ⟨cs, rfl, hsz⟩ := okWide_struct Tryd.underlying26 hv
  obtain ⟨c0, c1, rfl⟩ := array2 (hsz.trans (by kernel_rfl))
  obtain ⟨fuel, hf⟩ := h
  obtain ⟨xs, n, -, -, -, hlen, hfld⟩ := DataW.trod_struct Tryd.underlying26 hf
  have one : ∀ t, Tryd.prog.cellsOf t = 1 → ∀ i, i < 2 → ∀ c : Value, (((Value.agg #[c0, c1]).cells.toList.drop i).take (Tryd.prog.cellsOf t) = [c]) → ∀ f : Field, f.type = t → f.offset = i → (∀ (h : DataW.trod enc Tryd.prog w 0 (fun _ => true) true n f.type (((Value.agg #[c0, c1]).cells.toList.drop f.offset).take (Tryd.prog.cellsOf f.type)) = xs[i]?), ∃ x, DataW.trod enc Tryd.prog w 0 (fun _ => true) true n t [c] = some x) := by
    intro t ht i hi c hc f e1 e2 h
    subst e1 e2
    rw [hc] at h
    have hl : f.offset < xs.length := by rw [hlen]; exact hi
    rw [List.getElem?_eq_getElem hl] at h
    exact ⟨_, h⟩
  obtain ⟨y0, t0⟩ := one 3 (by kernel_rfl) 0 (by omega) c0 (by rw [show Tryd.prog.cellsOf 3 = 1 by kernel_rfl]; rfl) _ rfl rfl (hfld 0 _ rfl)
  obtain ⟨y1, t1⟩ := one 3 (by kernel_rfl) 1 (by omega) c1 (by rw [show Tryd.prog.cellsOf 3 = 1 by kernel_rfl]; rfl) _ rfl rfl (hfld 1 _ rfl)
  obtain ⟨z0, q0, -, -⟩ := DataW.trod_int Tryd.underlying3 t0
  obtain rfl : c0 = .int .i64 z0 := by simpa using q0
  obtain ⟨z1, q1, -, -⟩ := DataW.trod_int Tryd.underlying3 t1
  obtain rfl : c1 = .int .i64 z1 := by simpa using q1
  exact ⟨z0, z1, rfl⟩
set_option maxRecDepth 100000 in
theorem open_str {H : Type} {enc : TypeId × Value → H} {w : World} {v : Value} {d : DataW H} {p : List MemPlace} {r : Reach} {base : Nat} (hv : Value.okWide Tryd.prog w r base 9 v) (h : DataW.Trod enc Tryd.prog w 0 (fun _ => true) true 9 v d p) : ∃ s : ByteArray, v = .string s ∧ s.size ≤ 9223372036854775807 := by
  obtain ⟨a0, rfl, _, _, w0⟩ := open_string Tryd.underlying9 hv h
  unfold maxLen at w0
  exact ⟨a0, rfl, by omega⟩
set_option maxRecDepth 100000 in
theorem open_num {H : Type} {enc : TypeId × Value → H} {w : World} {v : Value} {d : DataW H} {p : List MemPlace} {r : Reach} {base : Nat} (hv : Value.okWide Tryd.prog w r base 3 v) (h : DataW.Trod enc Tryd.prog w 0 (fun _ => true) true 3 v d p) : ∃ s : Int, v = .int .i64 s := by
  obtain ⟨a0, rfl, _⟩ := open_int Tryd.underlying3 hv h
  exact ⟨a0, rfl⟩
set_option maxRecDepth 100000 in
theorem contractAp (H : Type) (enc : TypeId × Value → H) (W : World) (base : Nat) (args : Array Value) (ds gs : List (DataW H)) (before : List MemPlace)
    (hval : ∀ (j : Nat) t v, Tryd.f3.params[j]? = some t → args[j]? = some v → Value.okWide Tryd.prog W .any base t v)
    (hW : DataW.Whole enc Tryd.prog Tryd.f3.params.toList Rows.fnExactAppendEntrySpec.vars false W args.toList ds gs before) (hL : laidMetH Tryd.prog Rows.fnExactAppendEntryRow.laid W) :
    Calls Tryd.prog 3 args W fun e W' => ∃ v, e = .returned v ∧ Rows.fnExactAppendEntrySpec.post enc Tryd.prog Tryd.f3 false true false false W args v W' := by
  have hW' := hW
  obtain ⟨p, q, hA0, hV, rfl, hfz, hnd⟩ := hW
  have hA : DataW.TrodAll enc Tryd.prog W 0 (fun _ => true) true Tryd.f3.params.toList args.toList ds p := hA0
  rw [Tryd.params3] at hA hval
  obtain ⟨v0, vs0, d0, ds0, p0, q0, hargs, rfl, rfl, h0, r0⟩ := trodAll_cons hA
  obtain ⟨v1, vs1, d1, ds1, p1, q1, rfl, rfl, rfl, h1, r1⟩ := trodAll_cons r0
  obtain ⟨v2, vs2, d2, ds2, p2, q2, rfl, rfl, rfl, h2, r2⟩ := trodAll_cons r1
  obtain ⟨v3, vs3, d3, ds3, p3, q3, rfl, rfl, rfl, h3, r3⟩ := trodAll_cons r2
  obtain ⟨rfl, rfl, rfl⟩ := trodAll_nil r3
  obtain rfl : args = #[v0, v1, v2, v3] := by cases args; simp_all
  obtain ⟨rfl, rfl⟩ := trodVars_none hV
  have h0k := h0
  have h1k := h1
  have h2k := h2
  have h3k := h3
  obtain ⟨a, n, c, F, x1, x2, x3, x4, x5, rfl, hF⟩ := open_fs (hval 0 24 v0 rfl rfl) h0
  obtain ⟨l, s, rfl⟩ := open_log (hval 1 26 v1 rfl rfl) h1
  obtain ⟨en, rfl, hen⟩ := open_str (hval 2 9 v2 rfl rfl) h2
  obtain ⟨mo, rfl⟩ := open_num (hval 3 3 v3 rfl rfl) h3
  clear hA0
  have hlt : ∀ x ∈ p0 ++ (p1 ++ (p2 ++ p3)), x.block < W.heap.size := fun x hx => by have := hW'.lt x (List.mem_append.2 (Or.inl (by simpa using hx))); simpa using this
  have hlt0 : ∀ x ∈ p0, x.block < W.heap.size := fun x hx => hlt x (by simp [hx])
  have hlt1 : ∀ x ∈ p1, x.block < W.heap.size := fun x hx => hlt x (by simp [hx])
  have hlt2 : ∀ x ∈ p2, x.block < W.heap.size := fun x hx => hlt x (by simp [hx])
  have hlt3 : ∀ x ∈ p3, x.block < W.heap.size := fun x hx => hlt x (by simp [hx])
  refine (lawAp a n c F x1 x2 x3 x4 x5 l s en mo W hF hen (t10_of hL)).mono fun e W' ⟨he, bel⟩ => ?_
  subst he
  exact ⟨_, rfl, _, _, _, [], _, [], hW', trodAll_mk1 (shut_bool Tryd.underlying4 _), (trodAll_cons_mk (Below.trod lawLaidOut (by kernel_rfl) (of_decide_eq_true (by kernel_rfl)) h0k bel hlt0) (trodAll_cons_mk (Below.trod lawLaidOut (by kernel_rfl) (of_decide_eq_true (by kernel_rfl)) h1k bel hlt1) (trodAll_cons_mk (Below.trod lawLaidOut (by kernel_rfl) (of_decide_eq_true (by kernel_rfl)) h2k bel hlt2) (trodAll_cons_mk (Below.trod lawLaidOut (by kernel_rfl) (of_decide_eq_true (by kernel_rfl)) h3k bel hlt3) trodAll_mk0)))), bel.trodVars lawLaidOut (by kernel_rfl) hV, bel.frame _, fun h => by cases h⟩
theorem laid_met (os : Os) : laidMet Tryd.prog Rows.fnExactAppendEntryRow.laid (({ (World.holding Tryd.prog os ⟨#[], #[], []⟩) with heap := (((World.holding Tryd.prog os ⟨#[], #[], []⟩).heap.modify 3 fun _ => .cells (tb32.map fun z => Value.int .u8 z).toArray 220 (0, 0)).modify 4 fun _ => .cells (tb64.map fun z => Value.int .u8 z).toArray 221 (0, 0)).modify 2 fun _ => .cells (Lib.pow10Tab.map fun z => Value.int .u64 z).toArray 214 (0, 0) } : World).forCall (fun _ _ => 0) ⟨#[], #[.agg #[.slice none 0 0, .int .i64 0, .int .i64 0, .int .i64 0, .int .i64 0, .bool false], .agg #[.int .i64 0, .int .i64 0], .string ByteArray.empty, .int .i64 0], []⟩).memory :=
  laidMet_of_run3 10 (by kernel_rfl) (by kernel_rfl) (by kernel_rfl)
theorem witnessAp (os : Os) {H : Type} (enc : TypeId × Value → H) : (OpenSpec.ofChange Rows.fnExactAppendEntrySpec).preRow enc Tryd.prog Tryd.f3 Rows.fnExactAppendEntryRow.domain false Rows.fnExactAppendEntryRow.laid (({ (World.holding Tryd.prog os ⟨#[], #[], []⟩) with heap := (((World.holding Tryd.prog os ⟨#[], #[], []⟩).heap.modify 3 fun _ => .cells (tb32.map fun z => Value.int .u8 z).toArray 220 (0, 0)).modify 4 fun _ => .cells (tb64.map fun z => Value.int .u8 z).toArray 221 (0, 0)).modify 2 fun _ => .cells (Lib.pow10Tab.map fun z => Value.int .u64 z).toArray 214 (0, 0) } : World).forCall (fun _ _ => 0) ⟨#[], #[.agg #[.slice none 0 0, .int .i64 0, .int .i64 0, .int .i64 0, .int .i64 0, .bool false], .agg #[.int .i64 0, .int .i64 0], .string ByteArray.empty, .int .i64 0], []⟩).memory #[.agg #[.slice none 0 0, .int .i64 0, .int .i64 0, .int .i64 0, .int .i64 0, .bool false], .agg #[.int .i64 0, .int .i64 0], .string ByteArray.empty, .int .i64 0] := by
  have hw : (DataW.whole enc Tryd.prog (({ (World.holding Tryd.prog os ⟨#[], #[], []⟩) with heap := (((World.holding Tryd.prog os ⟨#[], #[], []⟩).heap.modify 3 fun _ => .cells (tb32.map fun z => Value.int .u8 z).toArray 220 (0, 0)).modify 4 fun _ => .cells (tb64.map fun z => Value.int .u8 z).toArray 221 (0, 0)).modify 2 fun _ => .cells (Lib.pow10Tab.map fun z => Value.int .u64 z).toArray 214 (0, 0) } : World).forCall (fun _ _ => 0) ⟨#[], #[.agg #[.slice none 0 0, .int .i64 0, .int .i64 0, .int .i64 0, .int .i64 0, .bool false], .agg #[.int .i64 0, .int .i64 0], .string ByteArray.empty, .int .i64 0], []⟩).memory Tryd.f3.params.toList Rows.fnExactAppendEntrySpec.vars false #[.agg #[.slice none 0 0, .int .i64 0, .int .i64 0, .int .i64 0, .int .i64 0, .bool false], .agg #[.int .i64 0, .int .i64 0], .string ByteArray.empty, .int .i64 0].toList 8).map (fun x => (x.1, x.2.1)) = some ([.agg [.nil, .lit (.int .i64 0), .lit (.int .i64 0), .lit (.int .i64 0), .lit (.int .i64 0), .lit (.bool false)], .agg [.lit (.int .i64 0), .lit (.int .i64 0)], .lit (.string []), .lit (.int .i64 0)], []) := by kernel_rfl
  obtain ⟨⟨x1, x2, x3⟩, hx, hx1⟩ := Option.map_eq_some_iff.1 hw
  simp only [Prod.mk.injEq] at hx1
  obtain ⟨rfl, rfl⟩ := hx1
  exact OpenSpec.preRow_of_cond 8 hx (by kernel_rfl) (fun k hk => by cases hk) (by kernel_rfl) (laid_met os)
set_option maxRecDepth 100000 in
theorem liftedAp (os : Os) (started : os.Started) (H : Type) (enc : TypeId × Value → H) (F : Stop.Interp) :
    ReturnsInHanded {} Tryd.checked os 3 .any ((OpenSpec.ofChange Rows.fnExactAppendEntrySpec).preRow enc Tryd.prog Tryd.f3 Rows.fnExactAppendEntryRow.domain false Rows.fnExactAppendEntryRow.laid) (((OpenSpec.ofChange Rows.fnExactAppendEntrySpec).at F).post enc Tryd.prog Tryd.f3 false true false false) := by
  refine returnsInHanded_of_row (C := Tryd.checked) (s := OpenSpec.ofChange Rows.fnExactAppendEntrySpec) lawOwn started (by kernel_rfl) Tryd.func3
    (witness_row_atRef (enc := enc) (C := Tryd.checked) false ({ (World.holding Tryd.prog os ⟨#[], #[], []⟩) with heap := (((World.holding Tryd.prog os ⟨#[], #[], []⟩).heap.modify 3 fun _ => .cells (tb32.map fun z => Value.int .u8 z).toArray 220 (0, 0)).modify 4 fun _ => .cells (tb64.map fun z => Value.int .u8 z).toArray 221 (0, 0)).modify 2 fun _ => .cells (Lib.pow10Tab.map fun z => Value.int .u64 z).toArray 214 (0, 0) } : World) #[.agg #[.slice none 0 0, .int .i64 0, .int .i64 0, .int .i64 0, .int .i64 0, .bool false], .agg #[.int .i64 0, .int .i64 0], .string ByteArray.empty, .int .i64 0] rfl (by kernel_rfl) (by kernel_rfl) (by kernel_rfl) (witnessAp os enc)) ?_
  intro W base args ds gs before hval hW _ _ _ hL _ _
  exact contractAp H enc W base args ds gs before hval hW hL
theorem saidAp : Rows.FnExactAppendEntrySaid :=
  OpenClaim.holds_of_cond 3 Tryd.f3 rfl rfl rfl rfl rfl rfl rfl ⟨rfl, rfl, rfl, rfl, rfl⟩ rfl rfl rfl rfl rfl (by kernel_rfl) Tryd.func3 (by kernel_rfl)
    (of_decide_eq_true (by kernel_rfl)) (by unfold Func.isWrapper; first | (rw [if_pos (by decide +kernel)]; kernel_rfl) | (rw [if_neg (by decide +kernel)]; exact ⟨rfl, rfl⟩))
    (fun os started H enc _ F => by rw [OpenClaim.pre_eq_preRow]; exact liftedAp os started H enc F)
theorem plainAp (f : FuncId) (fn : Func) (hf : Tryd.pinned.checked.prog.funcNamed "loop.example/s02884/laws.FnExactAppendEntry" = some f) (hfn : Tryd.pinned.checked.prog.funcs[f]? = some fn) :
    false = Tryd.pinned.checked.prog.looks [] ∧ ∀ (j : Nat) t, fn.params[j]? = some t → Tryd.pinned.checked.prog.wantsStandIn t = false := by
  obtain rfl : f = 3 := Option.some.inj ((show Tryd.prog.funcNamed "loop.example/s02884/laws.FnExactAppendEntry" = some 3 by kernel_rfl).symm.trans hf) |>.symm
  obtain rfl : fn = Tryd.f3 := (Option.some.inj (Tryd.func3.symm.trans hfn)).symm
  refine ⟨by kernel_rfl, fun j t ht => ?_⟩
  rw [Tryd.params3] at ht
  have h4 : t = 24 ∨ t = 26 ∨ t = 9 ∨ t = 3 := by simpa using Array.mem_of_getElem? ht
  rcases h4 with rfl | rfl | rfl | rfl
  · exact (show Tryd.prog.wantsStandIn 24 = false by kernel_rfl)
  · exact (show Tryd.prog.wantsStandIn 26 = false by kernel_rfl)
  · exact (show Tryd.prog.wantsStandIn 9 = false by kernel_rfl)
  · exact (show Tryd.prog.wantsStandIn 3 = false by kernel_rfl)
/-- The card of the law. -/
theorem ap_card : Rows.FnExactAppendEntryCardSaid :=
  Claim7.holds_tied_plain_at .later [] _ _ _ _ saidAp (fun _ h => by cases h) (by kernel_rfl) (fun _ h => by cases h) fnExactAppendEntry_row_tie rfl ⟨rfl, rfl⟩ (by kernel_rfl) rfl plainAp (by kernel_rfl)
#print axioms ap_card
end Go.Proofs.YtdbcihebhgpblaaDoor
