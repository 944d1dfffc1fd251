/-
  ScanFrames: the program's side.
-/
import Derived.Test.YtlilmbeehmjpkaaHd
namespace Go.Proofs.Ytlilmbeehmjpkaa
open Go.RowKit Go.Shelf
attribute [local go_sem] Oper.semAt_some
theorem frames_stops (n : Nat) (hn : 2 ≤ n) (Bn : Nat) (s : ByteArray) (hs : s.size ≤ 1048576) (xs : List ByteArray) (bE : Nat) (hC : Ch s 0 xs bE) (hE : (fst (rst s bE)).size = 0) (w : World) (hBn : Bn < w.heap.size) (hc : w.cell? ⟨Bn, 0, none⟩ = some (.string s)) :
    SeqStopsK Fence.wide n Try.prog 20 #[.pointer (some ⟨Bn, 0, none⟩)] (fun x : ByteArray => #[Value.string x]) KT (fun ys => ys = xs) (fun pre => pre <+: xs) xs.length w := fun l J Jx W hW hJ _ hY h0 =>
  frames1 n hn l Bn s hs xs bE hC hE J Jx W hJ hY ((hW.cell (p := ⟨Bn, 0, none⟩) hBn).trans hc) h0
theorem frames_any (s : ByteArray) (w : World) : Calls Try.prog 13 #[.string s] w fun e w' => e = .returned (.func (.func 20) #[] #[.pointer (some ⟨w.heap.size, 0, none⟩)]) ∧ w' = w.alloc (.cells #[.string s] 9) := by
  go_enter Try.func13, Try.ntmps13
  go_wp2
  go_ret
  exact ⟨rfl, rfl⟩
theorem KT.b {w : World} (W : World) (l : Nat) (o o' : Obj) (_h : w.heap.size ≤ l) (hl : W.heap[l]? = some o) (ho : o.isCells = false) (_hw : o.isWalk = false) : KT W (W.putObj l o') := fun b X hX => by
  refine ((grownBy_putObj' W l o').block b (Array.getElem?_eq_some_iff.1 hX).1 ?_).trans hX
  intro e
  obtain rfl : b = l := by simpa using e
  rw [hX] at hl
  cases hl
  cases ho
/-- How many bytes, as they are counted. -/
def tw (L : List ByteArray) : Int := L.foldl (fun a x => wrap64 (a + wrap64 (8 + (x.size : Int)))) 0
theorem tw_snoc (L : List ByteArray) (x : ByteArray) : tw (L ++ [x]) = wrap64 (tw L + wrap64 (8 + (x.size : Int))) := by simp [tw]
theorem tw_ch {s : ByteArray} (hs : s.size ≤ 1048576) {L : List ByteArray} {a b : Nat} (h : Ch s a L b) (hb : b ≤ s.size) (c : Int) (hc : c = (a : Int)) : L.foldl (fun a x => wrap64 (a + wrap64 (8 + (x.size : Int)))) c = (b : Int) ∧ a ≤ b := by
  induction L generalizing a c with
  | nil =>
    obtain rfl : a = b := h
    exact ⟨hc, Nat.le_refl _⟩
  | cons x xs ih =>
    obtain ⟨h1, h2, h3⟩ := h
    have key : ∀ c', c' = ((a + (8 + x.size) : Nat) : Int) → _ := fun c' hc' => ih h3 c' hc'
    have hle := (key _ rfl).2
    have e : wrap64 (c + wrap64 (8 + (x.size : Int))) = ((a + (8 + x.size) : Nat) : Int) := by
      unfold wrap64
      omega
    rw [List.foldl_cons, e]
    exact ⟨(key _ rfl).1, by omega⟩
/-- Tables are kept by an append of strings and two stores into boxes of other types. -/
theorem KT.step {W w1 : World} {n₀ B B' k : Nat} {v v' u' x : Value} {xs : List Value} {tmp : Obj} (hv : Boxed W B 23 v) (hz : Boxed W B' 3 x) (hrow : W.ownsRow n₀ 9 1 v k xs) (hgrow : (W.alloc tmp).grownBy w1 v.ownBlock) :
    KT W ((w1.setCell ⟨B, 0, none⟩ v').setCell ⟨B', 0, none⟩ u') := fun b X hX => by
  have hlt := (Array.getElem?_eq_some_iff.1 hX).1
  have h1 : (W.alloc tmp).heap[b]? = some (.cells X 56 (0, 0)) := (Below.heap_alloc W tmp b hlt).trans hX
  have h2 : w1.heap[b]? = some (.cells X 56 (0, 0)) := by
    refine (hgrow.block b (by simp; omega) ?_).trans h1
    rcases hrow.2 with ⟨rfl, _⟩ | ⟨g, cap, cur, rfl, _, hgb, _⟩
    · simp [Value.ownBlock]
    · intro e'
      obtain rfl : b = g := by simpa [Value.ownBlock] using e'
      rw [hX] at hgb
      simp at hgb
  have hB : b ≠ B := fun e => by
    subst e
    have := (show W.heap[b]? = _ from hv).symm.trans hX
    simp at this
  have hB' : b ≠ B' := fun e => by
    subst e
    have := (show W.heap[b]? = _ from hz).symm.trans hX
    simp at this
  exact (heap_setCell_other _ _ _ _ hB').trans ((heap_setCell_other _ _ _ _ hB).trans h2)
set_option maxRecDepth 100000 in
set_option maxHeartbeats 4000000 in
theorem iScan_in (s : ByteArray) (hs : s.size ≤ 1048576) (xs : List ByteArray) (bE : Nat) (hC : Ch s 0 xs bE) (hE : (fst (rst s bE)).size = 0) (hbE : bE ≤ s.size) (hxl : xs.length ≤ bE) (w : World) :
    CallsIn Fence.wide 5 Try.prog 7 #[.string s] w fun e w' => ∃ g cap, e = .returned (.tuple #[.slice (some ⟨g, 0, none⟩) xs.length cap, .int .i64 (bE : Nat)]) ∧ OwnS w' w.heap.size g cap xs ∧ Below w.heap.size w w' := by
  obtain ⟨i0, hi, hz0, hz1, hz2⟩ := info_parts Try.infoS
  have HI : Hid (Try.prog.info? 9 = some i0) := hi
  clear hi
  refine callsIn_of_wp_marks Try.func7 rfl trivial ?_ rfl
  simp only [Try.ntmps7, List.size_toArray, List.length_cons, List.length_nil, Nat.reduceAdd, Nat.reduceSub, Array.replicate_succ, Array.replicate_zero, List.push_toArray, List.append_toArray, List.nil_append, List.cons_append]
  gi_wp2_with (refine ⟨trivial, ?_⟩; gi_at_call 13; refine (callsIn_wide.2 (frames_any s _)).mono ?_; rintro e w1 ⟨rfl, rfl⟩)
  have z1 : ((w.alloc (.cells #[] 9)).alloc (.cells #[.slice (some ⟨w.heap.size, 0, none⟩) 0 0] 23)).heap.size = w.heap.size + 1 + 1 := by simp
  have z2 : (((w.alloc (.cells #[] 9)).alloc (.cells #[.slice (some ⟨w.heap.size, 0, none⟩) 0 0] 23)).alloc (.cells #[.int .i64 0] 3)).heap.size = w.heap.size + 1 + 1 + 1 := by simp
  have bE0 := Boxed.new (w.alloc (.cells #[] 9)) 23 (.slice (some ⟨w.heap.size, 0, none⟩) 0 0)
  rw [World.size_alloc] at bE0
  have bZ0 := Boxed.new ((w.alloc (.cells #[] 9)).alloc (.cells #[.slice (some ⟨w.heap.size, 0, none⟩) 0 0] 23)) 3 (.int .i64 0)
  rw [z1] at bZ0
  have bD0 := Boxed.new (((w.alloc (.cells #[] 9)).alloc (.cells #[.slice (some ⟨w.heap.size, 0, none⟩) 0 0] 23)).alloc (.cells #[.int .i64 0] 3)) 9 (.string s)
  rw [z2] at bD0
  have hO0 : (w.alloc (.cells #[] 9)).ownsRow w.heap.size 9 1 (.slice (some ⟨w.heap.size, 0, none⟩) 0 0) 0 [] := World.ownsRow_lit w #[] 0 (Nat.le_refl _) (by simp [maxLen]) rfl
  have hO1 := ((hO0.alloc (.cells #[.slice (some ⟨w.heap.size, 0, none⟩) 0 0] 23)).alloc (.cells #[.int .i64 0] 3)).alloc (.cells #[.string s] 9)
  have hB0 : Below w.heap.size w ((((w.alloc (.cells #[] 9)).alloc (.cells #[.slice (some ⟨w.heap.size, 0, none⟩) 0 0] 23)).alloc (.cells #[.int .i64 0] 3)).alloc (.cells #[.string s] 9)) := bstep (bal _ _) (bstep (bal _ _) (bstep (bal _ _) (bal _ _)))
  have bE1 := (bE0.alloc (.cells #[.int .i64 0] 3)).alloc (.cells #[.string s] 9)
  have bZ1 := bZ0.alloc (.cells #[.string s] 9)
  have z3 : ((((w.alloc (.cells #[] 9)).alloc (.cells #[.slice (some ⟨w.heap.size, 0, none⟩) 0 0] 23)).alloc (.cells #[.int .i64 0] 3)).alloc (.cells #[.string s] 9)).heap.size = w.heap.size + 1 + 1 + 1 + 1 := by simp
  refine wpIn_rangeFunc_ownG rfl (by omega) (gf := 20) (lb := #[.pointer (some ⟨w.heap.size + 1 + 1 + 1, 0, none⟩)]) rfl trivial (enters_of Try.func20 (by kernel_rfl) rfl)
    (frames_stops 4 (by omega) (w.heap.size + 1 + 1 + 1) s hs xs bE hC hE _ (by rw [z3]; omega) bD0.cell) KT.t KT.b (Below.refl _ _) (fun _ => rfl)
    (fun pre W => (∃ v, Boxed W (w.heap.size + 1) 23 v ∧ W.ownsRow w.heap.size 9 1 v pre.length (pre.map Value.string) ∧ (∃ g cap, v = .slice (some ⟨g, 0, none⟩) pre.length cap)) ∧ Boxed W (w.heap.size + 1 + 1) 3 (.int .i64 (tw pre)) ∧ Below w.heap.size w W)
    (fun _ _ _ => False)
    (OwnFrom.and (Own.from (holdsRow_own w.heap.size (w.heap.size + 1) 23 9 1 (fun pre : List ByteArray => pre.length) (fun pre : List ByteArray => pre.map Value.string) (fun (pre : List ByteArray) v => ∃ g cap, v = .slice (some ⟨g, 0, none⟩) pre.length cap)) _) (OwnFrom.and (Own.from (boxed_own _ _ _) _) (ownFrom_below (Nat.le_refl _) (by rw [z3]; omega))))
    (fun _ _ _ _ _ hs _ _ => hs)
    ⟨⟨_, bE1, hO1, ⟨_, _, rfl⟩⟩, bZ1, hB0⟩
    (fun x => { tmps := #[.string s, undef, .slice none 0 0, .int .i64 0, .pointer (some ⟨w.heap.size + 1, 0, none⟩), .pointer (some ⟨w.heap.size + 1 + 1, 0, none⟩), .string x, .slice (some ⟨w.heap.size, 0, none⟩) 0 0, .string s, .func (.func 20) #[] #[.pointer (some ⟨w.heap.size + 1 + 1 + 1, 0, none⟩)], .string x, undef, undef, undef, undef, undef, undef, undef, undef, undef, undef, undef], defers := [] }) ?assign ?body ?done ?stop
  case assign =>
    intro l x W K hK
    gi_wp2
    exact hK
  case body =>
    rintro l pre x W ⟨⟨v, hv, hrow, ⟨g, cap, rfl⟩⟩, hZ, hB⟩ hlt
    have hc := hv.cell
    gi_wp2_with (gi_at_builtin; refine wpListIn_append_own _ rfl _ _ 23 rfl w.heap.size 9 i0 (.string ByteArray.empty) 1 16 Try.underlying23 HI.out hz0 hz1 hz2 rfl (by decide) _ _ _ rfl (hrow.alloc _) ⟨W.heap.size, 0, none⟩ 1 1 [.string x] rfl rfl (cell_one_new _ _ _) (by simp [Value.oneCell']) (by unfold maxLen; omega) (by omega) (by have := hB.size; simp; omega) ?_; intro v' w1 hown' hgrow _; obtain ⟨g', cap', rfl⟩ := ownsRow_succ hown'; obtain ⟨hv1, hv2, hr2, hk2, hb2⟩ := hv.appended (by decide) hrow hB.size (by omega) hown' hgrow; have hc1 := hv1.cell; have hf1 := hv1.frozen; have hZ1 := (hZ.alloc (.cells #[.string x] 9)).kept hgrow (hZ.not_row (by decide) hrow); have hZ2 := hZ1.other (B' := w.heap.size + 1) (by omega) (.slice (some ⟨g', 0, none⟩) (pre.length + 1) cap'); have hc3 := hZ2.cell; have hf3 := hZ2.frozen)
    refine ⟨(hk2.trans (KeepsOthers.setCell _ _ _)).from _, KT.step hv hZ hrow hgrow, ⟨_, hv2.other (by omega) _, ?_, ⟨g', cap', by simp⟩⟩, ?_, ?_⟩
    · have := hr2.kept (grownBy_setCell' _ (w.heap.size + 1 + 1) (.int .i64 (wrap64 (tw pre + wrap64 (8 + (x.size : Int)))))) (.inr (hZ2.not_row (by decide) hr2).symm)
      simpa using this
    · rw [tw_snoc]
      exact hZ2.set _
    · exact (hB.trans hb2).setCell (p := ⟨w.heap.size + 1 + 1, 0, none⟩) (by show w.heap.size ≤ w.heap.size + 1 + 1; omega) _
  case done =>
    rintro D ys W hD rfl ⟨⟨v, hv, hrow, ⟨g, cap, rfl⟩⟩, hZ, hB⟩ hK
    have hc := hv.cell
    have hc2 := hZ.cell
    have htw : tw ys = (bE : Int) := (tw_ch hs hC hbE 0 rfl).1
    rw [htw] at hc2
    gi_wp2
    refine wpIn_wide.2 ?_
    refine wp_region_noPanic ?_
    refine wp_region_held_drew (S := fun x => Below W.heap.size W x) (by kernel_rfl) (bdrew1 _) (fun hHeld => ?_)
    refine' wpAnyH_take (i := 0) (oi := ({ dst := some 20, op := Op.load 23 (Operand.tmp 4), type := 23, pos := "l6_journal.go:142", after := #[], guard := none } : Oper)) (v := _) rfl (by kernel_rfl) (by kernel_rfl) (by kernel_rfl) (fun _ _ _ h => h) (Or.inl ⟨by rfl, fun x hSw => ?hyz1_0⟩) hHeld ?restz1_0
    case hyz1_0 =>
      have j0 := keepB hSw hc; have j1 := keepB hSw hc2
      go_simp
      try with_reducible rfl
    try simp only [Act.put, List.setIfInBounds_toArray, List.set_cons_zero, List.set_cons_succ]
    refine' wpAnyH_take (i := 1) (oi := ({ dst := some 21, op := Op.load 3 (Operand.tmp 5), type := 3, pos := "l6_journal.go:142", after := #[{ on := 2, ground := Ground.gcOnly Departure.lateStores }], guard := none } : Oper)) (v := _) rfl (by kernel_rfl) (by kernel_rfl) (by kernel_rfl) (fun _ _ _ h => h) (Or.inl ⟨by rfl, fun x hSw => ?hyz1_1⟩) hHeld ?restz1_1
    case hyz1_1 =>
      have j0 := keepB hSw hc; have j1 := keepB hSw hc2
      go_simp
      try with_reducible rfl
    try simp only [Act.put, List.setIfInBounds_toArray, List.set_cons_zero, List.set_cons_succ]
    refine' wpAnyH_take (i := 2) (oi := ({ dst := some 2, op := Op.assign (Operand.tmp 20), type := 23, pos := "l6_journal.go:142", after := #[{ on := 0, ground := Ground.data }, { on := 0, ground := Ground.phase }, { on := 1, ground := Ground.textOnly Departure.lateStores }], guard := none } : Oper)) (v := _) rfl (by kernel_rfl) (by kernel_rfl) (by kernel_rfl) (fun _ _ _ h => h) (Or.inl ⟨by rfl, fun x hSw => ?hyz1_2⟩) hHeld ?restz1_2
    case hyz1_2 =>
      have j0 := keepB hSw hc; have j1 := keepB hSw hc2
      go_simp
      try with_reducible rfl
    try simp only [Act.put, List.setIfInBounds_toArray, List.set_cons_zero, List.set_cons_succ]
    refine' wpAnyH_take (i := 3) (oi := ({ dst := some 3, op := Op.assign (Operand.tmp 21), type := 3, pos := "l6_journal.go:142", after := #[{ on := 1, ground := Ground.data }, { on := 2, ground := Ground.chain }, { on := 0, ground := Ground.phase }, { on := 1, ground := Ground.phase }, { on := 2, ground := Ground.phase }], guard := none } : Oper)) (v := _) rfl (by kernel_rfl) (by kernel_rfl) (by kernel_rfl) (fun _ _ _ h => h) (Or.inl ⟨by rfl, fun x hSw => ?hyz1_3⟩) hHeld ?restz1_3
    case hyz1_3 =>
      have j0 := keepB hSw hc; have j1 := keepB hSw hc2
      go_simp
      try with_reducible rfl
    try simp only [Act.put, List.setIfInBounds_toArray, List.set_cons_zero, List.set_cons_succ]
    refine wpAnyH_done (by kernel_rfl) ?_ _
    refine NoPanic.normal ?_
    gi_wp2
    have hK' : W.drew.heap[D]? = some (.deferred (some [])) := hK
    refine ⟨by simp, .inl ⟨_, _, rfl, run_takeDeferred hK', ?_⟩⟩
    have hrow' : W.drew.ownsRow w.heap.size 9 1 (.slice (some ⟨g, 0, none⟩) ys.length cap) ys.length (ys.map Value.string) := own_below hrow (bdrew1 W)
    refine ⟨.tuple #[.slice (some ⟨g, 0, none⟩) ys.length cap, .int .i64 (bE : Nat)], by simp [results, Try.results7, go_sem], g, cap, rfl, ownsRow_putObj hrow' _ hK' rfl, ?_⟩
    exact (hB.trans ((bdrew1 W).mono hB.size)).trans (belowK_b (w := w) (Nat.le_refl _) W.drew D _ _ (by rw [z3] at hD; omega) hK' rfl rfl)
  case stop =>
    rintro D c pre W _ _ h _
    exact h.elim
theorem iScan (s : ByteArray) (hs : s.size ≤ 1048576) (xs : List ByteArray) (bE : Nat) (hC : Ch s 0 xs bE) (hE : (fst (rst s bE)).size = 0) (hbE : bE ≤ s.size) (hxl : xs.length ≤ bE) (w : World) :
    Calls Try.prog 7 #[.string s] w fun e w' => ∃ g cap, e = .returned (.tuple #[.slice (some ⟨g, 0, none⟩) xs.length cap, .int .i64 (bE : Nat)]) ∧ OwnS w' w.heap.size g cap xs ∧ Below w.heap.size w w' :=
  callsIn_wide.1 (iScan_in s hs xs bE hC hE hbE hxl w)
end Go.Proofs.Ytlilmbeehmjpkaa
