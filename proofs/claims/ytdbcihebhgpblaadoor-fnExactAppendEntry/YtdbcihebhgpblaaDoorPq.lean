/-
  The law on AppendEntry.
-/
import Derived.Test.YtdbcihebhgpblaaDoorPr
import Derived.Test.YtdbcihebhgpblaaDoorPs
import Derived.Test.YtdbcihebhgpblaaDoorPt
namespace Go.Proofs.YtdbcihebhgpblaaDoor
open Go.RowKit
set_option maxRecDepth 20000 in
set_option maxHeartbeats 16000000 in
theorem lawApL (a : Option Addr) (c : Nat) (L : List Fil) (x1 x2 x3 x4 : Int) (x5 : Bool) (l s : Int) (en : ByteArray) (mo : Int) (w : World) (h : FX w a L.length (nthF L)) (hq1 : en.size ≤ 9223372036854775807) (hT : T10 w) :
    Calls Tryd.prog 3 #[.agg #[.slice a L.length c, .int .i64 x1, .int .i64 x2, .int .i64 x3, .int .i64 x4, .bool x5], .agg #[.int .i64 l, .int .i64 s], .string en, .int .i64 mo] w fun e w' => e = .returned (.bool true) ∧ Below w.heap.size w w' := by
  have hb0 := bstep (bal w (.cells #[.slice a L.length c, .int .i64 x1, .int .i64 x2, .int .i64 x3, .int .i64 x4, .bool x5] 24)) (bal (w.alloc (.cells #[.slice a L.length c, .int .i64 x1, .int .i64 x2, .int .i64 x3, .int .i64 x4, .bool x5] 24)) (.cells #[.int .i64 l, .int .i64 s] 26))
  have hX0 := rowL (heap_alloc_new w (.cells #[.slice a L.length c, .int .i64 x1, .int .i64 x2, .int .i64 x3, .int .i64 x4, .bool x5] 24)) (bal (w.alloc (.cells #[.slice a L.length c, .int .i64 x1, .int .i64 x2, .int .i64 x3, .int .i64 x4, .bool x5] 24)) (.cells #[.int .i64 l, .int .i64 s] 26))
  have hY0 := heap_alloc_new (w.alloc (.cells #[.slice a L.length c, .int .i64 x1, .int .i64 x2, .int .i64 x3, .int .i64 x4, .bool x5] 24)) (.cells #[.int .i64 l, .int .i64 s] 26)
  rw [World.size_alloc] at hY0
  go_enter Tryd.func3, Tryd.ntmps3
  by_cases hen : en.size ≤ 1048576
  rotate_left
  · have hen' : (1048576 : Int) < en.size := by omega
    go_wp2
    go_ret
    exact ⟨rfl, hb0⟩
  have hen' : ¬ (1048576 : Int) < en.size := by omega
  go_upto_region 7 with (go_at_call 5; refine (szFs_any a L.length c (nthF L) x1 x2 x3 x4 x5 _ (h.later hb0) 1048576 (by omega) (by omega)).mono ?_; rintro e w1 ⟨hb1, r, rfl, hr⟩; by_cases hr0 : (0 : Int) ≤ r)
  rotate_left
  · go_wp2
    go_ret
    exact ⟨rfl, bstep hb0 hb1⟩
  have hr' := hr hr0
  have hS : Small L.length (nthF L) := by unfold Small; omega
  have hsum : sumL L ≤ 1048576 := by have := sumD_list L; omega
  have hn := hS.n
  have hf := h.fl
  have hc1 := bstep hb0 hb1
  have hX1 := rowL hX0 hb1
  have hY1 := rowL hY0 hb1
  obtain ⟨M, z1, z2, z3, z4, z5, lr, sr, zc, hrn, hspc, himp⟩ := bothA L x1 x2 x3 x4 x5 l s en mo hen hS hsum
  have HSP : Hid (∀ w b c, FL w (some ⟨b, 0, none⟩) L.length (nthF L) → Calls Tryd.prog 6 #[.agg #[.slice (some ⟨b, 0, none⟩) L.length c, .int .i64 x1, .int .i64 x2, .int .i64 x3, .int .i64 x4, .bool x5], .agg #[.int .i64 l, .int .i64 s], .string en, .int .i64 mo] w (RE M z1 z2 z3 z4 z5 lr sr zc w)) := hspc
  have HIM : Hid (∀ w b c, T10 w → FL w (some ⟨b, 0, none⟩) L.length (nthF L) → Calls Tryd.prog 9 #[.agg #[.slice (some ⟨b, 0, none⟩) L.length c, .int .i64 x1, .int .i64 x2, .int .i64 x3, .int .i64 x4, .bool x5], .agg #[.int .i64 l, .int .i64 s], .string en, .int .i64 mo] w (RE M z1 z2 z3 z4 z5 lr sr zc w)) := himp
  clear hspc himp
  refine Code.wp_mono ?_ (regA a c L x1 x2 x3 x4 x5 l s en mo w w1 M z1 z2 z3 z4 z5 lr sr zc hf hn hc1 hX1 hY1 HSP _ _ _ _ _ _ _ _ _ _ _ _ _ _ _ _ _ _ _ _ _ _ _ _ _ _ _ _ _ _ _ _ _ _ _ _ _ _ _ _ _ _ _ _ _ _ _ _ _ _ _ _ _ _ _ _ _ _ _ _ _ _ _ _ _ _ _ _ _ _ _ _ _ _ _ _ _ _ _ _ _ _ _ _ _ _ _ _ _ _ _ _ _ _ _ _ _ _ _ _ _ _ _ _ _ _ _ _ _ _ _ _ _ _ _ _ _ _ _ _ _ _ _ _ _ _ _ _ _)
  intro e a' w5 hq
  cases e
  all_goals first | exact hq.elim | skip
  obtain ⟨Q, Ql, av, cv, u31, u32, u33, u34, u35, u36, u37, u38, u39, u40, u41, rfl, h65, hl5, hO5, hQge, hQlge, hb5⟩ := hq
  simp only [Exit.then]
  go_at_K
  have hX5 := rowL hX1 hb5
  have hY5 := rowL hY1 hb5
  have hc5 := bstep hc1 hb5
  have hQl : Q < w5.heap.size := (Array.getElem?_eq_some_iff.1 h65).1
  have hQll : Ql < w5.heap.size := (Array.getElem?_eq_some_iff.1 hl5).1
  have hlt4 : ∀ q, (Value.slice av M.length cv).ownBlock = some q → q < w5.heap.size := fun q e => (hO5.lt q e).2
  have hwX : w.heap.size + 1 < w5.heap.size := (Array.getElem?_eq_some_iff.1 hY5).1
  obtain ⟨k0, k1, k2, k3, k4, k5⟩ := B6.of hX5
  go_upto_region 9 with (go_at_call 7; refine (toFs_any a L.length c (nthF L) x1 x2 x3 x4 x5 _ (hf.later hc5) hn).mono ?_; rintro e w6 ⟨g7, hg7, rfl, hR6, hb6⟩)
  have hb7 := bal w6 (.cells #[.slice (some ⟨g7, 0, none⟩) L.length L.length, .int .i64 x1, .int .i64 x2, .int .i64 x3, .int .i64 x4, .bool x5] 30)
  have h77 := heap_alloc_new w6 (.cells #[.slice (some ⟨g7, 0, none⟩) L.length L.length, .int .i64 x1, .int .i64 x2, .int .i64 x3, .int .i64 x4, .bool x5] 30)
  have hR7 := hR6.later hb7
  have h67 := rowL h65 (bstep hb6 hb7)
  have hl7 := rowL hl5 (bstep hb6 hb7)
  have hO7 := hO5.later (bstep hb6 hb7)
  have hX7 := rowL hX5 (bstep hb6 hb7)
  have hY7 := rowL hY5 (bstep hb6 hb7)
  have hc7 := bstep hc5 (bstep hb6 hb7)
  have hs6 := hb6.size
  have hg7l : g7 < w6.heap.size := (Array.getElem?_eq_some_iff.1 hR6).1
  obtain ⟨W7, hW7⟩ : ∃ W7, w6.alloc (.cells #[.slice (some ⟨g7, 0, none⟩) L.length L.length, .int .i64 x1, .int .i64 x2, .int .i64 x3, .int .i64 x4, .bool x5] 30) = W7 := ⟨_, rfl⟩
  have hs7 : w6.heap.size < W7.heap.size := by rw [← hW7]; simp
  rw [hW7] at h77 hR7 h67 hl7 hO7 hX7 hY7 hc7 ⊢
  clear hW7 hb7 k0 k1 k2 k3 k4 k5
  refine Code.wp_mono ?_ (regB L x1 x2 x3 x4 x5 l s en mo w W7 M z1 z2 z3 z4 z5 lr sr zc hc7 hY7 hT HIM g7 w6.heap.size h77 hR7 _ _ _ _ _ _ _ _ _ _ _ _ _ _ _ _ _ _ _ _ _ _ _ _ _ _ _ _ _ _ _ _ _ _ _ _ _ _ _ _ _ _ _ _ _ _ _ _ _ _ _ _ _ _ _ _ _ _ _ _ _ _ _ _ _ _ _ _ _ _ _ _ _ _ _ _ _ _ _ _ _ _ _ _ _ _ _ _ _ _ _ _ _ _ _ _ _ _ _ _ _ _ _ _ _ _ _ _ _ _ _ _ _ _ _ _ _ _ _ _ _ _ _ _ _ _ _ _ _)
  intro e a' Wa hq
  cases e
  all_goals first | exact hq.elim | skip
  obtain ⟨Q9, Q9l, a9, c9, u44, u45, u46, u47, u48, u49, u50, u51, u52, u53, rfl, h9a, hma, hOa, hQ9, hQ9m, hba⟩ := hq
  simp only [Exit.then]
  go_at_K
  have h6a := rowL h67 hba
  have hla := rowL hl7 hba
  have h7a := rowL h77 hba
  have hO6a := hO7.later hba
  have hRa := hR7.later hba
  have hXa := rowL hX7 hba
  have hYa := rowL hY7 hba
  have hca := bstep hc7 hba
  have hsa := hba.size
  have hQ9a : Q9 < Wa.heap.size := (Array.getElem?_eq_some_iff.1 h9a).1
  have hge9 : ∀ q, (Value.slice a9 M.length c9).ownBlock = some q → W7.heap.size ≤ q ∧ q < Wa.heap.size := fun q e => hOa.lt q e
  have hq9 : ∀ q, (Value.slice a9 M.length c9).ownBlock = some q → q ≠ Q9 ∧ q ≠ Q9l := fun q e => by
    rcases hOa.2 with ⟨e1, _⟩ | ⟨g1, cap1, cur1, e1, _, hg1, _⟩
    · rw [e1] at e; simp [Value.ownBlock] at e
    · rw [e1] at e
      have e2 : g1 = q := by simpa [Value.ownBlock] using e
      rw [e2] at hg1
      constructor
      · rintro rfl; rw [h9a] at hg1; simp at hg1
      · rintro rfl; rw [hma] at hg1; simp at hg1
  obtain ⟨k0, k1, k2, k3, k4, k5⟩ := B6.of h9a
  obtain ⟨j0, j1, j2, j3, j4, j5⟩ := B6.of h6a
  go_upto_region 12 with (first | (go_at_call 10; refine (eqFs_any a9 av M.length c9 cv (nthF M) z1 z2 z3 z4 z5 _ hOa.fl hO6a.fl hrn).mono ?_; rintro e wb1 ⟨rfl, hbb1⟩; have qa := rowL hma hbb1; have qb := rowL hla hbb1; obtain ⟨qc0, qc1⟩ := B2.of qa; obtain ⟨pc0, pc1⟩ := B2.of qb) | (go_at_call 11; refine (eqLog lr sr _).mono ?_; rintro e wb ⟨rfl, hbb2⟩))
  clear k0 k1 k2 k3 k4 k5 j0 j1 j2 j3 j4 j5 qc0 qc1 pc0 pc1 qa qb
  have hbb := bstep hbb1 hbb2
  have h9b := rowL h9a hbb
  have hmb := rowL hma hbb
  have h6b := rowL h6a hbb
  have hlb := rowL hla hbb
  have h7b := rowL h7a hbb
  have hXb := rowL hXa hbb
  have hYb := rowL hYa hbb
  have hOb := hOa.later hbb
  have hO6b := hO6a.later hbb
  have hRb := hRa.later hbb
  have hcb := bstep hca hbb
  have hsb := hbb.size
  have hB7 := B6.of h7b
  have hBX := B6.of hXb
  refine wp_region_held_drew (S := fun x => Below wb.heap.size wb x) (by kernel_rfl) (bdrew1 _) (fun hHeld => ?_)
  refine' takeF (i := 0) (oi := ({ dst := some 69, op := Op.load 30 (Operand.tmp 13), type := 30, pos := "exact.go:2136", after := #[], guard := none } : Oper)) rfl ⟨by rfl, fun x hSw => ?h1⟩ hHeld ?r1
  case h1 =>
    obtain ⟨p0, p1, p2, p3, p4, p5⟩ := hB7.later hSw; obtain ⟨q0, q1, q2, q3, q4, q5⟩ := hBX.later hSw
    go_simp
    try with_reducible rfl
  try simp only [Act.put, List.setIfInBounds_toArray, List.set_cons_zero, List.set_cons_succ]
  refine' takeF (i := 1) (oi := ({ dst := some 70, op := Op.load 24 (Operand.tmp 4), type := 24, pos := "exact.go:2136", after := #[], guard := none } : Oper)) rfl ⟨by rfl, fun x hSw => ?h2⟩ hHeld ?r2
  case h2 =>
    obtain ⟨p0, p1, p2, p3, p4, p5⟩ := hB7.later hSw; obtain ⟨q0, q1, q2, q3, q4, q5⟩ := hBX.later hSw
    go_simp
    try with_reducible rfl
  try simp only [Act.put, List.setIfInBounds_toArray, List.set_cons_zero, List.set_cons_succ]
  refine wpAnyH_ready (rs := [2]) (by kernel_rfl) (by simp) ?_
  refine AllReadyH.cons (o := ({ dst := some 71, op := Op.call { callee := Callee.value (Operand.func 7), args := #[Operand.tmp 70], argTypes := #[24] }, type := 30, pos := "exact.go:2136", after := #[{ on := 1, ground := Ground.data }], guard := none } : Oper)) rfl (fun K hK => ?_) AllReadyH.nil
  go_simp
  refine (toFs_any a L.length c (nthF L) x1 x2 x3 x4 x5 _ (hf.later (bstep hcb hHeld)) hn).mono ?_
  rintro e wc ⟨gc, hgc, rfl, hRc, hbc⟩
  refine hK.out _ _ (bstep hHeld hbc) (fun hHeld => ?_)
  clear hK K
  try simp only [Act.put, List.setIfInBounds_toArray, List.set_cons_zero, List.set_cons_succ]
  refine wpAnyH_ready (rs := [3]) (by kernel_rfl) (by simp) ?_
  refine AllReadyH.cons (o := ({ dst := some 72, op := Op.call { callee := Callee.value (Operand.func 10), args := #[Operand.tmp 69, Operand.tmp 71], argTypes := #[30, 30] }, type := 4, pos := "exact.go:2136", after := #[{ on := 0, ground := Ground.data }, { on := 2, ground := Ground.data }, { on := 2, ground := Ground.chain }], guard := none } : Oper)) rfl (fun K hK => ?_) AllReadyH.nil
  go_simp
  refine (eqFs_any _ _ L.length L.length L.length (nthF L) x1 x2 x3 x4 x5 _ (hRb.later hHeld).fl hRc.fl hn).mono ?_
  rintro e wd ⟨rfl, hbd⟩
  refine hK.out _ _ (bstep hHeld hbd) (fun hHeld => ?_)
  clear hK K
  try simp only [Act.put, List.setIfInBounds_toArray, List.set_cons_zero, List.set_cons_succ]
  refine' takeF (i := 4) (oi := ({ dst := some 73, op := Op.unOp UnOp.not 4 (Operand.tmp 72), type := 4, pos := "exact.go:2136", after := #[{ on := 3, ground := Ground.data }], guard := none } : Oper)) rfl ⟨by rfl, fun x hSw => ?h3⟩ hHeld ?r3
  case h3 =>
    go_simp
    try with_reducible rfl
  try simp only [Act.put, List.setIfInBounds_toArray, List.set_cons_zero, List.set_cons_succ]
  refine wpAnyH_done (by kernel_rfl) ?_ _
  have h9f := rowL h9b hHeld
  have hmf := rowL hmb hHeld
  have h6f := rowL h6b hHeld
  have hlf := rowL hlb hHeld
  have h7f := rowL h7b hHeld
  have hXf := rowL hXb hHeld
  have hYf := rowL hYb hHeld
  have hOf := hOb.later hHeld
  have hO6f := hO6b.later hHeld
  have hRf := hRb.later hHeld
  have hcf := bstep hcb hHeld
  have hsf := hHeld.size
  obtain ⟨k0, k1, k2, k3, k4, k5⟩ := B6.of h7f
  have hOx : OwnF wd w.heap.size (.slice (some ⟨g7, 0, none⟩) L.length L.length) L.length (nthF L) := OwnF.of hRf (by omega) hn
  go_upto_region 16 with (go_at_call 12; refine (markFs_any _ L.length L.length 1 _ (nthF L) x1 x2 x3 x4 x5 _ hOx hn (by omega) (by omega)).mono ?_; rintro e wg ⟨rfl, hOg, hgg⟩)
  clear k0 k1 k2 k3 k4 k5
  have h9g := rowG h9f hgg (by simp [Value.ownBlock]; omega)
  have hmg := rowG hmf hgg (by simp [Value.ownBlock]; omega)
  have h6g := rowG h6f hgg (by simp [Value.ownBlock]; omega)
  have hlg := rowG hlf hgg (by simp [Value.ownBlock]; omega)
  have hXg := rowG hXf hgg (by simp [Value.ownBlock]; omega)
  have hYg := rowG hYf hgg (by simp [Value.ownBlock]; omega)
  have hOh9 : OwnF wg W7.heap.size (.slice a9 M.length c9) M.length (nthF M) := World.ownsRow.kept hOf hgg (.inr (fun e => by have := (hge9 g7 e).1; omega))
  have hOh6 : OwnF wg _ (.slice av M.length cv) M.length (nthF M) := World.ownsRow.kept hO6f hgg (.inr (fun e => by have := hlt4 g7 e; omega))
  have hcg := hcf.grown hgg (by have := hcf.size; omega) (fun k e => by have h1 : g7 = k := (by simpa [Value.ownBlock] using e); omega)
  have hsg := hgg.size
  obtain ⟨k0, k1, k2, k3, k4, k5⟩ := B6.of h9g
  obtain ⟨j0, j1, j2, j3, j4, j5⟩ := B6.of h6g
  go_upto_region 19 with (first | (go_at_call 10; refine (eqFs_any a9 av M.length c9 cv (nthF M) z1 z2 z3 z4 z5 _ hOh9.fl hOh6.fl hrn).mono ?_; rintro e wi1 ⟨rfl, hbi1⟩; have qa := rowL hmg hbi1; have qb := rowL hlg hbi1; obtain ⟨qc0, qc1⟩ := B2.of qa; obtain ⟨pc0, pc1⟩ := B2.of qb) | (go_at_call 11; refine (eqLog lr sr _).mono ?_; rintro e wi ⟨rfl, hbi2⟩))
  clear k0 k1 k2 k3 k4 k5 j0 j1 j2 j3 j4 j5 qc0 qc1 pc0 pc1 qa qb
  have hbi := bstep hbi1 hbi2
  have h9i := rowL h9g hbi
  have hmi := rowL hmg hbi
  have h6i := rowL h6g hbi
  have hli := rowL hlg hbi
  have hXi := rowL hXg hbi
  have hYi := rowL hYg hbi
  have hOi9 := hOh9.later hbi
  have hOi6 := hOh6.later hbi
  have hci := bstep hcg hbi
  have hsi := hbi.size
  obtain ⟨k0, k1, k2, k3, k4, k5⟩ := B6.of h9i
  go_upto_region 21 with (go_at_call 12; refine (markFs_any _ M.length c9 1 _ (nthF M) z1 z2 z3 z4 z5 _ hOi9 hrn (by omega) (by omega)).mono ?_; rintro e wj ⟨rfl, hOj, hgj⟩)
  clear k0 k1 k2 k3 k4 k5
  have h9j := rowG h9i hgj (fun e => (hq9 _ e.symm).1 rfl)
  have hmj := rowG hmi hgj (fun e => (hq9 _ e.symm).2 rfl)
  have h6j := rowG h6i hgj (fun e => by have := hge9 _ e.symm; omega)
  have hlj := rowG hli hgj (fun e => by have := hge9 _ e.symm; omega)
  have hXj := rowG hXi hgj (fun e => by have := hge9 _ e.symm; omega)
  have hYj := rowG hYi hgj (fun e => by have := hge9 _ e.symm; omega)
  have hOj6 : OwnF wj _ (.slice av M.length cv) M.length (nthF M) := World.ownsRow.kept hOi6 hgj (by
    rcases hq : (Value.slice a9 M.length c9).ownBlock with _ | q
    · rcases hq6 : (Value.slice av M.length cv).ownBlock with _ | q
      · exact .inl rfl
      · exact .inr (by simp)
    · exact .inr (fun e => by have := hlt4 q e; have := hge9 q hq; omega))
  have hcj := hci.grown hgj (by have := hci.size; omega) (fun k e => by have := hge9 k e; omega)
  have hsj := hgj.size
  obtain ⟨k0, k1, k2, k3, k4, k5⟩ := B6.of h9j
  go_upto_region 26 with (go_at_call 13; refine (heldFs_any M.length c9 1 _ z1 z2 z3 z4 z5 _ hOj.fl hrn (by omega) (by omega)).mono ?_; rintro e wk ⟨rfl, hbk⟩)
  clear k0 k1 k2 k3 k4 k5
  have h6k := rowL h6j hbk
  have hlk := rowL hlj hbk
  have hXk := rowL hXj hbk
  have hYk := rowL hYj hbk
  have hOk6 := hOj6.later hbk
  have hck := bstep hcj hbk
  refine Code.wp_mono ?_ (regC a c L x1 x2 x3 x4 x5 l s en mo w wk M z1 z2 z3 z4 z5 lr sr zc hf hn hck hXk hYk hT HIM _ _ _ _ _ _ _ _ _ _ _ _ _ _ _ _ _ _ _ _ _ _ _ _ _ _ _ _ _ _ _ _ _ _ _ _ _ _ _ _ _ _ _ _ _ _ _ _ _ _ _ _ _ _ _ _ _ _ _ _ _ _ _ _ _ _ _ _ _ _ _ _ _ _ _ _ _ _ _ _ _ _ _ _ _ _ _ _ _ _ _ _ _ _ _ _ _ _ _ _ _ _ _ _ _ _ _ _ _ _ _ _ _ _ _ _ _ _ _ _ _ _ _ _ _ _ _ _ _)
  intro e a' wo hq
  cases e
  all_goals first | exact hq.elim | skip
  obtain ⟨Qe, Qel, ae, ce, u107, u108, u109, u110, u111, u112, u113, u114, u115, u116, u117, rfl, h13, hmo, hOo, hQe, hQel, hbo⟩ := hq
  simp only [Exit.then]
  go_at_K
  have h6o := rowL h6k hbo
  have hlo := rowL hlk hbo
  have hOo6 := hOk6.later hbo
  have hco := bstep hck hbo
  obtain ⟨k0, k1, k2, k3, k4, k5⟩ := B6.of h13
  obtain ⟨j0, j1, j2, j3, j4, j5⟩ := B6.of h6o
  go_wp2_with (first | (go_at_call 10; refine (eqFs_any ae av M.length ce cv (nthF M) z1 z2 z3 z4 z5 _ hOo.fl hOo6.fl hrn).mono ?_; rintro e wp1 ⟨rfl, hbp1⟩; have qa := rowL hmo hbp1; have qb := rowL hlo hbp1; obtain ⟨qc0, qc1⟩ := B2.of qa; obtain ⟨pc0, pc1⟩ := B2.of qb) | (go_at_call 11; refine (eqLog lr sr _).mono ?_; rintro e wp ⟨rfl, hbp2⟩))
  go_ret
  exact ⟨rfl, bstep hco (bstep hbp1 hbp2)⟩
theorem lawAp (a : Option Addr) (n c : Nat) (F : Nat → Fil) (x1 x2 x3 x4 : Int) (x5 : Bool) (l s : Int) (en : ByteArray) (mo : Int) (w : World) (h : FX w a n F) (hq1 : en.size ≤ 9223372036854775807) (hT : T10 w) :
    Calls Tryd.prog 3 #[.agg #[.slice a n c, .int .i64 x1, .int .i64 x2, .int .i64 x3, .int .i64 x4, .bool x5], .agg #[.int .i64 l, .int .i64 s], .string en, .int .i64 mo] w fun e w' => e = .returned (.bool true) ∧ Below w.heap.size w w' := by
  obtain ⟨L, hL, hF⟩ : ∃ L : List Fil, L.length = n ∧ ∀ k, k < n → nthF L k = F k := ⟨(List.range n).map F, by simp, fun k hk => by simp [nthF, hk]⟩
  subst hL
  exact lawApL a c L x1 x2 x3 x4 x5 l s en mo w ⟨h.1, fun k hk => by rw [hF k hk]; exact h.2 k hk⟩ hq1 hT
end Go.Proofs.YtdbcihebhgpblaaDoor
