/-
  A file system that came in, opened.
-/
import Derived.Test.YtngppfjphbodcaaGreatDoorQl
import Derived.Test.YtngppfjphbodcaaGreatDoorFc
import Derived.OpenShut
import Derived.ShutString
import Derived.Deep.Slices
import Derived.Deep.SlicePairs
import Derived.Deep.Strs
import Derived.Carry
import Derived.Lib.SmallJoins
namespace Go.Proofs.YtngppfjphbodcaaGreatDoor
open Go.RowKit
set_option maxRecDepth 20000 in
set_option maxHeartbeats 16000000 in
theorem lawRec (a : Option Addr) (c : Nat) (L : List Fil) (x1 x2 x3 x4 : Int) (x5 : Bool) (w : World) (h : FX w a L.length (nthF L)) (hT : T10 w) :
    Calls Tryz.prog 3 #[.agg #[.slice a L.length c, .int .i64 x1, .int .i64 x2, .int .i64 x3, .int .i64 x4, .bool x5]] w fun e w' => e = .returned (.bool true) ∧ Below w.heap.size w w' := by
  have hb0 := bal w (.cells #[.slice a L.length c, .int .i64 x1, .int .i64 x2, .int .i64 x3, .int .i64 x4, .bool x5] 24)
  have hX := heap_alloc_new w (.cells #[.slice a L.length c, .int .i64 x1, .int .i64 x2, .int .i64 x3, .int .i64 x4, .bool x5] 24)
  obtain ⟨q10, q11, q12, q13, q14, q15⟩ := B6.of hX
  go_enter Tryz.func3, Tryz.ntmps3
  go_upto_region 5 with (go_at_call 4; refine (szFs_any a L.length c (nthF L) x1 x2 x3 x4 x5 _ (h.later hb0) 1048576 (by omega) (by omega)).mono ?_; rintro e w1 ⟨hb1, r, rfl, hr⟩; by_cases hr0 : (0 : Int) ≤ r)
  rotate_left
  · go_wp2
    go_ret
    exact ⟨rfl, bstep hb0 hb1⟩
  have hr' := hr hr0
  have hS : Small L.length (nthF L) := by unfold Small; omega
  have hsum : sumL L ≤ 1048576 := by have := sumD_list L; omega
  have hn := hS.n
  have hf := h.fl
  have hB := bstep hb0 hb1
  replace hX := rowL hX hb1
  obtain ⟨M, z1, z2, z3, z4, z5, l, g, E, zc, hSm, hspc, himp⟩ := bothR L x1 x2 x3 x4 x5 hS hsum
  have HSP : Hid (∀ w b c, FL w (some ⟨b, 0, none⟩) L.length (nthF L) → Calls Tryz.prog 5 #[.agg #[.slice (some ⟨b, 0, none⟩) L.length c, .int .i64 x1, .int .i64 x2, .int .i64 x3, .int .i64 x4, .bool x5]] w (RE4 M z1 z2 z3 z4 z5 l g E zc w)) := hspc
  have HIM : Hid (∀ w b c, T10 w → FL w (some ⟨b, 0, none⟩) L.length (nthF L) → Calls Tryz.prog 7 #[.agg #[.slice (some ⟨b, 0, none⟩) L.length c, .int .i64 x1, .int .i64 x2, .int .i64 x3, .int .i64 x4, .bool x5]] w (RE4 M z1 z2 z3 z4 z5 l g E zc w)) := himp
  have hM3 := hSm.m
  have hE3 := hSm.e
  have hE1 : E.length ≤ 1048576 := by omega
  have hE2 := hSm.s
  clear hspc himp hr hr' hr0 hb0 hb1 hS hsum hSm q10 q11 q12 q13 q14 q15
  obtain ⟨q20, q21, q22, q23, q24, q25⟩ := B6.of hX
  go_upto_region 6 with (first | (go_at_call 6; refine (toFs_any a L.length c (nthF L) x1 x2 x3 x4 x5 _ (hf.later hB) hn).mono ?_; rintro e w2 ⟨g7, hg7, rfl, hR7, hb2⟩) | (go_at_call 5; refine (HSP.out _ g7 _ hR7.fl).mono ?_; rintro e w3 ⟨av, cv, ge, ce, rfl, hO3, hEE3, hb3⟩))
  have hNlo : w.heap.size < w2.heap.size := Nat.lt_of_lt_of_le (Array.getElem?_eq_some_iff.1 hX).1 hb2.size
  have hA := AN.of hO3 hEE3
  have hbN := bstep (bal w3 (.cells #[.slice av M.length cv, .int .i64 z1, .int .i64 z2, .int .i64 z3, .int .i64 z4, .bool z5] 28)) (bal (w3.alloc (.cells #[.slice av M.length cv, .int .i64 z1, .int .i64 z2, .int .i64 z3, .int .i64 z4, .bool z5] 28)) (.cells #[.int .i64 l, .int .i64 g] 30))
  have h4 := rowL (heap_alloc_new w3 (.cells #[.slice av M.length cv, .int .i64 z1, .int .i64 z2, .int .i64 z3, .int .i64 z4, .bool z5] 28)) (bal (w3.alloc (.cells #[.slice av M.length cv, .int .i64 z1, .int .i64 z2, .int .i64 z3, .int .i64 z4, .bool z5] 28)) (.cells #[.int .i64 l, .int .i64 g] 30))
  have h5 := heap_alloc_new (w3.alloc (.cells #[.slice av M.length cv, .int .i64 z1, .int .i64 z2, .int .i64 z3, .int .i64 z4, .bool z5] 28)) (.cells #[.int .i64 l, .int .i64 g] 30)
  rw [World.size_alloc] at h5
  replace hX := rowL hX (bstep hb2 (bstep hb3 hbN))
  replace hB := bstep hB (bstep hb2 (bstep hb3 hbN))
  replace hA := hA.later hbN
  have hlo : w2.heap.size ≤ w3.heap.size := hb3.size
  clear hO3 hEE3 hb2 hb3 hbN hg7 hR7 q20 q21 q22 q23 q24 q25
  generalize w2.heap.size = lo4 at hA hlo hNlo
  generalize w3.heap.size = Q4 at hA hlo h4 h5 ⊢
  generalize (w3.alloc (.cells #[.slice av M.length cv, .int .i64 z1, .int .i64 z2, .int .i64 z3, .int .i64 z4, .bool z5] 28)).alloc (.cells #[.int .i64 l, .int .i64 g] 30) = w4 at hA h4 h5 hX hB ⊢
  have hQ5 := (Array.getElem?_eq_some_iff.1 h5).1
  obtain ⟨q30, q31, q32, q33, q34, q35⟩ := B6.of hX
  go_upto_region 7 with (go_at_call 6; refine (toFs_any a L.length c (nthF L) x1 x2 x3 x4 x5 _ (hf.later hB) hn).mono ?_; rintro e w5 ⟨g8, hg8, rfl, hF8, hb5⟩)
  have hbN := bstep hb5 (bal w5 (.cells #[.slice (some ⟨g8, 0, none⟩) L.length L.length, .int .i64 x1, .int .i64 x2, .int .i64 x3, .int .i64 x4, .bool x5] 28))
  have h8 := heap_alloc_new w5 (.cells #[.slice (some ⟨g8, 0, none⟩) L.length L.length, .int .i64 x1, .int .i64 x2, .int .i64 x3, .int .i64 x4, .bool x5] 28)
  replace hF8 := hF8.later (bal w5 (.cells #[.slice (some ⟨g8, 0, none⟩) L.length L.length, .int .i64 x1, .int .i64 x2, .int .i64 x3, .int .i64 x4, .bool x5] 28))
  skip
  replace hX := rowL hX (hbN)
  replace h4 := rowL h4 (hbN)
  replace h5 := rowL h5 (hbN)
  replace hA := hA.later (hbN)
  replace hB := bstep hB (hbN)
  clear hb5 hbN q30 q31 q32 q33 q34 q35
  generalize w5.heap.size = Q8 at h8 ⊢
  generalize w5.alloc (.cells #[.slice (some ⟨g8, 0, none⟩) L.length L.length, .int .i64 x1, .int .i64 x2, .int .i64 x3, .int .i64 x4, .bool x5] 28) = w6 at hX h4 h5 h8 hA hF8 hB ⊢
  have hQ8 := (Array.getElem?_eq_some_iff.1 h8).1
  have hg6 := (Array.getElem?_eq_some_iff.1 (show w6.heap[g8]? = some _ from hF8)).1
  have h48 : Q4 + 1 < g8 := by omega
  have h48 : Q4 + 1 < g8 := by omega
  have hg88 : g8 ≠ Q8 := fun e => by
    subst e
    have h1 : w6.heap[g8]? = some _ := hF8
    rw [h1] at h8
    simp at h8
  obtain ⟨q40, q41, q42, q43, q44, q45⟩ := B6.of h8
  go_upto_region 8 with (go_at_call 7; refine (HIM.out _ g8 _ (hT.later hB) hF8.fl).mono ?_; rintro e w7 ⟨aw, cw, gw, dw, rfl, hO7, hE7, hb7⟩)
  have hA2 := AN.of hO7 hE7
  have hbN := bstep (bal w7 (.cells #[.slice aw M.length cw, .int .i64 z1, .int .i64 z2, .int .i64 z3, .int .i64 z4, .bool z5] 28)) (bal (w7.alloc (.cells #[.slice aw M.length cw, .int .i64 z1, .int .i64 z2, .int .i64 z3, .int .i64 z4, .bool z5] 28)) (.cells #[.int .i64 l, .int .i64 g] 30))
  have h9 := rowL (heap_alloc_new w7 (.cells #[.slice aw M.length cw, .int .i64 z1, .int .i64 z2, .int .i64 z3, .int .i64 z4, .bool z5] 28)) (bal (w7.alloc (.cells #[.slice aw M.length cw, .int .i64 z1, .int .i64 z2, .int .i64 z3, .int .i64 z4, .bool z5] 28)) (.cells #[.int .i64 l, .int .i64 g] 30))
  have h10 := heap_alloc_new (w7.alloc (.cells #[.slice aw M.length cw, .int .i64 z1, .int .i64 z2, .int .i64 z3, .int .i64 z4, .bool z5] 28)) (.cells #[.int .i64 l, .int .i64 g] 30)
  rw [World.size_alloc] at h10
  replace hA2 := hA2.later hbN
  have hlo7 : w6.heap.size ≤ w7.heap.size := hb7.size
  replace hX := rowL hX (bstep hb7 hbN)
  replace h4 := rowL h4 (bstep hb7 hbN)
  replace h5 := rowL h5 (bstep hb7 hbN)
  replace h8 := rowL h8 (bstep hb7 hbN)
  replace hA := hA.later (bstep hb7 hbN)
  replace hF8 := hF8.later (bstep hb7 hbN)
  replace hB := bstep hB (bstep hb7 hbN)
  clear hO7 hE7 hb7 hbN q40 q41 q42 q43 q44 q45
  generalize w6.heap.size = lo7 at hA2 hlo7 hQ8 hg6
  generalize w7.heap.size = Q9 at hA2 hlo7 h9 h10 ⊢
  generalize (w7.alloc (.cells #[.slice aw M.length cw, .int .i64 z1, .int .i64 z2, .int .i64 z3, .int .i64 z4, .bool z5] 28)).alloc (.cells #[.int .i64 l, .int .i64 g] 30) = w8 at hX h4 h5 h8 h9 h10 hA hA2 hF8 hB ⊢
  obtain ⟨q50, q51, q52, q53, q54, q55⟩ := B6.of h9
  obtain ⟨q60, q61, q62, q63, q64, q65⟩ := B6.of h4
  go_upto_region 10 with (first | (go_at_call 8; refine (eqFs_any aw av M.length cw cv (nthF M) z1 z2 z3 z4 z5 _ hA2.f.fl hA.f.fl (by omega)).mono ?_; rintro e wa ⟨rfl, hba⟩; obtain ⟨q70, q71⟩ := B2.of (rowL h10 hba); obtain ⟨q80, q81⟩ := B2.of (rowL h5 hba)) | (go_at_call 9; refine (eqLog l g _).mono ?_; rintro e wb ⟨rfl, hbb⟩) | (go_at_call 10; refine (eqStrs_any _ _ E.length _ _ (nth E) (nth E) _ ((hA2.s.later (bstep hba hbb)).sl hE1 hE2) ((hA.s.later (bstep hba hbb)).sl hE1 hE2) (fun _ _ => rfl)).mono ?_; rintro e wc ⟨rfl, qq, hqq⟩; have hbc : Below wb.heap.size wb wc := (by rw [hqq]; exact undrewN qq); clear hqq))
  have hbM := bstep hba (bstep hbb hbc)
  replace hX := rowL hX (hbM)
  replace h4 := rowL h4 (hbM)
  replace h5 := rowL h5 (hbM)
  replace h8 := rowL h8 (hbM)
  replace h9 := rowL h9 (hbM)
  replace h10 := rowL h10 (hbM)
  replace hA := hA.later (hbM)
  replace hF8 := hF8.later (hbM)
  replace hA2 := hA2.later (hbM)
  replace hB := bstep hB (hbM)
  clear hba hbb hbc hbM q50 q51 q52 q53 q54 q55 q60 q61 q62 q63 q64 q65
  refine wp_region_held_drew (S := fun x => Below wc.heap.size wc x) (by kernel_rfl) (bdrew1 _) (fun hHeld => ?_)
  refine' wpAnyH_take (i := 0) (oi := ({ dst := some 63, op := Op.load 28 (Operand.tmp 8), type := 28, pos := "exact.go:2090", after := #[], guard := none } : Oper)) (v := _) rfl (by kernel_rfl) (by kernel_rfl) (by kernel_rfl) (fun _ _ _ h => h) (Or.inl ⟨by rfl, fun x hSw => ?hyz1_0⟩) hHeld ?restz1_0
  case hyz1_0 =>
    obtain ⟨q90, q91, q92, q93, q94, q95⟩ := B6.of (rowL h8 hSw); obtain ⟨q100, q101, q102, q103, q104, q105⟩ := B6.of (rowL hX hSw)
    go_simp
    try with_reducible rfl
  try simp only [Act.put, List.setIfInBounds_toArray, List.set_cons_zero, List.set_cons_succ]
  refine' wpAnyH_take (i := 1) (oi := ({ dst := some 64, op := Op.load 24 (Operand.tmp 1), type := 24, pos := "exact.go:2090", after := #[], guard := none } : Oper)) (v := _) rfl (by kernel_rfl) (by kernel_rfl) (by kernel_rfl) (fun _ _ _ h => h) (Or.inl ⟨by rfl, fun x hSw => ?hyz1_1⟩) hHeld ?restz1_1
  case hyz1_1 =>
    obtain ⟨q90, q91, q92, q93, q94, q95⟩ := B6.of (rowL h8 hSw); obtain ⟨q100, q101, q102, q103, q104, q105⟩ := B6.of (rowL hX hSw)
    go_simp
    try with_reducible rfl
  try simp only [Act.put, List.setIfInBounds_toArray, List.set_cons_zero, List.set_cons_succ]
  refine wpAnyH_ready (rs := [2]) (by kernel_rfl) (by simp) ?_
  refine AllReadyH.cons (o := ({ dst := some 65, op := Op.call { callee := Callee.value (Operand.func 6), args := #[Operand.tmp 64], argTypes := #[24] }, type := 28, pos := "exact.go:2090", after := #[{ on := 1, ground := Ground.data }], guard := none } : Oper)) rfl (fun K hK => ?_) AllReadyH.nil
  go_simp
  refine (toFs_any a L.length c (nthF L) x1 x2 x3 x4 x5 _ (hf.later (bstep hB hHeld)) hn).mono ?_
  rintro e wd ⟨g11, hg11, rfl, hR11, hbd⟩
  refine hK.out _ _ (bstep hHeld hbd) (fun hHeld => ?_)
  clear hK K
  try simp only [Act.put, List.setIfInBounds_toArray, List.set_cons_zero, List.set_cons_succ]
  refine wpAnyH_ready (rs := [3]) (by kernel_rfl) (by simp) ?_
  refine AllReadyH.cons (o := ({ dst := some 66, op := Op.call { callee := Callee.value (Operand.func 8), args := #[Operand.tmp 63, Operand.tmp 65], argTypes := #[28, 28] }, type := 4, pos := "exact.go:2090", after := #[{ on := 0, ground := Ground.data }, { on := 2, ground := Ground.data }, { on := 2, ground := Ground.chain }], guard := none } : Oper)) rfl (fun K hK => ?_) AllReadyH.nil
  go_simp
  refine (eqFs_any (some ⟨g8, 0, none⟩) (some ⟨g11, 0, none⟩) L.length L.length L.length (nthF L) x1 x2 x3 x4 x5 _ (hF8.later hHeld).fl hR11.fl hn).mono ?_
  rintro e we ⟨rfl, hbe⟩
  refine hK.out _ _ (bstep hHeld hbe) (fun hHeld => ?_)
  clear hK K
  try simp only [Act.put, List.setIfInBounds_toArray, List.set_cons_zero, List.set_cons_succ]
  refine' wpAnyH_take (i := 4) (oi := ({ dst := some 67, op := Op.unOp UnOp.not 4 (Operand.tmp 66), type := 4, pos := "exact.go:2090", after := #[{ on := 3, ground := Ground.data }], guard := none } : Oper)) (v := _) rfl (by kernel_rfl) (by kernel_rfl) (by kernel_rfl) (fun _ _ _ h => h) (Or.inl ⟨by rfl, fun x hSw => ?hyz1_4⟩) hHeld ?restz1_4
  case hyz1_4 =>
    obtain ⟨q90, q91, q92, q93, q94, q95⟩ := B6.of (rowL h8 hSw); obtain ⟨q100, q101, q102, q103, q104, q105⟩ := B6.of (rowL hX hSw)
    go_simp
    try with_reducible rfl
  try simp only [Act.put, List.setIfInBounds_toArray, List.set_cons_zero, List.set_cons_succ]
  refine wpAnyH_done (by kernel_rfl) ?_ _
  replace hX := rowL hX (hHeld)
  replace h4 := rowL h4 (hHeld)
  replace h5 := rowL h5 (hHeld)
  replace h8 := rowL h8 (hHeld)
  replace h9 := rowL h9 (hHeld)
  replace h10 := rowL h10 (hHeld)
  replace hA := hA.later (hHeld)
  replace hF8 := hF8.later (hHeld)
  replace hA2 := hA2.later (hHeld)
  replace hB := bstep hB (hHeld)
  skip
  go_upto_region 13 with (fail)
  obtain ⟨q110, q111, q112, q113, q114, q115⟩ := B6.of h8
  obtain ⟨kk, hkk⟩ : ∃ kk, 1 + 3 * L.length = kk := ⟨_, rfl⟩
  have hk0 : ¬ (kk : Int) < 0 := by omega
  go_upto_region 14 with (go_at_call 11; refine (markFs_any w.heap.size L.length L.length 1 (some ⟨g8, 0, none⟩) (nthF L) x1 x2 x3 x4 x5 _ (OwnF.of hF8 (by omega) hn) hn (by omega) (by omega)).mono ?_; rw [hkk]; rintro e wf ⟨rfl, hOf, hgf⟩)
  replace hgf : World.grownBy _ wf (some g8) := hgf
  replace hX := rowGr hX hgf (fun e => by have := Option.some.inj e; omega)
  replace h4 := rowGr h4 hgf (fun e => by have := Option.some.inj e; omega)
  replace h5 := rowGr h5 hgf (fun e => by have := Option.some.inj e; omega)
  replace h8 := rowGr h8 hgf (fun e => by have := Option.some.inj e; omega)
  replace h9 := rowGr h9 hgf (fun e => by have := Option.some.inj e; omega)
  replace h10 := rowGr h10 hgf (fun e => by have := Option.some.inj e; omega)
  replace hA := hA.grown hgf (fun k e => by have h1 := Option.some.inj e; omega)
  replace hA2 := hA2.grown hgf (fun k e => by have h1 := Option.some.inj e; omega)
  replace hB := hB.grown hgf hB.size (fun k e => by have h1 := Option.some.inj e; omega)
  clear hF8 hOf hgf q110 q111 q112 q113 q114 q115
  obtain ⟨q120, q121, q122, q123, q124, q125⟩ := B6.of h9
  obtain ⟨q130, q131, q132, q133, q134, q135⟩ := B6.of h4
  go_upto_region 16 with (first | (go_at_call 8; refine (eqFs_any aw av M.length cw cv (nthF M) z1 z2 z3 z4 z5 _ hA2.f.fl hA.f.fl (by omega)).mono ?_; rintro e wa ⟨rfl, hba⟩; obtain ⟨q140, q141⟩ := B2.of (rowL h10 hba); obtain ⟨q150, q151⟩ := B2.of (rowL h5 hba)) | (go_at_call 9; refine (eqLog l g _).mono ?_; rintro e wb ⟨rfl, hbb⟩) | (go_at_call 10; refine (eqStrs_any _ _ E.length _ _ (nth E) (nth E) _ ((hA2.s.later (bstep hba hbb)).sl hE1 hE2) ((hA.s.later (bstep hba hbb)).sl hE1 hE2) (fun _ _ => rfl)).mono ?_; rintro e wc ⟨rfl, qq, hqq⟩; have hbc : Below wb.heap.size wb wc := (by rw [hqq]; exact undrewN qq); clear hqq))
  have hbM := bstep hba (bstep hbb hbc)
  replace hX := rowL hX (hbM)
  replace h4 := rowL h4 (hbM)
  replace h5 := rowL h5 (hbM)
  replace h8 := rowL h8 (hbM)
  replace h9 := rowL h9 (hbM)
  replace h10 := rowL h10 (hbM)
  replace hA := hA.later (hbM)
  replace hA2 := hA2.later (hbM)
  replace hB := bstep hB (hbM)
  clear hba hbb hbc hbM q120 q121 q122 q123 q124 q125 q130 q131 q132 q133 q134 q135
  obtain ⟨q160, q161, q162, q163, q164, q165⟩ := B6.of h9
  obtain ⟨m1, hm1⟩ : ∃ m1, 1 + 3 * M.length = m1 := ⟨_, rfl⟩
  have hm0 : ¬ (m1 : Int) < 0 := by omega
  go_upto_region 18 with (go_at_call 11; refine (markFs_any lo7 M.length cw 1 aw (nthF M) z1 z2 z3 z4 z5 _ hA2.f (by omega) (by omega) (by omega)).mono ?_; rw [hm1]; rintro e wg ⟨rfl, hOg, hgg⟩)
  have hEg : OwnS wg lo7 gw dw E := own_gr hA2.s hgg (fun k hk e => by
    obtain ⟨_, _, cur, hc⟩ := ownB hA2.f k e.symm
    obtain ⟨_, _, cur2, hc2⟩ := ownB hA2.s k hk
    rw [hc] at hc2
    simp at hc2)
  have hh2 := hA2.hf
  have hs2 := hA2.hs
  replace hX := rowGr hX hgg (fun e => by have := hh2 _ e.symm; omega)
  replace h4 := rowGr h4 hgg (fun e => by have := hh2 _ e.symm; omega)
  replace h5 := rowGr h5 hgg (fun e => by have := hh2 _ e.symm; omega)
  replace h8 := rowGr h8 hgg (fun e => by have := hh2 _ e.symm; omega)
  replace h9 := rowGr h9 hgg (fun e => by have := hh2 _ e.symm; omega)
  replace h10 := rowGr h10 hgg (fun e => by have := hh2 _ e.symm; omega)
  replace hA := hA.grown hgg (fun k e => by have h1 := hh2 k e; omega)
  replace hB := hB.grown hgg hB.size (fun k e => by have h1 := hh2 k e; omega)
  clear hA2 hgg q160 q161 q162 q163 q164 q165
  obtain ⟨m2, hm2⟩ : ∃ m2, m1 + E.length = m2 := ⟨_, rfl⟩
  have hm20 : ¬ (m2 : Int) < 0 := by omega
  go_upto_region 19 with (go_at_call 12; refine (markStrs_rz m1 lo7 gw E.length dw _ _ hEg hE1 (by omega) (by omega)).mono ?_; rw [hm2]; rintro e wh ⟨rfl, hEh, hgh⟩)
  have hOh : OwnF wh lo7 (.slice aw M.length cw) M.length (MF 1) := own_gr hOg hgh (fun k hk e => by
    obtain ⟨_, _, cur, hc⟩ := ownB hOg k hk
    obtain ⟨_, _, cur2, hc2⟩ := ownB hEg k e.symm
    rw [hc] at hc2
    simp at hc2)
  replace hX := rowGr hX hgh (fun e => by have := Option.some.inj e; omega)
  replace h4 := rowGr h4 hgh (fun e => by have := Option.some.inj e; omega)
  replace h5 := rowGr h5 hgh (fun e => by have := Option.some.inj e; omega)
  replace h8 := rowGr h8 hgh (fun e => by have := Option.some.inj e; omega)
  replace h9 := rowGr h9 hgh (fun e => by have := Option.some.inj e; omega)
  replace h10 := rowGr h10 hgh (fun e => by have := Option.some.inj e; omega)
  replace hA := hA.grown hgh (fun k e => by have h1 := Option.some.inj e; omega)
  replace hB := hB.grown hgh hB.size (fun k e => by have h1 := Option.some.inj e; omega)
  clear hOg hEg hgh
  obtain ⟨q170, q171, q172, q173, q174, q175⟩ := B6.of h9
  have hsl := own_sl hEh hE1 (fun k hk => Nat.le_trans (mtx_size (m1 + k)) (by omega))
  go_upto_region 23 with (go_at_call 13; refine (heldFs_any M.length cw 1 aw z1 z2 z3 z4 z5 _ hOh.fl (by omega) (by omega) (by omega)).mono ?_; rw [hm1]; rintro e wi ⟨rfl, hbi⟩)
  replace hX := rowL hX (hbi)
  replace h4 := rowL h4 (hbi)
  replace h5 := rowL h5 (hbi)
  replace h8 := rowL h8 (hbi)
  replace h9 := rowL h9 (hbi)
  replace h10 := rowL h10 (hbi)
  replace hA := hA.later (hbi)
  replace hB := bstep hB (hbi)
  replace hsl := hsl.later hbi
  clear hbi hOh hEh q170 q171 q172 q173 q174 q175
  go_upto_region 28 with (go_at_call 14; refine (heldStrs_z m1 (some ⟨gw, 0, none⟩) E.length dw _ hsl hE1 (by omega) (by omega)).mono ?_; rw [hm2]; rintro e wj ⟨rfl, hbj⟩)
  replace hX := rowL hX (hbj)
  replace h4 := rowL h4 (hbj)
  replace h5 := rowL h5 (hbj)
  replace h8 := rowL h8 (hbj)
  replace h9 := rowL h9 (hbj)
  replace h10 := rowL h10 (hbj)
  replace hA := hA.later (hbj)
  replace hB := bstep hB (hbj)
  clear hbj hsl
  obtain ⟨q180, q181, q182, q183, q184, q185⟩ := B6.of hX
  go_upto_region 29 with (first | (go_at_call 6; refine (toFs_any a L.length c (nthF L) x1 x2 x3 x4 x5 _ (hf.later hB) hn).mono ?_; rintro e wk ⟨g12, hg12, rfl, hR12, hbk⟩) | (go_at_call 7; refine (HIM.out _ g12 _ (hT.later (bstep hB hbk)) hR12.fl).mono ?_; rintro e wl ⟨ax, cx, gx, dx, rfl, hOl, hEl, hbl⟩))
  have hA3 := AN.of hOl hEl
  have hbN := bstep (bal wl (.cells #[.slice ax M.length cx, .int .i64 z1, .int .i64 z2, .int .i64 z3, .int .i64 z4, .bool z5] 28)) (bal (wl.alloc (.cells #[.slice ax M.length cx, .int .i64 z1, .int .i64 z2, .int .i64 z3, .int .i64 z4, .bool z5] 28)) (.cells #[.int .i64 l, .int .i64 g] 30))
  have h16 := rowL (heap_alloc_new wl (.cells #[.slice ax M.length cx, .int .i64 z1, .int .i64 z2, .int .i64 z3, .int .i64 z4, .bool z5] 28)) (bal (wl.alloc (.cells #[.slice ax M.length cx, .int .i64 z1, .int .i64 z2, .int .i64 z3, .int .i64 z4, .bool z5] 28)) (.cells #[.int .i64 l, .int .i64 g] 30))
  have h17 := heap_alloc_new (wl.alloc (.cells #[.slice ax M.length cx, .int .i64 z1, .int .i64 z2, .int .i64 z3, .int .i64 z4, .bool z5] 28)) (.cells #[.int .i64 l, .int .i64 g] 30)
  rw [World.size_alloc] at h17
  replace hA3 := hA3.later hbN
  replace hX := rowL hX (bstep hbk (bstep hbl hbN))
  replace h4 := rowL h4 (bstep hbk (bstep hbl hbN))
  replace h5 := rowL h5 (bstep hbk (bstep hbl hbN))
  replace h8 := rowL h8 (bstep hbk (bstep hbl hbN))
  replace h9 := rowL h9 (bstep hbk (bstep hbl hbN))
  replace h10 := rowL h10 (bstep hbk (bstep hbl hbN))
  replace hA := hA.later (bstep hbk (bstep hbl hbN))
  replace hB := bstep hB (bstep hbk (bstep hbl hbN))
  clear hOl hEl hbk hbl hbN hg12 hR12 q180 q181 q182 q183 q184 q185
  generalize wk.heap.size = lo9 at hA3
  generalize wl.heap.size = Q16 at hA3 h16 h17 ⊢
  generalize (wl.alloc (.cells #[.slice ax M.length cx, .int .i64 z1, .int .i64 z2, .int .i64 z3, .int .i64 z4, .bool z5] 28)).alloc (.cells #[.int .i64 l, .int .i64 g] 30) = wm at hX h4 h5 h8 h9 h10 h16 h17 hA hA3 hB ⊢
  obtain ⟨q190, q191, q192, q193, q194, q195⟩ := B6.of h16
  obtain ⟨q200, q201, q202, q203, q204, q205⟩ := B6.of h4
  go_wp2_with (first | (go_at_call 8; refine (eqFs_any ax av M.length cx cv (nthF M) z1 z2 z3 z4 z5 _ hA3.f.fl hA.f.fl (by omega)).mono ?_; rintro e wa ⟨rfl, hba⟩; obtain ⟨q210, q211⟩ := B2.of (rowL h17 hba); obtain ⟨q220, q221⟩ := B2.of (rowL h5 hba)) | (go_at_call 9; refine (eqLog l g _).mono ?_; rintro e wb ⟨rfl, hbb⟩) | (go_at_call 10; refine (eqStrs_any _ _ E.length _ _ (nth E) (nth E) _ ((hA3.s.later (bstep hba hbb)).sl hE1 hE2) ((hA.s.later (bstep hba hbb)).sl hE1 hE2) (fun _ _ => rfl)).mono ?_; rintro e wc ⟨rfl, qq, hqq⟩; have hbc : Below wb.heap.size wb wc := (by rw [hqq]; exact undrewN qq); clear hqq))
  go_ret
  exact ⟨rfl, bstep hB (bstep hba (bstep hbb hbc))⟩
end Go.Proofs.YtngppfjphbodcaaGreatDoor
namespace Go.Proofs.YtngppfjphbodcaaGreatDoor
open Go.ChangeShapes Go.WideShapes Go.ChangeAt Go.RowKit Go.Deep Go.Joins
theorem list3 {α : Type} {l : List α} (h : l.length = 3) : ∃ a b c, l = [a, b, c] := by
  match l, h with
  | [a, b, c], _ => exact ⟨a, b, c, rfl⟩
/-- Files that came in. -/
theorem open_files_at {H : Type} {enc : TypeId × Value → H} {w : World} {fuel : Nat} {v : Value} {x : DataW H × List MemPlace} {t e : TypeId} {f0 f1 f2 : Field} (ht : Tryz.prog.underlying t = some (.slice e)) (he : Tryz.prog.underlying e = some (.struct #[f0, f1, f2]))
    (ce : Tryz.prog.cellsOf e = 3) (o0 : f0.offset = 0) (o1 : f1.offset = 1) (o2 : f2.offset = 2) (e0 : f0.type = 9) (e1 : f1.type = 9) (e2 : f2.type = 3)
    (h : DataW.trod enc Tryz.prog w 0 (fun _ => true) true fuel t [v] = some x) : ∃ a n c F, v = .slice a n c ∧ FX w a n F := by
  have ci : Tryz.prog.cellsOf 3 = 1 := by kernel_rfl
  have cs : Tryz.prog.cellsOf 9 = 1 := by kernel_rfl
  rcases open_slice ht h with ⟨hcs, -⟩ | ⟨a, len, cap, m, n, D, Pl, hcs, _, hl, hm, hmm, -, hx⟩
  · simp at hcs
    subst hcs
    exact ⟨_, _, _, fun _ => ⟨ByteArray.empty, ByteArray.empty, 0⟩, rfl, Nat.zero_le _, fun k hk => absurd hk (Nat.not_lt_zero _)⟩
  · simp at hcs
    subst hcs
    simp only [if_true] at hmm
    subst hmm
    obtain ⟨b, off, spot⟩ := a
    unfold maxLen at hm
    obtain ⟨I, hI⟩ := @choose_lt Fil ⟨⟨ByteArray.empty, ByteArray.empty, 0⟩⟩ m (fun i c => w.cell? ((⟨b, off, spot⟩ : Addr).add (i * 3)) = some (.string c.s) ∧ w.cell? ((⟨b, off, spot⟩ : Addr).add (i * 3 + 1)) = some (.string c.d) ∧ w.cell? ((⟨b, off, spot⟩ : Addr).add (i * 3 + 2)) = some (.int .i64 c.y) ∧ c.s.size ≤ 9223372036854775807 ∧ c.d.size ≤ 9223372036854775807) (fun i hi => by
      obtain ⟨cs', h1, h2⟩ := hx i hi
      rw [ce] at h1
      obtain ⟨_, hlen, hcell⟩ := World.cells?_some h1
      obtain ⟨y0, y1, y2, k, -, -, g0, g1, g2⟩ := trod_struct3 he h2
      obtain ⟨v0, v1, v2, rfl⟩ := list3 hlen
      have q0 := hcell 0 (by omega)
      have q1 := hcell 1 (by omega)
      have q2 := hcell 2 (by omega)
      rw [add_add] at q0 q1 q2
      simp [o0, e0, cs] at g0
      simp [o1, e1, cs] at g1
      simp [o2, e2, ci] at g2
      obtain ⟨z0, r0, -, hs0⟩ := DataW.trod_string Tryz.underlying9 g0
      obtain ⟨z1, r1, -, hs1⟩ := DataW.trod_string Tryz.underlying9 g1
      obtain ⟨s, r2, -, -⟩ := DataW.trod_int Tryz.underlying3 g2
      simp at r0 r1 r2 q0 q1 q2
      unfold maxLen at hs0 hs1
      exact ⟨⟨z0, z1, s⟩, by rw [← r0]; exact q0, by rw [← r1]; exact q1, by rw [← r2]; exact q2, by dsimp only; omega, by dsimp only; omega⟩)
    refine ⟨_, _, _, I, rfl, by omega, fun k hk => ⟨b, off, ?_, ?_, ?_, ?_, (hI k (by omega)).2.2.2⟩⟩
    · have hspot : spot = none := by simpa [Addr.add] using World.cell?_spot (hI 0 (by omega)).1
      rw [hspot]
    all_goals
      have hspot : spot = none := by simpa [Addr.add] using World.cell?_spot (hI 0 (by omega)).1
      subst hspot
    · rw [← add_plain]
      exact (hI k (by omega)).1
    · rw [Nat.add_assoc, ← add_plain]
      exact (hI k (by omega)).2.1
    · rw [Nat.add_assoc, ← add_plain]
      exact (hI k (by omega)).2.2.1
theorem open_files {H : Type} {enc : TypeId × Value → H} {w : World} {fuel : Nat} {v : Value} {x : DataW H × List MemPlace}
    (h : DataW.trod enc Tryz.prog w 0 (fun _ => true) true fuel 22 [v] = some x) : ∃ a n c F, v = .slice a n c ∧ FX w a n F :=
  open_files_at Tryz.underlying22 Tryz.underlying65 (by kernel_rfl) rfl rfl rfl rfl rfl rfl h
theorem array6 {α : Type} {cs : Array α} (h : cs.size = 6) : ∃ c0 c1 c2 c3 c4 c5, cs = #[c0, c1, c2, c3, c4, c5] := by
  obtain ⟨l⟩ := cs
  match l, h with
  | [c0, c1, c2, c3, c4, c5], _ => exact ⟨c0, c1, c2, c3, c4, c5, rfl⟩
set_option maxRecDepth 20000 in
theorem open_fs {H : Type} {enc : TypeId × Value → H} {w : World} {base : Nat} {v : Value} {d : DataW H} {p : List MemPlace} (hv : Value.okWide Tryz.prog w .any base 24 v)
    (h : DataW.Trod enc Tryz.prog w 0 (fun _ => true) true 24 v d p) : ∃ a n c F x1 x2 x3 x4 x5, v = .agg #[.slice a n c, .int .i64 x1, .int .i64 x2, .int .i64 x3, .int .i64 x4, .bool x5] ∧ FX w a n F := by
  have ci : Tryz.prog.cellsOf 3 = 1 := by kernel_rfl
  obtain ⟨cs, rfl, hsz⟩ := okWide_struct Tryz.underlying24 hv
  obtain ⟨c0, c1, c2, c3, c4, c5, rfl⟩ := array6 (hsz.trans (by kernel_rfl))
  obtain ⟨fuel, hf⟩ := h
  obtain ⟨xs, n, -, -, -, hlen, hfld⟩ := DataW.trod_struct Tryz.underlying24 hf
  have one : ∀ t, Tryz.prog.cellsOf t = 1 → ∀ i, i < 6 → ∀ c : Value, (((Value.agg #[c0, c1, c2, c3, c4, c5]).cells.toList.drop i).take (Tryz.prog.cellsOf t) = [c]) → ∀ f : Field, f.type = t → f.offset = i → (∀ (h : DataW.trod enc Tryz.prog w 0 (fun _ => true) true n f.type (((Value.agg #[c0, c1, c2, c3, c4, c5]).cells.toList.drop f.offset).take (Tryz.prog.cellsOf f.type)) = xs[i]?), ∃ x, DataW.trod enc Tryz.prog w 0 (fun _ => true) true n t [c] = some x) := by
    intro t ht i hi c hc f e1 e2 h
    subst e1 e2
    rw [hc] at h
    have hl : f.offset < xs.length := by rw [hlen]; exact hi
    rw [List.getElem?_eq_getElem hl] at h
    exact ⟨_, h⟩
  obtain ⟨y0, t0⟩ := one 22 (by kernel_rfl) 0 (by omega) c0 (by rw [show Tryz.prog.cellsOf 22 = 1 by kernel_rfl]; rfl) _ rfl rfl (hfld 0 _ rfl)
  obtain ⟨y1, t1⟩ := one 3 (by kernel_rfl) 1 (by omega) c1 (by rw [show Tryz.prog.cellsOf 3 = 1 by kernel_rfl]; rfl) _ rfl rfl (hfld 1 _ rfl)
  obtain ⟨y2, t2⟩ := one 3 (by kernel_rfl) 2 (by omega) c2 (by rw [show Tryz.prog.cellsOf 3 = 1 by kernel_rfl]; rfl) _ rfl rfl (hfld 2 _ rfl)
  obtain ⟨y3, t3⟩ := one 3 (by kernel_rfl) 3 (by omega) c3 (by rw [show Tryz.prog.cellsOf 3 = 1 by kernel_rfl]; rfl) _ rfl rfl (hfld 3 _ rfl)
  obtain ⟨y4, t4⟩ := one 3 (by kernel_rfl) 4 (by omega) c4 (by rw [show Tryz.prog.cellsOf 3 = 1 by kernel_rfl]; rfl) _ rfl rfl (hfld 4 _ rfl)
  obtain ⟨y5, t5⟩ := one 4 (by kernel_rfl) 5 (by omega) c5 (by rw [show Tryz.prog.cellsOf 4 = 1 by kernel_rfl]; rfl) _ rfl rfl (hfld 5 _ rfl)
  obtain ⟨a, m, c, F, rfl, hF⟩ := open_files t0
  obtain ⟨z1, q1, -, -⟩ := DataW.trod_int Tryz.underlying3 t1
  obtain rfl : c1 = .int .i64 z1 := by simpa using q1
  obtain ⟨z2, q2, -, -⟩ := DataW.trod_int Tryz.underlying3 t2
  obtain rfl : c2 = .int .i64 z2 := by simpa using q2
  obtain ⟨z3, q3, -, -⟩ := DataW.trod_int Tryz.underlying3 t3
  obtain rfl : c3 = .int .i64 z3 := by simpa using q3
  obtain ⟨z4, q4, -, -⟩ := DataW.trod_int Tryz.underlying3 t4
  obtain rfl : c4 = .int .i64 z4 := by simpa using q4
  obtain ⟨z5, q5, -⟩ := DataW.trod_bool Tryz.underlying4 t5
  obtain rfl : c5 = .bool z5 := by simpa using q5
  exact ⟨a, m, c, F, z1, z2, z3, z4, z5, rfl, hF⟩
end Go.Proofs.YtngppfjphbodcaaGreatDoor
