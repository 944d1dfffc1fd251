/-
  AppendEntry, the program's side: where the disk is at work.
-/
import Derived.Test.YtdbcihebhgpblaaDoorPf
namespace Go.Proofs.YtdbcihebhgpblaaDoor
open Go.RowKit
abbrev qPg7 : Oper := { dst := some 92, op := Op.move (Operand.tmp 13), type := 64, pos := "l6_journal.go:178", after := #[], guard := none }
abbrev qPg8 : Oper := { dst := some 94, op := Op.load 31 (Operand.tmp 5), type := 31, pos := "l6_journal.go:178", after := #[{ on := 4, ground := Ground.gcOnly Departure.lateStores }], guard := none }
abbrev qPg9 : Oper := { dst := some 95, op := Op.move (Operand.tmp 16), type := 3, pos := "l6_journal.go:178", after := #[{ on := 5, ground := Ground.gcOnly Departure.lateStores }], guard := none }
abbrev qPg10 : Oper := { dst := some 93, op := Op.call { callee := Callee.value (Operand.func 34), args := #[Operand.tmp 92], argTypes := #[64] }, type := 30, pos := "l6_journal.go:178", after := #[{ on := 0, ground := Ground.data }], guard := none }
abbrev qPg11 : Oper := { dst := none, op := Op.store 30 (Operand.tmp 8) (Operand.tmp 93), type := 0, pos := "l6_journal.go:178", after := #[{ on := 1, ground := Ground.data }, { on := 1, ground := Ground.chain }, { on := 0, ground := Ground.phase }, { on := 1, ground := Ground.phase }, { on := 2, ground := Ground.textOnly Departure.lateStores }, { on := 3, ground := Ground.textOnly Departure.lateStores }], guard := none }
abbrev qPg12 : Oper := { dst := none, op := Op.store 31 (Operand.tmp 9) (Operand.tmp 94), type := 0, pos := "l6_journal.go:178", after := #[{ on := 2, ground := Ground.data }, { on := 4, ground := Ground.chain }, { on := 0, ground := Ground.phase }, { on := 1, ground := Ground.phase }, { on := 2, ground := Ground.phase }, { on := 3, ground := Ground.textOnly Departure.lateStores }, { on := 4, ground := Ground.phase }], guard := none }
abbrev qPg13 : Oper := { dst := some 10, op := Op.assign (Operand.tmp 95), type := 3, pos := "l6_journal.go:178", after := #[{ on := 3, ground := Ground.data }, { on := 5, ground := Ground.chain }, { on := 0, ground := Ground.phase }, { on := 1, ground := Ground.phase }, { on := 2, ground := Ground.phase }, { on := 3, ground := Ground.phase }, { on := 4, ground := Ground.phase }, { on := 5, ground := Ground.phase }], guard := none }
set_option maxRecDepth 20000 in
set_option maxHeartbeats 8000000 in
theorem iApC (b off c : Nat) (L : List Fil) (x1 x2 x3 x4 : Int) (x5 : Bool) (l s : Int) (en f : ByteArray) (hf : frm en = f) (mo : Int) (w : World) (h : FL w (some ⟨b, off, none⟩) L.length (nthF L)) (hen : en.size ≤ 1048576) (hsm : Small L.length (nthF L)) (hq : f.size ≠ 0) (_hfz : f.size ≤ 65536) (hlg : logB l s = true) (hmo : btw mo 1 1000000000 = true) (_hs0 : 0 ≤ s) (_hs1 : s ≤ 1000000000) (_hl0 : 1 ≤ l) (_hl1 : l ≤ 9999) (hx1 : s ≠ 0) (hx2 : mo < s + (f.size : Int)) (h99 : l ≠ 9999) (hv : okFs L.length (nthF L) x1 x2 x3 x4 = true) (hok : Ok6 L x1 x2 1048576) (hT : T10 w) (ln : Nat) (HLN : Hid (l = ln)) (cc : Int) (hcc : cc ≠ 0) (r1 : Int) (hr1 : FdAt L (seg (ln + 1)) r1) (L1 : List Fil) (y1 : Int) (d1 : Bool) (e1 : stS L x1 x2 x3 x4 x5 1 (seg (ln + 1)) ⟨#[]⟩ 0 r1 = (L1, y1, d1, cc)) :
    Calls Tryd.prog 9 #[.agg #[.slice (some ⟨b, off, none⟩) L.length c, .int .i64 x1, .int .i64 x2, .int .i64 x3, .int .i64 x4, .bool x5], .agg #[.int .i64 l, .int .i64 s], .string en, .int .i64 mo] w (RE L1 x1 y1 x3 x4 d1 l s cc w) := by
  have hn := hsm.n
  have hfe : (f.toList == ([] : List UInt8)) = false := by rw [nilS]; simpa using hq
  have hsz : (s == 0) = false := by simp [hx1]
  have hsy : (s != 0) = true := by simp [hx1]
  have hsx : decide (s = 0) = false := by simp [hx1]
  have h9 : (l == 9999) = false := by simp [h99]
  obtain ⟨nm, hnm⟩ : ∃ nm, seg (ln + 1) = nm := ⟨_, rfl⟩
  have hsg := seg_ok (ln + 1)
  rw [hnm] at hsg hr1 e1
  have E1 : Hid (stS L x1 x2 x3 x4 x5 1 nm ⟨#[]⟩ 0 r1 = (L1, y1, d1, cc)) := e1
  clear e1
  have hz : (⟨#[]⟩ : ByteArray).size = 0 := rfl
  have hcc0 : (cc == 0) = false := by simp [hcc]
  have hcc1 : (cc != 0) = true := by simp [hcc]
  have hcc2 : decide (cc = 0) = false := by simp [hcc]
  obtain ⟨hX0, hL0, hR80, hR90, hb0⟩ := four w (.cells #[.slice (some ⟨b, off, none⟩) L.length c, .int .i64 x1, .int .i64 x2, .int .i64 x3, .int .i64 x4, .bool x5] 30) (.cells #[.int .i64 l, .int .i64 s] 31) (.cells #[.slice none 0 0, .int .i64 0, .int .i64 0, .int .i64 0, .int .i64 0, .bool false] 30) (.cells #[.int .i64 0, .int .i64 0] 31)
  go_enter Tryd.func9, Tryd.ntmps9
  go_upto_region 2 with (go_at_call 26; refine (iFrameE en f hf _ hen).mono ?_; rintro e w1 ⟨rfl, hb1⟩)
  have hX1 := rowL hX0 hb1
  have hL1 := rowL hL0 hb1
  have hR81 := rowL hR80 hb1
  have hR91 := rowL hR90 hb1
  have hc1 := bstep hb0 hb1
  have hKx : Kx w w1 #[.slice (some ⟨b, off, none⟩) L.length c, .int .i64 x1, .int .i64 x2, .int .i64 x3, .int .i64 x4, .bool x5] #[.int .i64 l, .int .i64 s] := ⟨hc1, hX1, hL1⟩
  clear hX0 hL0 hR80 hR90 hb0 hb1
  obtain ⟨lc0, lc1⟩ := B2.of hL1
  obtain ⟨lf0, lf1⟩ := F2.of hL1
  obtain ⟨xc0, xc1, xc2, xc3, xc4, xc5⟩ := B6.of hX1
  go_upto_region 12 with (first | (go_at_call 27; refine (iLog l s _).mono ?_; rw [hlg]; rintro e w2 ⟨rfl, hb2⟩; have hL2 := rowL hL1 hb2; have hX2 := rowL hX1 hb2; obtain ⟨mc0, mc1⟩ := B2.of hL2; obtain ⟨mf0, mf1⟩ := F2.of hL2; obtain ⟨nc0, nc1, nc2, nc3, nc4, nc5⟩ := B6.of hX2) | (go_at_call 28; refine (iMost mo _).mono ?_; rw [hmo]; rintro e w3 ⟨rfl, rfl⟩) | (go_at_call 30; refine (iValid (some ⟨b, off, none⟩) L.length c (nthF L) x1 x2 x3 x4 x5 _ (h.later (bstep hc1 hb2)) hsm).mono ?_; rw [hv]; rintro e w4 ⟨rfl, hb4⟩; have hX4 := rowL hX2 hb4; obtain ⟨oc0, oc1, oc2, oc3, oc4, oc5⟩ := B6.of hX4) | (go_at_call 31; refine (iMount b off L.length c (nthF L) x1 x2 x3 x4 x5 _ (h.later (bstep hc1 (bstep hb2 hb4))) hn).mono ?_; rintro e w5 ⟨p, g5, cap5, rfl, hd5, hO5, hgp5, hp5, hb5⟩; have hL5 := rowL (rowL hL2 hb4) hb5; obtain ⟨pc0, pc1⟩ := B2.of hL5; obtain ⟨pf0, pf1⟩ := F2.of hL5))
  have hR82 := rowL hR81 hb2
  have hR92 := rowL hR91 hb2
  have hc2 := bstep hc1 hb2
  have hKx2 := hKx.later hb2
  have hR84 := rowL hR82 hb4
  have hR94 := rowL hR92 hb4
  have hc4 := bstep hc2 hb4
  have hKx4 := hKx2.later hb4
  have hR85 := rowL hR84 hb5
  have hR95 := rowL hR94 hb5
  have hc5 := bstep hc4 hb5
  have hX5 := rowL hX4 hb5
  have hKx5 := hKx4.later hb5
  have hD5 : Dk w5 p w4.heap.size L x1 x2 x3 x4 x5 := ⟨g5, cap5, hd5, hO5.l, hp5⟩
  have hpl := hD5.lt.1
  have hs4 : w.heap.size + 1 + 1 + 1 < w4.heap.size := (Array.getElem?_eq_some_iff.1 hR94).1
  have hN6 := heap_alloc_new w5 (.cells #[.int .i64 (l + 1), .int .i64 0] 31)
  have hb6 := bal w5 (.cells #[.int .i64 (l + 1), .int .i64 0] 31)
  generalize w5.alloc (.cells #[.int .i64 (l + 1), .int .i64 0] 31) = w6 at hN6 hb6 ⊢
  obtain ⟨vc0, vc1⟩ := B2.of hN6
  go_upto_region 13 with (first | (go_at_call 33; refine (iSegmentE (ln + 1) (l + 1) (by have := HLN.out; omega) _ (by have := HLN.out; omega) (hT.later (bstep hc5 hb6)) nm hnm).mono ?_; rintro e w7 ⟨rfl, hb7⟩) | (go_at_call 32; refine (iStepE p w4.heap.size L x1 x2 x3 x4 x5 1 nm ⟨#[]⟩ 0 r1 L1 y1 d1 cc _ _ ((hD5.later hb6).later hb7) hok (by omega) (by omega) (by omega) hsg (by omega) hr1 E1.out).mono ?_; rintro e w8 ⟨rfl, hk8, hB8⟩))
  have hX7 := rowL hX5 (bstep hb6 hb7)
  have hL7 := rowL hL5 (bstep hb6 hb7)
  have hR87 := rowL hR85 (bstep hb6 hb7)
  have hR97 := rowL hR95 (bstep hb6 hb7)
  have hN7 := rowL hN6 hb7
  have hX8 := hB8.k (w.heap.size) _ _ _ (by omega) (by decide) hX7
  have hL8 := hB8.k (w.heap.size + 1) _ _ _ (by omega) (by decide) hL7
  have hR88 := hB8.k (w.heap.size + 1 + 1) _ _ _ (by omega) (by decide) hR87
  have hR98 := hB8.k (w.heap.size + 1 + 1 + 1) _ _ _ (by omega) (by decide) hR97
  have hN8 := hB8.k w5.heap.size _ _ _ (by omega) (by decide) hN7
  have hc8 : Below w.heap.size w w8 := (bstep hc5 (bstep hb6 hb7)).trans (hB8.b.mono (by have := hc4.size; omega))
  have hKx8 : Kx w w8 #[.slice (some ⟨b, off, none⟩) L.length c, .int .i64 x1, .int .i64 x2, .int .i64 x3, .int .i64 x4, .bool x5] #[.int .i64 l, .int .i64 s] := ⟨hc8, hX8, hL8⟩
  go_upto_region 14 with (fail)
  obtain ⟨gq, capq, hdq, hOq, hpq⟩ := hk8
  refine wp_region_held_drew (S := fun x => Kx w x #[.slice (some ⟨b, off, none⟩) L.length c, .int .i64 x1, .int .i64 x2, .int .i64 x3, .int .i64 x4, .bool x5] #[.int .i64 l, .int .i64 s]) (by kernel_rfl) (hKx8.later (bdrew1 _)) (fun hHeld => ?_)
  refine' takeF (i := 0) (oi := ({ dst := some 75, op := Op.move (Operand.tmp 13), type := 64, pos := "l6_journal.go:170", after := #[], guard := none } : Oper)) rfl ⟨by rfl, fun x hSw => ?h1⟩ hHeld ?r1
  case h1 =>
    go_simp
    try with_reducible rfl
  try simp only [Act.put, List.setIfInBounds_toArray, List.set_cons_zero, List.set_cons_succ]
  refine' takeF (i := 2) (oi := ({ dst := some 77, op := Op.load 31 (Operand.tmp 5), type := 31, pos := "l6_journal.go:170", after := #[{ on := 4, ground := Ground.gcOnly Departure.lateStores }], guard := none } : Oper)) rfl ⟨by rfl, fun x hSw => ?h2⟩ hHeld ?r2
  case h2 =>
    obtain ⟨k0, k1, k2, k3, k4, k5⟩ := B6.of hSw.xr; obtain ⟨qc0, qc1⟩ := B2.of hSw.lr
    go_simp
    try with_reducible rfl
  try simp only [Act.put, List.setIfInBounds_toArray, List.set_cons_zero, List.set_cons_succ]
  refine' takeF (i := 3) (oi := ({ dst := some 78, op := Op.move (Operand.tmp 15), type := 3, pos := "l6_journal.go:170", after := #[{ on := 5, ground := Ground.gcOnly Departure.lateStores }], guard := none } : Oper)) rfl ⟨by rfl, fun x hSw => ?h3⟩ hHeld ?r3
  case h3 =>
    go_simp
    try with_reducible rfl
  try simp only [Act.put, List.setIfInBounds_toArray, List.set_cons_zero, List.set_cons_succ]
  refine wpAnyH_ready (rs := [1]) (by kernel_rfl) (by simp) ?_
  refine AllReadyH.cons (o := ({ dst := some 76, op := Op.call { callee := Callee.value (Operand.func 34), args := #[Operand.tmp 75], argTypes := #[64] }, type := 30, pos := "l6_journal.go:170", after := #[{ on := 0, ground := Ground.data }], guard := none } : Oper)) rfl (fun K hK => ?_) AllReadyH.nil
  go_simp
  refine (iState p _ _ _ _ rfl x1 y1 x3 x4 d1 _ (hdq.later (bdrew1 _))).mono ?_
  rintro e wz ⟨rfl, hbz⟩; have hR85 := rowL hR88 (bstep (bdrew1 _) hbz); have hR95 := rowL hR98 (bstep (bdrew1 _) hbz)
  refine hK.out _ _ (hHeld.later hbz) (fun hHeld => ?_)
  clear hK K
  try simp only [Act.put, List.setIfInBounds_toArray, List.set_cons_zero, List.set_cons_succ]
  refine wpAnyH_ready (rs := [4]) (by kernel_rfl) (by simp) ?_
  refine AllReadyH.cons (o := ({ dst := none, op := Op.store 30 (Operand.tmp 8) (Operand.tmp 76), type := 0, pos := "l6_journal.go:170", after := #[{ on := 1, ground := Ground.data }, { on := 1, ground := Ground.chain }, { on := 0, ground := Ground.phase }, { on := 1, ground := Ground.phase }, { on := 2, ground := Ground.textOnly Departure.lateStores }, { on := 3, ground := Ground.textOnly Departure.lateStores }], guard := none } : Oper)) rfl (fun K hK => ?_) AllReadyH.nil
  obtain ⟨rc0, rc1, rc2, rc3, rc4, rc5⟩ := B6.of hR85; obtain ⟨rf0, rf1, rf2, rf3, rf4, rf5⟩ := F6.of hR85
  go_simp
  refine hK.out _ _ (hHeld.set8 (.slice (some ⟨gq, 0, none⟩) L1.length capq) (.int .i64 x1) (.int .i64 y1) (.int .i64 x3) (.int .i64 x4) (.bool d1)) (fun hHeld => ?_)
  clear hK K
  try simp only [Act.put, List.setIfInBounds_toArray, List.set_cons_zero, List.set_cons_succ]
  refine wpAnyH_ready (rs := [5]) (by kernel_rfl) (by simp) ?_
  refine AllReadyH.cons (o := ({ dst := none, op := Op.store 31 (Operand.tmp 9) (Operand.tmp 77), type := 0, pos := "l6_journal.go:170", after := #[{ on := 2, ground := Ground.data }, { on := 4, ground := Ground.chain }, { on := 0, ground := Ground.phase }, { on := 1, ground := Ground.phase }, { on := 2, ground := Ground.phase }, { on := 3, ground := Ground.textOnly Departure.lateStores }, { on := 4, ground := Ground.phase }], guard := none } : Oper)) rfl (fun K hK => ?_) AllReadyH.nil
  have hR96 := set6_oth (.slice (some ⟨gq, 0, none⟩) L1.length capq) (.int .i64 x1) (.int .i64 y1) (.int .i64 x3) (.int .i64 x4) (.bool d1) (Q := w.heap.size + 1 + 1) hR95 (by omega); have t0 := (cell_of_row _ _ 0 _ _ _ hR96).trans rfl; have tf0 := frozen_of_row _ _ 0 _ _ hR96; have t1 := (cell_of_row _ _ 1 _ _ _ hR96).trans rfl; have tf1 := frozen_of_row _ _ 1 _ _ hR96
  go_simp
  refine hK.out _ _ (hHeld.set9 (.int .i64 l) (.int .i64 s)) (fun hHeld => ?_)
  clear hK K
  try simp only [Act.put, List.setIfInBounds_toArray, List.set_cons_zero, List.set_cons_succ]
  refine' takeF (i := 6) (oi := ({ dst := some 10, op := Op.assign (Operand.tmp 78), type := 3, pos := "l6_journal.go:170", after := #[{ on := 3, ground := Ground.data }, { on := 5, ground := Ground.chain }, { on := 0, ground := Ground.phase }, { on := 1, ground := Ground.phase }, { on := 2, ground := Ground.phase }, { on := 3, ground := Ground.phase }, { on := 4, ground := Ground.phase }, { on := 5, ground := Ground.phase }], guard := none } : Oper)) rfl ⟨by rfl, fun x hSw => ?h4⟩ hHeld ?r4
  case h4 =>
    go_simp
    try with_reducible rfl
  try simp only [Act.put, List.setIfInBounds_toArray, List.set_cons_zero, List.set_cons_succ]
  refine wpAnyH_done (by kernel_rfl) ?_ _
  go_wp2
  refine bodyPost_ret (results_cell2_tmp Tryd.results9 _ _ (w.heap.size + 1 + 1) 30 _ (0, 0) _ rfl (fin8 _ _ _ _ _ _ _ _ hR85 (by omega)) Tryd.underlying30 rfl (by kernel_rfl) (w.heap.size + 1 + 1 + 1) 31 _ (0, 0) _ rfl (fin9 _ _ _ _ _ _ _ _ hR95 (by omega)) Tryd.underlying31 rfl (by kernel_rfl)) rfl ?_
  exact ⟨_, _, rfl, (finO (((hOq.later (bdrew1 _)).later hbz).wk (by have := hc4.size; omega)) hR85 hR95 (by omega)).f, hHeld.b⟩
set_option maxRecDepth 20000 in
set_option maxHeartbeats 8000000 in
theorem iApN0 (b off c : Nat) (L : List Fil) (x1 x2 x3 x4 : Int) (x5 : Bool) (l s : Int) (en f : ByteArray) (hf : frm en = f) (mo : Int) (w : World) (h : FL w (some ⟨b, off, none⟩) L.length (nthF L)) (hen : en.size ≤ 1048576) (hsm : Small L.length (nthF L)) (hq : f.size ≠ 0) (_hfz : f.size ≤ 65536) (hlg : logB l s = true) (hmo : btw mo 1 1000000000 = true) (_hs0 : 0 ≤ s) (_hs1 : s ≤ 1000000000) (_hl0 : 1 ≤ l) (_hl1 : l ≤ 9999) (hx1 : s ≠ 0) (hx2 : mo < s + (f.size : Int)) (h99 : l ≠ 9999) (hv : okFs L.length (nthF L) x1 x2 x3 x4 = true) (hok : Ok6 L x1 x2 1048576) (hT : T10 w) (ln : Nat) (HLN : Hid (l = ln)) (r1 : Int) (hr1 : FdAt L (seg (ln + 1)) r1) (L1 : List Fil) (y1 : Int) (d1 : Bool) (e1 : stS L x1 x2 x3 x4 x5 1 (seg (ln + 1)) ⟨#[]⟩ 0 r1 = (L1, y1, d1, 0)) (M : List Fil) (z2 : Int) (z5 : Bool) (HW : Hid (∀ p B w, Dk w p B L1 x1 y1 x3 x4 d1 → T10 w → Calls Tryd.prog 35 #[.pointer (some ⟨p, 0, none⟩), .agg #[.int .i64 (l + 1), .int .i64 0], .string f] w fun e w' => e = .returned (.int .i64 0) ∧ Dk w' p B M x1 z2 x3 x4 z5 ∧ BK B p w w')) :
    Calls Tryd.prog 9 #[.agg #[.slice (some ⟨b, off, none⟩) L.length c, .int .i64 x1, .int .i64 x2, .int .i64 x3, .int .i64 x4, .bool x5], .agg #[.int .i64 l, .int .i64 s], .string en, .int .i64 mo] w (RE M x1 z2 x3 x4 z5 (l + 1) (f.size : Int) 0 w) := by
  have hn := hsm.n
  have hfe : (f.toList == ([] : List UInt8)) = false := by rw [nilS]; simpa using hq
  have hsz : (s == 0) = false := by simp [hx1]
  have hsy : (s != 0) = true := by simp [hx1]
  have hsx : decide (s = 0) = false := by simp [hx1]
  have h9 : (l == 9999) = false := by simp [h99]
  obtain ⟨nm, hnm⟩ : ∃ nm, seg (ln + 1) = nm := ⟨_, rfl⟩
  have hsg := seg_ok (ln + 1)
  rw [hnm] at hsg hr1 e1
  have E1 : Hid (stS L x1 x2 x3 x4 x5 1 nm ⟨#[]⟩ 0 r1 = (L1, y1, d1, 0)) := e1
  clear e1
  have hz : (⟨#[]⟩ : ByteArray).size = 0 := rfl
  obtain ⟨hX0, hL0, hR80, hR90, hb0⟩ := four w (.cells #[.slice (some ⟨b, off, none⟩) L.length c, .int .i64 x1, .int .i64 x2, .int .i64 x3, .int .i64 x4, .bool x5] 30) (.cells #[.int .i64 l, .int .i64 s] 31) (.cells #[.slice none 0 0, .int .i64 0, .int .i64 0, .int .i64 0, .int .i64 0, .bool false] 30) (.cells #[.int .i64 0, .int .i64 0] 31)
  go_enter Tryd.func9, Tryd.ntmps9
  go_upto_region 2 with (go_at_call 26; refine (iFrameE en f hf _ hen).mono ?_; rintro e w1 ⟨rfl, hb1⟩)
  have hX1 := rowL hX0 hb1
  have hL1 := rowL hL0 hb1
  have hR81 := rowL hR80 hb1
  have hR91 := rowL hR90 hb1
  have hc1 := bstep hb0 hb1
  have hKx : Kx w w1 #[.slice (some ⟨b, off, none⟩) L.length c, .int .i64 x1, .int .i64 x2, .int .i64 x3, .int .i64 x4, .bool x5] #[.int .i64 l, .int .i64 s] := ⟨hc1, hX1, hL1⟩
  clear hX0 hL0 hR80 hR90 hb0 hb1
  obtain ⟨lc0, lc1⟩ := B2.of hL1
  obtain ⟨lf0, lf1⟩ := F2.of hL1
  obtain ⟨xc0, xc1, xc2, xc3, xc4, xc5⟩ := B6.of hX1
  go_upto_region 12 with (first | (go_at_call 27; refine (iLog l s _).mono ?_; rw [hlg]; rintro e w2 ⟨rfl, hb2⟩; have hL2 := rowL hL1 hb2; have hX2 := rowL hX1 hb2; obtain ⟨mc0, mc1⟩ := B2.of hL2; obtain ⟨mf0, mf1⟩ := F2.of hL2; obtain ⟨nc0, nc1, nc2, nc3, nc4, nc5⟩ := B6.of hX2) | (go_at_call 28; refine (iMost mo _).mono ?_; rw [hmo]; rintro e w3 ⟨rfl, rfl⟩) | (go_at_call 30; refine (iValid (some ⟨b, off, none⟩) L.length c (nthF L) x1 x2 x3 x4 x5 _ (h.later (bstep hc1 hb2)) hsm).mono ?_; rw [hv]; rintro e w4 ⟨rfl, hb4⟩; have hX4 := rowL hX2 hb4; obtain ⟨oc0, oc1, oc2, oc3, oc4, oc5⟩ := B6.of hX4) | (go_at_call 31; refine (iMount b off L.length c (nthF L) x1 x2 x3 x4 x5 _ (h.later (bstep hc1 (bstep hb2 hb4))) hn).mono ?_; rintro e w5 ⟨p, g5, cap5, rfl, hd5, hO5, hgp5, hp5, hb5⟩; have hL5 := rowL (rowL hL2 hb4) hb5; obtain ⟨pc0, pc1⟩ := B2.of hL5; obtain ⟨pf0, pf1⟩ := F2.of hL5))
  have hR82 := rowL hR81 hb2
  have hR92 := rowL hR91 hb2
  have hc2 := bstep hc1 hb2
  have hKx2 := hKx.later hb2
  have hR84 := rowL hR82 hb4
  have hR94 := rowL hR92 hb4
  have hc4 := bstep hc2 hb4
  have hKx4 := hKx2.later hb4
  have hR85 := rowL hR84 hb5
  have hR95 := rowL hR94 hb5
  have hc5 := bstep hc4 hb5
  have hX5 := rowL hX4 hb5
  have hKx5 := hKx4.later hb5
  have hD5 : Dk w5 p w4.heap.size L x1 x2 x3 x4 x5 := ⟨g5, cap5, hd5, hO5.l, hp5⟩
  have hpl := hD5.lt.1
  have hs4 : w.heap.size + 1 + 1 + 1 < w4.heap.size := (Array.getElem?_eq_some_iff.1 hR94).1
  have hN6 := heap_alloc_new w5 (.cells #[.int .i64 (l + 1), .int .i64 0] 31)
  have hb6 := bal w5 (.cells #[.int .i64 (l + 1), .int .i64 0] 31)
  generalize w5.alloc (.cells #[.int .i64 (l + 1), .int .i64 0] 31) = w6 at hN6 hb6 ⊢
  obtain ⟨vc0, vc1⟩ := B2.of hN6
  go_upto_region 13 with (first | (go_at_call 33; refine (iSegmentE (ln + 1) (l + 1) (by have := HLN.out; omega) _ (by have := HLN.out; omega) (hT.later (bstep hc5 hb6)) nm hnm).mono ?_; rintro e w7 ⟨rfl, hb7⟩) | (go_at_call 32; refine (iStepE p w4.heap.size L x1 x2 x3 x4 x5 1 nm ⟨#[]⟩ 0 r1 L1 y1 d1 0 _ _ ((hD5.later hb6).later hb7) hok (by omega) (by omega) (by omega) hsg (by omega) hr1 E1.out).mono ?_; rintro e w8 ⟨rfl, hk8, hB8⟩))
  have hX7 := rowL hX5 (bstep hb6 hb7)
  have hL7 := rowL hL5 (bstep hb6 hb7)
  have hR87 := rowL hR85 (bstep hb6 hb7)
  have hR97 := rowL hR95 (bstep hb6 hb7)
  have hN7 := rowL hN6 hb7
  have hX8 := hB8.k (w.heap.size) _ _ _ (by omega) (by decide) hX7
  have hL8 := hB8.k (w.heap.size + 1) _ _ _ (by omega) (by decide) hL7
  have hR88 := hB8.k (w.heap.size + 1 + 1) _ _ _ (by omega) (by decide) hR87
  have hR98 := hB8.k (w.heap.size + 1 + 1 + 1) _ _ _ (by omega) (by decide) hR97
  have hN8 := hB8.k w5.heap.size _ _ _ (by omega) (by decide) hN7
  have hc8 : Below w.heap.size w w8 := (bstep hc5 (bstep hb6 hb7)).trans (hB8.b.mono (by have := hc4.size; omega))
  have hKx8 : Kx w w8 #[.slice (some ⟨b, off, none⟩) L.length c, .int .i64 x1, .int .i64 x2, .int .i64 x3, .int .i64 x4, .bool x5] #[.int .i64 l, .int .i64 s] := ⟨hc8, hX8, hL8⟩
  obtain ⟨gc0, gc1⟩ := B2.of hN8
  obtain ⟨hc0, hc1⟩ := B2.of hL8
  obtain ⟨hf0, hf1⟩ := F2.of hL8
  go_upto_region 16 with (fail)
  have hL9 := set2_row (.int .i64 (l + 1)) (.int .i64 0) hL8
  have hX9 := set2_oth (Q := w.heap.size + 1) (.int .i64 (l + 1)) (.int .i64 0) hX8 (by omega)
  have hR89 := set2_oth (Q := w.heap.size + 1) (.int .i64 (l + 1)) (.int .i64 0) hR88 (by omega)
  have hR99 := set2_oth (Q := w.heap.size + 1) (.int .i64 (l + 1)) (.int .i64 0) hR98 (by omega)
  have hk9 := hk8.set2 hL8 (by have := hk8.lt; omega) (.int .i64 (l + 1)) (.int .i64 0)
  have hc9 := set2_below (Q := w.heap.size + 1) (.int .i64 (l + 1)) (.int .i64 0) hc8 (by omega)
  generalize (w8.setCell ⟨w.heap.size + 1, 0, none⟩ (.int .i64 (l + 1))).setCell ⟨w.heap.size + 1, 1, none⟩ (.int .i64 0) = w9 at hL9 hX9 hR89 hR99 hk9 hc9 ⊢
  obtain ⟨ac0, ac1⟩ := B2.of hL9
  obtain ⟨af0, af1⟩ := F2.of hL9
  go_upto_region 17 with (go_at_call 35; refine (HW.out p _ _ hk9 (hT.later hc9)).mono ?_; rintro e wa ⟨rfl, hka, hBa⟩)
  have hXa := hBa.k (w.heap.size) _ _ _ (by omega) (by decide) hX9
  have hLa := hBa.k (w.heap.size + 1) _ _ _ (by omega) (by decide) hL9
  have hR8a := hBa.k (w.heap.size + 1 + 1) _ _ _ (by omega) (by decide) hR89
  have hR9a := hBa.k (w.heap.size + 1 + 1 + 1) _ _ _ (by omega) (by decide) hR99
  have hca : Below w.heap.size w wa := hc9.trans (hBa.b.mono (by have := hc4.size; omega))
  have hKxa : Kx w wa #[.slice (some ⟨b, off, none⟩) L.length c, .int .i64 x1, .int .i64 x2, .int .i64 x3, .int .i64 x4, .bool x5] #[.int .i64 (l + 1), .int .i64 0] := ⟨hca, hXa, hLa⟩
  obtain ⟨dc0, dc1⟩ := B2.of hLa
  obtain ⟨df0, df1⟩ := F2.of hLa
  go_upto_region 19 with (fail)
  have hLc : (wa.setCell ⟨w.heap.size + 1, 1, none⟩ (.int .i64 ((f.size : Int)))).heap[w.heap.size + 1]? = some (.cells #[.int .i64 (l + 1), .int .i64 ((f.size : Int))] 31 (0, 0)) := heap_setCell_same _ _ 1 _ _ _ hLa
  have hXc := rowO (B := w.heap.size + 1) (i := 1) (v := .int .i64 ((f.size : Int))) hXa (by omega)
  have hR8c := rowO (B := w.heap.size + 1) (i := 1) (v := .int .i64 ((f.size : Int))) hR8a (by omega)
  have hR9c := rowO (B := w.heap.size + 1) (i := 1) (v := .int .i64 ((f.size : Int))) hR9a (by omega)
  have hkc := hka.set1 (o := 1) hLa (by have := hka.lt; omega) (.int .i64 ((f.size : Int)))
  have hcc : Below w.heap.size w (wa.setCell ⟨w.heap.size + 1, 1, none⟩ (.int .i64 ((f.size : Int)))) := bset hca (by omega)
  generalize wa.setCell ⟨w.heap.size + 1, 1, none⟩ (.int .i64 ((f.size : Int))) = wc at hLc hXc hR8c hR9c hkc hcc ⊢
  have hKxc : Kx w wc #[.slice (some ⟨b, off, none⟩) L.length c, .int .i64 x1, .int .i64 x2, .int .i64 x3, .int .i64 x4, .bool x5] #[.int .i64 (l + 1), .int .i64 ((f.size : Int))] := ⟨hcc, hXc, hLc⟩
  obtain ⟨gq, capq, hdq, hOq, hpq⟩ := hkc
  refine wp_region_held_drew (S := fun x => Kx w x #[.slice (some ⟨b, off, none⟩) L.length c, .int .i64 x1, .int .i64 x2, .int .i64 x3, .int .i64 x4, .bool x5] #[.int .i64 (l + 1), .int .i64 ((f.size : Int))]) (by kernel_rfl) (hKxc.later (bdrew1 _)) (fun hHeld => ?_)
  refine' takeF (i := 0) (oi := qPg7) rfl ⟨by rfl, fun x hSw => ?h5⟩ hHeld ?r5
  case h5 =>
    go_simp
    try with_reducible rfl
  try simp only [Act.put, List.setIfInBounds_toArray, List.set_cons_zero, List.set_cons_succ]
  refine' takeF (i := 2) (oi := qPg8) rfl ⟨by rfl, fun x hSw => ?h6⟩ hHeld ?r6
  case h6 =>
    obtain ⟨k0, k1, k2, k3, k4, k5⟩ := B6.of hSw.xr; obtain ⟨qc0, qc1⟩ := B2.of hSw.lr
    go_simp
    try with_reducible rfl
  try simp only [Act.put, List.setIfInBounds_toArray, List.set_cons_zero, List.set_cons_succ]
  refine' takeF (i := 3) (oi := qPg9) rfl ⟨by rfl, fun x hSw => ?h7⟩ hHeld ?r7
  case h7 =>
    go_simp
    try with_reducible rfl
  try simp only [Act.put, List.setIfInBounds_toArray, List.set_cons_zero, List.set_cons_succ]
  refine wpAnyH_ready (rs := [1]) (by kernel_rfl) (by simp) ?_
  refine AllReadyH.cons (o := qPg10) rfl (fun K hK => ?_) AllReadyH.nil
  go_simp
  refine (iState p _ _ _ _ rfl x1 z2 x3 x4 z5 _ (hdq.later (bdrew1 _))).mono ?_
  rintro e wz ⟨rfl, hbz⟩; have hR85 := rowL hR8c (bstep (bdrew1 _) hbz); have hR95 := rowL hR9c (bstep (bdrew1 _) hbz)
  refine hK.out _ _ (hHeld.later hbz) (fun hHeld => ?_)
  clear hK K
  try simp only [Act.put, List.setIfInBounds_toArray, List.set_cons_zero, List.set_cons_succ]
  refine wpAnyH_ready (rs := [4]) (by kernel_rfl) (by simp) ?_
  refine AllReadyH.cons (o := qPg11) rfl (fun K hK => ?_) AllReadyH.nil
  obtain ⟨rc0, rc1, rc2, rc3, rc4, rc5⟩ := B6.of hR85; obtain ⟨rf0, rf1, rf2, rf3, rf4, rf5⟩ := F6.of hR85
  go_simp
  refine hK.out _ _ (hHeld.set8 (.slice (some ⟨gq, 0, none⟩) M.length capq) (.int .i64 x1) (.int .i64 z2) (.int .i64 x3) (.int .i64 x4) (.bool z5)) (fun hHeld => ?_)
  clear hK K
  try simp only [Act.put, List.setIfInBounds_toArray, List.set_cons_zero, List.set_cons_succ]
  refine wpAnyH_ready (rs := [5]) (by kernel_rfl) (by simp) ?_
  refine AllReadyH.cons (o := qPg12) rfl (fun K hK => ?_) AllReadyH.nil
  have hR96 := set6_oth (.slice (some ⟨gq, 0, none⟩) M.length capq) (.int .i64 x1) (.int .i64 z2) (.int .i64 x3) (.int .i64 x4) (.bool z5) (Q := w.heap.size + 1 + 1) hR95 (by omega); have t0 := (cell_of_row _ _ 0 _ _ _ hR96).trans rfl; have tf0 := frozen_of_row _ _ 0 _ _ hR96; have t1 := (cell_of_row _ _ 1 _ _ _ hR96).trans rfl; have tf1 := frozen_of_row _ _ 1 _ _ hR96
  go_simp
  refine hK.out _ _ (hHeld.set9 (.int .i64 (l + 1)) (.int .i64 ((f.size : Int)))) (fun hHeld => ?_)
  clear hK K
  try simp only [Act.put, List.setIfInBounds_toArray, List.set_cons_zero, List.set_cons_succ]
  refine' takeF (i := 6) (oi := qPg13) rfl ⟨by rfl, fun x hSw => ?h8⟩ hHeld ?r8
  case h8 =>
    go_simp
    try with_reducible rfl
  try simp only [Act.put, List.setIfInBounds_toArray, List.set_cons_zero, List.set_cons_succ]
  refine wpAnyH_done (by kernel_rfl) ?_ _
  go_wp2
  refine bodyPost_ret (results_cell2_tmp Tryd.results9 _ _ (w.heap.size + 1 + 1) 30 _ (0, 0) _ rfl (fin8 _ _ _ _ _ _ _ _ hR85 (by omega)) Tryd.underlying30 rfl (by kernel_rfl) (w.heap.size + 1 + 1 + 1) 31 _ (0, 0) _ rfl (fin9 _ _ _ _ _ _ _ _ hR95 (by omega)) Tryd.underlying31 rfl (by kernel_rfl)) rfl ?_
  exact ⟨_, _, rfl, (finO (((hOq.later (bdrew1 _)).later hbz).wk (by have := hc4.size; omega)) hR85 hR95 (by omega)).f, hHeld.b⟩
set_option maxRecDepth 20000 in
set_option maxHeartbeats 8000000 in
theorem iApW0a (b off c : Nat) (L : List Fil) (x1 x2 x3 x4 : Int) (x5 : Bool) (l s : Int) (en f : ByteArray) (hf : frm en = f) (mo : Int) (w : World) (h : FL w (some ⟨b, off, none⟩) L.length (nthF L)) (hen : en.size ≤ 1048576) (hsm : Small L.length (nthF L)) (hq : f.size ≠ 0) (_hfz : f.size ≤ 65536) (hlg : logB l s = true) (hmo : btw mo 1 1000000000 = true) (_hs0 : 0 ≤ s) (_hs1 : s ≤ 1000000000) (_hl0 : 1 ≤ l) (_hl1 : l ≤ 9999) (hx1 : s = 0) (hv : okFs L.length (nthF L) x1 x2 x3 x4 = true) (_hok : Ok6 L x1 x2 1048576) (hT : T10 w) (M : List Fil) (z2 : Int) (z5 : Bool) (HW : Hid (∀ p B w, Dk w p B L x1 x2 x3 x4 x5 → T10 w → Calls Tryd.prog 35 #[.pointer (some ⟨p, 0, none⟩), .agg #[.int .i64 l, .int .i64 s], .string f] w fun e w' => e = .returned (.int .i64 0) ∧ Dk w' p B M x1 z2 x3 x4 z5 ∧ BK B p w w')) :
    Calls Tryd.prog 9 #[.agg #[.slice (some ⟨b, off, none⟩) L.length c, .int .i64 x1, .int .i64 x2, .int .i64 x3, .int .i64 x4, .bool x5], .agg #[.int .i64 l, .int .i64 s], .string en, .int .i64 mo] w (RE M x1 z2 x3 x4 z5 l (s + (f.size : Int)) 0 w) := by
  have hn := hsm.n
  have hfe : (f.toList == ([] : List UInt8)) = false := by rw [nilS]; simpa using hq
  have hsz : (s == 0) = true := by simp [hx1]
  have hsy : (s != 0) = false := by simp [hx1]
  have hsx : decide (s = 0) = true := by simp [hx1]
  clear hx1
  obtain ⟨hX0, hL0, hR80, hR90, hb0⟩ := four w (.cells #[.slice (some ⟨b, off, none⟩) L.length c, .int .i64 x1, .int .i64 x2, .int .i64 x3, .int .i64 x4, .bool x5] 30) (.cells #[.int .i64 l, .int .i64 s] 31) (.cells #[.slice none 0 0, .int .i64 0, .int .i64 0, .int .i64 0, .int .i64 0, .bool false] 30) (.cells #[.int .i64 0, .int .i64 0] 31)
  go_enter Tryd.func9, Tryd.ntmps9
  go_upto_region 2 with (go_at_call 26; refine (iFrameE en f hf _ hen).mono ?_; rintro e w1 ⟨rfl, hb1⟩)
  have hX1 := rowL hX0 hb1
  have hL1 := rowL hL0 hb1
  have hR81 := rowL hR80 hb1
  have hR91 := rowL hR90 hb1
  have hc1 := bstep hb0 hb1
  have hKx : Kx w w1 #[.slice (some ⟨b, off, none⟩) L.length c, .int .i64 x1, .int .i64 x2, .int .i64 x3, .int .i64 x4, .bool x5] #[.int .i64 l, .int .i64 s] := ⟨hc1, hX1, hL1⟩
  clear hX0 hL0 hR80 hR90 hb0 hb1
  obtain ⟨lc0, lc1⟩ := B2.of hL1
  obtain ⟨lf0, lf1⟩ := F2.of hL1
  obtain ⟨xc0, xc1, xc2, xc3, xc4, xc5⟩ := B6.of hX1
  go_upto_region 16 with (first | (go_at_call 27; refine (iLog l s _).mono ?_; rw [hlg]; rintro e w2 ⟨rfl, hb2⟩; have hL2 := rowL hL1 hb2; have hX2 := rowL hX1 hb2; obtain ⟨mc0, mc1⟩ := B2.of hL2; obtain ⟨mf0, mf1⟩ := F2.of hL2; obtain ⟨nc0, nc1, nc2, nc3, nc4, nc5⟩ := B6.of hX2) | (go_at_call 28; refine (iMost mo _).mono ?_; rw [hmo]; rintro e w3 ⟨rfl, rfl⟩) | (go_at_call 30; refine (iValid (some ⟨b, off, none⟩) L.length c (nthF L) x1 x2 x3 x4 x5 _ (h.later (bstep hc1 hb2)) hsm).mono ?_; rw [hv]; rintro e w4 ⟨rfl, hb4⟩; have hX4 := rowL hX2 hb4; obtain ⟨oc0, oc1, oc2, oc3, oc4, oc5⟩ := B6.of hX4) | (go_at_call 31; refine (iMount b off L.length c (nthF L) x1 x2 x3 x4 x5 _ (h.later (bstep hc1 (bstep hb2 hb4))) hn).mono ?_; rintro e w5 ⟨p, g5, cap5, rfl, hd5, hO5, hgp5, hp5, hb5⟩; have hL5 := rowL (rowL hL2 hb4) hb5; obtain ⟨pc0, pc1⟩ := B2.of hL5; obtain ⟨pf0, pf1⟩ := F2.of hL5))
  have hR82 := rowL hR81 hb2
  have hR92 := rowL hR91 hb2
  have hc2 := bstep hc1 hb2
  have hKx2 := hKx.later hb2
  have hR84 := rowL hR82 hb4
  have hR94 := rowL hR92 hb4
  have hc4 := bstep hc2 hb4
  have hKx4 := hKx2.later hb4
  have hR85 := rowL hR84 hb5
  have hR95 := rowL hR94 hb5
  have hc5 := bstep hc4 hb5
  have hX5 := rowL hX4 hb5
  have hKx5 := hKx4.later hb5
  have hD5 : Dk w5 p w4.heap.size L x1 x2 x3 x4 x5 := ⟨g5, cap5, hd5, hO5.l, hp5⟩
  have hpl := hD5.lt.1
  have hs4 : w.heap.size + 1 + 1 + 1 < w4.heap.size := (Array.getElem?_eq_some_iff.1 hR94).1
  have hk5 := hD5
  obtain ⟨ac0, ac1⟩ := B2.of hL5
  obtain ⟨af0, af1⟩ := F2.of hL5
  go_upto_region 17 with (go_at_call 35; refine (HW.out p _ _ hk5 (hT.later hc5)).mono ?_; rintro e wa ⟨rfl, hka, hBa⟩)
  have hXa := hBa.k (w.heap.size) _ _ _ (by omega) (by decide) hX5
  have hLa := hBa.k (w.heap.size + 1) _ _ _ (by omega) (by decide) hL5
  have hR8a := hBa.k (w.heap.size + 1 + 1) _ _ _ (by omega) (by decide) hR85
  have hR9a := hBa.k (w.heap.size + 1 + 1 + 1) _ _ _ (by omega) (by decide) hR95
  have hca : Below w.heap.size w wa := hc5.trans (hBa.b.mono (by have := hc4.size; omega))
  have hKxa : Kx w wa #[.slice (some ⟨b, off, none⟩) L.length c, .int .i64 x1, .int .i64 x2, .int .i64 x3, .int .i64 x4, .bool x5] #[.int .i64 l, .int .i64 s] := ⟨hca, hXa, hLa⟩
  obtain ⟨dc0, dc1⟩ := B2.of hLa
  obtain ⟨df0, df1⟩ := F2.of hLa
  go_upto_region 19 with (fail)
  have hLc : (wa.setCell ⟨w.heap.size + 1, 1, none⟩ (.int .i64 (s + (f.size : Int)))).heap[w.heap.size + 1]? = some (.cells #[.int .i64 l, .int .i64 (s + (f.size : Int))] 31 (0, 0)) := heap_setCell_same _ _ 1 _ _ _ hLa
  have hXc := rowO (B := w.heap.size + 1) (i := 1) (v := .int .i64 (s + (f.size : Int))) hXa (by omega)
  have hR8c := rowO (B := w.heap.size + 1) (i := 1) (v := .int .i64 (s + (f.size : Int))) hR8a (by omega)
  have hR9c := rowO (B := w.heap.size + 1) (i := 1) (v := .int .i64 (s + (f.size : Int))) hR9a (by omega)
  have hkc := hka.set1 (o := 1) hLa (by have := hka.lt; omega) (.int .i64 (s + (f.size : Int)))
  have hcc : Below w.heap.size w (wa.setCell ⟨w.heap.size + 1, 1, none⟩ (.int .i64 (s + (f.size : Int)))) := bset hca (by omega)
  generalize wa.setCell ⟨w.heap.size + 1, 1, none⟩ (.int .i64 (s + (f.size : Int))) = wc at hLc hXc hR8c hR9c hkc hcc ⊢
  have hKxc : Kx w wc #[.slice (some ⟨b, off, none⟩) L.length c, .int .i64 x1, .int .i64 x2, .int .i64 x3, .int .i64 x4, .bool x5] #[.int .i64 l, .int .i64 (s + (f.size : Int))] := ⟨hcc, hXc, hLc⟩
  obtain ⟨gq, capq, hdq, hOq, hpq⟩ := hkc
  refine wp_region_held_drew (S := fun x => Kx w x #[.slice (some ⟨b, off, none⟩) L.length c, .int .i64 x1, .int .i64 x2, .int .i64 x3, .int .i64 x4, .bool x5] #[.int .i64 l, .int .i64 (s + (f.size : Int))]) (by kernel_rfl) (hKxc.later (bdrew1 _)) (fun hHeld => ?_)
  refine' takeF (i := 0) (oi := qPg7) rfl ⟨by rfl, fun x hSw => ?h9⟩ hHeld ?r9
  case h9 =>
    go_simp
    try with_reducible rfl
  try simp only [Act.put, List.setIfInBounds_toArray, List.set_cons_zero, List.set_cons_succ]
  refine' takeF (i := 2) (oi := qPg8) rfl ⟨by rfl, fun x hSw => ?h10⟩ hHeld ?r10
  case h10 =>
    obtain ⟨k0, k1, k2, k3, k4, k5⟩ := B6.of hSw.xr; obtain ⟨qc0, qc1⟩ := B2.of hSw.lr
    go_simp
    try with_reducible rfl
  try simp only [Act.put, List.setIfInBounds_toArray, List.set_cons_zero, List.set_cons_succ]
  refine' takeF (i := 3) (oi := qPg9) rfl ⟨by rfl, fun x hSw => ?h11⟩ hHeld ?r11
  case h11 =>
    go_simp
    try with_reducible rfl
  try simp only [Act.put, List.setIfInBounds_toArray, List.set_cons_zero, List.set_cons_succ]
  refine wpAnyH_ready (rs := [1]) (by kernel_rfl) (by simp) ?_
  refine AllReadyH.cons (o := qPg10) rfl (fun K hK => ?_) AllReadyH.nil
  go_simp
  refine (iState p _ _ _ _ rfl x1 z2 x3 x4 z5 _ (hdq.later (bdrew1 _))).mono ?_
  rintro e wz ⟨rfl, hbz⟩; have hR85 := rowL hR8c (bstep (bdrew1 _) hbz); have hR95 := rowL hR9c (bstep (bdrew1 _) hbz)
  refine hK.out _ _ (hHeld.later hbz) (fun hHeld => ?_)
  clear hK K
  try simp only [Act.put, List.setIfInBounds_toArray, List.set_cons_zero, List.set_cons_succ]
  refine wpAnyH_ready (rs := [4]) (by kernel_rfl) (by simp) ?_
  refine AllReadyH.cons (o := qPg11) rfl (fun K hK => ?_) AllReadyH.nil
  obtain ⟨rc0, rc1, rc2, rc3, rc4, rc5⟩ := B6.of hR85; obtain ⟨rf0, rf1, rf2, rf3, rf4, rf5⟩ := F6.of hR85
  go_simp
  refine hK.out _ _ (hHeld.set8 (.slice (some ⟨gq, 0, none⟩) M.length capq) (.int .i64 x1) (.int .i64 z2) (.int .i64 x3) (.int .i64 x4) (.bool z5)) (fun hHeld => ?_)
  clear hK K
  try simp only [Act.put, List.setIfInBounds_toArray, List.set_cons_zero, List.set_cons_succ]
  refine wpAnyH_ready (rs := [5]) (by kernel_rfl) (by simp) ?_
  refine AllReadyH.cons (o := qPg12) rfl (fun K hK => ?_) AllReadyH.nil
  have hR96 := set6_oth (.slice (some ⟨gq, 0, none⟩) M.length capq) (.int .i64 x1) (.int .i64 z2) (.int .i64 x3) (.int .i64 x4) (.bool z5) (Q := w.heap.size + 1 + 1) hR95 (by omega); have t0 := (cell_of_row _ _ 0 _ _ _ hR96).trans rfl; have tf0 := frozen_of_row _ _ 0 _ _ hR96; have t1 := (cell_of_row _ _ 1 _ _ _ hR96).trans rfl; have tf1 := frozen_of_row _ _ 1 _ _ hR96
  go_simp
  refine hK.out _ _ (hHeld.set9 (.int .i64 l) (.int .i64 (s + (f.size : Int)))) (fun hHeld => ?_)
  clear hK K
  try simp only [Act.put, List.setIfInBounds_toArray, List.set_cons_zero, List.set_cons_succ]
  refine' takeF (i := 6) (oi := qPg13) rfl ⟨by rfl, fun x hSw => ?h12⟩ hHeld ?r12
  case h12 =>
    go_simp
    try with_reducible rfl
  try simp only [Act.put, List.setIfInBounds_toArray, List.set_cons_zero, List.set_cons_succ]
  refine wpAnyH_done (by kernel_rfl) ?_ _
  go_wp2
  refine bodyPost_ret (results_cell2_tmp Tryd.results9 _ _ (w.heap.size + 1 + 1) 30 _ (0, 0) _ rfl (fin8 _ _ _ _ _ _ _ _ hR85 (by omega)) Tryd.underlying30 rfl (by kernel_rfl) (w.heap.size + 1 + 1 + 1) 31 _ (0, 0) _ rfl (fin9 _ _ _ _ _ _ _ _ hR95 (by omega)) Tryd.underlying31 rfl (by kernel_rfl)) rfl ?_
  exact ⟨_, _, rfl, (finO (((hOq.later (bdrew1 _)).later hbz).wk (by have := hc4.size; omega)) hR85 hR95 (by omega)).f, hHeld.b⟩
set_option maxRecDepth 20000 in
set_option maxHeartbeats 8000000 in
theorem iApW0b (b off c : Nat) (L : List Fil) (x1 x2 x3 x4 : Int) (x5 : Bool) (l s : Int) (en f : ByteArray) (hf : frm en = f) (mo : Int) (w : World) (h : FL w (some ⟨b, off, none⟩) L.length (nthF L)) (hen : en.size ≤ 1048576) (hsm : Small L.length (nthF L)) (hq : f.size ≠ 0) (_hfz : f.size ≤ 65536) (hlg : logB l s = true) (hmo : btw mo 1 1000000000 = true) (_hs0 : 0 ≤ s) (_hs1 : s ≤ 1000000000) (_hl0 : 1 ≤ l) (_hl1 : l ≤ 9999) (hx1 : s ≠ 0) (hx2 : ¬ mo < s + (f.size : Int)) (hv : okFs L.length (nthF L) x1 x2 x3 x4 = true) (_hok : Ok6 L x1 x2 1048576) (hT : T10 w) (M : List Fil) (z2 : Int) (z5 : Bool) (HW : Hid (∀ p B w, Dk w p B L x1 x2 x3 x4 x5 → T10 w → Calls Tryd.prog 35 #[.pointer (some ⟨p, 0, none⟩), .agg #[.int .i64 l, .int .i64 s], .string f] w fun e w' => e = .returned (.int .i64 0) ∧ Dk w' p B M x1 z2 x3 x4 z5 ∧ BK B p w w')) :
    Calls Tryd.prog 9 #[.agg #[.slice (some ⟨b, off, none⟩) L.length c, .int .i64 x1, .int .i64 x2, .int .i64 x3, .int .i64 x4, .bool x5], .agg #[.int .i64 l, .int .i64 s], .string en, .int .i64 mo] w (RE M x1 z2 x3 x4 z5 l (s + (f.size : Int)) 0 w) := by
  have hn := hsm.n
  have hfe : (f.toList == ([] : List UInt8)) = false := by rw [nilS]; simpa using hq
  have hsz : (s == 0) = false := by simp [hx1]
  have hsy : (s != 0) = true := by simp [hx1]
  have hsx : decide (s = 0) = false := by simp [hx1]
  have hx3 : s + (f.size : Int) ≤ mo := by omega
  clear hx2
  obtain ⟨hX0, hL0, hR80, hR90, hb0⟩ := four w (.cells #[.slice (some ⟨b, off, none⟩) L.length c, .int .i64 x1, .int .i64 x2, .int .i64 x3, .int .i64 x4, .bool x5] 30) (.cells #[.int .i64 l, .int .i64 s] 31) (.cells #[.slice none 0 0, .int .i64 0, .int .i64 0, .int .i64 0, .int .i64 0, .bool false] 30) (.cells #[.int .i64 0, .int .i64 0] 31)
  go_enter Tryd.func9, Tryd.ntmps9
  go_upto_region 2 with (go_at_call 26; refine (iFrameE en f hf _ hen).mono ?_; rintro e w1 ⟨rfl, hb1⟩)
  have hX1 := rowL hX0 hb1
  have hL1 := rowL hL0 hb1
  have hR81 := rowL hR80 hb1
  have hR91 := rowL hR90 hb1
  have hc1 := bstep hb0 hb1
  have hKx : Kx w w1 #[.slice (some ⟨b, off, none⟩) L.length c, .int .i64 x1, .int .i64 x2, .int .i64 x3, .int .i64 x4, .bool x5] #[.int .i64 l, .int .i64 s] := ⟨hc1, hX1, hL1⟩
  clear hX0 hL0 hR80 hR90 hb0 hb1
  obtain ⟨lc0, lc1⟩ := B2.of hL1
  obtain ⟨lf0, lf1⟩ := F2.of hL1
  obtain ⟨xc0, xc1, xc2, xc3, xc4, xc5⟩ := B6.of hX1
  go_upto_region 16 with (first | (go_at_call 27; refine (iLog l s _).mono ?_; rw [hlg]; rintro e w2 ⟨rfl, hb2⟩; have hL2 := rowL hL1 hb2; have hX2 := rowL hX1 hb2; obtain ⟨mc0, mc1⟩ := B2.of hL2; obtain ⟨mf0, mf1⟩ := F2.of hL2; obtain ⟨nc0, nc1, nc2, nc3, nc4, nc5⟩ := B6.of hX2) | (go_at_call 28; refine (iMost mo _).mono ?_; rw [hmo]; rintro e w3 ⟨rfl, rfl⟩) | (go_at_call 30; refine (iValid (some ⟨b, off, none⟩) L.length c (nthF L) x1 x2 x3 x4 x5 _ (h.later (bstep hc1 hb2)) hsm).mono ?_; rw [hv]; rintro e w4 ⟨rfl, hb4⟩; have hX4 := rowL hX2 hb4; obtain ⟨oc0, oc1, oc2, oc3, oc4, oc5⟩ := B6.of hX4) | (go_at_call 31; refine (iMount b off L.length c (nthF L) x1 x2 x3 x4 x5 _ (h.later (bstep hc1 (bstep hb2 hb4))) hn).mono ?_; rintro e w5 ⟨p, g5, cap5, rfl, hd5, hO5, hgp5, hp5, hb5⟩; have hL5 := rowL (rowL hL2 hb4) hb5; obtain ⟨pc0, pc1⟩ := B2.of hL5; obtain ⟨pf0, pf1⟩ := F2.of hL5))
  have hR82 := rowL hR81 hb2
  have hR92 := rowL hR91 hb2
  have hc2 := bstep hc1 hb2
  have hKx2 := hKx.later hb2
  have hR84 := rowL hR82 hb4
  have hR94 := rowL hR92 hb4
  have hc4 := bstep hc2 hb4
  have hKx4 := hKx2.later hb4
  have hR85 := rowL hR84 hb5
  have hR95 := rowL hR94 hb5
  have hc5 := bstep hc4 hb5
  have hX5 := rowL hX4 hb5
  have hKx5 := hKx4.later hb5
  have hD5 : Dk w5 p w4.heap.size L x1 x2 x3 x4 x5 := ⟨g5, cap5, hd5, hO5.l, hp5⟩
  have hpl := hD5.lt.1
  have hs4 : w.heap.size + 1 + 1 + 1 < w4.heap.size := (Array.getElem?_eq_some_iff.1 hR94).1
  have hk5 := hD5
  obtain ⟨ac0, ac1⟩ := B2.of hL5
  obtain ⟨af0, af1⟩ := F2.of hL5
  go_upto_region 17 with (go_at_call 35; refine (HW.out p _ _ hk5 (hT.later hc5)).mono ?_; rintro e wa ⟨rfl, hka, hBa⟩)
  have hXa := hBa.k (w.heap.size) _ _ _ (by omega) (by decide) hX5
  have hLa := hBa.k (w.heap.size + 1) _ _ _ (by omega) (by decide) hL5
  have hR8a := hBa.k (w.heap.size + 1 + 1) _ _ _ (by omega) (by decide) hR85
  have hR9a := hBa.k (w.heap.size + 1 + 1 + 1) _ _ _ (by omega) (by decide) hR95
  have hca : Below w.heap.size w wa := hc5.trans (hBa.b.mono (by have := hc4.size; omega))
  have hKxa : Kx w wa #[.slice (some ⟨b, off, none⟩) L.length c, .int .i64 x1, .int .i64 x2, .int .i64 x3, .int .i64 x4, .bool x5] #[.int .i64 l, .int .i64 s] := ⟨hca, hXa, hLa⟩
  obtain ⟨dc0, dc1⟩ := B2.of hLa
  obtain ⟨df0, df1⟩ := F2.of hLa
  go_upto_region 19 with (fail)
  have hLc : (wa.setCell ⟨w.heap.size + 1, 1, none⟩ (.int .i64 (s + (f.size : Int)))).heap[w.heap.size + 1]? = some (.cells #[.int .i64 l, .int .i64 (s + (f.size : Int))] 31 (0, 0)) := heap_setCell_same _ _ 1 _ _ _ hLa
  have hXc := rowO (B := w.heap.size + 1) (i := 1) (v := .int .i64 (s + (f.size : Int))) hXa (by omega)
  have hR8c := rowO (B := w.heap.size + 1) (i := 1) (v := .int .i64 (s + (f.size : Int))) hR8a (by omega)
  have hR9c := rowO (B := w.heap.size + 1) (i := 1) (v := .int .i64 (s + (f.size : Int))) hR9a (by omega)
  have hkc := hka.set1 (o := 1) hLa (by have := hka.lt; omega) (.int .i64 (s + (f.size : Int)))
  have hcc : Below w.heap.size w (wa.setCell ⟨w.heap.size + 1, 1, none⟩ (.int .i64 (s + (f.size : Int)))) := bset hca (by omega)
  generalize wa.setCell ⟨w.heap.size + 1, 1, none⟩ (.int .i64 (s + (f.size : Int))) = wc at hLc hXc hR8c hR9c hkc hcc ⊢
  have hKxc : Kx w wc #[.slice (some ⟨b, off, none⟩) L.length c, .int .i64 x1, .int .i64 x2, .int .i64 x3, .int .i64 x4, .bool x5] #[.int .i64 l, .int .i64 (s + (f.size : Int))] := ⟨hcc, hXc, hLc⟩
  obtain ⟨gq, capq, hdq, hOq, hpq⟩ := hkc
  refine wp_region_held_drew (S := fun x => Kx w x #[.slice (some ⟨b, off, none⟩) L.length c, .int .i64 x1, .int .i64 x2, .int .i64 x3, .int .i64 x4, .bool x5] #[.int .i64 l, .int .i64 (s + (f.size : Int))]) (by kernel_rfl) (hKxc.later (bdrew1 _)) (fun hHeld => ?_)
  refine' takeF (i := 0) (oi := qPg7) rfl ⟨by rfl, fun x hSw => ?h13⟩ hHeld ?r13
  case h13 =>
    go_simp
    try with_reducible rfl
  try simp only [Act.put, List.setIfInBounds_toArray, List.set_cons_zero, List.set_cons_succ]
  refine' takeF (i := 2) (oi := qPg8) rfl ⟨by rfl, fun x hSw => ?h14⟩ hHeld ?r14
  case h14 =>
    obtain ⟨k0, k1, k2, k3, k4, k5⟩ := B6.of hSw.xr; obtain ⟨qc0, qc1⟩ := B2.of hSw.lr
    go_simp
    try with_reducible rfl
  try simp only [Act.put, List.setIfInBounds_toArray, List.set_cons_zero, List.set_cons_succ]
  refine' takeF (i := 3) (oi := qPg9) rfl ⟨by rfl, fun x hSw => ?h15⟩ hHeld ?r15
  case h15 =>
    go_simp
    try with_reducible rfl
  try simp only [Act.put, List.setIfInBounds_toArray, List.set_cons_zero, List.set_cons_succ]
  refine wpAnyH_ready (rs := [1]) (by kernel_rfl) (by simp) ?_
  refine AllReadyH.cons (o := qPg10) rfl (fun K hK => ?_) AllReadyH.nil
  go_simp
  refine (iState p _ _ _ _ rfl x1 z2 x3 x4 z5 _ (hdq.later (bdrew1 _))).mono ?_
  rintro e wz ⟨rfl, hbz⟩; have hR85 := rowL hR8c (bstep (bdrew1 _) hbz); have hR95 := rowL hR9c (bstep (bdrew1 _) hbz)
  refine hK.out _ _ (hHeld.later hbz) (fun hHeld => ?_)
  clear hK K
  try simp only [Act.put, List.setIfInBounds_toArray, List.set_cons_zero, List.set_cons_succ]
  refine wpAnyH_ready (rs := [4]) (by kernel_rfl) (by simp) ?_
  refine AllReadyH.cons (o := qPg11) rfl (fun K hK => ?_) AllReadyH.nil
  obtain ⟨rc0, rc1, rc2, rc3, rc4, rc5⟩ := B6.of hR85; obtain ⟨rf0, rf1, rf2, rf3, rf4, rf5⟩ := F6.of hR85
  go_simp
  refine hK.out _ _ (hHeld.set8 (.slice (some ⟨gq, 0, none⟩) M.length capq) (.int .i64 x1) (.int .i64 z2) (.int .i64 x3) (.int .i64 x4) (.bool z5)) (fun hHeld => ?_)
  clear hK K
  try simp only [Act.put, List.setIfInBounds_toArray, List.set_cons_zero, List.set_cons_succ]
  refine wpAnyH_ready (rs := [5]) (by kernel_rfl) (by simp) ?_
  refine AllReadyH.cons (o := qPg12) rfl (fun K hK => ?_) AllReadyH.nil
  have hR96 := set6_oth (.slice (some ⟨gq, 0, none⟩) M.length capq) (.int .i64 x1) (.int .i64 z2) (.int .i64 x3) (.int .i64 x4) (.bool z5) (Q := w.heap.size + 1 + 1) hR95 (by omega); have t0 := (cell_of_row _ _ 0 _ _ _ hR96).trans rfl; have tf0 := frozen_of_row _ _ 0 _ _ hR96; have t1 := (cell_of_row _ _ 1 _ _ _ hR96).trans rfl; have tf1 := frozen_of_row _ _ 1 _ _ hR96
  go_simp
  refine hK.out _ _ (hHeld.set9 (.int .i64 l) (.int .i64 (s + (f.size : Int)))) (fun hHeld => ?_)
  clear hK K
  try simp only [Act.put, List.setIfInBounds_toArray, List.set_cons_zero, List.set_cons_succ]
  refine' takeF (i := 6) (oi := qPg13) rfl ⟨by rfl, fun x hSw => ?h16⟩ hHeld ?r16
  case h16 =>
    go_simp
    try with_reducible rfl
  try simp only [Act.put, List.setIfInBounds_toArray, List.set_cons_zero, List.set_cons_succ]
  refine wpAnyH_done (by kernel_rfl) ?_ _
  go_wp2
  refine bodyPost_ret (results_cell2_tmp Tryd.results9 _ _ (w.heap.size + 1 + 1) 30 _ (0, 0) _ rfl (fin8 _ _ _ _ _ _ _ _ hR85 (by omega)) Tryd.underlying30 rfl (by kernel_rfl) (w.heap.size + 1 + 1 + 1) 31 _ (0, 0) _ rfl (fin9 _ _ _ _ _ _ _ _ hR95 (by omega)) Tryd.underlying31 rfl (by kernel_rfl)) rfl ?_
  exact ⟨_, _, rfl, (finO (((hOq.later (bdrew1 _)).later hbz).wk (by have := hc4.size; omega)) hR85 hR95 (by omega)).f, hHeld.b⟩
set_option maxRecDepth 20000 in
set_option maxHeartbeats 8000000 in
theorem iApN1 (b off c : Nat) (L : List Fil) (x1 x2 x3 x4 : Int) (x5 : Bool) (l s : Int) (en f : ByteArray) (hf : frm en = f) (mo : Int) (w : World) (h : FL w (some ⟨b, off, none⟩) L.length (nthF L)) (hen : en.size ≤ 1048576) (hsm : Small L.length (nthF L)) (hq : f.size ≠ 0) (_hfz : f.size ≤ 65536) (hlg : logB l s = true) (hmo : btw mo 1 1000000000 = true) (_hs0 : 0 ≤ s) (_hs1 : s ≤ 1000000000) (_hl0 : 1 ≤ l) (_hl1 : l ≤ 9999) (hx1 : s ≠ 0) (hx2 : mo < s + (f.size : Int)) (h99 : l ≠ 9999) (hv : okFs L.length (nthF L) x1 x2 x3 x4 = true) (hok : Ok6 L x1 x2 1048576) (hT : T10 w) (ln : Nat) (HLN : Hid (l = ln)) (r1 : Int) (hr1 : FdAt L (seg (ln + 1)) r1) (L1 : List Fil) (y1 : Int) (d1 : Bool) (e1 : stS L x1 x2 x3 x4 x5 1 (seg (ln + 1)) ⟨#[]⟩ 0 r1 = (L1, y1, d1, 0)) (M : List Fil) (z2 : Int) (z5 : Bool) (zc : Int) (hzc : zc ≠ 0) (HW : Hid (∀ p B w, Dk w p B L1 x1 y1 x3 x4 d1 → T10 w → Calls Tryd.prog 35 #[.pointer (some ⟨p, 0, none⟩), .agg #[.int .i64 (l + 1), .int .i64 0], .string f] w fun e w' => e = .returned (.int .i64 zc) ∧ Dk w' p B M x1 z2 x3 x4 z5 ∧ BK B p w w')) :
    Calls Tryd.prog 9 #[.agg #[.slice (some ⟨b, off, none⟩) L.length c, .int .i64 x1, .int .i64 x2, .int .i64 x3, .int .i64 x4, .bool x5], .agg #[.int .i64 l, .int .i64 s], .string en, .int .i64 mo] w (RE M x1 z2 x3 x4 z5 (l + 1) 0 zc w) := by
  have hn := hsm.n
  have hfe : (f.toList == ([] : List UInt8)) = false := by rw [nilS]; simpa using hq
  have hsz : (s == 0) = false := by simp [hx1]
  have hsy : (s != 0) = true := by simp [hx1]
  have hsx : decide (s = 0) = false := by simp [hx1]
  have h9 : (l == 9999) = false := by simp [h99]
  obtain ⟨nm, hnm⟩ : ∃ nm, seg (ln + 1) = nm := ⟨_, rfl⟩
  have hsg := seg_ok (ln + 1)
  rw [hnm] at hsg hr1 e1
  have E1 : Hid (stS L x1 x2 x3 x4 x5 1 nm ⟨#[]⟩ 0 r1 = (L1, y1, d1, 0)) := e1
  clear e1
  have hz : (⟨#[]⟩ : ByteArray).size = 0 := rfl
  have hzc0 : (zc == 0) = false := by simp [hzc]
  have hzc2 : decide (zc = 0) = false := by simp [hzc]
  obtain ⟨hX0, hL0, hR80, hR90, hb0⟩ := four w (.cells #[.slice (some ⟨b, off, none⟩) L.length c, .int .i64 x1, .int .i64 x2, .int .i64 x3, .int .i64 x4, .bool x5] 30) (.cells #[.int .i64 l, .int .i64 s] 31) (.cells #[.slice none 0 0, .int .i64 0, .int .i64 0, .int .i64 0, .int .i64 0, .bool false] 30) (.cells #[.int .i64 0, .int .i64 0] 31)
  go_enter Tryd.func9, Tryd.ntmps9
  go_upto_region 2 with (go_at_call 26; refine (iFrameE en f hf _ hen).mono ?_; rintro e w1 ⟨rfl, hb1⟩)
  have hX1 := rowL hX0 hb1
  have hL1 := rowL hL0 hb1
  have hR81 := rowL hR80 hb1
  have hR91 := rowL hR90 hb1
  have hc1 := bstep hb0 hb1
  have hKx : Kx w w1 #[.slice (some ⟨b, off, none⟩) L.length c, .int .i64 x1, .int .i64 x2, .int .i64 x3, .int .i64 x4, .bool x5] #[.int .i64 l, .int .i64 s] := ⟨hc1, hX1, hL1⟩
  clear hX0 hL0 hR80 hR90 hb0 hb1
  obtain ⟨lc0, lc1⟩ := B2.of hL1
  obtain ⟨lf0, lf1⟩ := F2.of hL1
  obtain ⟨xc0, xc1, xc2, xc3, xc4, xc5⟩ := B6.of hX1
  go_upto_region 12 with (first | (go_at_call 27; refine (iLog l s _).mono ?_; rw [hlg]; rintro e w2 ⟨rfl, hb2⟩; have hL2 := rowL hL1 hb2; have hX2 := rowL hX1 hb2; obtain ⟨mc0, mc1⟩ := B2.of hL2; obtain ⟨mf0, mf1⟩ := F2.of hL2; obtain ⟨nc0, nc1, nc2, nc3, nc4, nc5⟩ := B6.of hX2) | (go_at_call 28; refine (iMost mo _).mono ?_; rw [hmo]; rintro e w3 ⟨rfl, rfl⟩) | (go_at_call 30; refine (iValid (some ⟨b, off, none⟩) L.length c (nthF L) x1 x2 x3 x4 x5 _ (h.later (bstep hc1 hb2)) hsm).mono ?_; rw [hv]; rintro e w4 ⟨rfl, hb4⟩; have hX4 := rowL hX2 hb4; obtain ⟨oc0, oc1, oc2, oc3, oc4, oc5⟩ := B6.of hX4) | (go_at_call 31; refine (iMount b off L.length c (nthF L) x1 x2 x3 x4 x5 _ (h.later (bstep hc1 (bstep hb2 hb4))) hn).mono ?_; rintro e w5 ⟨p, g5, cap5, rfl, hd5, hO5, hgp5, hp5, hb5⟩; have hL5 := rowL (rowL hL2 hb4) hb5; obtain ⟨pc0, pc1⟩ := B2.of hL5; obtain ⟨pf0, pf1⟩ := F2.of hL5))
  have hR82 := rowL hR81 hb2
  have hR92 := rowL hR91 hb2
  have hc2 := bstep hc1 hb2
  have hKx2 := hKx.later hb2
  have hR84 := rowL hR82 hb4
  have hR94 := rowL hR92 hb4
  have hc4 := bstep hc2 hb4
  have hKx4 := hKx2.later hb4
  have hR85 := rowL hR84 hb5
  have hR95 := rowL hR94 hb5
  have hc5 := bstep hc4 hb5
  have hX5 := rowL hX4 hb5
  have hKx5 := hKx4.later hb5
  have hD5 : Dk w5 p w4.heap.size L x1 x2 x3 x4 x5 := ⟨g5, cap5, hd5, hO5.l, hp5⟩
  have hpl := hD5.lt.1
  have hs4 : w.heap.size + 1 + 1 + 1 < w4.heap.size := (Array.getElem?_eq_some_iff.1 hR94).1
  have hN6 := heap_alloc_new w5 (.cells #[.int .i64 (l + 1), .int .i64 0] 31)
  have hb6 := bal w5 (.cells #[.int .i64 (l + 1), .int .i64 0] 31)
  generalize w5.alloc (.cells #[.int .i64 (l + 1), .int .i64 0] 31) = w6 at hN6 hb6 ⊢
  obtain ⟨vc0, vc1⟩ := B2.of hN6
  go_upto_region 13 with (first | (go_at_call 33; refine (iSegmentE (ln + 1) (l + 1) (by have := HLN.out; omega) _ (by have := HLN.out; omega) (hT.later (bstep hc5 hb6)) nm hnm).mono ?_; rintro e w7 ⟨rfl, hb7⟩) | (go_at_call 32; refine (iStepE p w4.heap.size L x1 x2 x3 x4 x5 1 nm ⟨#[]⟩ 0 r1 L1 y1 d1 0 _ _ ((hD5.later hb6).later hb7) hok (by omega) (by omega) (by omega) hsg (by omega) hr1 E1.out).mono ?_; rintro e w8 ⟨rfl, hk8, hB8⟩))
  have hX7 := rowL hX5 (bstep hb6 hb7)
  have hL7 := rowL hL5 (bstep hb6 hb7)
  have hR87 := rowL hR85 (bstep hb6 hb7)
  have hR97 := rowL hR95 (bstep hb6 hb7)
  have hN7 := rowL hN6 hb7
  have hX8 := hB8.k (w.heap.size) _ _ _ (by omega) (by decide) hX7
  have hL8 := hB8.k (w.heap.size + 1) _ _ _ (by omega) (by decide) hL7
  have hR88 := hB8.k (w.heap.size + 1 + 1) _ _ _ (by omega) (by decide) hR87
  have hR98 := hB8.k (w.heap.size + 1 + 1 + 1) _ _ _ (by omega) (by decide) hR97
  have hN8 := hB8.k w5.heap.size _ _ _ (by omega) (by decide) hN7
  have hc8 : Below w.heap.size w w8 := (bstep hc5 (bstep hb6 hb7)).trans (hB8.b.mono (by have := hc4.size; omega))
  have hKx8 : Kx w w8 #[.slice (some ⟨b, off, none⟩) L.length c, .int .i64 x1, .int .i64 x2, .int .i64 x3, .int .i64 x4, .bool x5] #[.int .i64 l, .int .i64 s] := ⟨hc8, hX8, hL8⟩
  obtain ⟨gc0, gc1⟩ := B2.of hN8
  obtain ⟨hc0, hc1⟩ := B2.of hL8
  obtain ⟨hf0, hf1⟩ := F2.of hL8
  go_upto_region 16 with (fail)
  have hL9 := set2_row (.int .i64 (l + 1)) (.int .i64 0) hL8
  have hX9 := set2_oth (Q := w.heap.size + 1) (.int .i64 (l + 1)) (.int .i64 0) hX8 (by omega)
  have hR89 := set2_oth (Q := w.heap.size + 1) (.int .i64 (l + 1)) (.int .i64 0) hR88 (by omega)
  have hR99 := set2_oth (Q := w.heap.size + 1) (.int .i64 (l + 1)) (.int .i64 0) hR98 (by omega)
  have hk9 := hk8.set2 hL8 (by have := hk8.lt; omega) (.int .i64 (l + 1)) (.int .i64 0)
  have hc9 := set2_below (Q := w.heap.size + 1) (.int .i64 (l + 1)) (.int .i64 0) hc8 (by omega)
  generalize (w8.setCell ⟨w.heap.size + 1, 0, none⟩ (.int .i64 (l + 1))).setCell ⟨w.heap.size + 1, 1, none⟩ (.int .i64 0) = w9 at hL9 hX9 hR89 hR99 hk9 hc9 ⊢
  obtain ⟨ac0, ac1⟩ := B2.of hL9
  obtain ⟨af0, af1⟩ := F2.of hL9
  go_upto_region 17 with (go_at_call 35; refine (HW.out p _ _ hk9 (hT.later hc9)).mono ?_; rintro e wa ⟨rfl, hka, hBa⟩)
  have hXa := hBa.k (w.heap.size) _ _ _ (by omega) (by decide) hX9
  have hLa := hBa.k (w.heap.size + 1) _ _ _ (by omega) (by decide) hL9
  have hR8a := hBa.k (w.heap.size + 1 + 1) _ _ _ (by omega) (by decide) hR89
  have hR9a := hBa.k (w.heap.size + 1 + 1 + 1) _ _ _ (by omega) (by decide) hR99
  have hca : Below w.heap.size w wa := hc9.trans (hBa.b.mono (by have := hc4.size; omega))
  have hKxa : Kx w wa #[.slice (some ⟨b, off, none⟩) L.length c, .int .i64 x1, .int .i64 x2, .int .i64 x3, .int .i64 x4, .bool x5] #[.int .i64 (l + 1), .int .i64 0] := ⟨hca, hXa, hLa⟩
  go_upto_region 19 with (fail)
  obtain ⟨gq, capq, hdq, hOq, hpq⟩ := hka
  refine wp_region_held_drew (S := fun x => Kx w x #[.slice (some ⟨b, off, none⟩) L.length c, .int .i64 x1, .int .i64 x2, .int .i64 x3, .int .i64 x4, .bool x5] #[.int .i64 (l + 1), .int .i64 0]) (by kernel_rfl) (hKxa.later (bdrew1 _)) (fun hHeld => ?_)
  refine' takeF (i := 0) (oi := qPg7) rfl ⟨by rfl, fun x hSw => ?h17⟩ hHeld ?r17
  case h17 =>
    go_simp
    try with_reducible rfl
  try simp only [Act.put, List.setIfInBounds_toArray, List.set_cons_zero, List.set_cons_succ]
  refine' takeF (i := 2) (oi := qPg8) rfl ⟨by rfl, fun x hSw => ?h18⟩ hHeld ?r18
  case h18 =>
    obtain ⟨k0, k1, k2, k3, k4, k5⟩ := B6.of hSw.xr; obtain ⟨qc0, qc1⟩ := B2.of hSw.lr
    go_simp
    try with_reducible rfl
  try simp only [Act.put, List.setIfInBounds_toArray, List.set_cons_zero, List.set_cons_succ]
  refine' takeF (i := 3) (oi := qPg9) rfl ⟨by rfl, fun x hSw => ?h19⟩ hHeld ?r19
  case h19 =>
    go_simp
    try with_reducible rfl
  try simp only [Act.put, List.setIfInBounds_toArray, List.set_cons_zero, List.set_cons_succ]
  refine wpAnyH_ready (rs := [1]) (by kernel_rfl) (by simp) ?_
  refine AllReadyH.cons (o := qPg10) rfl (fun K hK => ?_) AllReadyH.nil
  go_simp
  refine (iState p _ _ _ _ rfl x1 z2 x3 x4 z5 _ (hdq.later (bdrew1 _))).mono ?_
  rintro e wz ⟨rfl, hbz⟩; have hR85 := rowL hR8a (bstep (bdrew1 _) hbz); have hR95 := rowL hR9a (bstep (bdrew1 _) hbz)
  refine hK.out _ _ (hHeld.later hbz) (fun hHeld => ?_)
  clear hK K
  try simp only [Act.put, List.setIfInBounds_toArray, List.set_cons_zero, List.set_cons_succ]
  refine wpAnyH_ready (rs := [4]) (by kernel_rfl) (by simp) ?_
  refine AllReadyH.cons (o := qPg11) rfl (fun K hK => ?_) AllReadyH.nil
  obtain ⟨rc0, rc1, rc2, rc3, rc4, rc5⟩ := B6.of hR85; obtain ⟨rf0, rf1, rf2, rf3, rf4, rf5⟩ := F6.of hR85
  go_simp
  refine hK.out _ _ (hHeld.set8 (.slice (some ⟨gq, 0, none⟩) M.length capq) (.int .i64 x1) (.int .i64 z2) (.int .i64 x3) (.int .i64 x4) (.bool z5)) (fun hHeld => ?_)
  clear hK K
  try simp only [Act.put, List.setIfInBounds_toArray, List.set_cons_zero, List.set_cons_succ]
  refine wpAnyH_ready (rs := [5]) (by kernel_rfl) (by simp) ?_
  refine AllReadyH.cons (o := qPg12) rfl (fun K hK => ?_) AllReadyH.nil
  have hR96 := set6_oth (.slice (some ⟨gq, 0, none⟩) M.length capq) (.int .i64 x1) (.int .i64 z2) (.int .i64 x3) (.int .i64 x4) (.bool z5) (Q := w.heap.size + 1 + 1) hR95 (by omega); have t0 := (cell_of_row _ _ 0 _ _ _ hR96).trans rfl; have tf0 := frozen_of_row _ _ 0 _ _ hR96; have t1 := (cell_of_row _ _ 1 _ _ _ hR96).trans rfl; have tf1 := frozen_of_row _ _ 1 _ _ hR96
  go_simp
  refine hK.out _ _ (hHeld.set9 (.int .i64 (l + 1)) (.int .i64 0)) (fun hHeld => ?_)
  clear hK K
  try simp only [Act.put, List.setIfInBounds_toArray, List.set_cons_zero, List.set_cons_succ]
  refine' takeF (i := 6) (oi := qPg13) rfl ⟨by rfl, fun x hSw => ?h20⟩ hHeld ?r20
  case h20 =>
    go_simp
    try with_reducible rfl
  try simp only [Act.put, List.setIfInBounds_toArray, List.set_cons_zero, List.set_cons_succ]
  refine wpAnyH_done (by kernel_rfl) ?_ _
  go_wp2
  refine bodyPost_ret (results_cell2_tmp Tryd.results9 _ _ (w.heap.size + 1 + 1) 30 _ (0, 0) _ rfl (fin8 _ _ _ _ _ _ _ _ hR85 (by omega)) Tryd.underlying30 rfl (by kernel_rfl) (w.heap.size + 1 + 1 + 1) 31 _ (0, 0) _ rfl (fin9 _ _ _ _ _ _ _ _ hR95 (by omega)) Tryd.underlying31 rfl (by kernel_rfl)) rfl ?_
  exact ⟨_, _, rfl, (finO (((hOq.later (bdrew1 _)).later hbz).wk (by have := hc4.size; omega)) hR85 hR95 (by omega)).f, hHeld.b⟩
set_option maxRecDepth 20000 in
set_option maxHeartbeats 8000000 in
theorem iApW1a (b off c : Nat) (L : List Fil) (x1 x2 x3 x4 : Int) (x5 : Bool) (l s : Int) (en f : ByteArray) (hf : frm en = f) (mo : Int) (w : World) (h : FL w (some ⟨b, off, none⟩) L.length (nthF L)) (hen : en.size ≤ 1048576) (hsm : Small L.length (nthF L)) (hq : f.size ≠ 0) (_hfz : f.size ≤ 65536) (hlg : logB l s = true) (hmo : btw mo 1 1000000000 = true) (_hs0 : 0 ≤ s) (_hs1 : s ≤ 1000000000) (_hl0 : 1 ≤ l) (_hl1 : l ≤ 9999) (hx1 : s = 0) (hv : okFs L.length (nthF L) x1 x2 x3 x4 = true) (_hok : Ok6 L x1 x2 1048576) (hT : T10 w) (M : List Fil) (z2 : Int) (z5 : Bool) (zc : Int) (hzc : zc ≠ 0) (HW : Hid (∀ p B w, Dk w p B L x1 x2 x3 x4 x5 → T10 w → Calls Tryd.prog 35 #[.pointer (some ⟨p, 0, none⟩), .agg #[.int .i64 l, .int .i64 s], .string f] w fun e w' => e = .returned (.int .i64 zc) ∧ Dk w' p B M x1 z2 x3 x4 z5 ∧ BK B p w w')) :
    Calls Tryd.prog 9 #[.agg #[.slice (some ⟨b, off, none⟩) L.length c, .int .i64 x1, .int .i64 x2, .int .i64 x3, .int .i64 x4, .bool x5], .agg #[.int .i64 l, .int .i64 s], .string en, .int .i64 mo] w (RE M x1 z2 x3 x4 z5 l s zc w) := by
  have hn := hsm.n
  have hfe : (f.toList == ([] : List UInt8)) = false := by rw [nilS]; simpa using hq
  have hsz : (s == 0) = true := by simp [hx1]
  have hsy : (s != 0) = false := by simp [hx1]
  have hsx : decide (s = 0) = true := by simp [hx1]
  clear hx1
  have hzc0 : (zc == 0) = false := by simp [hzc]
  have hzc2 : decide (zc = 0) = false := by simp [hzc]
  obtain ⟨hX0, hL0, hR80, hR90, hb0⟩ := four w (.cells #[.slice (some ⟨b, off, none⟩) L.length c, .int .i64 x1, .int .i64 x2, .int .i64 x3, .int .i64 x4, .bool x5] 30) (.cells #[.int .i64 l, .int .i64 s] 31) (.cells #[.slice none 0 0, .int .i64 0, .int .i64 0, .int .i64 0, .int .i64 0, .bool false] 30) (.cells #[.int .i64 0, .int .i64 0] 31)
  go_enter Tryd.func9, Tryd.ntmps9
  go_upto_region 2 with (go_at_call 26; refine (iFrameE en f hf _ hen).mono ?_; rintro e w1 ⟨rfl, hb1⟩)
  have hX1 := rowL hX0 hb1
  have hL1 := rowL hL0 hb1
  have hR81 := rowL hR80 hb1
  have hR91 := rowL hR90 hb1
  have hc1 := bstep hb0 hb1
  have hKx : Kx w w1 #[.slice (some ⟨b, off, none⟩) L.length c, .int .i64 x1, .int .i64 x2, .int .i64 x3, .int .i64 x4, .bool x5] #[.int .i64 l, .int .i64 s] := ⟨hc1, hX1, hL1⟩
  clear hX0 hL0 hR80 hR90 hb0 hb1
  obtain ⟨lc0, lc1⟩ := B2.of hL1
  obtain ⟨lf0, lf1⟩ := F2.of hL1
  obtain ⟨xc0, xc1, xc2, xc3, xc4, xc5⟩ := B6.of hX1
  go_upto_region 16 with (first | (go_at_call 27; refine (iLog l s _).mono ?_; rw [hlg]; rintro e w2 ⟨rfl, hb2⟩; have hL2 := rowL hL1 hb2; have hX2 := rowL hX1 hb2; obtain ⟨mc0, mc1⟩ := B2.of hL2; obtain ⟨mf0, mf1⟩ := F2.of hL2; obtain ⟨nc0, nc1, nc2, nc3, nc4, nc5⟩ := B6.of hX2) | (go_at_call 28; refine (iMost mo _).mono ?_; rw [hmo]; rintro e w3 ⟨rfl, rfl⟩) | (go_at_call 30; refine (iValid (some ⟨b, off, none⟩) L.length c (nthF L) x1 x2 x3 x4 x5 _ (h.later (bstep hc1 hb2)) hsm).mono ?_; rw [hv]; rintro e w4 ⟨rfl, hb4⟩; have hX4 := rowL hX2 hb4; obtain ⟨oc0, oc1, oc2, oc3, oc4, oc5⟩ := B6.of hX4) | (go_at_call 31; refine (iMount b off L.length c (nthF L) x1 x2 x3 x4 x5 _ (h.later (bstep hc1 (bstep hb2 hb4))) hn).mono ?_; rintro e w5 ⟨p, g5, cap5, rfl, hd5, hO5, hgp5, hp5, hb5⟩; have hL5 := rowL (rowL hL2 hb4) hb5; obtain ⟨pc0, pc1⟩ := B2.of hL5; obtain ⟨pf0, pf1⟩ := F2.of hL5))
  have hR82 := rowL hR81 hb2
  have hR92 := rowL hR91 hb2
  have hc2 := bstep hc1 hb2
  have hKx2 := hKx.later hb2
  have hR84 := rowL hR82 hb4
  have hR94 := rowL hR92 hb4
  have hc4 := bstep hc2 hb4
  have hKx4 := hKx2.later hb4
  have hR85 := rowL hR84 hb5
  have hR95 := rowL hR94 hb5
  have hc5 := bstep hc4 hb5
  have hX5 := rowL hX4 hb5
  have hKx5 := hKx4.later hb5
  have hD5 : Dk w5 p w4.heap.size L x1 x2 x3 x4 x5 := ⟨g5, cap5, hd5, hO5.l, hp5⟩
  have hpl := hD5.lt.1
  have hs4 : w.heap.size + 1 + 1 + 1 < w4.heap.size := (Array.getElem?_eq_some_iff.1 hR94).1
  have hk5 := hD5
  obtain ⟨ac0, ac1⟩ := B2.of hL5
  obtain ⟨af0, af1⟩ := F2.of hL5
  go_upto_region 17 with (go_at_call 35; refine (HW.out p _ _ hk5 (hT.later hc5)).mono ?_; rintro e wa ⟨rfl, hka, hBa⟩)
  have hXa := hBa.k (w.heap.size) _ _ _ (by omega) (by decide) hX5
  have hLa := hBa.k (w.heap.size + 1) _ _ _ (by omega) (by decide) hL5
  have hR8a := hBa.k (w.heap.size + 1 + 1) _ _ _ (by omega) (by decide) hR85
  have hR9a := hBa.k (w.heap.size + 1 + 1 + 1) _ _ _ (by omega) (by decide) hR95
  have hca : Below w.heap.size w wa := hc5.trans (hBa.b.mono (by have := hc4.size; omega))
  have hKxa : Kx w wa #[.slice (some ⟨b, off, none⟩) L.length c, .int .i64 x1, .int .i64 x2, .int .i64 x3, .int .i64 x4, .bool x5] #[.int .i64 l, .int .i64 s] := ⟨hca, hXa, hLa⟩
  go_upto_region 19 with (fail)
  obtain ⟨gq, capq, hdq, hOq, hpq⟩ := hka
  refine wp_region_held_drew (S := fun x => Kx w x #[.slice (some ⟨b, off, none⟩) L.length c, .int .i64 x1, .int .i64 x2, .int .i64 x3, .int .i64 x4, .bool x5] #[.int .i64 l, .int .i64 s]) (by kernel_rfl) (hKxa.later (bdrew1 _)) (fun hHeld => ?_)
  refine' takeF (i := 0) (oi := qPg7) rfl ⟨by rfl, fun x hSw => ?h21⟩ hHeld ?r21
  case h21 =>
    go_simp
    try with_reducible rfl
  try simp only [Act.put, List.setIfInBounds_toArray, List.set_cons_zero, List.set_cons_succ]
  refine' takeF (i := 2) (oi := qPg8) rfl ⟨by rfl, fun x hSw => ?h22⟩ hHeld ?r22
  case h22 =>
    obtain ⟨k0, k1, k2, k3, k4, k5⟩ := B6.of hSw.xr; obtain ⟨qc0, qc1⟩ := B2.of hSw.lr
    go_simp
    try with_reducible rfl
  try simp only [Act.put, List.setIfInBounds_toArray, List.set_cons_zero, List.set_cons_succ]
  refine' takeF (i := 3) (oi := qPg9) rfl ⟨by rfl, fun x hSw => ?h23⟩ hHeld ?r23
  case h23 =>
    go_simp
    try with_reducible rfl
  try simp only [Act.put, List.setIfInBounds_toArray, List.set_cons_zero, List.set_cons_succ]
  refine wpAnyH_ready (rs := [1]) (by kernel_rfl) (by simp) ?_
  refine AllReadyH.cons (o := qPg10) rfl (fun K hK => ?_) AllReadyH.nil
  go_simp
  refine (iState p _ _ _ _ rfl x1 z2 x3 x4 z5 _ (hdq.later (bdrew1 _))).mono ?_
  rintro e wz ⟨rfl, hbz⟩; have hR85 := rowL hR8a (bstep (bdrew1 _) hbz); have hR95 := rowL hR9a (bstep (bdrew1 _) hbz)
  refine hK.out _ _ (hHeld.later hbz) (fun hHeld => ?_)
  clear hK K
  try simp only [Act.put, List.setIfInBounds_toArray, List.set_cons_zero, List.set_cons_succ]
  refine wpAnyH_ready (rs := [4]) (by kernel_rfl) (by simp) ?_
  refine AllReadyH.cons (o := qPg11) rfl (fun K hK => ?_) AllReadyH.nil
  obtain ⟨rc0, rc1, rc2, rc3, rc4, rc5⟩ := B6.of hR85; obtain ⟨rf0, rf1, rf2, rf3, rf4, rf5⟩ := F6.of hR85
  go_simp
  refine hK.out _ _ (hHeld.set8 (.slice (some ⟨gq, 0, none⟩) M.length capq) (.int .i64 x1) (.int .i64 z2) (.int .i64 x3) (.int .i64 x4) (.bool z5)) (fun hHeld => ?_)
  clear hK K
  try simp only [Act.put, List.setIfInBounds_toArray, List.set_cons_zero, List.set_cons_succ]
  refine wpAnyH_ready (rs := [5]) (by kernel_rfl) (by simp) ?_
  refine AllReadyH.cons (o := qPg12) rfl (fun K hK => ?_) AllReadyH.nil
  have hR96 := set6_oth (.slice (some ⟨gq, 0, none⟩) M.length capq) (.int .i64 x1) (.int .i64 z2) (.int .i64 x3) (.int .i64 x4) (.bool z5) (Q := w.heap.size + 1 + 1) hR95 (by omega); have t0 := (cell_of_row _ _ 0 _ _ _ hR96).trans rfl; have tf0 := frozen_of_row _ _ 0 _ _ hR96; have t1 := (cell_of_row _ _ 1 _ _ _ hR96).trans rfl; have tf1 := frozen_of_row _ _ 1 _ _ hR96
  go_simp
  refine hK.out _ _ (hHeld.set9 (.int .i64 l) (.int .i64 s)) (fun hHeld => ?_)
  clear hK K
  try simp only [Act.put, List.setIfInBounds_toArray, List.set_cons_zero, List.set_cons_succ]
  refine' takeF (i := 6) (oi := qPg13) rfl ⟨by rfl, fun x hSw => ?h24⟩ hHeld ?r24
  case h24 =>
    go_simp
    try with_reducible rfl
  try simp only [Act.put, List.setIfInBounds_toArray, List.set_cons_zero, List.set_cons_succ]
  refine wpAnyH_done (by kernel_rfl) ?_ _
  go_wp2
  refine bodyPost_ret (results_cell2_tmp Tryd.results9 _ _ (w.heap.size + 1 + 1) 30 _ (0, 0) _ rfl (fin8 _ _ _ _ _ _ _ _ hR85 (by omega)) Tryd.underlying30 rfl (by kernel_rfl) (w.heap.size + 1 + 1 + 1) 31 _ (0, 0) _ rfl (fin9 _ _ _ _ _ _ _ _ hR95 (by omega)) Tryd.underlying31 rfl (by kernel_rfl)) rfl ?_
  exact ⟨_, _, rfl, (finO (((hOq.later (bdrew1 _)).later hbz).wk (by have := hc4.size; omega)) hR85 hR95 (by omega)).f, hHeld.b⟩
set_option maxRecDepth 20000 in
set_option maxHeartbeats 8000000 in
theorem iApW1b (b off c : Nat) (L : List Fil) (x1 x2 x3 x4 : Int) (x5 : Bool) (l s : Int) (en f : ByteArray) (hf : frm en = f) (mo : Int) (w : World) (h : FL w (some ⟨b, off, none⟩) L.length (nthF L)) (hen : en.size ≤ 1048576) (hsm : Small L.length (nthF L)) (hq : f.size ≠ 0) (_hfz : f.size ≤ 65536) (hlg : logB l s = true) (hmo : btw mo 1 1000000000 = true) (_hs0 : 0 ≤ s) (_hs1 : s ≤ 1000000000) (_hl0 : 1 ≤ l) (_hl1 : l ≤ 9999) (hx1 : s ≠ 0) (hx2 : ¬ mo < s + (f.size : Int)) (hv : okFs L.length (nthF L) x1 x2 x3 x4 = true) (_hok : Ok6 L x1 x2 1048576) (hT : T10 w) (M : List Fil) (z2 : Int) (z5 : Bool) (zc : Int) (hzc : zc ≠ 0) (HW : Hid (∀ p B w, Dk w p B L x1 x2 x3 x4 x5 → T10 w → Calls Tryd.prog 35 #[.pointer (some ⟨p, 0, none⟩), .agg #[.int .i64 l, .int .i64 s], .string f] w fun e w' => e = .returned (.int .i64 zc) ∧ Dk w' p B M x1 z2 x3 x4 z5 ∧ BK B p w w')) :
    Calls Tryd.prog 9 #[.agg #[.slice (some ⟨b, off, none⟩) L.length c, .int .i64 x1, .int .i64 x2, .int .i64 x3, .int .i64 x4, .bool x5], .agg #[.int .i64 l, .int .i64 s], .string en, .int .i64 mo] w (RE M x1 z2 x3 x4 z5 l s zc w) := by
  have hn := hsm.n
  have hfe : (f.toList == ([] : List UInt8)) = false := by rw [nilS]; simpa using hq
  have hsz : (s == 0) = false := by simp [hx1]
  have hsy : (s != 0) = true := by simp [hx1]
  have hsx : decide (s = 0) = false := by simp [hx1]
  have hx3 : s + (f.size : Int) ≤ mo := by omega
  clear hx2
  have hzc0 : (zc == 0) = false := by simp [hzc]
  have hzc2 : decide (zc = 0) = false := by simp [hzc]
  obtain ⟨hX0, hL0, hR80, hR90, hb0⟩ := four w (.cells #[.slice (some ⟨b, off, none⟩) L.length c, .int .i64 x1, .int .i64 x2, .int .i64 x3, .int .i64 x4, .bool x5] 30) (.cells #[.int .i64 l, .int .i64 s] 31) (.cells #[.slice none 0 0, .int .i64 0, .int .i64 0, .int .i64 0, .int .i64 0, .bool false] 30) (.cells #[.int .i64 0, .int .i64 0] 31)
  go_enter Tryd.func9, Tryd.ntmps9
  go_upto_region 2 with (go_at_call 26; refine (iFrameE en f hf _ hen).mono ?_; rintro e w1 ⟨rfl, hb1⟩)
  have hX1 := rowL hX0 hb1
  have hL1 := rowL hL0 hb1
  have hR81 := rowL hR80 hb1
  have hR91 := rowL hR90 hb1
  have hc1 := bstep hb0 hb1
  have hKx : Kx w w1 #[.slice (some ⟨b, off, none⟩) L.length c, .int .i64 x1, .int .i64 x2, .int .i64 x3, .int .i64 x4, .bool x5] #[.int .i64 l, .int .i64 s] := ⟨hc1, hX1, hL1⟩
  clear hX0 hL0 hR80 hR90 hb0 hb1
  obtain ⟨lc0, lc1⟩ := B2.of hL1
  obtain ⟨lf0, lf1⟩ := F2.of hL1
  obtain ⟨xc0, xc1, xc2, xc3, xc4, xc5⟩ := B6.of hX1
  go_upto_region 16 with (first | (go_at_call 27; refine (iLog l s _).mono ?_; rw [hlg]; rintro e w2 ⟨rfl, hb2⟩; have hL2 := rowL hL1 hb2; have hX2 := rowL hX1 hb2; obtain ⟨mc0, mc1⟩ := B2.of hL2; obtain ⟨mf0, mf1⟩ := F2.of hL2; obtain ⟨nc0, nc1, nc2, nc3, nc4, nc5⟩ := B6.of hX2) | (go_at_call 28; refine (iMost mo _).mono ?_; rw [hmo]; rintro e w3 ⟨rfl, rfl⟩) | (go_at_call 30; refine (iValid (some ⟨b, off, none⟩) L.length c (nthF L) x1 x2 x3 x4 x5 _ (h.later (bstep hc1 hb2)) hsm).mono ?_; rw [hv]; rintro e w4 ⟨rfl, hb4⟩; have hX4 := rowL hX2 hb4; obtain ⟨oc0, oc1, oc2, oc3, oc4, oc5⟩ := B6.of hX4) | (go_at_call 31; refine (iMount b off L.length c (nthF L) x1 x2 x3 x4 x5 _ (h.later (bstep hc1 (bstep hb2 hb4))) hn).mono ?_; rintro e w5 ⟨p, g5, cap5, rfl, hd5, hO5, hgp5, hp5, hb5⟩; have hL5 := rowL (rowL hL2 hb4) hb5; obtain ⟨pc0, pc1⟩ := B2.of hL5; obtain ⟨pf0, pf1⟩ := F2.of hL5))
  have hR82 := rowL hR81 hb2
  have hR92 := rowL hR91 hb2
  have hc2 := bstep hc1 hb2
  have hKx2 := hKx.later hb2
  have hR84 := rowL hR82 hb4
  have hR94 := rowL hR92 hb4
  have hc4 := bstep hc2 hb4
  have hKx4 := hKx2.later hb4
  have hR85 := rowL hR84 hb5
  have hR95 := rowL hR94 hb5
  have hc5 := bstep hc4 hb5
  have hX5 := rowL hX4 hb5
  have hKx5 := hKx4.later hb5
  have hD5 : Dk w5 p w4.heap.size L x1 x2 x3 x4 x5 := ⟨g5, cap5, hd5, hO5.l, hp5⟩
  have hpl := hD5.lt.1
  have hs4 : w.heap.size + 1 + 1 + 1 < w4.heap.size := (Array.getElem?_eq_some_iff.1 hR94).1
  have hk5 := hD5
  obtain ⟨ac0, ac1⟩ := B2.of hL5
  obtain ⟨af0, af1⟩ := F2.of hL5
  go_upto_region 17 with (go_at_call 35; refine (HW.out p _ _ hk5 (hT.later hc5)).mono ?_; rintro e wa ⟨rfl, hka, hBa⟩)
  have hXa := hBa.k (w.heap.size) _ _ _ (by omega) (by decide) hX5
  have hLa := hBa.k (w.heap.size + 1) _ _ _ (by omega) (by decide) hL5
  have hR8a := hBa.k (w.heap.size + 1 + 1) _ _ _ (by omega) (by decide) hR85
  have hR9a := hBa.k (w.heap.size + 1 + 1 + 1) _ _ _ (by omega) (by decide) hR95
  have hca : Below w.heap.size w wa := hc5.trans (hBa.b.mono (by have := hc4.size; omega))
  have hKxa : Kx w wa #[.slice (some ⟨b, off, none⟩) L.length c, .int .i64 x1, .int .i64 x2, .int .i64 x3, .int .i64 x4, .bool x5] #[.int .i64 l, .int .i64 s] := ⟨hca, hXa, hLa⟩
  go_upto_region 19 with (fail)
  obtain ⟨gq, capq, hdq, hOq, hpq⟩ := hka
  refine wp_region_held_drew (S := fun x => Kx w x #[.slice (some ⟨b, off, none⟩) L.length c, .int .i64 x1, .int .i64 x2, .int .i64 x3, .int .i64 x4, .bool x5] #[.int .i64 l, .int .i64 s]) (by kernel_rfl) (hKxa.later (bdrew1 _)) (fun hHeld => ?_)
  refine' takeF (i := 0) (oi := qPg7) rfl ⟨by rfl, fun x hSw => ?h25⟩ hHeld ?r25
  case h25 =>
    go_simp
    try with_reducible rfl
  try simp only [Act.put, List.setIfInBounds_toArray, List.set_cons_zero, List.set_cons_succ]
  refine' takeF (i := 2) (oi := qPg8) rfl ⟨by rfl, fun x hSw => ?h26⟩ hHeld ?r26
  case h26 =>
    obtain ⟨k0, k1, k2, k3, k4, k5⟩ := B6.of hSw.xr; obtain ⟨qc0, qc1⟩ := B2.of hSw.lr
    go_simp
    try with_reducible rfl
  try simp only [Act.put, List.setIfInBounds_toArray, List.set_cons_zero, List.set_cons_succ]
  refine' takeF (i := 3) (oi := qPg9) rfl ⟨by rfl, fun x hSw => ?h27⟩ hHeld ?r27
  case h27 =>
    go_simp
    try with_reducible rfl
  try simp only [Act.put, List.setIfInBounds_toArray, List.set_cons_zero, List.set_cons_succ]
  refine wpAnyH_ready (rs := [1]) (by kernel_rfl) (by simp) ?_
  refine AllReadyH.cons (o := qPg10) rfl (fun K hK => ?_) AllReadyH.nil
  go_simp
  refine (iState p _ _ _ _ rfl x1 z2 x3 x4 z5 _ (hdq.later (bdrew1 _))).mono ?_
  rintro e wz ⟨rfl, hbz⟩; have hR85 := rowL hR8a (bstep (bdrew1 _) hbz); have hR95 := rowL hR9a (bstep (bdrew1 _) hbz)
  refine hK.out _ _ (hHeld.later hbz) (fun hHeld => ?_)
  clear hK K
  try simp only [Act.put, List.setIfInBounds_toArray, List.set_cons_zero, List.set_cons_succ]
  refine wpAnyH_ready (rs := [4]) (by kernel_rfl) (by simp) ?_
  refine AllReadyH.cons (o := qPg11) rfl (fun K hK => ?_) AllReadyH.nil
  obtain ⟨rc0, rc1, rc2, rc3, rc4, rc5⟩ := B6.of hR85; obtain ⟨rf0, rf1, rf2, rf3, rf4, rf5⟩ := F6.of hR85
  go_simp
  refine hK.out _ _ (hHeld.set8 (.slice (some ⟨gq, 0, none⟩) M.length capq) (.int .i64 x1) (.int .i64 z2) (.int .i64 x3) (.int .i64 x4) (.bool z5)) (fun hHeld => ?_)
  clear hK K
  try simp only [Act.put, List.setIfInBounds_toArray, List.set_cons_zero, List.set_cons_succ]
  refine wpAnyH_ready (rs := [5]) (by kernel_rfl) (by simp) ?_
  refine AllReadyH.cons (o := qPg12) rfl (fun K hK => ?_) AllReadyH.nil
  have hR96 := set6_oth (.slice (some ⟨gq, 0, none⟩) M.length capq) (.int .i64 x1) (.int .i64 z2) (.int .i64 x3) (.int .i64 x4) (.bool z5) (Q := w.heap.size + 1 + 1) hR95 (by omega); have t0 := (cell_of_row _ _ 0 _ _ _ hR96).trans rfl; have tf0 := frozen_of_row _ _ 0 _ _ hR96; have t1 := (cell_of_row _ _ 1 _ _ _ hR96).trans rfl; have tf1 := frozen_of_row _ _ 1 _ _ hR96
  go_simp
  refine hK.out _ _ (hHeld.set9 (.int .i64 l) (.int .i64 s)) (fun hHeld => ?_)
  clear hK K
  try simp only [Act.put, List.setIfInBounds_toArray, List.set_cons_zero, List.set_cons_succ]
  refine' takeF (i := 6) (oi := qPg13) rfl ⟨by rfl, fun x hSw => ?h28⟩ hHeld ?r28
  case h28 =>
    go_simp
    try with_reducible rfl
  try simp only [Act.put, List.setIfInBounds_toArray, List.set_cons_zero, List.set_cons_succ]
  refine wpAnyH_done (by kernel_rfl) ?_ _
  go_wp2
  refine bodyPost_ret (results_cell2_tmp Tryd.results9 _ _ (w.heap.size + 1 + 1) 30 _ (0, 0) _ rfl (fin8 _ _ _ _ _ _ _ _ hR85 (by omega)) Tryd.underlying30 rfl (by kernel_rfl) (w.heap.size + 1 + 1 + 1) 31 _ (0, 0) _ rfl (fin9 _ _ _ _ _ _ _ _ hR95 (by omega)) Tryd.underlying31 rfl (by kernel_rfl)) rfl ?_
  exact ⟨_, _, rfl, (finO (((hOq.later (bdrew1 _)).later hbz).wk (by have := hc4.size; omega)) hR85 hR95 (by omega)).f, hHeld.b⟩
end Go.Proofs.YtdbcihebhgpblaaDoor
