/-
  AppendEntry, the specification's side: what fails at once.
-/
import Derived.Test.YtdbcihebhgpblaaDoorPh
namespace Go.Proofs.YtdbcihebhgpblaaDoor
open Go.RowKit
abbrev qPl0 : Oper := { dst := some 118, op := Op.load 30 (Operand.tmp 15), type := 30, pos := "l6_journal.go:294", after := #[], guard := none }
abbrev qPl1 : Oper := { dst := some 119, op := Op.load 31 (Operand.tmp 5), type := 31, pos := "l6_journal.go:294", after := #[{ on := 3, ground := Ground.gcOnly Departure.lateStores }], guard := none }
abbrev qPl2 : Oper := { dst := some 120, op := Op.move (Operand.tmp 16), type := 3, pos := "l6_journal.go:294", after := #[{ on := 4, ground := Ground.gcOnly Departure.lateStores }], guard := none }
abbrev qPl3 : Oper := { dst := none, op := Op.store 30 (Operand.tmp 8) (Operand.tmp 118), type := 0, pos := "l6_journal.go:294", after := #[{ on := 0, ground := Ground.data }, { on := 0, ground := Ground.phase }, { on := 1, ground := Ground.textOnly Departure.lateStores }, { on := 2, ground := Ground.textOnly Departure.lateStores }], guard := none }
abbrev qPl4 : Oper := { dst := none, op := Op.store 31 (Operand.tmp 9) (Operand.tmp 119), type := 0, pos := "l6_journal.go:294", after := #[{ on := 1, ground := Ground.data }, { on := 3, ground := Ground.chain }, { on := 0, ground := Ground.phase }, { on := 1, ground := Ground.phase }, { on := 2, ground := Ground.textOnly Departure.lateStores }, { on := 3, ground := Ground.phase }], guard := none }
abbrev qPl5 : Oper := { dst := some 10, op := Op.assign (Operand.tmp 120), type := 3, pos := "l6_journal.go:294", after := #[{ on := 2, ground := Ground.data }, { on := 4, ground := Ground.chain }, { on := 0, ground := Ground.phase }, { on := 1, ground := Ground.phase }, { on := 2, ground := Ground.phase }, { on := 3, ground := Ground.phase }, { on := 4, ground := Ground.phase }], guard := none }
abbrev qPl6 : Oper := { dst := some 62, op := Op.load 30 (Operand.tmp 4), type := 30, pos := "l6_journal.go:277", after := #[], guard := none }
abbrev qPl7 : Oper := { dst := some 63, op := Op.fieldAddr 31 (Operand.tmp 5) 0, type := 0, pos := "l6_journal.go:277", after := #[], guard := none }
abbrev qPl8 : Oper := { dst := some 64, op := Op.load 3 (Operand.tmp 63), type := 3, pos := "l6_journal.go:277", after := #[{ on := 1, ground := Ground.data }], guard := none }
abbrev qPl9 : Oper := { dst := some 65, op := Op.binOp BinOp.add 3 (Operand.tmp 64) (Operand.const (Value.int IntKind.i64 1)) 3, type := 3, pos := "l6_journal.go:277", after := #[{ on := 2, ground := Ground.data }], guard := none }
abbrev qPl10 : Oper := { dst := some 66, op := Op.call { callee := Callee.value (Operand.func 24), args := #[Operand.tmp 65], argTypes := #[3] }, type := 9, pos := "l6_journal.go:277", after := #[{ on := 3, ground := Ground.data }], guard := none }
abbrev qPl11 : Oper := { dst := some 12, op := Op.alloc 30, type := 0, pos := "l6_journal.go:277", after := #[], guard := none }
abbrev qPl12 : Oper := { dst := some 67, op := Op.build 59 #[(0, Operand.const (Value.int IntKind.i64 1)), (1, Operand.tmp 66)], type := 59, pos := "l6_journal.go:277", after := #[{ on := 4, ground := Ground.data }], guard := none }
abbrev qPl13 : Oper := { dst := some 68, op := Op.call { callee := Callee.value (Operand.func 23), args := #[Operand.tmp 62, Operand.tmp 67], argTypes := #[30, 59] }, type := 55, pos := "l6_journal.go:277", after := #[{ on := 0, ground := Ground.data }, { on := 5, ground := Ground.data }, { on := 4, ground := Ground.chain }], guard := none }
abbrev qPl14 : Oper := { dst := some 61, op := Op.move (Operand.tmp 68), type := 55, pos := "l6_journal.go:277", after := #[{ on := 6, ground := Ground.data }], guard := none }
abbrev qPl15 : Oper := { dst := some 69, op := Op.extract (Operand.tmp 61) 0, type := 30, pos := "l6_journal.go:277", after := #[{ on := 7, ground := Ground.data }], guard := none }
abbrev qPl16 : Oper := { dst := some 70, op := Op.extract (Operand.tmp 61) 1, type := 3, pos := "l6_journal.go:277", after := #[{ on := 7, ground := Ground.data }, { on := 11, ground := Ground.gcOnly Departure.lateStores }], guard := none }
abbrev qPl17 : Oper := { dst := none, op := Op.store 30 (Operand.tmp 12) (Operand.tmp 69), type := 0, pos := "l6_journal.go:277", after := #[{ on := 10, ground := Ground.data }, { on := 8, ground := Ground.data }, { on := 6, ground := Ground.chain }, { on := 0, ground := Ground.phase }, { on := 1, ground := Ground.phase }, { on := 2, ground := Ground.phase }, { on := 3, ground := Ground.phase }, { on := 4, ground := Ground.phase }, { on := 5, ground := Ground.phase }, { on := 6, ground := Ground.phase }, { on := 7, ground := Ground.phase }, { on := 8, ground := Ground.phase }, { on := 9, ground := Ground.textOnly Departure.lateStores }, { on := 10, ground := Ground.phase }], guard := none }
abbrev qPl18 : Oper := { dst := some 13, op := Op.assign (Operand.tmp 70), type := 3, pos := "l6_journal.go:277", after := #[{ on := 9, ground := Ground.data }, { on := 11, ground := Ground.chain }, { on := 0, ground := Ground.phase }, { on := 1, ground := Ground.phase }, { on := 2, ground := Ground.phase }, { on := 3, ground := Ground.phase }, { on := 4, ground := Ground.phase }, { on := 5, ground := Ground.phase }, { on := 6, ground := Ground.phase }, { on := 7, ground := Ground.phase }, { on := 8, ground := Ground.phase }, { on := 9, ground := Ground.phase }, { on := 10, ground := Ground.phase }, { on := 11, ground := Ground.phase }], guard := none }
abbrev qPl19 : Oper := { dst := some 74, op := Op.load 30 (Operand.tmp 4), type := 30, pos := "l6_journal.go:280", after := #[], guard := none }
abbrev qPl20 : Oper := { dst := some 75, op := Op.load 31 (Operand.tmp 5), type := 31, pos := "l6_journal.go:280", after := #[{ on := 3, ground := Ground.gcOnly Departure.lateStores }], guard := none }
abbrev qPl21 : Oper := { dst := some 76, op := Op.move (Operand.tmp 13), type := 3, pos := "l6_journal.go:280", after := #[{ on := 4, ground := Ground.gcOnly Departure.lateStores }], guard := none }
abbrev qPl22 : Oper := { dst := none, op := Op.store 30 (Operand.tmp 8) (Operand.tmp 74), type := 0, pos := "l6_journal.go:280", after := #[{ on := 0, ground := Ground.data }, { on := 0, ground := Ground.phase }, { on := 1, ground := Ground.textOnly Departure.lateStores }, { on := 2, ground := Ground.textOnly Departure.lateStores }], guard := none }
abbrev qPl23 : Oper := { dst := none, op := Op.store 31 (Operand.tmp 9) (Operand.tmp 75), type := 0, pos := "l6_journal.go:280", after := #[{ on := 1, ground := Ground.data }, { on := 3, ground := Ground.chain }, { on := 0, ground := Ground.phase }, { on := 1, ground := Ground.phase }, { on := 2, ground := Ground.textOnly Departure.lateStores }, { on := 3, ground := Ground.phase }], guard := none }
abbrev qPl24 : Oper := { dst := some 10, op := Op.assign (Operand.tmp 76), type := 3, pos := "l6_journal.go:280", after := #[{ on := 2, ground := Ground.data }, { on := 4, ground := Ground.chain }, { on := 0, ground := Ground.phase }, { on := 1, ground := Ground.phase }, { on := 2, ground := Ground.phase }, { on := 3, ground := Ground.phase }, { on := 4, ground := Ground.phase }], guard := none }
set_option maxRecDepth 20000 in
set_option maxHeartbeats 8000000 in
theorem sAp16a (b off c : Nat) (L : List Fil) (x1 x2 x3 x4 : Int) (x5 : Bool) (l s : Int) (en f : ByteArray) (hf : frm en = f) (mo : Int) (w : World) (h : FL w (some ⟨b, off, none⟩) L.length (nthF L)) (hen : en.size ≤ 1048576) (hsm : Small L.length (nthF L)) (hq : f.size ≠ 0) (_hfz : f.size ≤ 65536) (hbl : btw l 1 9999 = true) (hbs : btw s 0 1000000000 = true) (hmo : btw mo 1 1000000000 = true) (_hs0 : 0 ≤ s) (_hs1 : s ≤ 1000000000) (_hl0 : 1 ≤ l) (_hl1 : l ≤ 9999) (hx1 : s = 0) (hv : okFs L.length (nthF L) x1 x2 x3 x4 = false) (ln : Nat) (HLN : Hid (l = ln)) :
    Calls Tryd.prog 6 #[.agg #[.slice (some ⟨b, off, none⟩) L.length c, .int .i64 x1, .int .i64 x2, .int .i64 x3, .int .i64 x4, .bool x5], .agg #[.int .i64 l, .int .i64 s], .string en, .int .i64 mo] w (RE [] 0 0 0 0 false l s 16 w) := by
  have hn := hsm.n
  have hfe : (f.toList == ([] : List UInt8)) = false := by rw [nilS]; simpa using hq
  have hsz : (s == 0) = true := by simp [hx1]
  have hsy : (s != 0) = false := by simp [hx1]
  have hsx : decide (s = 0) = true := by simp [hx1]
  clear hx1
  obtain ⟨nm, hnm⟩ : ∃ nm, seg ln = nm := ⟨_, rfl⟩
  have hsg := seg_ok ln
  rw [hnm] at hsg
  obtain ⟨hX0, hL0, hR80, hR90, hb0⟩ := four w (.cells #[.slice (some ⟨b, off, none⟩) L.length c, .int .i64 x1, .int .i64 x2, .int .i64 x3, .int .i64 x4, .bool x5] 30) (.cells #[.int .i64 l, .int .i64 s] 31) (.cells #[.slice none 0 0, .int .i64 0, .int .i64 0, .int .i64 0, .int .i64 0, .bool false] 30) (.cells #[.int .i64 0, .int .i64 0] 31)
  go_enter Tryd.func6, Tryd.ntmps6
  go_upto_region 2 with (go_at_call 20; refine (sFrameE en f hf _ hen).mono ?_; rintro e w1 ⟨rfl, hb1⟩)
  have hX1 := rowL hX0 hb1
  have hL1 := rowL hL0 hb1
  have hR81 := rowL hR80 hb1
  have hR91 := rowL hR90 hb1
  have hc1 := bstep hb0 hb1
  have hKx : Kx w w1 #[.slice (some ⟨b, off, none⟩) L.length c, .int .i64 x1, .int .i64 x2, .int .i64 x3, .int .i64 x4, .bool x5] #[.int .i64 l, .int .i64 s] := ⟨hc1, hX1, hL1⟩
  clear hX0 hL0 hR80 hR90 hb0 hb1
  obtain ⟨lc0, lc1⟩ := B2.of hL1
  obtain ⟨lf0, lf1⟩ := F2.of hL1
  obtain ⟨xc0, xc1, xc2, xc3, xc4, xc5⟩ := B6.of hX1
  go_upto_region 13 with (first | (go_at_call 21; refine (sBetween _ _ _ _).mono ?_; (first | rw [hbl] | rw [hbs] | rw [hmo]); rintro e wb ⟨rfl, rfl⟩) | (go_at_call 24; refine (sSegmentE ln l HLN.out _ (by have := HLN.out; omega) nm hnm).mono ?_; rintro e wg ⟨rfl, hbg⟩))
  have hXg := rowL hX1 hbg
  have hLg := rowL hL1 hbg
  have hR8g := rowL hR81 hbg
  have hR9g := rowL hR91 hbg
  have hcg := bstep hc1 hbg
  obtain ⟨xc0, xc1, xc2, xc3, xc4, xc5⟩ := B6.of hXg
  go_upto_region 14 with (go_at_call 23; refine (sStepBad (some ⟨b, off, none⟩) L.length c (nthF L) x1 x2 x3 x4 x5 2 nm f 0 _ (h.later (bstep hc1 hbg)) hsm (by have := okFn_size hsg; omega) (by rw [hv]; rfl)).mono ?_; rintro e wi ⟨rfl, hbi⟩)
  have hQj := heap_alloc_new wi (.cells #[.slice none 0 0, .int .i64 0, .int .i64 0, .int .i64 0, .int .i64 0, .bool false] 30)
  have hbj := bal wi (.cells #[.slice none 0 0, .int .i64 0, .int .i64 0, .int .i64 0, .int .i64 0, .bool false] 30)
  have hsi : w.heap.size + 1 + 1 + 1 < wi.heap.size := by have := (Array.getElem?_eq_some_iff.1 (rowL hR9g hbi)).1; omega
  generalize wi.alloc (.cells #[.slice none 0 0, .int .i64 0, .int .i64 0, .int .i64 0, .int .i64 0, .bool false] 30) = wj at hQj hbj ⊢
  have hXj := rowL hXg (bstep hbi hbj)
  have hLj := rowL hLg (bstep hbi hbj)
  have hR8j := rowL hR8g (bstep hbi hbj)
  have hR9j := rowL hR9g (bstep hbi hbj)
  have hcj := bstep hcg (bstep hbi hbj)
  go_upto_region 20 with (fail)
  have hKy : Ky w wj #[.slice (some ⟨b, off, none⟩) L.length c, .int .i64 x1, .int .i64 x2, .int .i64 x3, .int .i64 x4, .bool x5] #[.int .i64 l, .int .i64 s] wi.heap.size #[.slice none 0 0, .int .i64 0, .int .i64 0, .int .i64 0, .int .i64 0, .bool false] := ⟨⟨hcj, hXj, hLj⟩, hQj⟩
  refine wp_region_held_drew (S := fun x => Ky w x #[.slice (some ⟨b, off, none⟩) L.length c, .int .i64 x1, .int .i64 x2, .int .i64 x3, .int .i64 x4, .bool x5] #[.int .i64 l, .int .i64 s] (wi.heap.size) #[.slice none 0 0, .int .i64 0, .int .i64 0, .int .i64 0, .int .i64 0, .bool false]) (by kernel_rfl) (hKy.later (bdrew1 _)) (fun hHeld => ?_)
  refine' takeF (i := 0) (oi := qPl0) rfl ⟨by rfl, fun x hSw => ?h1⟩ hHeld ?r1
  case h1 =>
    obtain ⟨k0, k1, k2, k3, k4, k5⟩ := B6.of hSw.qr; obtain ⟨qc0, qc1⟩ := B2.of hSw.k.lr
    go_simp
    try with_reducible rfl
  try simp only [Act.put, List.setIfInBounds_toArray, List.set_cons_zero, List.set_cons_succ]
  refine' takeF (i := 1) (oi := qPl1) rfl ⟨by rfl, fun x hSw => ?h2⟩ hHeld ?r2
  case h2 =>
    obtain ⟨k0, k1, k2, k3, k4, k5⟩ := B6.of hSw.qr; obtain ⟨qc0, qc1⟩ := B2.of hSw.k.lr
    go_simp
    try with_reducible rfl
  try simp only [Act.put, List.setIfInBounds_toArray, List.set_cons_zero, List.set_cons_succ]
  refine' takeF (i := 2) (oi := qPl2) rfl ⟨by rfl, fun x hSw => ?h3⟩ hHeld ?r3
  case h3 =>
    go_simp
    try with_reducible rfl
  try simp only [Act.put, List.setIfInBounds_toArray, List.set_cons_zero, List.set_cons_succ]
  refine wpAnyH_ready (rs := [3]) (by kernel_rfl) (by simp) ?_
  refine AllReadyH.cons (o := qPl3) rfl (fun K hK => ?_) AllReadyH.nil
  have hbz := bdrew1 wj; generalize wj.drew = wz at hbz hHeld ⊢; have hR8z := rowL hR8j hbz; have hR9z := rowL hR9j hbz; obtain ⟨rc0, rc1, rc2, rc3, rc4, rc5⟩ := B6.of hR8z; obtain ⟨rf0, rf1, rf2, rf3, rf4, rf5⟩ := F6.of hR8z
  go_simp
  refine hK.out _ _ (hHeld.set8 (by omega) (.slice none 0 0) (.int .i64 0) (.int .i64 0) (.int .i64 0) (.int .i64 0) (.bool false)) (fun hHeld => ?_)
  clear hK K
  try simp only [Act.put, List.setIfInBounds_toArray, List.set_cons_zero, List.set_cons_succ]
  refine wpAnyH_ready (rs := [4]) (by kernel_rfl) (by simp) ?_
  refine AllReadyH.cons (o := qPl4) rfl (fun K hK => ?_) AllReadyH.nil
  have hR9y := set6_oth (.slice none 0 0) (.int .i64 0) (.int .i64 0) (.int .i64 0) (.int .i64 0) (.bool false) (Q := w.heap.size + 1 + 1) hR9z (by omega); have t0 := (cell_of_row _ _ 0 _ _ _ hR9y).trans rfl; have tf0 := frozen_of_row _ _ 0 _ _ hR9y; have t1 := (cell_of_row _ _ 1 _ _ _ hR9y).trans rfl; have tf1 := frozen_of_row _ _ 1 _ _ hR9y
  go_simp
  refine hK.out _ _ (hHeld.set9 (by omega) (.int .i64 l) (.int .i64 s)) (fun hHeld => ?_)
  clear hK K
  try simp only [Act.put, List.setIfInBounds_toArray, List.set_cons_zero, List.set_cons_succ]
  refine' takeF (i := 5) (oi := qPl5) rfl ⟨by rfl, fun x hSw => ?h4⟩ hHeld ?r4
  case h4 =>
    go_simp
    try with_reducible rfl
  try simp only [Act.put, List.setIfInBounds_toArray, List.set_cons_zero, List.set_cons_succ]
  refine wpAnyH_done (by kernel_rfl) ?_ _
  go_wp2
  refine bodyPost_ret (results_cell2_tmp Tryd.results6 _ _ (w.heap.size + 1 + 1) 30 _ (0, 0) _ rfl (fin8 _ _ _ _ _ _ _ _ hR8z (by omega)) Tryd.underlying30 rfl (by kernel_rfl) (w.heap.size + 1 + 1 + 1) 31 _ (0, 0) _ rfl (fin9 _ _ _ _ _ _ _ _ hR9z (by omega)) Tryd.underlying31 rfl (by kernel_rfl)) rfl ?_
  exact ⟨_, _, rfl, (finO ⟨rfl, Or.inl ⟨rfl, rfl⟩⟩ hR8z hR9z (by omega)).f, hHeld.k.b⟩
set_option maxRecDepth 20000 in
set_option maxHeartbeats 8000000 in
theorem sAp16b (b off c : Nat) (L : List Fil) (x1 x2 x3 x4 : Int) (x5 : Bool) (l s : Int) (en f : ByteArray) (hf : frm en = f) (mo : Int) (w : World) (h : FL w (some ⟨b, off, none⟩) L.length (nthF L)) (hen : en.size ≤ 1048576) (hsm : Small L.length (nthF L)) (hq : f.size ≠ 0) (_hfz : f.size ≤ 65536) (hbl : btw l 1 9999 = true) (hbs : btw s 0 1000000000 = true) (hmo : btw mo 1 1000000000 = true) (_hs0 : 0 ≤ s) (_hs1 : s ≤ 1000000000) (_hl0 : 1 ≤ l) (_hl1 : l ≤ 9999) (hx1 : s ≠ 0) (hx2 : ¬ mo < s + (f.size : Int)) (hv : okFs L.length (nthF L) x1 x2 x3 x4 = false) (ln : Nat) (HLN : Hid (l = ln)) :
    Calls Tryd.prog 6 #[.agg #[.slice (some ⟨b, off, none⟩) L.length c, .int .i64 x1, .int .i64 x2, .int .i64 x3, .int .i64 x4, .bool x5], .agg #[.int .i64 l, .int .i64 s], .string en, .int .i64 mo] w (RE [] 0 0 0 0 false l s 16 w) := by
  have hn := hsm.n
  have hfe : (f.toList == ([] : List UInt8)) = false := by rw [nilS]; simpa using hq
  have hsz : (s == 0) = false := by simp [hx1]
  have hsy : (s != 0) = true := by simp [hx1]
  have hsx : decide (s = 0) = false := by simp [hx1]
  have hx3 : s + (f.size : Int) ≤ mo := by omega
  clear hx2
  obtain ⟨nm, hnm⟩ : ∃ nm, seg ln = nm := ⟨_, rfl⟩
  have hsg := seg_ok ln
  rw [hnm] at hsg
  obtain ⟨hX0, hL0, hR80, hR90, hb0⟩ := four w (.cells #[.slice (some ⟨b, off, none⟩) L.length c, .int .i64 x1, .int .i64 x2, .int .i64 x3, .int .i64 x4, .bool x5] 30) (.cells #[.int .i64 l, .int .i64 s] 31) (.cells #[.slice none 0 0, .int .i64 0, .int .i64 0, .int .i64 0, .int .i64 0, .bool false] 30) (.cells #[.int .i64 0, .int .i64 0] 31)
  go_enter Tryd.func6, Tryd.ntmps6
  go_upto_region 2 with (go_at_call 20; refine (sFrameE en f hf _ hen).mono ?_; rintro e w1 ⟨rfl, hb1⟩)
  have hX1 := rowL hX0 hb1
  have hL1 := rowL hL0 hb1
  have hR81 := rowL hR80 hb1
  have hR91 := rowL hR90 hb1
  have hc1 := bstep hb0 hb1
  have hKx : Kx w w1 #[.slice (some ⟨b, off, none⟩) L.length c, .int .i64 x1, .int .i64 x2, .int .i64 x3, .int .i64 x4, .bool x5] #[.int .i64 l, .int .i64 s] := ⟨hc1, hX1, hL1⟩
  clear hX0 hL0 hR80 hR90 hb0 hb1
  obtain ⟨lc0, lc1⟩ := B2.of hL1
  obtain ⟨lf0, lf1⟩ := F2.of hL1
  obtain ⟨xc0, xc1, xc2, xc3, xc4, xc5⟩ := B6.of hX1
  go_upto_region 13 with (first | (go_at_call 21; refine (sBetween _ _ _ _).mono ?_; (first | rw [hbl] | rw [hbs] | rw [hmo]); rintro e wb ⟨rfl, rfl⟩) | (go_at_call 24; refine (sSegmentE ln l HLN.out _ (by have := HLN.out; omega) nm hnm).mono ?_; rintro e wg ⟨rfl, hbg⟩))
  have hXg := rowL hX1 hbg
  have hLg := rowL hL1 hbg
  have hR8g := rowL hR81 hbg
  have hR9g := rowL hR91 hbg
  have hcg := bstep hc1 hbg
  obtain ⟨xc0, xc1, xc2, xc3, xc4, xc5⟩ := B6.of hXg
  go_upto_region 14 with (go_at_call 23; refine (sStepBad (some ⟨b, off, none⟩) L.length c (nthF L) x1 x2 x3 x4 x5 2 nm f 0 _ (h.later (bstep hc1 hbg)) hsm (by have := okFn_size hsg; omega) (by rw [hv]; rfl)).mono ?_; rintro e wi ⟨rfl, hbi⟩)
  have hQj := heap_alloc_new wi (.cells #[.slice none 0 0, .int .i64 0, .int .i64 0, .int .i64 0, .int .i64 0, .bool false] 30)
  have hbj := bal wi (.cells #[.slice none 0 0, .int .i64 0, .int .i64 0, .int .i64 0, .int .i64 0, .bool false] 30)
  have hsi : w.heap.size + 1 + 1 + 1 < wi.heap.size := by have := (Array.getElem?_eq_some_iff.1 (rowL hR9g hbi)).1; omega
  generalize wi.alloc (.cells #[.slice none 0 0, .int .i64 0, .int .i64 0, .int .i64 0, .int .i64 0, .bool false] 30) = wj at hQj hbj ⊢
  have hXj := rowL hXg (bstep hbi hbj)
  have hLj := rowL hLg (bstep hbi hbj)
  have hR8j := rowL hR8g (bstep hbi hbj)
  have hR9j := rowL hR9g (bstep hbi hbj)
  have hcj := bstep hcg (bstep hbi hbj)
  go_upto_region 20 with (fail)
  have hKy : Ky w wj #[.slice (some ⟨b, off, none⟩) L.length c, .int .i64 x1, .int .i64 x2, .int .i64 x3, .int .i64 x4, .bool x5] #[.int .i64 l, .int .i64 s] wi.heap.size #[.slice none 0 0, .int .i64 0, .int .i64 0, .int .i64 0, .int .i64 0, .bool false] := ⟨⟨hcj, hXj, hLj⟩, hQj⟩
  refine wp_region_held_drew (S := fun x => Ky w x #[.slice (some ⟨b, off, none⟩) L.length c, .int .i64 x1, .int .i64 x2, .int .i64 x3, .int .i64 x4, .bool x5] #[.int .i64 l, .int .i64 s] (wi.heap.size) #[.slice none 0 0, .int .i64 0, .int .i64 0, .int .i64 0, .int .i64 0, .bool false]) (by kernel_rfl) (hKy.later (bdrew1 _)) (fun hHeld => ?_)
  refine' takeF (i := 0) (oi := qPl0) rfl ⟨by rfl, fun x hSw => ?h5⟩ hHeld ?r5
  case h5 =>
    obtain ⟨k0, k1, k2, k3, k4, k5⟩ := B6.of hSw.qr; obtain ⟨qc0, qc1⟩ := B2.of hSw.k.lr
    go_simp
    try with_reducible rfl
  try simp only [Act.put, List.setIfInBounds_toArray, List.set_cons_zero, List.set_cons_succ]
  refine' takeF (i := 1) (oi := qPl1) rfl ⟨by rfl, fun x hSw => ?h6⟩ hHeld ?r6
  case h6 =>
    obtain ⟨k0, k1, k2, k3, k4, k5⟩ := B6.of hSw.qr; obtain ⟨qc0, qc1⟩ := B2.of hSw.k.lr
    go_simp
    try with_reducible rfl
  try simp only [Act.put, List.setIfInBounds_toArray, List.set_cons_zero, List.set_cons_succ]
  refine' takeF (i := 2) (oi := qPl2) rfl ⟨by rfl, fun x hSw => ?h7⟩ hHeld ?r7
  case h7 =>
    go_simp
    try with_reducible rfl
  try simp only [Act.put, List.setIfInBounds_toArray, List.set_cons_zero, List.set_cons_succ]
  refine wpAnyH_ready (rs := [3]) (by kernel_rfl) (by simp) ?_
  refine AllReadyH.cons (o := qPl3) rfl (fun K hK => ?_) AllReadyH.nil
  have hbz := bdrew1 wj; generalize wj.drew = wz at hbz hHeld ⊢; have hR8z := rowL hR8j hbz; have hR9z := rowL hR9j hbz; obtain ⟨rc0, rc1, rc2, rc3, rc4, rc5⟩ := B6.of hR8z; obtain ⟨rf0, rf1, rf2, rf3, rf4, rf5⟩ := F6.of hR8z
  go_simp
  refine hK.out _ _ (hHeld.set8 (by omega) (.slice none 0 0) (.int .i64 0) (.int .i64 0) (.int .i64 0) (.int .i64 0) (.bool false)) (fun hHeld => ?_)
  clear hK K
  try simp only [Act.put, List.setIfInBounds_toArray, List.set_cons_zero, List.set_cons_succ]
  refine wpAnyH_ready (rs := [4]) (by kernel_rfl) (by simp) ?_
  refine AllReadyH.cons (o := qPl4) rfl (fun K hK => ?_) AllReadyH.nil
  have hR9y := set6_oth (.slice none 0 0) (.int .i64 0) (.int .i64 0) (.int .i64 0) (.int .i64 0) (.bool false) (Q := w.heap.size + 1 + 1) hR9z (by omega); have t0 := (cell_of_row _ _ 0 _ _ _ hR9y).trans rfl; have tf0 := frozen_of_row _ _ 0 _ _ hR9y; have t1 := (cell_of_row _ _ 1 _ _ _ hR9y).trans rfl; have tf1 := frozen_of_row _ _ 1 _ _ hR9y
  go_simp
  refine hK.out _ _ (hHeld.set9 (by omega) (.int .i64 l) (.int .i64 s)) (fun hHeld => ?_)
  clear hK K
  try simp only [Act.put, List.setIfInBounds_toArray, List.set_cons_zero, List.set_cons_succ]
  refine' takeF (i := 5) (oi := qPl5) rfl ⟨by rfl, fun x hSw => ?h8⟩ hHeld ?r8
  case h8 =>
    go_simp
    try with_reducible rfl
  try simp only [Act.put, List.setIfInBounds_toArray, List.set_cons_zero, List.set_cons_succ]
  refine wpAnyH_done (by kernel_rfl) ?_ _
  go_wp2
  refine bodyPost_ret (results_cell2_tmp Tryd.results6 _ _ (w.heap.size + 1 + 1) 30 _ (0, 0) _ rfl (fin8 _ _ _ _ _ _ _ _ hR8z (by omega)) Tryd.underlying30 rfl (by kernel_rfl) (w.heap.size + 1 + 1 + 1) 31 _ (0, 0) _ rfl (fin9 _ _ _ _ _ _ _ _ hR9z (by omega)) Tryd.underlying31 rfl (by kernel_rfl)) rfl ?_
  exact ⟨_, _, rfl, (finO ⟨rfl, Or.inl ⟨rfl, rfl⟩⟩ hR8z hR9z (by omega)).f, hHeld.k.b⟩
set_option maxRecDepth 20000 in
set_option maxHeartbeats 8000000 in
theorem sAp16y (b off c : Nat) (L : List Fil) (x1 x2 x3 x4 : Int) (x5 : Bool) (l s : Int) (en f : ByteArray) (hf : frm en = f) (mo : Int) (w : World) (h : FL w (some ⟨b, off, none⟩) L.length (nthF L)) (hen : en.size ≤ 1048576) (hsm : Small L.length (nthF L)) (hq : f.size ≠ 0) (_hfz : f.size ≤ 65536) (hbl : btw l 1 9999 = true) (hbs : btw s 0 1000000000 = true) (hmo : btw mo 1 1000000000 = true) (_hs0 : 0 ≤ s) (_hs1 : s ≤ 1000000000) (_hl0 : 1 ≤ l) (_hl1 : l ≤ 9999) (hx1 : s ≠ 0) (hx2 : mo < s + (f.size : Int)) (h99 : l ≠ 9999) (hv : okFs L.length (nthF L) x1 x2 x3 x4 = false) (ln : Nat) (HLN : Hid (l = ln)) :
    Calls Tryd.prog 6 #[.agg #[.slice (some ⟨b, off, none⟩) L.length c, .int .i64 x1, .int .i64 x2, .int .i64 x3, .int .i64 x4, .bool x5], .agg #[.int .i64 l, .int .i64 s], .string en, .int .i64 mo] w (RE [] 0 0 0 0 false l s 16 w) := by
  have hn := hsm.n
  have hfe : (f.toList == ([] : List UInt8)) = false := by rw [nilS]; simpa using hq
  have hsz : (s == 0) = false := by simp [hx1]
  have hsy : (s != 0) = true := by simp [hx1]
  have hsx : decide (s = 0) = false := by simp [hx1]
  have h9 : (l == 9999) = false := by simp [h99]
  obtain ⟨mm, hmm⟩ : ∃ mm, seg (ln + 1) = mm := ⟨_, rfl⟩
  have hsm2 := seg_ok (ln + 1)
  rw [hmm] at hsm2
  obtain ⟨hX0, hL0, hR80, hR90, hb0⟩ := four w (.cells #[.slice (some ⟨b, off, none⟩) L.length c, .int .i64 x1, .int .i64 x2, .int .i64 x3, .int .i64 x4, .bool x5] 30) (.cells #[.int .i64 l, .int .i64 s] 31) (.cells #[.slice none 0 0, .int .i64 0, .int .i64 0, .int .i64 0, .int .i64 0, .bool false] 30) (.cells #[.int .i64 0, .int .i64 0] 31)
  go_enter Tryd.func6, Tryd.ntmps6
  go_upto_region 2 with (go_at_call 20; refine (sFrameE en f hf _ hen).mono ?_; rintro e w1 ⟨rfl, hb1⟩)
  have hX1 := rowL hX0 hb1
  have hL1 := rowL hL0 hb1
  have hR81 := rowL hR80 hb1
  have hR91 := rowL hR90 hb1
  have hc1 := bstep hb0 hb1
  have hKx : Kx w w1 #[.slice (some ⟨b, off, none⟩) L.length c, .int .i64 x1, .int .i64 x2, .int .i64 x3, .int .i64 x4, .bool x5] #[.int .i64 l, .int .i64 s] := ⟨hc1, hX1, hL1⟩
  clear hX0 hL0 hR80 hR90 hb0 hb1
  obtain ⟨lc0, lc1⟩ := B2.of hL1
  obtain ⟨lf0, lf1⟩ := F2.of hL1
  obtain ⟨xc0, xc1, xc2, xc3, xc4, xc5⟩ := B6.of hX1
  go_upto_region 7 with (go_at_call 21; refine (sBetween _ _ _ _).mono ?_; (first | rw [hbl] | rw [hbs] | rw [hmo]); rintro e wb ⟨rfl, rfl⟩)
  refine Code.wp_mono (Q := Exit.then (fun a' w' => ∃ (Q : Nat) (u61 u62 u63 u64 u65 u66 u67 u68 u69 u70 : Value), a' = { tmps := List.toArray ((Value.agg #[Value.slice (some ⟨b, off, none⟩) L.length c, Value.int .i64 x1, Value.int .i64 x2, Value.int .i64 x3, Value.int .i64 x4, Value.bool x5]) :: (Value.agg #[Value.int .i64 l, Value.int .i64 s]) :: (Value.string en) :: (Value.int .i64 mo) :: (Value.pointer (some ⟨w.heap.size, 0, none⟩)) :: (Value.pointer (some ⟨w.heap.size + 1, 0, none⟩)) :: (undef) :: (undef) :: (Value.pointer (some ⟨w.heap.size + 1 + 1, 0, none⟩)) :: (Value.pointer (some ⟨w.heap.size + 1 + 1 + 1, 0, none⟩)) :: (Value.int .i64 0) :: (Value.string f) :: (.pointer (some ⟨Q, 0, none⟩)) :: (.int .i64 16) :: (undef) :: (undef) :: (undef) :: (undef) :: (undef) :: (Value.string en) :: (Value.string f) :: (Value.string f) :: (Value.bool false) :: (Value.bool false) :: (Value.pointer (some ⟨w.heap.size + 1, 0, none⟩)) :: (Value.int .i64 l) :: (Value.bool true) :: (Value.bool false) :: (Value.bool false) :: (Value.bool false) :: (Value.pointer (some ⟨w.heap.size + 1, 1, none⟩)) :: (Value.int .i64 s) :: (Value.bool true) :: (Value.bool false) :: (Value.bool false) :: (Value.bool false) :: (Value.int .i64 mo) :: (Value.bool true) :: (Value.bool false) :: (Value.bool false) :: (undef) :: (undef) :: (undef) :: (Value.pointer (some ⟨w.heap.size + 1, 1, none⟩)) :: (Value.int .i64 s) :: (Value.bool true) :: (Value.bool true) :: (Value.pointer (some ⟨w.heap.size + 1, 1, none⟩)) :: (Value.int .i64 s) :: (Value.string f) :: (Value.int .i64 (f.size : Int)) :: (Value.int .i64 (s + (f.size : Int))) :: (Value.int .i64 mo) :: (Value.bool true) :: (Value.bool true) :: (Value.pointer (some ⟨w.heap.size + 1, 0, none⟩)) :: (Value.int .i64 l) :: (Value.bool false) :: (undef) :: (undef) :: (undef) :: (u61) :: (u62) :: (u63) :: (u64) :: (u65) :: (u66) :: (u67) :: (u68) :: (u69) :: (u70) :: (undef) :: (undef) :: (undef) :: (undef) :: (undef) :: (undef) :: (undef) :: (undef) :: (undef) :: (undef) :: (undef) :: (undef) :: (undef) :: (undef) :: (undef) :: (undef) :: (undef) :: (undef) :: (undef) :: (undef) :: (undef) :: (undef) :: (undef) :: (undef) :: (undef) :: (undef) :: (undef) :: (undef) :: (undef) :: (undef) :: (undef) :: (undef) :: (undef) :: (undef) :: (undef) :: (undef) :: (undef) :: (undef) :: (undef) :: (undef) :: (undef) :: (undef) :: (undef) :: (undef) :: (undef) :: (undef) :: (undef) :: (undef) :: (undef) :: (undef) :: (undef) :: (undef) :: (undef) :: (undef) :: (undef) :: (undef) :: (undef) :: (undef) :: (undef) :: (undef) :: (undef) :: (undef) :: (undef) :: (undef) :: (undef) :: (undef) :: (undef) :: (undef) :: (undef) :: (undef) :: (undef) :: []), defers := [] } ∧ w'.heap[Q]? = some (.cells #[.slice none 0 0, .int .i64 0, .int .i64 0, .int .i64 0, .int .i64 0, .bool false] 30 (0, 0)) ∧ wb.heap.size ≤ Q ∧ Below wb.heap.size wb w') (fun _ _ _ => False)) ?_ ?_
  rotate_left
  · refine wp_region_held_drew (S := fun x => Below wb.heap.size wb x) (by kernel_rfl) (bdrew1 _) (fun hHeld => ?_)
    refine' takeF (i := 0) (oi := qPl6) rfl ⟨by rfl, fun x hSw => ?h9⟩ hHeld ?r9
    case h9 =>
      obtain ⟨k0, k1, k2, k3, k4, k5⟩ := B6.of (rowL hX1 hSw); have hLs := rowL hL1 hSw; obtain ⟨qc0, qc1⟩ := B2.of hLs
      go_simp
      try with_reducible rfl
    try simp only [Act.put, List.setIfInBounds_toArray, List.set_cons_zero, List.set_cons_succ]
    refine' takeF (i := 1) (oi := qPl7) rfl ⟨by rfl, fun x hSw => ?h10⟩ hHeld ?r10
    case h10 =>
      go_simp
      try with_reducible rfl
    try simp only [Act.put, List.setIfInBounds_toArray, List.set_cons_zero, List.set_cons_succ]
    refine' takeF (i := 2) (oi := qPl8) rfl ⟨by rfl, fun x hSw => ?h11⟩ hHeld ?r11
    case h11 =>
      obtain ⟨k0, k1, k2, k3, k4, k5⟩ := B6.of (rowL hX1 hSw); have hLs := rowL hL1 hSw; obtain ⟨qc0, qc1⟩ := B2.of hLs
      go_simp
      try with_reducible rfl
    try simp only [Act.put, List.setIfInBounds_toArray, List.set_cons_zero, List.set_cons_succ]
    refine' takeF (i := 3) (oi := qPl9) rfl ⟨by rfl, fun x hSw => ?h12⟩ hHeld ?r12
    case h12 =>
      go_simp
      try with_reducible rfl
    try simp only [Act.put, List.setIfInBounds_toArray, List.set_cons_zero, List.set_cons_succ]
    refine wpAnyH_ready (rs := [4, 10]) (by kernel_rfl) (by simp) ?_
    refine (AllReadyH.cons (o := qPl10) rfl (fun K hK => ?_) (AllReadyH.cons (o := qPl11) rfl (fun K hK => ?_) AllReadyH.nil))
    · go_simp
      refine (sSegmentE (ln + 1) _ (by have := HLN.out; (try rw [IntKind.wrap_i64]); omega) _ (by have := HLN.out; omega) mm hmm).mono ?_
      rintro e w4 ⟨rfl, hb4⟩
      refine hK.out _ _ (bstep hHeld hb4) (fun hHeld => ?_)
      clear hK K
      try simp only [Act.put, List.setIfInBounds_toArray, List.set_cons_zero, List.set_cons_succ]
      refine' takeF (i := 5) (oi := qPl12) rfl ⟨by rfl, fun x hSw => ?h13⟩ hHeld ?r13
      case h13 =>
        go_simp
        try with_reducible rfl
      try simp only [Act.put, List.setIfInBounds_toArray, List.set_cons_zero, List.set_cons_succ]
      refine wpAnyH_ready (rs := [6, 10]) (by kernel_rfl) (by simp) ?_
      refine (AllReadyH.cons (o := qPl13) rfl (fun K hK => ?_) (AllReadyH.cons (o := qPl11) rfl (fun K hK => ?_) AllReadyH.nil))
      · go_simp
        have hH6 := hHeld
        refine (sStepBad (some ⟨b, off, none⟩) L.length c (nthF L) x1 x2 x3 x4 x5 1 mm ⟨#[]⟩ 0 _ (h.later (bstep hc1 hHeld)) hsm (by have := okFn_size hsm2; omega) (by rw [hv]; rfl)).mono ?_
        rintro e w6 ⟨rfl, hb6⟩
        have hH8 := bstep hHeld hb6
        refine hK.out _ _ (bstep hHeld hb6) (fun hHeld => ?_)
        clear hK K
        try simp only [Act.put, List.setIfInBounds_toArray, List.set_cons_zero, List.set_cons_succ]
        refine' takeF (i := 7) (oi := qPl14) rfl ⟨by rfl, fun x hSw => ?h14⟩ hHeld ?r14
        case h14 =>
          go_simp
          try with_reducible rfl
        try simp only [Act.put, List.setIfInBounds_toArray, List.set_cons_zero, List.set_cons_succ]
        refine' takeF (i := 8) (oi := qPl15) rfl ⟨by rfl, fun x hSw => ?h15⟩ hHeld ?r15
        case h15 =>
          go_simp
          try with_reducible rfl
        try simp only [Act.put, List.setIfInBounds_toArray, List.set_cons_zero, List.set_cons_succ]
        refine' takeF (i := 9) (oi := qPl16) rfl ⟨by rfl, fun x hSw => ?h16⟩ hHeld ?r16
        case h16 =>
          go_simp
          try with_reducible rfl
        try simp only [Act.put, List.setIfInBounds_toArray, List.set_cons_zero, List.set_cons_succ]
        refine wpAnyH_ready (rs := [10]) (by kernel_rfl) (by simp) ?_
        refine AllReadyH.cons (o := qPl11) rfl (fun K hK => ?_) AllReadyH.nil
        have hQ : (World.alloc (w6) (.cells #[.slice none 0 0, .int .i64 0, .int .i64 0, .int .i64 0, .int .i64 0, .bool false] 30)).heap[w6.heap.size]? = _ := heap_alloc_new (w6) (.cells #[.slice none 0 0, .int .i64 0, .int .i64 0, .int .i64 0, .int .i64 0, .bool false] 30)
        have hQs := hHeld.size
        go_simp
        refine hK.out _ _ (bstep hHeld (bal _ _)) (fun hHeld => ?_)
        clear hK K
        try simp only [Act.put, List.setIfInBounds_toArray, List.set_cons_zero, List.set_cons_succ]
        refine wpAnyH_ready (rs := [11]) (by kernel_rfl) (by simp) ?_
        refine AllReadyH.cons (o := qPl17) rfl (fun K hK => ?_) AllReadyH.nil
        go_simp
        refine hK.out _ _ (bstep hH8 (bal _ _)) (fun hHeld => ?_)
        clear hK K
        try simp only [Act.put, List.setIfInBounds_toArray, List.set_cons_zero, List.set_cons_succ]
        refine' takeF (i := 12) (oi := qPl18) rfl ⟨by rfl, fun x hSw => ?h17⟩ hHeld ?r17
        case h17 =>
          go_simp
          try with_reducible rfl
        try simp only [Act.put, List.setIfInBounds_toArray, List.set_cons_zero, List.set_cons_succ]
        refine wpAnyH_done (by kernel_rfl) ?_ _
        exact ⟨_, _, _, _, _, _, _, _, _, _, _, rfl, heap_alloc_new w6 _, hQs, hHeld⟩
      · have hQ : (World.alloc (w4) (.cells #[.slice none 0 0, .int .i64 0, .int .i64 0, .int .i64 0, .int .i64 0, .bool false] 30)).heap[w4.heap.size]? = _ := heap_alloc_new (w4) (.cells #[.slice none 0 0, .int .i64 0, .int .i64 0, .int .i64 0, .int .i64 0, .bool false] 30)
        have hQs := hHeld.size
        go_simp
        refine hK.out _ _ (bstep hHeld (bal _ _)) (fun hHeld => ?_)
        clear hK K
        try simp only [Act.put, List.setIfInBounds_toArray, List.set_cons_zero, List.set_cons_succ]
        refine wpAnyH_ready (rs := [6]) (by kernel_rfl) (by simp) ?_
        refine AllReadyH.cons (o := qPl13) rfl (fun K hK => ?_) AllReadyH.nil
        go_simp
        have hH6 := hHeld
        refine (sStepBad (some ⟨b, off, none⟩) L.length c (nthF L) x1 x2 x3 x4 x5 1 mm ⟨#[]⟩ 0 _ (h.later (bstep hc1 hHeld)) hsm (by have := okFn_size hsm2; omega) (by rw [hv]; rfl)).mono ?_
        rintro e w6 ⟨rfl, hb6⟩
        have hQ := rowL hQ hb6
        have hH8 := bstep hHeld hb6
        refine hK.out _ _ (bstep hHeld hb6) (fun hHeld => ?_)
        clear hK K
        try simp only [Act.put, List.setIfInBounds_toArray, List.set_cons_zero, List.set_cons_succ]
        refine' takeF (i := 7) (oi := qPl14) rfl ⟨by rfl, fun x hSw => ?h18⟩ hHeld ?r18
        case h18 =>
          go_simp
          try with_reducible rfl
        try simp only [Act.put, List.setIfInBounds_toArray, List.set_cons_zero, List.set_cons_succ]
        refine' takeF (i := 8) (oi := qPl15) rfl ⟨by rfl, fun x hSw => ?h19⟩ hHeld ?r19
        case h19 =>
          go_simp
          try with_reducible rfl
        try simp only [Act.put, List.setIfInBounds_toArray, List.set_cons_zero, List.set_cons_succ]
        refine' takeF (i := 9) (oi := qPl16) rfl ⟨by rfl, fun x hSw => ?h20⟩ hHeld ?r20
        case h20 =>
          go_simp
          try with_reducible rfl
        try simp only [Act.put, List.setIfInBounds_toArray, List.set_cons_zero, List.set_cons_succ]
        refine wpAnyH_ready (rs := [11]) (by kernel_rfl) (by simp) ?_
        refine AllReadyH.cons (o := qPl17) rfl (fun K hK => ?_) AllReadyH.nil
        have qc0 := (cell_of_row _ _ 0 _ _ _ hQ).trans rfl; have qf0 := frozen_of_row _ _ 0 _ _ hQ; have qc1 := (cell_of_row _ _ 1 _ _ _ hQ).trans rfl; have qf1 := frozen_of_row _ _ 1 _ _ hQ; have qc2 := (cell_of_row _ _ 2 _ _ _ hQ).trans rfl; have qf2 := frozen_of_row _ _ 2 _ _ hQ; have qc3 := (cell_of_row _ _ 3 _ _ _ hQ).trans rfl; have qf3 := frozen_of_row _ _ 3 _ _ hQ; have qc4 := (cell_of_row _ _ 4 _ _ _ hQ).trans rfl; have qf4 := frozen_of_row _ _ 4 _ _ hQ; have qc5 := (cell_of_row _ _ 5 _ _ _ hQ).trans rfl; have qf5 := frozen_of_row _ _ 5 _ _ hQ
        go_simp
        refine hK.out _ _ (set6_below _ _ _ _ _ _ hHeld (by first | exact Nat.le_refl _ | exact hQs)) (fun hHeld => ?_)
        clear hK K
        try simp only [Act.put, List.setIfInBounds_toArray, List.set_cons_zero, List.set_cons_succ]
        refine' takeF (i := 12) (oi := qPl18) rfl ⟨by rfl, fun x hSw => ?h21⟩ hHeld ?r21
        case h21 =>
          go_simp
          try with_reducible rfl
        try simp only [Act.put, List.setIfInBounds_toArray, List.set_cons_zero, List.set_cons_succ]
        refine wpAnyH_done (by kernel_rfl) ?_ _
        exact ⟨_, _, _, _, _, _, _, _, _, _, _, rfl, set6_row _ _ _ _ _ _ hQ, by first | exact Nat.le_refl _ | exact hQs, hHeld⟩
    · have hQ : (World.alloc (wb.drew) (.cells #[.slice none 0 0, .int .i64 0, .int .i64 0, .int .i64 0, .int .i64 0, .bool false] 30)).heap[wb.heap.size]? = _ := heap_alloc_new (wb.drew) (.cells #[.slice none 0 0, .int .i64 0, .int .i64 0, .int .i64 0, .int .i64 0, .bool false] 30)
      have hQs := hHeld.size
      go_simp
      refine hK.out _ _ (bstep hHeld (bal _ _)) (fun hHeld => ?_)
      clear hK K
      try simp only [Act.put, List.setIfInBounds_toArray, List.set_cons_zero, List.set_cons_succ]
      refine wpAnyH_ready (rs := [4]) (by kernel_rfl) (by simp) ?_
      refine AllReadyH.cons (o := qPl10) rfl (fun K hK => ?_) AllReadyH.nil
      go_simp
      refine (sSegmentE (ln + 1) _ (by have := HLN.out; (try rw [IntKind.wrap_i64]); omega) _ (by have := HLN.out; omega) mm hmm).mono ?_
      rintro e w4 ⟨rfl, hb4⟩
      have hQ := rowL hQ hb4
      refine hK.out _ _ (bstep hHeld hb4) (fun hHeld => ?_)
      clear hK K
      try simp only [Act.put, List.setIfInBounds_toArray, List.set_cons_zero, List.set_cons_succ]
      refine' takeF (i := 5) (oi := qPl12) rfl ⟨by rfl, fun x hSw => ?h22⟩ hHeld ?r22
      case h22 =>
        go_simp
        try with_reducible rfl
      try simp only [Act.put, List.setIfInBounds_toArray, List.set_cons_zero, List.set_cons_succ]
      refine wpAnyH_ready (rs := [6]) (by kernel_rfl) (by simp) ?_
      refine AllReadyH.cons (o := qPl13) rfl (fun K hK => ?_) AllReadyH.nil
      go_simp
      have hH6 := hHeld
      refine (sStepBad (some ⟨b, off, none⟩) L.length c (nthF L) x1 x2 x3 x4 x5 1 mm ⟨#[]⟩ 0 _ (h.later (bstep hc1 hHeld)) hsm (by have := okFn_size hsm2; omega) (by rw [hv]; rfl)).mono ?_
      rintro e w6 ⟨rfl, hb6⟩
      have hQ := rowL hQ hb6
      have hH8 := bstep hHeld hb6
      refine hK.out _ _ (bstep hHeld hb6) (fun hHeld => ?_)
      clear hK K
      try simp only [Act.put, List.setIfInBounds_toArray, List.set_cons_zero, List.set_cons_succ]
      refine' takeF (i := 7) (oi := qPl14) rfl ⟨by rfl, fun x hSw => ?h23⟩ hHeld ?r23
      case h23 =>
        go_simp
        try with_reducible rfl
      try simp only [Act.put, List.setIfInBounds_toArray, List.set_cons_zero, List.set_cons_succ]
      refine' takeF (i := 8) (oi := qPl15) rfl ⟨by rfl, fun x hSw => ?h24⟩ hHeld ?r24
      case h24 =>
        go_simp
        try with_reducible rfl
      try simp only [Act.put, List.setIfInBounds_toArray, List.set_cons_zero, List.set_cons_succ]
      refine' takeF (i := 9) (oi := qPl16) rfl ⟨by rfl, fun x hSw => ?h25⟩ hHeld ?r25
      case h25 =>
        go_simp
        try with_reducible rfl
      try simp only [Act.put, List.setIfInBounds_toArray, List.set_cons_zero, List.set_cons_succ]
      refine wpAnyH_ready (rs := [11]) (by kernel_rfl) (by simp) ?_
      refine AllReadyH.cons (o := qPl17) rfl (fun K hK => ?_) AllReadyH.nil
      have qc0 := (cell_of_row _ _ 0 _ _ _ hQ).trans rfl; have qf0 := frozen_of_row _ _ 0 _ _ hQ; have qc1 := (cell_of_row _ _ 1 _ _ _ hQ).trans rfl; have qf1 := frozen_of_row _ _ 1 _ _ hQ; have qc2 := (cell_of_row _ _ 2 _ _ _ hQ).trans rfl; have qf2 := frozen_of_row _ _ 2 _ _ hQ; have qc3 := (cell_of_row _ _ 3 _ _ _ hQ).trans rfl; have qf3 := frozen_of_row _ _ 3 _ _ hQ; have qc4 := (cell_of_row _ _ 4 _ _ _ hQ).trans rfl; have qf4 := frozen_of_row _ _ 4 _ _ hQ; have qc5 := (cell_of_row _ _ 5 _ _ _ hQ).trans rfl; have qf5 := frozen_of_row _ _ 5 _ _ hQ
      go_simp
      refine hK.out _ _ (set6_below _ _ _ _ _ _ hHeld (by first | exact Nat.le_refl _ | exact hQs)) (fun hHeld => ?_)
      clear hK K
      try simp only [Act.put, List.setIfInBounds_toArray, List.set_cons_zero, List.set_cons_succ]
      refine' takeF (i := 12) (oi := qPl18) rfl ⟨by rfl, fun x hSw => ?h26⟩ hHeld ?r26
      case h26 =>
        go_simp
        try with_reducible rfl
      try simp only [Act.put, List.setIfInBounds_toArray, List.set_cons_zero, List.set_cons_succ]
      refine wpAnyH_done (by kernel_rfl) ?_ _
      exact ⟨_, _, _, _, _, _, _, _, _, _, _, rfl, set6_row _ _ _ _ _ _ hQ, by first | exact Nat.le_refl _ | exact hQs, hHeld⟩
  intro e a' wc hq
  cases e
  all_goals first | exact hq.elim | skip
  obtain ⟨Q, u61, u62, u63, u64, u65, u66, u67, u68, u69, u70, rfl, hQc, hQle, hbc⟩ := hq
  simp only [Exit.then]
  go_at_K
  have hXc := rowL hX1 hbc
  have hLc := rowL hL1 hbc
  have hR8c := rowL hR81 hbc
  have hR9c := rowL hR91 hbc
  have hcc := bstep hc1 hbc
  have hsb : w.heap.size + 1 + 1 + 1 < wb.heap.size := (Array.getElem?_eq_some_iff.1 hR91).1
  obtain ⟨sc0, sc1, sc2, sc3, sc4, sc5⟩ := B6.of hQc
  obtain ⟨xc0, xc1, xc2, xc3, xc4, xc5⟩ := B6.of hXc
  obtain ⟨xf0, xf1, xf2, xf3, xf4, xf5⟩ := F6.of hXc
  go_upto_region 9 with (fail)
  have hXd := set6_row (.slice none 0 0) (.int .i64 0) (.int .i64 0) (.int .i64 0) (.int .i64 0) (.bool false) hXc
  have hLd := set6_oth (Q := w.heap.size) (.slice none 0 0) (.int .i64 0) (.int .i64 0) (.int .i64 0) (.int .i64 0) (.bool false) hLc (by omega)
  have hR8d := set6_oth (Q := w.heap.size) (.slice none 0 0) (.int .i64 0) (.int .i64 0) (.int .i64 0) (.int .i64 0) (.bool false) hR8c (by omega)
  have hR9d := set6_oth (Q := w.heap.size) (.slice none 0 0) (.int .i64 0) (.int .i64 0) (.int .i64 0) (.int .i64 0) (.bool false) hR9c (by omega)
  have hcd := set6_below (Q := w.heap.size) (.slice none 0 0) (.int .i64 0) (.int .i64 0) (.int .i64 0) (.int .i64 0) (.bool false) hcc (Nat.le_refl _)
  generalize ((((((wc.setCell ⟨w.heap.size, 0, none⟩ (.slice none 0 0)).setCell ⟨w.heap.size, 1, none⟩ (.int .i64 0)).setCell ⟨w.heap.size, 2, none⟩ (.int .i64 0)).setCell ⟨w.heap.size, 3, none⟩ (.int .i64 0)).setCell ⟨w.heap.size, 4, none⟩ (.int .i64 0)).setCell ⟨w.heap.size, 5, none⟩ (.bool false)) = wd at hXd hLd hR8d hR9d hcd ⊢
  go_upto_region 10 with (fail)
  have hKx2 : Kx w wd #[.slice none 0 0, .int .i64 0, .int .i64 0, .int .i64 0, .int .i64 0, .bool false] #[.int .i64 l, .int .i64 s] := ⟨hcd, hXd, hLd⟩
  refine wp_region_held_drew (S := fun x => Kx w x #[.slice none 0 0, .int .i64 0, .int .i64 0, .int .i64 0, .int .i64 0, .bool false] #[.int .i64 l, .int .i64 s]) (by kernel_rfl) (hKx2.later (bdrew1 _)) (fun hHeld => ?_)
  refine' takeF (i := 0) (oi := qPl19) rfl ⟨by rfl, fun x hSw => ?h27⟩ hHeld ?r27
  case h27 =>
    obtain ⟨k0, k1, k2, k3, k4, k5⟩ := B6.of hSw.xr; obtain ⟨qc0, qc1⟩ := B2.of hSw.lr
    go_simp
    try with_reducible rfl
  try simp only [Act.put, List.setIfInBounds_toArray, List.set_cons_zero, List.set_cons_succ]
  refine' takeF (i := 1) (oi := qPl20) rfl ⟨by rfl, fun x hSw => ?h28⟩ hHeld ?r28
  case h28 =>
    obtain ⟨k0, k1, k2, k3, k4, k5⟩ := B6.of hSw.xr; obtain ⟨qc0, qc1⟩ := B2.of hSw.lr
    go_simp
    try with_reducible rfl
  try simp only [Act.put, List.setIfInBounds_toArray, List.set_cons_zero, List.set_cons_succ]
  refine' takeF (i := 2) (oi := qPl21) rfl ⟨by rfl, fun x hSw => ?h29⟩ hHeld ?r29
  case h29 =>
    go_simp
    try with_reducible rfl
  try simp only [Act.put, List.setIfInBounds_toArray, List.set_cons_zero, List.set_cons_succ]
  refine wpAnyH_ready (rs := [3]) (by kernel_rfl) (by simp) ?_
  refine AllReadyH.cons (o := qPl22) rfl (fun K hK => ?_) AllReadyH.nil
  have hbz := bdrew1 wd; generalize wd.drew = wz at hbz hHeld ⊢; have hR85 := rowL hR8d hbz; have hR95 := rowL hR9d hbz; obtain ⟨rc0, rc1, rc2, rc3, rc4, rc5⟩ := B6.of hR85; obtain ⟨rf0, rf1, rf2, rf3, rf4, rf5⟩ := F6.of hR85
  go_simp
  refine hK.out _ _ (hHeld.set8 (.slice none 0 0) (.int .i64 0) (.int .i64 0) (.int .i64 0) (.int .i64 0) (.bool false)) (fun hHeld => ?_)
  clear hK K
  try simp only [Act.put, List.setIfInBounds_toArray, List.set_cons_zero, List.set_cons_succ]
  refine wpAnyH_ready (rs := [4]) (by kernel_rfl) (by simp) ?_
  refine AllReadyH.cons (o := qPl23) rfl (fun K hK => ?_) AllReadyH.nil
  have hR96 := set6_oth (.slice none 0 0) (.int .i64 0) (.int .i64 0) (.int .i64 0) (.int .i64 0) (.bool false) (Q := w.heap.size + 1 + 1) hR95 (by omega); have t0 := (cell_of_row _ _ 0 _ _ _ hR96).trans rfl; have tf0 := frozen_of_row _ _ 0 _ _ hR96; have t1 := (cell_of_row _ _ 1 _ _ _ hR96).trans rfl; have tf1 := frozen_of_row _ _ 1 _ _ hR96
  go_simp
  refine hK.out _ _ (hHeld.set9 (.int .i64 l) (.int .i64 s)) (fun hHeld => ?_)
  clear hK K
  try simp only [Act.put, List.setIfInBounds_toArray, List.set_cons_zero, List.set_cons_succ]
  refine' takeF (i := 5) (oi := qPl24) rfl ⟨by rfl, fun x hSw => ?h30⟩ hHeld ?r30
  case h30 =>
    go_simp
    try with_reducible rfl
  try simp only [Act.put, List.setIfInBounds_toArray, List.set_cons_zero, List.set_cons_succ]
  refine wpAnyH_done (by kernel_rfl) ?_ _
  go_wp2
  refine bodyPost_ret (results_cell2_tmp Tryd.results6 _ _ (w.heap.size + 1 + 1) 30 _ (0, 0) _ rfl (fin8 _ _ _ _ _ _ _ _ hR85 (by omega)) Tryd.underlying30 rfl (by kernel_rfl) (w.heap.size + 1 + 1 + 1) 31 _ (0, 0) _ rfl (fin9 _ _ _ _ _ _ _ _ hR95 (by omega)) Tryd.underlying31 rfl (by kernel_rfl)) rfl ?_
  exact ⟨_, _, rfl, (finO ⟨rfl, Or.inl ⟨rfl, rfl⟩⟩ hR85 hR95 (by omega)).f, hHeld.b⟩
set_option maxRecDepth 20000 in
set_option maxHeartbeats 8000000 in
theorem sApC (b off c : Nat) (L : List Fil) (x1 x2 x3 x4 : Int) (x5 : Bool) (l s : Int) (en f : ByteArray) (hf : frm en = f) (mo : Int) (w : World) (h : FL w (some ⟨b, off, none⟩) L.length (nthF L)) (hen : en.size ≤ 1048576) (hsm : Small L.length (nthF L)) (hq : f.size ≠ 0) (_hfz : f.size ≤ 65536) (hbl : btw l 1 9999 = true) (hbs : btw s 0 1000000000 = true) (hmo : btw mo 1 1000000000 = true) (_hs0 : 0 ≤ s) (_hs1 : s ≤ 1000000000) (_hl0 : 1 ≤ l) (_hl1 : l ≤ 9999) (hx1 : s ≠ 0) (hx2 : mo < s + (f.size : Int)) (h99 : l ≠ 9999) (hok : Ok6 L x1 x2 1048576) (h3 : 0 ≤ x3 ∧ x3 ≤ 1000000000000000) (h4 : 0 ≤ x4 ∧ x4 ≤ 1000000000000000) (ln : Nat) (HLN : Hid (l = ln)) (cc : Int) (hcc0 : cc ≠ 0) (K0 : List Fil) (k2 : Int) (k5 : Bool) (r0 : Int) (hr0 : FdAt L (seg (ln + 1)) r0) (e0 : stS L x1 x2 x3 x4 x5 1 (seg (ln + 1)) ⟨#[]⟩ 0 r0 = (K0, k2, k5, cc)) :
    Calls Tryd.prog 6 #[.agg #[.slice (some ⟨b, off, none⟩) L.length c, .int .i64 x1, .int .i64 x2, .int .i64 x3, .int .i64 x4, .bool x5], .agg #[.int .i64 l, .int .i64 s], .string en, .int .i64 mo] w (RE K0 x1 k2 x3 x4 k5 l s cc w) := by
  have hn := hsm.n
  have hfe : (f.toList == ([] : List UInt8)) = false := by rw [nilS]; simpa using hq
  have hsz : (s == 0) = false := by simp [hx1]
  have hsy : (s != 0) = true := by simp [hx1]
  have hsx : decide (s = 0) = false := by simp [hx1]
  have h9 : (l == 9999) = false := by simp [h99]
  obtain ⟨mm, hmm⟩ : ∃ mm, seg (ln + 1) = mm := ⟨_, rfl⟩
  have hsm2 := seg_ok (ln + 1)
  rw [hmm] at hsm2
  rw [hmm] at hr0 e0
  have ok0 := hok.step hr0 hsm2 e0
  have E0 : Hid (stS L x1 x2 x3 x4 x5 1 mm ⟨#[]⟩ 0 r0 = (K0, k2, k5, cc)) := e0
  clear e0
  have hz0 : (⟨#[]⟩ : ByteArray).size = 0 := rfl
  have ncc0 : (cc == 0) = false := by simp [hcc0]
  have ncc1 : (cc != 0) = true := by simp [hcc0]
  have ncc2 : decide (cc = 0) = false := by simp [hcc0]
  obtain ⟨hX0, hL0, hR80, hR90, hb0⟩ := four w (.cells #[.slice (some ⟨b, off, none⟩) L.length c, .int .i64 x1, .int .i64 x2, .int .i64 x3, .int .i64 x4, .bool x5] 30) (.cells #[.int .i64 l, .int .i64 s] 31) (.cells #[.slice none 0 0, .int .i64 0, .int .i64 0, .int .i64 0, .int .i64 0, .bool false] 30) (.cells #[.int .i64 0, .int .i64 0] 31)
  go_enter Tryd.func6, Tryd.ntmps6
  go_upto_region 2 with (go_at_call 20; refine (sFrameE en f hf _ hen).mono ?_; rintro e w1 ⟨rfl, hb1⟩)
  have hX1 := rowL hX0 hb1
  have hL1 := rowL hL0 hb1
  have hR81 := rowL hR80 hb1
  have hR91 := rowL hR90 hb1
  have hc1 := bstep hb0 hb1
  have hKx : Kx w w1 #[.slice (some ⟨b, off, none⟩) L.length c, .int .i64 x1, .int .i64 x2, .int .i64 x3, .int .i64 x4, .bool x5] #[.int .i64 l, .int .i64 s] := ⟨hc1, hX1, hL1⟩
  clear hX0 hL0 hR80 hR90 hb0 hb1
  obtain ⟨lc0, lc1⟩ := B2.of hL1
  obtain ⟨lf0, lf1⟩ := F2.of hL1
  obtain ⟨xc0, xc1, xc2, xc3, xc4, xc5⟩ := B6.of hX1
  go_upto_region 7 with (go_at_call 21; refine (sBetween _ _ _ _).mono ?_; (first | rw [hbl] | rw [hbs] | rw [hmo]); rintro e wb ⟨rfl, rfl⟩)
  refine Code.wp_mono (Q := Exit.then (fun a' w' => ∃ (Q gc cpc : Nat) (u61 u62 u63 u64 u65 u66 u67 u68 u69 u70 : Value), a' = { tmps := List.toArray ((Value.agg #[Value.slice (some ⟨b, off, none⟩) L.length c, Value.int .i64 x1, Value.int .i64 x2, Value.int .i64 x3, Value.int .i64 x4, Value.bool x5]) :: (Value.agg #[Value.int .i64 l, Value.int .i64 s]) :: (Value.string en) :: (Value.int .i64 mo) :: (Value.pointer (some ⟨w.heap.size, 0, none⟩)) :: (Value.pointer (some ⟨w.heap.size + 1, 0, none⟩)) :: (undef) :: (undef) :: (Value.pointer (some ⟨w.heap.size + 1 + 1, 0, none⟩)) :: (Value.pointer (some ⟨w.heap.size + 1 + 1 + 1, 0, none⟩)) :: (Value.int .i64 0) :: (Value.string f) :: (.pointer (some ⟨Q, 0, none⟩)) :: (.int .i64 cc) :: (undef) :: (undef) :: (undef) :: (undef) :: (undef) :: (Value.string en) :: (Value.string f) :: (Value.string f) :: (Value.bool false) :: (Value.bool false) :: (Value.pointer (some ⟨w.heap.size + 1, 0, none⟩)) :: (Value.int .i64 l) :: (Value.bool true) :: (Value.bool false) :: (Value.bool false) :: (Value.bool false) :: (Value.pointer (some ⟨w.heap.size + 1, 1, none⟩)) :: (Value.int .i64 s) :: (Value.bool true) :: (Value.bool false) :: (Value.bool false) :: (Value.bool false) :: (Value.int .i64 mo) :: (Value.bool true) :: (Value.bool false) :: (Value.bool false) :: (undef) :: (undef) :: (undef) :: (Value.pointer (some ⟨w.heap.size + 1, 1, none⟩)) :: (Value.int .i64 s) :: (Value.bool true) :: (Value.bool true) :: (Value.pointer (some ⟨w.heap.size + 1, 1, none⟩)) :: (Value.int .i64 s) :: (Value.string f) :: (Value.int .i64 (f.size : Int)) :: (Value.int .i64 (s + (f.size : Int))) :: (Value.int .i64 mo) :: (Value.bool true) :: (Value.bool true) :: (Value.pointer (some ⟨w.heap.size + 1, 0, none⟩)) :: (Value.int .i64 l) :: (Value.bool false) :: (undef) :: (undef) :: (undef) :: (u61) :: (u62) :: (u63) :: (u64) :: (u65) :: (u66) :: (u67) :: (u68) :: (u69) :: (u70) :: (undef) :: (undef) :: (undef) :: (undef) :: (undef) :: (undef) :: (undef) :: (undef) :: (undef) :: (undef) :: (undef) :: (undef) :: (undef) :: (undef) :: (undef) :: (undef) :: (undef) :: (undef) :: (undef) :: (undef) :: (undef) :: (undef) :: (undef) :: (undef) :: (undef) :: (undef) :: (undef) :: (undef) :: (undef) :: (undef) :: (undef) :: (undef) :: (undef) :: (undef) :: (undef) :: (undef) :: (undef) :: (undef) :: (undef) :: (undef) :: (undef) :: (undef) :: (undef) :: (undef) :: (undef) :: (undef) :: (undef) :: (undef) :: (undef) :: (undef) :: (undef) :: (undef) :: (undef) :: (undef) :: (undef) :: (undef) :: (undef) :: (undef) :: (undef) :: (undef) :: (undef) :: (undef) :: (undef) :: (undef) :: (undef) :: (undef) :: (undef) :: (undef) :: (undef) :: (undef) :: (undef) :: []), defers := [] } ∧ w'.heap[Q]? = some (.cells #[.slice (some ⟨gc, 0, none⟩) K0.length cpc, .int .i64 x1, .int .i64 k2, .int .i64 x3, .int .i64 x4, .bool k5] 30 (0, 0)) ∧ OwnL w' wb.heap.size (.slice (some ⟨gc, 0, none⟩) K0.length cpc) K0 ∧ wb.heap.size ≤ Q ∧ Below wb.heap.size wb w') (fun _ _ _ => False)) ?_ ?_
  rotate_left
  · refine wp_region_held_drew (S := fun x => Below wb.heap.size wb x) (by kernel_rfl) (bdrew1 _) (fun hHeld => ?_)
    refine' takeF (i := 0) (oi := qPl6) rfl ⟨by rfl, fun x hSw => ?h31⟩ hHeld ?r31
    case h31 =>
      obtain ⟨k0, k1, k2, k3, k4, k5⟩ := B6.of (rowL hX1 hSw); have hLs := rowL hL1 hSw; obtain ⟨qc0, qc1⟩ := B2.of hLs
      go_simp
      try with_reducible rfl
    try simp only [Act.put, List.setIfInBounds_toArray, List.set_cons_zero, List.set_cons_succ]
    refine' takeF (i := 1) (oi := qPl7) rfl ⟨by rfl, fun x hSw => ?h32⟩ hHeld ?r32
    case h32 =>
      go_simp
      try with_reducible rfl
    try simp only [Act.put, List.setIfInBounds_toArray, List.set_cons_zero, List.set_cons_succ]
    refine' takeF (i := 2) (oi := qPl8) rfl ⟨by rfl, fun x hSw => ?h33⟩ hHeld ?r33
    case h33 =>
      obtain ⟨k0, k1, k2, k3, k4, k5⟩ := B6.of (rowL hX1 hSw); have hLs := rowL hL1 hSw; obtain ⟨qc0, qc1⟩ := B2.of hLs
      go_simp
      try with_reducible rfl
    try simp only [Act.put, List.setIfInBounds_toArray, List.set_cons_zero, List.set_cons_succ]
    refine' takeF (i := 3) (oi := qPl9) rfl ⟨by rfl, fun x hSw => ?h34⟩ hHeld ?r34
    case h34 =>
      go_simp
      try with_reducible rfl
    try simp only [Act.put, List.setIfInBounds_toArray, List.set_cons_zero, List.set_cons_succ]
    refine wpAnyH_ready (rs := [4, 10]) (by kernel_rfl) (by simp) ?_
    refine (AllReadyH.cons (o := qPl10) rfl (fun K hK => ?_) (AllReadyH.cons (o := qPl11) rfl (fun K hK => ?_) AllReadyH.nil))
    · go_simp
      refine (sSegmentE (ln + 1) _ (by have := HLN.out; (try rw [IntKind.wrap_i64]); omega) _ (by have := HLN.out; omega) mm hmm).mono ?_
      rintro e w4 ⟨rfl, hb4⟩
      refine hK.out _ _ (bstep hHeld hb4) (fun hHeld => ?_)
      clear hK K
      try simp only [Act.put, List.setIfInBounds_toArray, List.set_cons_zero, List.set_cons_succ]
      refine' takeF (i := 5) (oi := qPl12) rfl ⟨by rfl, fun x hSw => ?h35⟩ hHeld ?r35
      case h35 =>
        go_simp
        try with_reducible rfl
      try simp only [Act.put, List.setIfInBounds_toArray, List.set_cons_zero, List.set_cons_succ]
      refine wpAnyH_ready (rs := [6, 10]) (by kernel_rfl) (by simp) ?_
      refine (AllReadyH.cons (o := qPl13) rfl (fun K hK => ?_) (AllReadyH.cons (o := qPl11) rfl (fun K hK => ?_) AllReadyH.nil))
      · go_simp
        have hH6 := hHeld
        refine (sStepE b off c L x1 x2 x3 x4 x5 1 mm ⟨#[]⟩ 0 r0 K0 k2 k5 cc _ _ (h.later (bstep hc1 hHeld)) hok (by omega) (by omega) (by omega) hsm2 (by omega) h3 h4 hr0 E0.out).mono ?_
        rintro e w6 ⟨gc, cpc, rfl, hO6, hb6⟩
        have hH8 := bstep hHeld hb6
        refine hK.out _ _ (bstep hHeld hb6) (fun hHeld => ?_)
        clear hK K
        try simp only [Act.put, List.setIfInBounds_toArray, List.set_cons_zero, List.set_cons_succ]
        refine' takeF (i := 7) (oi := qPl14) rfl ⟨by rfl, fun x hSw => ?h36⟩ hHeld ?r36
        case h36 =>
          go_simp
          try with_reducible rfl
        try simp only [Act.put, List.setIfInBounds_toArray, List.set_cons_zero, List.set_cons_succ]
        refine' takeF (i := 8) (oi := qPl15) rfl ⟨by rfl, fun x hSw => ?h37⟩ hHeld ?r37
        case h37 =>
          go_simp
          try with_reducible rfl
        try simp only [Act.put, List.setIfInBounds_toArray, List.set_cons_zero, List.set_cons_succ]
        refine' takeF (i := 9) (oi := qPl16) rfl ⟨by rfl, fun x hSw => ?h38⟩ hHeld ?r38
        case h38 =>
          go_simp
          try with_reducible rfl
        try simp only [Act.put, List.setIfInBounds_toArray, List.set_cons_zero, List.set_cons_succ]
        refine wpAnyH_ready (rs := [10]) (by kernel_rfl) (by simp) ?_
        refine AllReadyH.cons (o := qPl11) rfl (fun K hK => ?_) AllReadyH.nil
        have hQ : (World.alloc (w6) (.cells #[.slice none 0 0, .int .i64 0, .int .i64 0, .int .i64 0, .int .i64 0, .bool false] 30)).heap[w6.heap.size]? = _ := heap_alloc_new (w6) (.cells #[.slice none 0 0, .int .i64 0, .int .i64 0, .int .i64 0, .int .i64 0, .bool false] 30)
        have hQs := hHeld.size
        go_simp
        refine hK.out _ _ (bstep hHeld (bal _ _)) (fun hHeld => ?_)
        clear hK K
        try simp only [Act.put, List.setIfInBounds_toArray, List.set_cons_zero, List.set_cons_succ]
        refine wpAnyH_ready (rs := [11]) (by kernel_rfl) (by simp) ?_
        refine AllReadyH.cons (o := qPl17) rfl (fun K hK => ?_) AllReadyH.nil
        go_simp
        refine hK.out _ _ (bstep hH8 (bal _ _)) (fun hHeld => ?_)
        clear hK K
        try simp only [Act.put, List.setIfInBounds_toArray, List.set_cons_zero, List.set_cons_succ]
        refine' takeF (i := 12) (oi := qPl18) rfl ⟨by rfl, fun x hSw => ?h39⟩ hHeld ?r39
        case h39 =>
          go_simp
          try with_reducible rfl
        try simp only [Act.put, List.setIfInBounds_toArray, List.set_cons_zero, List.set_cons_succ]
        refine wpAnyH_done (by kernel_rfl) ?_ _
        exact ⟨_, gc, cpc, _, _, _, _, _, _, _, _, _, _, rfl, heap_alloc_new w6 _, (OwnL.wk hO6 hH6.size).later (bal _ _), hQs, hHeld⟩
      · have hQ : (World.alloc (w4) (.cells #[.slice none 0 0, .int .i64 0, .int .i64 0, .int .i64 0, .int .i64 0, .bool false] 30)).heap[w4.heap.size]? = _ := heap_alloc_new (w4) (.cells #[.slice none 0 0, .int .i64 0, .int .i64 0, .int .i64 0, .int .i64 0, .bool false] 30)
        have hQs := hHeld.size
        go_simp
        refine hK.out _ _ (bstep hHeld (bal _ _)) (fun hHeld => ?_)
        clear hK K
        try simp only [Act.put, List.setIfInBounds_toArray, List.set_cons_zero, List.set_cons_succ]
        refine wpAnyH_ready (rs := [6]) (by kernel_rfl) (by simp) ?_
        refine AllReadyH.cons (o := qPl13) rfl (fun K hK => ?_) AllReadyH.nil
        go_simp
        have hH6 := hHeld
        refine (sStepE b off c L x1 x2 x3 x4 x5 1 mm ⟨#[]⟩ 0 r0 K0 k2 k5 cc _ _ (h.later (bstep hc1 hHeld)) hok (by omega) (by omega) (by omega) hsm2 (by omega) h3 h4 hr0 E0.out).mono ?_
        rintro e w6 ⟨gc, cpc, rfl, hO6, hb6⟩
        have hQ := rowL hQ hb6
        have hH8 := bstep hHeld hb6
        refine hK.out _ _ (bstep hHeld hb6) (fun hHeld => ?_)
        clear hK K
        try simp only [Act.put, List.setIfInBounds_toArray, List.set_cons_zero, List.set_cons_succ]
        refine' takeF (i := 7) (oi := qPl14) rfl ⟨by rfl, fun x hSw => ?h40⟩ hHeld ?r40
        case h40 =>
          go_simp
          try with_reducible rfl
        try simp only [Act.put, List.setIfInBounds_toArray, List.set_cons_zero, List.set_cons_succ]
        refine' takeF (i := 8) (oi := qPl15) rfl ⟨by rfl, fun x hSw => ?h41⟩ hHeld ?r41
        case h41 =>
          go_simp
          try with_reducible rfl
        try simp only [Act.put, List.setIfInBounds_toArray, List.set_cons_zero, List.set_cons_succ]
        refine' takeF (i := 9) (oi := qPl16) rfl ⟨by rfl, fun x hSw => ?h42⟩ hHeld ?r42
        case h42 =>
          go_simp
          try with_reducible rfl
        try simp only [Act.put, List.setIfInBounds_toArray, List.set_cons_zero, List.set_cons_succ]
        refine wpAnyH_ready (rs := [11]) (by kernel_rfl) (by simp) ?_
        refine AllReadyH.cons (o := qPl17) rfl (fun K hK => ?_) AllReadyH.nil
        have qc0 := (cell_of_row _ _ 0 _ _ _ hQ).trans rfl; have qf0 := frozen_of_row _ _ 0 _ _ hQ; have qc1 := (cell_of_row _ _ 1 _ _ _ hQ).trans rfl; have qf1 := frozen_of_row _ _ 1 _ _ hQ; have qc2 := (cell_of_row _ _ 2 _ _ _ hQ).trans rfl; have qf2 := frozen_of_row _ _ 2 _ _ hQ; have qc3 := (cell_of_row _ _ 3 _ _ _ hQ).trans rfl; have qf3 := frozen_of_row _ _ 3 _ _ hQ; have qc4 := (cell_of_row _ _ 4 _ _ _ hQ).trans rfl; have qf4 := frozen_of_row _ _ 4 _ _ hQ; have qc5 := (cell_of_row _ _ 5 _ _ _ hQ).trans rfl; have qf5 := frozen_of_row _ _ 5 _ _ hQ
        go_simp
        refine hK.out _ _ (set6_below _ _ _ _ _ _ hHeld (by first | exact Nat.le_refl _ | exact hQs)) (fun hHeld => ?_)
        clear hK K
        try simp only [Act.put, List.setIfInBounds_toArray, List.set_cons_zero, List.set_cons_succ]
        refine' takeF (i := 12) (oi := qPl18) rfl ⟨by rfl, fun x hSw => ?h43⟩ hHeld ?r43
        case h43 =>
          go_simp
          try with_reducible rfl
        try simp only [Act.put, List.setIfInBounds_toArray, List.set_cons_zero, List.set_cons_succ]
        refine wpAnyH_done (by kernel_rfl) ?_ _
        exact ⟨_, gc, cpc, _, _, _, _, _, _, _, _, _, _, rfl, set6_row _ _ _ _ _ _ hQ, keep6 (OwnL.wk hO6 hH6.size) hQ, by first | exact Nat.le_refl _ | exact hQs, hHeld⟩
    · have hQ : (World.alloc (wb.drew) (.cells #[.slice none 0 0, .int .i64 0, .int .i64 0, .int .i64 0, .int .i64 0, .bool false] 30)).heap[wb.heap.size]? = _ := heap_alloc_new (wb.drew) (.cells #[.slice none 0 0, .int .i64 0, .int .i64 0, .int .i64 0, .int .i64 0, .bool false] 30)
      have hQs := hHeld.size
      go_simp
      refine hK.out _ _ (bstep hHeld (bal _ _)) (fun hHeld => ?_)
      clear hK K
      try simp only [Act.put, List.setIfInBounds_toArray, List.set_cons_zero, List.set_cons_succ]
      refine wpAnyH_ready (rs := [4]) (by kernel_rfl) (by simp) ?_
      refine AllReadyH.cons (o := qPl10) rfl (fun K hK => ?_) AllReadyH.nil
      go_simp
      refine (sSegmentE (ln + 1) _ (by have := HLN.out; (try rw [IntKind.wrap_i64]); omega) _ (by have := HLN.out; omega) mm hmm).mono ?_
      rintro e w4 ⟨rfl, hb4⟩
      have hQ := rowL hQ hb4
      refine hK.out _ _ (bstep hHeld hb4) (fun hHeld => ?_)
      clear hK K
      try simp only [Act.put, List.setIfInBounds_toArray, List.set_cons_zero, List.set_cons_succ]
      refine' takeF (i := 5) (oi := qPl12) rfl ⟨by rfl, fun x hSw => ?h44⟩ hHeld ?r44
      case h44 =>
        go_simp
        try with_reducible rfl
      try simp only [Act.put, List.setIfInBounds_toArray, List.set_cons_zero, List.set_cons_succ]
      refine wpAnyH_ready (rs := [6]) (by kernel_rfl) (by simp) ?_
      refine AllReadyH.cons (o := qPl13) rfl (fun K hK => ?_) AllReadyH.nil
      go_simp
      have hH6 := hHeld
      refine (sStepE b off c L x1 x2 x3 x4 x5 1 mm ⟨#[]⟩ 0 r0 K0 k2 k5 cc _ _ (h.later (bstep hc1 hHeld)) hok (by omega) (by omega) (by omega) hsm2 (by omega) h3 h4 hr0 E0.out).mono ?_
      rintro e w6 ⟨gc, cpc, rfl, hO6, hb6⟩
      have hQ := rowL hQ hb6
      have hH8 := bstep hHeld hb6
      refine hK.out _ _ (bstep hHeld hb6) (fun hHeld => ?_)
      clear hK K
      try simp only [Act.put, List.setIfInBounds_toArray, List.set_cons_zero, List.set_cons_succ]
      refine' takeF (i := 7) (oi := qPl14) rfl ⟨by rfl, fun x hSw => ?h45⟩ hHeld ?r45
      case h45 =>
        go_simp
        try with_reducible rfl
      try simp only [Act.put, List.setIfInBounds_toArray, List.set_cons_zero, List.set_cons_succ]
      refine' takeF (i := 8) (oi := qPl15) rfl ⟨by rfl, fun x hSw => ?h46⟩ hHeld ?r46
      case h46 =>
        go_simp
        try with_reducible rfl
      try simp only [Act.put, List.setIfInBounds_toArray, List.set_cons_zero, List.set_cons_succ]
      refine' takeF (i := 9) (oi := qPl16) rfl ⟨by rfl, fun x hSw => ?h47⟩ hHeld ?r47
      case h47 =>
        go_simp
        try with_reducible rfl
      try simp only [Act.put, List.setIfInBounds_toArray, List.set_cons_zero, List.set_cons_succ]
      refine wpAnyH_ready (rs := [11]) (by kernel_rfl) (by simp) ?_
      refine AllReadyH.cons (o := qPl17) rfl (fun K hK => ?_) AllReadyH.nil
      have qc0 := (cell_of_row _ _ 0 _ _ _ hQ).trans rfl; have qf0 := frozen_of_row _ _ 0 _ _ hQ; have qc1 := (cell_of_row _ _ 1 _ _ _ hQ).trans rfl; have qf1 := frozen_of_row _ _ 1 _ _ hQ; have qc2 := (cell_of_row _ _ 2 _ _ _ hQ).trans rfl; have qf2 := frozen_of_row _ _ 2 _ _ hQ; have qc3 := (cell_of_row _ _ 3 _ _ _ hQ).trans rfl; have qf3 := frozen_of_row _ _ 3 _ _ hQ; have qc4 := (cell_of_row _ _ 4 _ _ _ hQ).trans rfl; have qf4 := frozen_of_row _ _ 4 _ _ hQ; have qc5 := (cell_of_row _ _ 5 _ _ _ hQ).trans rfl; have qf5 := frozen_of_row _ _ 5 _ _ hQ
      go_simp
      refine hK.out _ _ (set6_below _ _ _ _ _ _ hHeld (by first | exact Nat.le_refl _ | exact hQs)) (fun hHeld => ?_)
      clear hK K
      try simp only [Act.put, List.setIfInBounds_toArray, List.set_cons_zero, List.set_cons_succ]
      refine' takeF (i := 12) (oi := qPl18) rfl ⟨by rfl, fun x hSw => ?h48⟩ hHeld ?r48
      case h48 =>
        go_simp
        try with_reducible rfl
      try simp only [Act.put, List.setIfInBounds_toArray, List.set_cons_zero, List.set_cons_succ]
      refine wpAnyH_done (by kernel_rfl) ?_ _
      exact ⟨_, gc, cpc, _, _, _, _, _, _, _, _, _, _, rfl, set6_row _ _ _ _ _ _ hQ, keep6 (OwnL.wk hO6 hH6.size) hQ, by first | exact Nat.le_refl _ | exact hQs, hHeld⟩
  intro e a' wc hq
  cases e
  all_goals first | exact hq.elim | skip
  obtain ⟨Q, gc, cpc, u61, u62, u63, u64, u65, u66, u67, u68, u69, u70, rfl, hQc, hOc, hQle, hbc⟩ := hq
  simp only [Exit.then]
  go_at_K
  have hXc := rowL hX1 hbc
  have hLc := rowL hL1 hbc
  have hR8c := rowL hR81 hbc
  have hR9c := rowL hR91 hbc
  have hcc := bstep hc1 hbc
  have hsb : w.heap.size + 1 + 1 + 1 < wb.heap.size := (Array.getElem?_eq_some_iff.1 hR91).1
  obtain ⟨sc0, sc1, sc2, sc3, sc4, sc5⟩ := B6.of hQc
  obtain ⟨xc0, xc1, xc2, xc3, xc4, xc5⟩ := B6.of hXc
  obtain ⟨xf0, xf1, xf2, xf3, xf4, xf5⟩ := F6.of hXc
  go_upto_region 9 with (fail)
  have hXd := set6_row (.slice (some ⟨gc, 0, none⟩) K0.length cpc) (.int .i64 x1) (.int .i64 k2) (.int .i64 x3) (.int .i64 x4) (.bool k5) hXc
  have hLd := set6_oth (Q := w.heap.size) (.slice (some ⟨gc, 0, none⟩) K0.length cpc) (.int .i64 x1) (.int .i64 k2) (.int .i64 x3) (.int .i64 x4) (.bool k5) hLc (by omega)
  have hR8d := set6_oth (Q := w.heap.size) (.slice (some ⟨gc, 0, none⟩) K0.length cpc) (.int .i64 x1) (.int .i64 k2) (.int .i64 x3) (.int .i64 x4) (.bool k5) hR8c (by omega)
  have hR9d := set6_oth (Q := w.heap.size) (.slice (some ⟨gc, 0, none⟩) K0.length cpc) (.int .i64 x1) (.int .i64 k2) (.int .i64 x3) (.int .i64 x4) (.bool k5) hR9c (by omega)
  have hOd := keep6 (v0 := .slice (some ⟨gc, 0, none⟩) K0.length cpc) (v1 := .int .i64 x1) (v2 := .int .i64 k2) (v3 := .int .i64 x3) (v4 := .int .i64 x4) (v5 := .bool k5) (hOc.wk hc1.size) hXc
  have hcd := set6_below (Q := w.heap.size) (.slice (some ⟨gc, 0, none⟩) K0.length cpc) (.int .i64 x1) (.int .i64 k2) (.int .i64 x3) (.int .i64 x4) (.bool k5) hcc (Nat.le_refl _)
  generalize ((((((wc.setCell ⟨w.heap.size, 0, none⟩ (.slice (some ⟨gc, 0, none⟩) K0.length cpc)).setCell ⟨w.heap.size, 1, none⟩ (.int .i64 x1)).setCell ⟨w.heap.size, 2, none⟩ (.int .i64 k2)).setCell ⟨w.heap.size, 3, none⟩ (.int .i64 x3)).setCell ⟨w.heap.size, 4, none⟩ (.int .i64 x4)).setCell ⟨w.heap.size, 5, none⟩ (.bool k5)) = wd at hXd hLd hR8d hR9d hOd hcd ⊢
  go_upto_region 10 with (fail)
  have hKx2 : Kx w wd #[.slice (some ⟨gc, 0, none⟩) K0.length cpc, .int .i64 x1, .int .i64 k2, .int .i64 x3, .int .i64 x4, .bool k5] #[.int .i64 l, .int .i64 s] := ⟨hcd, hXd, hLd⟩
  refine wp_region_held_drew (S := fun x => Kx w x #[.slice (some ⟨gc, 0, none⟩) K0.length cpc, .int .i64 x1, .int .i64 k2, .int .i64 x3, .int .i64 x4, .bool k5] #[.int .i64 l, .int .i64 s]) (by kernel_rfl) (hKx2.later (bdrew1 _)) (fun hHeld => ?_)
  refine' takeF (i := 0) (oi := qPl19) rfl ⟨by rfl, fun x hSw => ?h49⟩ hHeld ?r49
  case h49 =>
    obtain ⟨k0, k1, k2, k3, k4, k5⟩ := B6.of hSw.xr; obtain ⟨qc0, qc1⟩ := B2.of hSw.lr
    go_simp
    try with_reducible rfl
  try simp only [Act.put, List.setIfInBounds_toArray, List.set_cons_zero, List.set_cons_succ]
  refine' takeF (i := 1) (oi := qPl20) rfl ⟨by rfl, fun x hSw => ?h50⟩ hHeld ?r50
  case h50 =>
    obtain ⟨k0, k1, k2, k3, k4, k5⟩ := B6.of hSw.xr; obtain ⟨qc0, qc1⟩ := B2.of hSw.lr
    go_simp
    try with_reducible rfl
  try simp only [Act.put, List.setIfInBounds_toArray, List.set_cons_zero, List.set_cons_succ]
  refine' takeF (i := 2) (oi := qPl21) rfl ⟨by rfl, fun x hSw => ?h51⟩ hHeld ?r51
  case h51 =>
    go_simp
    try with_reducible rfl
  try simp only [Act.put, List.setIfInBounds_toArray, List.set_cons_zero, List.set_cons_succ]
  refine wpAnyH_ready (rs := [3]) (by kernel_rfl) (by simp) ?_
  refine AllReadyH.cons (o := qPl22) rfl (fun K hK => ?_) AllReadyH.nil
  have hbz := bdrew1 wd; generalize wd.drew = wz at hbz hHeld ⊢; have hR85 := rowL hR8d hbz; have hR95 := rowL hR9d hbz; obtain ⟨rc0, rc1, rc2, rc3, rc4, rc5⟩ := B6.of hR85; obtain ⟨rf0, rf1, rf2, rf3, rf4, rf5⟩ := F6.of hR85
  go_simp
  refine hK.out _ _ (hHeld.set8 (.slice (some ⟨gc, 0, none⟩) K0.length cpc) (.int .i64 x1) (.int .i64 k2) (.int .i64 x3) (.int .i64 x4) (.bool k5)) (fun hHeld => ?_)
  clear hK K
  try simp only [Act.put, List.setIfInBounds_toArray, List.set_cons_zero, List.set_cons_succ]
  refine wpAnyH_ready (rs := [4]) (by kernel_rfl) (by simp) ?_
  refine AllReadyH.cons (o := qPl23) rfl (fun K hK => ?_) AllReadyH.nil
  have hR96 := set6_oth (.slice (some ⟨gc, 0, none⟩) K0.length cpc) (.int .i64 x1) (.int .i64 k2) (.int .i64 x3) (.int .i64 x4) (.bool k5) (Q := w.heap.size + 1 + 1) hR95 (by omega); have t0 := (cell_of_row _ _ 0 _ _ _ hR96).trans rfl; have tf0 := frozen_of_row _ _ 0 _ _ hR96; have t1 := (cell_of_row _ _ 1 _ _ _ hR96).trans rfl; have tf1 := frozen_of_row _ _ 1 _ _ hR96
  go_simp
  refine hK.out _ _ (hHeld.set9 (.int .i64 l) (.int .i64 s)) (fun hHeld => ?_)
  clear hK K
  try simp only [Act.put, List.setIfInBounds_toArray, List.set_cons_zero, List.set_cons_succ]
  refine' takeF (i := 5) (oi := qPl24) rfl ⟨by rfl, fun x hSw => ?h52⟩ hHeld ?r52
  case h52 =>
    go_simp
    try with_reducible rfl
  try simp only [Act.put, List.setIfInBounds_toArray, List.set_cons_zero, List.set_cons_succ]
  refine wpAnyH_done (by kernel_rfl) ?_ _
  go_wp2
  refine bodyPost_ret (results_cell2_tmp Tryd.results6 _ _ (w.heap.size + 1 + 1) 30 _ (0, 0) _ rfl (fin8 _ _ _ _ _ _ _ _ hR85 (by omega)) Tryd.underlying30 rfl (by kernel_rfl) (w.heap.size + 1 + 1 + 1) 31 _ (0, 0) _ rfl (fin9 _ _ _ _ _ _ _ _ hR95 (by omega)) Tryd.underlying31 rfl (by kernel_rfl)) rfl ?_
  exact ⟨_, _, rfl, (finO (hOd.later hbz) hR85 hR95 (by omega)).f, hHeld.b⟩
end Go.Proofs.YtdbcihebhgpblaaDoor
