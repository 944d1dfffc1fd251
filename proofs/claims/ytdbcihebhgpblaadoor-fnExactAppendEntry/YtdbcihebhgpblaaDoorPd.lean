/-
  AppendEntry, the program's side: write.
-/
import Derived.Test.YtdbcihebhgpblaaDoorPc
namespace Go.Proofs.YtdbcihebhgpblaaDoor
open Go.RowKit
structure Ok6 (L : List Fil) (x1 x2 : Int) (N : Nat) : Prop where
  good : Good L x1
  x1m : x1 ≤ 1000000000
  lo : 0 ≤ x2
  hi : x2 ≤ 1000000000000000
  sum : sumL L ≤ N
theorem Ok6.step {L M : List Fil} {x1 x2 x3 x4 : Int} {x5 : Bool} {kd : Int} {nm dt : ByteArray} {sz r z2 : Int} {z5 : Bool} {zc : Int} {N : Nat} (h : Ok6 L x1 x2 N) (hr : FdAt L nm r) (hnm : okFn nm = true) (he : stS L x1 x2 x3 x4 x5 kd nm dt sz r = (M, z2, z5, zc)) : Ok6 M x1 z2 (N + dt.size) := by
  have h1 := st_good (x3 := x3) (x4 := x4) (x5 := x5) h.good h.lo h.hi kd nm dt sz r hr hnm
  rw [he] at h1
  have h2 := h.sum
  refine ⟨h1.1, h.x1m, h1.2.2.1, h1.2.2.2, ?_⟩
  have h3 := h1.2.1
  dsimp only at h3
  split at h3 <;> omega
theorem Ok6.wk {L : List Fil} {x1 x2 : Int} {N N' : Nat} (h : Ok6 L x1 x2 N) (hN : N ≤ N') : Ok6 L x1 x2 N' := ⟨h.good, h.x1m, h.lo, h.hi, Nat.le_trans h.sum hN⟩
theorem Ok6.fit {L : List Fil} {x1 x2 : Int} {N : Nat} (h : Ok6 L x1 x2 N) (hN : N ≤ 1179648) {kd : Int} {nm dt : ByteArray} (h1 : 1 ≤ kd) (h5 : kd ≤ 5) (hnm : okFn nm = true) (hdt : dt.size ≤ 131072) : Fit L x1 kd nm dt := by
  have hz := okFn_size hnm
  have hs := h.sum
  refine ⟨h.good.small (by omega), h1, h5, by omega, by omega, by omega, ?_, h.x1m⟩
  rw [sumD_list]
  exact h.good.sum
theorem Ok6.ok {L : List Fil} {x1 x2 : Int} {N : Nat} (h : Ok6 L x1 x2 N) (x3 x4 : Int) (h3 : 0 ≤ x3 ∧ x3 ≤ 1000000000000000) (h4 : 0 ≤ x4 ∧ x4 ≤ 1000000000000000) : okFs L.length (nthF L) x1 x2 x3 x4 = true := by
  have h1 := h.good.sum
  exact (okFs_iff L x1 x2 x3 x4).2 ⟨h.good, ⟨by omega, h.x1m⟩, ⟨h.lo, h.hi⟩, h3, h4⟩
theorem Dk.later {w w' : World} {p B : Nat} {L : List Fil} {x1 x2 x3 x4 : Int} {x5 : Bool} (h : Dk w p B L x1 x2 x3 x4 x5) (hb : Below w.heap.size w w') : Dk w' p B L x1 x2 x3 x4 x5 := by
  obtain ⟨g, cap, h1, h2, h3⟩ := h
  exact ⟨g, cap, h1.later hb, h2.later hb, h3⟩
theorem Dk.lt {w : World} {p B : Nat} {L : List Fil} {x1 x2 x3 x4 : Int} {x5 : Bool} (h : Dk w p B L x1 x2 x3 x4 x5) : p < w.heap.size ∧ B ≤ p := by
  obtain ⟨g, cap, h1, h2, h3⟩ := h
  exact ⟨(Array.getElem?_eq_some_iff.1 h1).1, h3⟩
/-- A step, told by what it answers. -/
theorem iStepE (p B : Nat) (L : List Fil) (x1 x2 x3 x4 : Int) (x5 : Bool) (kd : Int) (nm dt : ByteArray) (sz r : Int) (M : List Fil) (z2 : Int) (z5 : Bool) (zc : Int) (N : Nat) (w : World) (h : Dk w p B L x1 x2 x3 x4 x5) (hok : Ok6 L x1 x2 N) (hN : N ≤ 1179648) (h1 : 1 ≤ kd) (h5 : kd ≤ 5) (hnm : okFn nm = true) (hdt : dt.size ≤ 131072) (hr : FdAt L nm r) (he : stS L x1 x2 x3 x4 x5 kd nm dt sz r = (M, z2, z5, zc)) :
    Calls Tryd.prog 32 #[.pointer (some ⟨p, 0, none⟩), .agg #[.int .i64 kd, .string nm, .string dt, .int .i64 sz]] w fun e w' => e = .returned (.int .i64 zc) ∧ Dk w' p B M x1 z2 x3 x4 z5 ∧ BK B p w w' := by
  have h2 := iStep p B L x1 x2 x3 x4 x5 kd nm dt sz r w h hok.lo hok.hi (hok.fit hN h1 h5 hnm hdt) hok.good.pw.srt hok.good.ne hok.good.len hr
  rw [he] at h2
  exact h2
set_option maxRecDepth 20000 in
set_option maxHeartbeats 8000000 in
theorem iWriteA (p B : Nat) (L : List Fil) (x1 x2 x3 x4 : Int) (x5 : Bool) (l : Nat) (s : Int) (f : ByteArray) (w : World) (h : Dk w p B L x1 x2 x3 x4 x5) (hok : Ok6 L x1 x2 1048576) (hl : l ≤ 9999) (hf : f.size ≤ 65536) (hT : T10 w) (L1 : List Fil) (y1 : Int) (d1 : Bool) (L2 : List Fil) (y2 : Int) (d2 : Bool) (r1 : Int) (hr1 : FdAt L (seg l) r1) (e1 : stS L x1 x2 x3 x4 x5 2 (seg l) f 0 r1 = (L1, y1, d1, 0)) (r2 : Int) (hr2 : FdAt L1 (seg l) r2) (e2 : stS L1 x1 y1 x3 x4 d1 3 (seg l) ⟨#[]⟩ 0 r2 = (L2, y2, d2, 0)) :
    Calls Tryd.prog 35 #[.pointer (some ⟨p, 0, none⟩), .agg #[.int .i64 (l : Int), .int .i64 s], .string f] w fun e w' => e = .returned (.int .i64 0) ∧ Dk w' p B L2 x1 y2 x3 x4 d2 ∧ BK B p w w' := by
  obtain ⟨nm, hnm⟩ : ∃ nm, seg l = nm := ⟨_, rfl⟩
  have hsg := seg_ok l
  rw [hnm] at hsg
  have hlt := h.lt
  have hb0 := bal w (.cells #[.int .i64 (l : Int), .int .i64 s] 31)
  have hX0 := heap_alloc_new w (.cells #[.int .i64 (l : Int), .int .i64 s] 31)
  have c0 : (w.alloc (.cells #[.int .i64 (l : Int), .int .i64 s] 31)).cell? ⟨w.heap.size, 0, none⟩ = some (.int .i64 (l : Int)) := (cell_of_row _ _ 0 _ _ _ hX0).trans rfl
  rw [hnm] at hr1 e1
  have ok1 := hok.step hr1 hsg e1
  have E1 : Hid (stS L x1 x2 x3 x4 x5 2 nm f 0 r1 = (L1, y1, d1, 0)) := e1
  clear e1
  rw [hnm] at hr2 e2
  have ok2 := ok1.step hr2 hsg e2
  have E2 : Hid (stS L1 x1 y1 x3 x4 d1 3 nm ⟨#[]⟩ 0 r2 = (L2, y2, d2, 0)) := e2
  clear e2
  have hz : (⟨#[]⟩ : ByteArray).size = 0 := rfl
  go_enter Tryd.func35, Tryd.ntmps35
  go_upto_region 3 with (first | (go_at_call 33; refine (iSegment l _ hl (hT.later hb0) nm hnm).mono ?_; rintro e w1 ⟨rfl, hb1⟩) | (go_at_call 32; refine (iStepE p B L x1 x2 x3 x4 x5 2 nm f 0 r1 L1 y1 d1 0 _ _ ((h.later hb0).later hb1) hok (by omega) (by omega) (by omega) hsg (by omega) hr1 E1.out).mono ?_; rintro e w2 ⟨rfl, hk2, hB2⟩))
  have hX1 := rowL hX0 hb1
  clear c0
  have hX2 := hB2.k w.heap.size _ _ _ (by omega) (by decide) hX1
  go_upto_region 5 with (go_at_call 32; refine (iStepE p B L1 x1 y1 x3 x4 d1 3 nm ⟨#[]⟩ 0 r2 L2 y2 d2 0 _ _ hk2 ok1 (by omega) (by omega) (by omega) hsg (by omega) hr2 E2.out).mono ?_; rintro e w3 ⟨rfl, hk3, hB3⟩)
  have hX3 := hB3.k w.heap.size _ _ _ (by omega) (by decide) hX2
  go_wp2
  go_ret
  exact ⟨rfl, hk3, (((BK.of (bstep hb0 hb1) (by omega)).trans hB2).trans hB3)⟩
set_option maxRecDepth 20000 in
set_option maxHeartbeats 8000000 in
theorem iWriteB (p B : Nat) (L : List Fil) (x1 x2 x3 x4 : Int) (x5 : Bool) (l : Nat) (s : Int) (f : ByteArray) (w : World) (h : Dk w p B L x1 x2 x3 x4 x5) (hok : Ok6 L x1 x2 1048576) (hl : l ≤ 9999) (hf : f.size ≤ 65536) (hT : T10 w) (L1 : List Fil) (y1 : Int) (d1 : Bool) (L2 : List Fil) (y2 : Int) (d2 : Bool) (r1 : Int) (hr1 : FdAt L (seg l) r1) (e1 : stS L x1 x2 x3 x4 x5 2 (seg l) f 0 r1 = (L1, y1, d1, 0)) (r2 : Int) (hr2 : FdAt L1 (seg l) r2) (e2 : stS L1 x1 y1 x3 x4 d1 3 (seg l) ⟨#[]⟩ 0 r2 = (L2, y2, d2, 11)) :
    Calls Tryd.prog 35 #[.pointer (some ⟨p, 0, none⟩), .agg #[.int .i64 (l : Int), .int .i64 s], .string f] w fun e w' => e = .returned (.int .i64 11) ∧ Dk w' p B L2 x1 y2 x3 x4 d2 ∧ BK B p w w' := by
  obtain ⟨nm, hnm⟩ : ∃ nm, seg l = nm := ⟨_, rfl⟩
  have hsg := seg_ok l
  rw [hnm] at hsg
  have hlt := h.lt
  have hb0 := bal w (.cells #[.int .i64 (l : Int), .int .i64 s] 31)
  have hX0 := heap_alloc_new w (.cells #[.int .i64 (l : Int), .int .i64 s] 31)
  have c0 : (w.alloc (.cells #[.int .i64 (l : Int), .int .i64 s] 31)).cell? ⟨w.heap.size, 0, none⟩ = some (.int .i64 (l : Int)) := (cell_of_row _ _ 0 _ _ _ hX0).trans rfl
  rw [hnm] at hr1 e1
  have ok1 := hok.step hr1 hsg e1
  have E1 : Hid (stS L x1 x2 x3 x4 x5 2 nm f 0 r1 = (L1, y1, d1, 0)) := e1
  clear e1
  rw [hnm] at hr2 e2
  have ok2 := ok1.step hr2 hsg e2
  have E2 : Hid (stS L1 x1 y1 x3 x4 d1 3 nm ⟨#[]⟩ 0 r2 = (L2, y2, d2, 11)) := e2
  clear e2
  have hz : (⟨#[]⟩ : ByteArray).size = 0 := rfl
  go_enter Tryd.func35, Tryd.ntmps35
  go_upto_region 3 with (first | (go_at_call 33; refine (iSegment l _ hl (hT.later hb0) nm hnm).mono ?_; rintro e w1 ⟨rfl, hb1⟩) | (go_at_call 32; refine (iStepE p B L x1 x2 x3 x4 x5 2 nm f 0 r1 L1 y1 d1 0 _ _ ((h.later hb0).later hb1) hok (by omega) (by omega) (by omega) hsg (by omega) hr1 E1.out).mono ?_; rintro e w2 ⟨rfl, hk2, hB2⟩))
  have hX1 := rowL hX0 hb1
  clear c0
  have hX2 := hB2.k w.heap.size _ _ _ (by omega) (by decide) hX1
  go_upto_region 5 with (go_at_call 32; refine (iStepE p B L1 x1 y1 x3 x4 d1 3 nm ⟨#[]⟩ 0 r2 L2 y2 d2 11 _ _ hk2 ok1 (by omega) (by omega) (by omega) hsg (by omega) hr2 E2.out).mono ?_; rintro e w3 ⟨rfl, hk3, hB3⟩)
  have hX3 := hB3.k w.heap.size _ _ _ (by omega) (by decide) hX2
  go_wp2
  go_ret
  exact ⟨rfl, hk3, (((BK.of (bstep hb0 hb1) (by omega)).trans hB2).trans hB3)⟩
set_option maxRecDepth 20000 in
set_option maxHeartbeats 8000000 in
theorem iWriteC0 (p B : Nat) (L : List Fil) (x1 x2 x3 x4 : Int) (x5 : Bool) (l : Nat) (s : Int) (f : ByteArray) (w : World) (h : Dk w p B L x1 x2 x3 x4 x5) (hok : Ok6 L x1 x2 1048576) (hl : l ≤ 9999) (hf : f.size ≤ 65536) (hT : T10 w) (L1 : List Fil) (y1 : Int) (d1 : Bool) (L2 : List Fil) (y2 : Int) (d2 : Bool) (L3 : List Fil) (y3 : Int) (d3 : Bool) (c2 : Int) (hc20 : c2 ≠ 0) (hc211 : c2 ≠ 11) (r1 : Int) (hr1 : FdAt L (seg l) r1) (e1 : stS L x1 x2 x3 x4 x5 2 (seg l) f 0 r1 = (L1, y1, d1, 0)) (r2 : Int) (hr2 : FdAt L1 (seg l) r2) (e2 : stS L1 x1 y1 x3 x4 d1 3 (seg l) ⟨#[]⟩ 0 r2 = (L2, y2, d2, c2)) (r3 : Int) (hr3 : FdAt L2 (seg l) r3) (e3 : stS L2 x1 y2 x3 x4 d2 4 (seg l) ⟨#[]⟩ s r3 = (L3, y3, d3, 0)) :
    Calls Tryd.prog 35 #[.pointer (some ⟨p, 0, none⟩), .agg #[.int .i64 (l : Int), .int .i64 s], .string f] w fun e w' => e = .returned (.int .i64 c2) ∧ Dk w' p B L3 x1 y3 x3 x4 d3 ∧ BK B p w w' := by
  obtain ⟨nm, hnm⟩ : ∃ nm, seg l = nm := ⟨_, rfl⟩
  have hsg := seg_ok l
  rw [hnm] at hsg
  have hlt := h.lt
  have hb0 := bal w (.cells #[.int .i64 (l : Int), .int .i64 s] 31)
  have hX0 := heap_alloc_new w (.cells #[.int .i64 (l : Int), .int .i64 s] 31)
  have c0 : (w.alloc (.cells #[.int .i64 (l : Int), .int .i64 s] 31)).cell? ⟨w.heap.size, 0, none⟩ = some (.int .i64 (l : Int)) := (cell_of_row _ _ 0 _ _ _ hX0).trans rfl
  rw [hnm] at hr1 e1
  have ok1 := hok.step hr1 hsg e1
  have E1 : Hid (stS L x1 x2 x3 x4 x5 2 nm f 0 r1 = (L1, y1, d1, 0)) := e1
  clear e1
  rw [hnm] at hr2 e2
  have ok2 := ok1.step hr2 hsg e2
  have E2 : Hid (stS L1 x1 y1 x3 x4 d1 3 nm ⟨#[]⟩ 0 r2 = (L2, y2, d2, c2)) := e2
  clear e2
  rw [hnm] at hr3 e3
  have ok3 := ok2.step hr3 hsg e3
  have E3 : Hid (stS L2 x1 y2 x3 x4 d2 4 nm ⟨#[]⟩ s r3 = (L3, y3, d3, 0)) := e3
  clear e3
  have hz : (⟨#[]⟩ : ByteArray).size = 0 := rfl
  have nc20 : (c2 == 0) = false := by simp [hc20]
  have nc211 : (c2 == 11) = false := by simp [hc211]
  clear hc20 hc211
  go_enter Tryd.func35, Tryd.ntmps35
  go_upto_region 3 with (first | (go_at_call 33; refine (iSegment l _ hl (hT.later hb0) nm hnm).mono ?_; rintro e w1 ⟨rfl, hb1⟩) | (go_at_call 32; refine (iStepE p B L x1 x2 x3 x4 x5 2 nm f 0 r1 L1 y1 d1 0 _ _ ((h.later hb0).later hb1) hok (by omega) (by omega) (by omega) hsg (by omega) hr1 E1.out).mono ?_; rintro e w2 ⟨rfl, hk2, hB2⟩))
  have hX1 := rowL hX0 hb1
  clear c0
  have hX2 := hB2.k w.heap.size _ _ _ (by omega) (by decide) hX1
  go_upto_region 5 with (go_at_call 32; refine (iStepE p B L1 x1 y1 x3 x4 d1 3 nm ⟨#[]⟩ 0 r2 L2 y2 d2 c2 _ _ hk2 ok1 (by omega) (by omega) (by omega) hsg (by omega) hr2 E2.out).mono ?_; rintro e w3 ⟨rfl, hk3, hB3⟩)
  have hX3 := hB3.k w.heap.size _ _ _ (by omega) (by decide) hX2
  have qd : w3.cell? ⟨w.heap.size, 1, none⟩ = some (.int .i64 s) := (cell_of_row _ _ 1 _ _ _ hX3).trans rfl
  go_upto_region 8 with (go_at_call 32; refine (iStepE p B L2 x1 y2 x3 x4 d2 4 nm ⟨#[]⟩ s r3 L3 y3 d3 0 _ _ hk3 ok2 (by omega) (by omega) (by omega) hsg (by omega) hr3 E3.out).mono ?_; rintro e w4 ⟨rfl, hk4, hB4⟩)
  have hX4 := hB4.k w.heap.size _ _ _ (by omega) (by decide) hX3
  go_wp2
  go_ret
  exact ⟨rfl, hk4, ((((BK.of (bstep hb0 hb1) (by omega)).trans hB2).trans hB3).trans hB4)⟩
set_option maxRecDepth 20000 in
set_option maxHeartbeats 8000000 in
theorem iWriteC1 (p B : Nat) (L : List Fil) (x1 x2 x3 x4 : Int) (x5 : Bool) (l : Nat) (s : Int) (f : ByteArray) (w : World) (h : Dk w p B L x1 x2 x3 x4 x5) (hok : Ok6 L x1 x2 1048576) (hl : l ≤ 9999) (hf : f.size ≤ 65536) (hT : T10 w) (L1 : List Fil) (y1 : Int) (d1 : Bool) (L2 : List Fil) (y2 : Int) (d2 : Bool) (L3 : List Fil) (y3 : Int) (d3 : Bool) (c2 : Int) (hc20 : c2 ≠ 0) (hc211 : c2 ≠ 11) (r1 : Int) (hr1 : FdAt L (seg l) r1) (e1 : stS L x1 x2 x3 x4 x5 2 (seg l) f 0 r1 = (L1, y1, d1, 0)) (r2 : Int) (hr2 : FdAt L1 (seg l) r2) (e2 : stS L1 x1 y1 x3 x4 d1 3 (seg l) ⟨#[]⟩ 0 r2 = (L2, y2, d2, c2)) (r3 : Int) (hr3 : FdAt L2 (seg l) r3) (e3 : stS L2 x1 y2 x3 x4 d2 4 (seg l) ⟨#[]⟩ s r3 = (L3, y3, d3, 11)) :
    Calls Tryd.prog 35 #[.pointer (some ⟨p, 0, none⟩), .agg #[.int .i64 (l : Int), .int .i64 s], .string f] w fun e w' => e = .returned (.int .i64 11) ∧ Dk w' p B L3 x1 y3 x3 x4 d3 ∧ BK B p w w' := by
  obtain ⟨nm, hnm⟩ : ∃ nm, seg l = nm := ⟨_, rfl⟩
  have hsg := seg_ok l
  rw [hnm] at hsg
  have hlt := h.lt
  have hb0 := bal w (.cells #[.int .i64 (l : Int), .int .i64 s] 31)
  have hX0 := heap_alloc_new w (.cells #[.int .i64 (l : Int), .int .i64 s] 31)
  have c0 : (w.alloc (.cells #[.int .i64 (l : Int), .int .i64 s] 31)).cell? ⟨w.heap.size, 0, none⟩ = some (.int .i64 (l : Int)) := (cell_of_row _ _ 0 _ _ _ hX0).trans rfl
  rw [hnm] at hr1 e1
  have ok1 := hok.step hr1 hsg e1
  have E1 : Hid (stS L x1 x2 x3 x4 x5 2 nm f 0 r1 = (L1, y1, d1, 0)) := e1
  clear e1
  rw [hnm] at hr2 e2
  have ok2 := ok1.step hr2 hsg e2
  have E2 : Hid (stS L1 x1 y1 x3 x4 d1 3 nm ⟨#[]⟩ 0 r2 = (L2, y2, d2, c2)) := e2
  clear e2
  rw [hnm] at hr3 e3
  have ok3 := ok2.step hr3 hsg e3
  have E3 : Hid (stS L2 x1 y2 x3 x4 d2 4 nm ⟨#[]⟩ s r3 = (L3, y3, d3, 11)) := e3
  clear e3
  have hz : (⟨#[]⟩ : ByteArray).size = 0 := rfl
  have nc20 : (c2 == 0) = false := by simp [hc20]
  have nc211 : (c2 == 11) = false := by simp [hc211]
  clear hc20 hc211
  go_enter Tryd.func35, Tryd.ntmps35
  go_upto_region 3 with (first | (go_at_call 33; refine (iSegment l _ hl (hT.later hb0) nm hnm).mono ?_; rintro e w1 ⟨rfl, hb1⟩) | (go_at_call 32; refine (iStepE p B L x1 x2 x3 x4 x5 2 nm f 0 r1 L1 y1 d1 0 _ _ ((h.later hb0).later hb1) hok (by omega) (by omega) (by omega) hsg (by omega) hr1 E1.out).mono ?_; rintro e w2 ⟨rfl, hk2, hB2⟩))
  have hX1 := rowL hX0 hb1
  clear c0
  have hX2 := hB2.k w.heap.size _ _ _ (by omega) (by decide) hX1
  go_upto_region 5 with (go_at_call 32; refine (iStepE p B L1 x1 y1 x3 x4 d1 3 nm ⟨#[]⟩ 0 r2 L2 y2 d2 c2 _ _ hk2 ok1 (by omega) (by omega) (by omega) hsg (by omega) hr2 E2.out).mono ?_; rintro e w3 ⟨rfl, hk3, hB3⟩)
  have hX3 := hB3.k w.heap.size _ _ _ (by omega) (by decide) hX2
  have qd : w3.cell? ⟨w.heap.size, 1, none⟩ = some (.int .i64 s) := (cell_of_row _ _ 1 _ _ _ hX3).trans rfl
  go_upto_region 8 with (go_at_call 32; refine (iStepE p B L2 x1 y2 x3 x4 d2 4 nm ⟨#[]⟩ s r3 L3 y3 d3 11 _ _ hk3 ok2 (by omega) (by omega) (by omega) hsg (by omega) hr3 E3.out).mono ?_; rintro e w4 ⟨rfl, hk4, hB4⟩)
  have hX4 := hB4.k w.heap.size _ _ _ (by omega) (by decide) hX3
  go_wp2
  go_ret
  exact ⟨rfl, hk4, ((((BK.of (bstep hb0 hb1) (by omega)).trans hB2).trans hB3).trans hB4)⟩
set_option maxRecDepth 20000 in
set_option maxHeartbeats 8000000 in
theorem iWriteC2 (p B : Nat) (L : List Fil) (x1 x2 x3 x4 : Int) (x5 : Bool) (l : Nat) (s : Int) (f : ByteArray) (w : World) (h : Dk w p B L x1 x2 x3 x4 x5) (hok : Ok6 L x1 x2 1048576) (hl : l ≤ 9999) (hf : f.size ≤ 65536) (hT : T10 w) (L1 : List Fil) (y1 : Int) (d1 : Bool) (L2 : List Fil) (y2 : Int) (d2 : Bool) (L3 : List Fil) (y3 : Int) (d3 : Bool) (c2 : Int) (hc20 : c2 ≠ 0) (hc211 : c2 ≠ 11) (c3 : Int) (hc30 : c3 ≠ 0) (hc311 : c3 ≠ 11) (r1 : Int) (hr1 : FdAt L (seg l) r1) (e1 : stS L x1 x2 x3 x4 x5 2 (seg l) f 0 r1 = (L1, y1, d1, 0)) (r2 : Int) (hr2 : FdAt L1 (seg l) r2) (e2 : stS L1 x1 y1 x3 x4 d1 3 (seg l) ⟨#[]⟩ 0 r2 = (L2, y2, d2, c2)) (r3 : Int) (hr3 : FdAt L2 (seg l) r3) (e3 : stS L2 x1 y2 x3 x4 d2 4 (seg l) ⟨#[]⟩ s r3 = (L3, y3, d3, c3)) :
    Calls Tryd.prog 35 #[.pointer (some ⟨p, 0, none⟩), .agg #[.int .i64 (l : Int), .int .i64 s], .string f] w fun e w' => e = .returned (.int .i64 20) ∧ Dk w' p B L3 x1 y3 x3 x4 d3 ∧ BK B p w w' := by
  obtain ⟨nm, hnm⟩ : ∃ nm, seg l = nm := ⟨_, rfl⟩
  have hsg := seg_ok l
  rw [hnm] at hsg
  have hlt := h.lt
  have hb0 := bal w (.cells #[.int .i64 (l : Int), .int .i64 s] 31)
  have hX0 := heap_alloc_new w (.cells #[.int .i64 (l : Int), .int .i64 s] 31)
  have c0 : (w.alloc (.cells #[.int .i64 (l : Int), .int .i64 s] 31)).cell? ⟨w.heap.size, 0, none⟩ = some (.int .i64 (l : Int)) := (cell_of_row _ _ 0 _ _ _ hX0).trans rfl
  rw [hnm] at hr1 e1
  have ok1 := hok.step hr1 hsg e1
  have E1 : Hid (stS L x1 x2 x3 x4 x5 2 nm f 0 r1 = (L1, y1, d1, 0)) := e1
  clear e1
  rw [hnm] at hr2 e2
  have ok2 := ok1.step hr2 hsg e2
  have E2 : Hid (stS L1 x1 y1 x3 x4 d1 3 nm ⟨#[]⟩ 0 r2 = (L2, y2, d2, c2)) := e2
  clear e2
  rw [hnm] at hr3 e3
  have ok3 := ok2.step hr3 hsg e3
  have E3 : Hid (stS L2 x1 y2 x3 x4 d2 4 nm ⟨#[]⟩ s r3 = (L3, y3, d3, c3)) := e3
  clear e3
  have hz : (⟨#[]⟩ : ByteArray).size = 0 := rfl
  have nc20 : (c2 == 0) = false := by simp [hc20]
  have nc211 : (c2 == 11) = false := by simp [hc211]
  clear hc20 hc211
  have nc30 : (c3 == 0) = false := by simp [hc30]
  have nc311 : (c3 == 11) = false := by simp [hc311]
  clear hc30 hc311
  go_enter Tryd.func35, Tryd.ntmps35
  go_upto_region 3 with (first | (go_at_call 33; refine (iSegment l _ hl (hT.later hb0) nm hnm).mono ?_; rintro e w1 ⟨rfl, hb1⟩) | (go_at_call 32; refine (iStepE p B L x1 x2 x3 x4 x5 2 nm f 0 r1 L1 y1 d1 0 _ _ ((h.later hb0).later hb1) hok (by omega) (by omega) (by omega) hsg (by omega) hr1 E1.out).mono ?_; rintro e w2 ⟨rfl, hk2, hB2⟩))
  have hX1 := rowL hX0 hb1
  clear c0
  have hX2 := hB2.k w.heap.size _ _ _ (by omega) (by decide) hX1
  go_upto_region 5 with (go_at_call 32; refine (iStepE p B L1 x1 y1 x3 x4 d1 3 nm ⟨#[]⟩ 0 r2 L2 y2 d2 c2 _ _ hk2 ok1 (by omega) (by omega) (by omega) hsg (by omega) hr2 E2.out).mono ?_; rintro e w3 ⟨rfl, hk3, hB3⟩)
  have hX3 := hB3.k w.heap.size _ _ _ (by omega) (by decide) hX2
  have qd : w3.cell? ⟨w.heap.size, 1, none⟩ = some (.int .i64 s) := (cell_of_row _ _ 1 _ _ _ hX3).trans rfl
  go_upto_region 8 with (go_at_call 32; refine (iStepE p B L2 x1 y2 x3 x4 d2 4 nm ⟨#[]⟩ s r3 L3 y3 d3 c3 _ _ hk3 ok2 (by omega) (by omega) (by omega) hsg (by omega) hr3 E3.out).mono ?_; rintro e w4 ⟨rfl, hk4, hB4⟩)
  have hX4 := hB4.k w.heap.size _ _ _ (by omega) (by decide) hX3
  go_wp2
  go_ret
  exact ⟨rfl, hk4, ((((BK.of (bstep hb0 hb1) (by omega)).trans hB2).trans hB3).trans hB4)⟩
set_option maxRecDepth 20000 in
set_option maxHeartbeats 8000000 in
theorem iWriteD (p B : Nat) (L : List Fil) (x1 x2 x3 x4 : Int) (x5 : Bool) (l : Nat) (s : Int) (f : ByteArray) (w : World) (h : Dk w p B L x1 x2 x3 x4 x5) (hok : Ok6 L x1 x2 1048576) (hl : l ≤ 9999) (hf : f.size ≤ 65536) (hT : T10 w) (L1 : List Fil) (y1 : Int) (d1 : Bool) (r1 : Int) (hr1 : FdAt L (seg l) r1) (e1 : stS L x1 x2 x3 x4 x5 2 (seg l) f 0 r1 = (L1, y1, d1, 11)) :
    Calls Tryd.prog 35 #[.pointer (some ⟨p, 0, none⟩), .agg #[.int .i64 (l : Int), .int .i64 s], .string f] w fun e w' => e = .returned (.int .i64 11) ∧ Dk w' p B L1 x1 y1 x3 x4 d1 ∧ BK B p w w' := by
  obtain ⟨nm, hnm⟩ : ∃ nm, seg l = nm := ⟨_, rfl⟩
  have hsg := seg_ok l
  rw [hnm] at hsg
  have hlt := h.lt
  have hb0 := bal w (.cells #[.int .i64 (l : Int), .int .i64 s] 31)
  have hX0 := heap_alloc_new w (.cells #[.int .i64 (l : Int), .int .i64 s] 31)
  have c0 : (w.alloc (.cells #[.int .i64 (l : Int), .int .i64 s] 31)).cell? ⟨w.heap.size, 0, none⟩ = some (.int .i64 (l : Int)) := (cell_of_row _ _ 0 _ _ _ hX0).trans rfl
  rw [hnm] at hr1 e1
  have ok1 := hok.step hr1 hsg e1
  have E1 : Hid (stS L x1 x2 x3 x4 x5 2 nm f 0 r1 = (L1, y1, d1, 11)) := e1
  clear e1
  have hz : (⟨#[]⟩ : ByteArray).size = 0 := rfl
  go_enter Tryd.func35, Tryd.ntmps35
  go_upto_region 3 with (first | (go_at_call 33; refine (iSegment l _ hl (hT.later hb0) nm hnm).mono ?_; rintro e w1 ⟨rfl, hb1⟩) | (go_at_call 32; refine (iStepE p B L x1 x2 x3 x4 x5 2 nm f 0 r1 L1 y1 d1 11 _ _ ((h.later hb0).later hb1) hok (by omega) (by omega) (by omega) hsg (by omega) hr1 E1.out).mono ?_; rintro e w2 ⟨rfl, hk2, hB2⟩))
  have hX1 := rowL hX0 hb1
  clear c0
  have hX2 := hB2.k w.heap.size _ _ _ (by omega) (by decide) hX1
  go_wp2
  go_ret
  exact ⟨rfl, hk2, ((BK.of (bstep hb0 hb1) (by omega)).trans hB2)⟩
set_option maxRecDepth 20000 in
set_option maxHeartbeats 8000000 in
theorem iWriteE0 (p B : Nat) (L : List Fil) (x1 x2 x3 x4 : Int) (x5 : Bool) (l : Nat) (s : Int) (f : ByteArray) (w : World) (h : Dk w p B L x1 x2 x3 x4 x5) (hok : Ok6 L x1 x2 1048576) (hl : l ≤ 9999) (hf : f.size ≤ 65536) (hT : T10 w) (L1 : List Fil) (y1 : Int) (d1 : Bool) (L2 : List Fil) (y2 : Int) (d2 : Bool) (c1 : Int) (hc10 : c1 ≠ 0) (hc111 : c1 ≠ 11) (r1 : Int) (hr1 : FdAt L (seg l) r1) (e1 : stS L x1 x2 x3 x4 x5 2 (seg l) f 0 r1 = (L1, y1, d1, c1)) (r2 : Int) (hr2 : FdAt L1 (seg l) r2) (e2 : stS L1 x1 y1 x3 x4 d1 4 (seg l) ⟨#[]⟩ s r2 = (L2, y2, d2, 0)) :
    Calls Tryd.prog 35 #[.pointer (some ⟨p, 0, none⟩), .agg #[.int .i64 (l : Int), .int .i64 s], .string f] w fun e w' => e = .returned (.int .i64 c1) ∧ Dk w' p B L2 x1 y2 x3 x4 d2 ∧ BK B p w w' := by
  obtain ⟨nm, hnm⟩ : ∃ nm, seg l = nm := ⟨_, rfl⟩
  have hsg := seg_ok l
  rw [hnm] at hsg
  have hlt := h.lt
  have hb0 := bal w (.cells #[.int .i64 (l : Int), .int .i64 s] 31)
  have hX0 := heap_alloc_new w (.cells #[.int .i64 (l : Int), .int .i64 s] 31)
  have c0 : (w.alloc (.cells #[.int .i64 (l : Int), .int .i64 s] 31)).cell? ⟨w.heap.size, 0, none⟩ = some (.int .i64 (l : Int)) := (cell_of_row _ _ 0 _ _ _ hX0).trans rfl
  rw [hnm] at hr1 e1
  have ok1 := hok.step hr1 hsg e1
  have E1 : Hid (stS L x1 x2 x3 x4 x5 2 nm f 0 r1 = (L1, y1, d1, c1)) := e1
  clear e1
  rw [hnm] at hr2 e2
  have ok2 := ok1.step hr2 hsg e2
  have E2 : Hid (stS L1 x1 y1 x3 x4 d1 4 nm ⟨#[]⟩ s r2 = (L2, y2, d2, 0)) := e2
  clear e2
  have hz : (⟨#[]⟩ : ByteArray).size = 0 := rfl
  have nc10 : (c1 == 0) = false := by simp [hc10]
  have nc111 : (c1 == 11) = false := by simp [hc111]
  clear hc10 hc111
  go_enter Tryd.func35, Tryd.ntmps35
  go_upto_region 3 with (first | (go_at_call 33; refine (iSegment l _ hl (hT.later hb0) nm hnm).mono ?_; rintro e w1 ⟨rfl, hb1⟩) | (go_at_call 32; refine (iStepE p B L x1 x2 x3 x4 x5 2 nm f 0 r1 L1 y1 d1 c1 _ _ ((h.later hb0).later hb1) hok (by omega) (by omega) (by omega) hsg (by omega) hr1 E1.out).mono ?_; rintro e w2 ⟨rfl, hk2, hB2⟩))
  have hX1 := rowL hX0 hb1
  clear c0
  have hX2 := hB2.k w.heap.size _ _ _ (by omega) (by decide) hX1
  have qd : w2.cell? ⟨w.heap.size, 1, none⟩ = some (.int .i64 s) := (cell_of_row _ _ 1 _ _ _ hX2).trans rfl
  go_upto_region 8 with (go_at_call 32; refine (iStepE p B L1 x1 y1 x3 x4 d1 4 nm ⟨#[]⟩ s r2 L2 y2 d2 0 _ _ hk2 ok1 (by omega) (by omega) (by omega) hsg (by omega) hr2 E2.out).mono ?_; rintro e w3 ⟨rfl, hk3, hB3⟩)
  have hX3 := hB3.k w.heap.size _ _ _ (by omega) (by decide) hX2
  go_wp2
  go_ret
  exact ⟨rfl, hk3, (((BK.of (bstep hb0 hb1) (by omega)).trans hB2).trans hB3)⟩
set_option maxRecDepth 20000 in
set_option maxHeartbeats 8000000 in
theorem iWriteE1 (p B : Nat) (L : List Fil) (x1 x2 x3 x4 : Int) (x5 : Bool) (l : Nat) (s : Int) (f : ByteArray) (w : World) (h : Dk w p B L x1 x2 x3 x4 x5) (hok : Ok6 L x1 x2 1048576) (hl : l ≤ 9999) (hf : f.size ≤ 65536) (hT : T10 w) (L1 : List Fil) (y1 : Int) (d1 : Bool) (L2 : List Fil) (y2 : Int) (d2 : Bool) (c1 : Int) (hc10 : c1 ≠ 0) (hc111 : c1 ≠ 11) (r1 : Int) (hr1 : FdAt L (seg l) r1) (e1 : stS L x1 x2 x3 x4 x5 2 (seg l) f 0 r1 = (L1, y1, d1, c1)) (r2 : Int) (hr2 : FdAt L1 (seg l) r2) (e2 : stS L1 x1 y1 x3 x4 d1 4 (seg l) ⟨#[]⟩ s r2 = (L2, y2, d2, 11)) :
    Calls Tryd.prog 35 #[.pointer (some ⟨p, 0, none⟩), .agg #[.int .i64 (l : Int), .int .i64 s], .string f] w fun e w' => e = .returned (.int .i64 11) ∧ Dk w' p B L2 x1 y2 x3 x4 d2 ∧ BK B p w w' := by
  obtain ⟨nm, hnm⟩ : ∃ nm, seg l = nm := ⟨_, rfl⟩
  have hsg := seg_ok l
  rw [hnm] at hsg
  have hlt := h.lt
  have hb0 := bal w (.cells #[.int .i64 (l : Int), .int .i64 s] 31)
  have hX0 := heap_alloc_new w (.cells #[.int .i64 (l : Int), .int .i64 s] 31)
  have c0 : (w.alloc (.cells #[.int .i64 (l : Int), .int .i64 s] 31)).cell? ⟨w.heap.size, 0, none⟩ = some (.int .i64 (l : Int)) := (cell_of_row _ _ 0 _ _ _ hX0).trans rfl
  rw [hnm] at hr1 e1
  have ok1 := hok.step hr1 hsg e1
  have E1 : Hid (stS L x1 x2 x3 x4 x5 2 nm f 0 r1 = (L1, y1, d1, c1)) := e1
  clear e1
  rw [hnm] at hr2 e2
  have ok2 := ok1.step hr2 hsg e2
  have E2 : Hid (stS L1 x1 y1 x3 x4 d1 4 nm ⟨#[]⟩ s r2 = (L2, y2, d2, 11)) := e2
  clear e2
  have hz : (⟨#[]⟩ : ByteArray).size = 0 := rfl
  have nc10 : (c1 == 0) = false := by simp [hc10]
  have nc111 : (c1 == 11) = false := by simp [hc111]
  clear hc10 hc111
  go_enter Tryd.func35, Tryd.ntmps35
  go_upto_region 3 with (first | (go_at_call 33; refine (iSegment l _ hl (hT.later hb0) nm hnm).mono ?_; rintro e w1 ⟨rfl, hb1⟩) | (go_at_call 32; refine (iStepE p B L x1 x2 x3 x4 x5 2 nm f 0 r1 L1 y1 d1 c1 _ _ ((h.later hb0).later hb1) hok (by omega) (by omega) (by omega) hsg (by omega) hr1 E1.out).mono ?_; rintro e w2 ⟨rfl, hk2, hB2⟩))
  have hX1 := rowL hX0 hb1
  clear c0
  have hX2 := hB2.k w.heap.size _ _ _ (by omega) (by decide) hX1
  have qd : w2.cell? ⟨w.heap.size, 1, none⟩ = some (.int .i64 s) := (cell_of_row _ _ 1 _ _ _ hX2).trans rfl
  go_upto_region 8 with (go_at_call 32; refine (iStepE p B L1 x1 y1 x3 x4 d1 4 nm ⟨#[]⟩ s r2 L2 y2 d2 11 _ _ hk2 ok1 (by omega) (by omega) (by omega) hsg (by omega) hr2 E2.out).mono ?_; rintro e w3 ⟨rfl, hk3, hB3⟩)
  have hX3 := hB3.k w.heap.size _ _ _ (by omega) (by decide) hX2
  go_wp2
  go_ret
  exact ⟨rfl, hk3, (((BK.of (bstep hb0 hb1) (by omega)).trans hB2).trans hB3)⟩
set_option maxRecDepth 20000 in
set_option maxHeartbeats 8000000 in
theorem iWriteE2 (p B : Nat) (L : List Fil) (x1 x2 x3 x4 : Int) (x5 : Bool) (l : Nat) (s : Int) (f : ByteArray) (w : World) (h : Dk w p B L x1 x2 x3 x4 x5) (hok : Ok6 L x1 x2 1048576) (hl : l ≤ 9999) (hf : f.size ≤ 65536) (hT : T10 w) (L1 : List Fil) (y1 : Int) (d1 : Bool) (L2 : List Fil) (y2 : Int) (d2 : Bool) (c1 : Int) (hc10 : c1 ≠ 0) (hc111 : c1 ≠ 11) (c3 : Int) (hc30 : c3 ≠ 0) (hc311 : c3 ≠ 11) (r1 : Int) (hr1 : FdAt L (seg l) r1) (e1 : stS L x1 x2 x3 x4 x5 2 (seg l) f 0 r1 = (L1, y1, d1, c1)) (r2 : Int) (hr2 : FdAt L1 (seg l) r2) (e2 : stS L1 x1 y1 x3 x4 d1 4 (seg l) ⟨#[]⟩ s r2 = (L2, y2, d2, c3)) :
    Calls Tryd.prog 35 #[.pointer (some ⟨p, 0, none⟩), .agg #[.int .i64 (l : Int), .int .i64 s], .string f] w fun e w' => e = .returned (.int .i64 20) ∧ Dk w' p B L2 x1 y2 x3 x4 d2 ∧ BK B p w w' := by
  obtain ⟨nm, hnm⟩ : ∃ nm, seg l = nm := ⟨_, rfl⟩
  have hsg := seg_ok l
  rw [hnm] at hsg
  have hlt := h.lt
  have hb0 := bal w (.cells #[.int .i64 (l : Int), .int .i64 s] 31)
  have hX0 := heap_alloc_new w (.cells #[.int .i64 (l : Int), .int .i64 s] 31)
  have c0 : (w.alloc (.cells #[.int .i64 (l : Int), .int .i64 s] 31)).cell? ⟨w.heap.size, 0, none⟩ = some (.int .i64 (l : Int)) := (cell_of_row _ _ 0 _ _ _ hX0).trans rfl
  rw [hnm] at hr1 e1
  have ok1 := hok.step hr1 hsg e1
  have E1 : Hid (stS L x1 x2 x3 x4 x5 2 nm f 0 r1 = (L1, y1, d1, c1)) := e1
  clear e1
  rw [hnm] at hr2 e2
  have ok2 := ok1.step hr2 hsg e2
  have E2 : Hid (stS L1 x1 y1 x3 x4 d1 4 nm ⟨#[]⟩ s r2 = (L2, y2, d2, c3)) := e2
  clear e2
  have hz : (⟨#[]⟩ : ByteArray).size = 0 := rfl
  have nc10 : (c1 == 0) = false := by simp [hc10]
  have nc111 : (c1 == 11) = false := by simp [hc111]
  clear hc10 hc111
  have nc30 : (c3 == 0) = false := by simp [hc30]
  have nc311 : (c3 == 11) = false := by simp [hc311]
  clear hc30 hc311
  go_enter Tryd.func35, Tryd.ntmps35
  go_upto_region 3 with (first | (go_at_call 33; refine (iSegment l _ hl (hT.later hb0) nm hnm).mono ?_; rintro e w1 ⟨rfl, hb1⟩) | (go_at_call 32; refine (iStepE p B L x1 x2 x3 x4 x5 2 nm f 0 r1 L1 y1 d1 c1 _ _ ((h.later hb0).later hb1) hok (by omega) (by omega) (by omega) hsg (by omega) hr1 E1.out).mono ?_; rintro e w2 ⟨rfl, hk2, hB2⟩))
  have hX1 := rowL hX0 hb1
  clear c0
  have hX2 := hB2.k w.heap.size _ _ _ (by omega) (by decide) hX1
  have qd : w2.cell? ⟨w.heap.size, 1, none⟩ = some (.int .i64 s) := (cell_of_row _ _ 1 _ _ _ hX2).trans rfl
  go_upto_region 8 with (go_at_call 32; refine (iStepE p B L1 x1 y1 x3 x4 d1 4 nm ⟨#[]⟩ s r2 L2 y2 d2 c3 _ _ hk2 ok1 (by omega) (by omega) (by omega) hsg (by omega) hr2 E2.out).mono ?_; rintro e w3 ⟨rfl, hk3, hB3⟩)
  have hX3 := hB3.k w.heap.size _ _ _ (by omega) (by decide) hX2
  go_wp2
  go_ret
  exact ⟨rfl, hk3, (((BK.of (bstep hb0 hb1) (by omega)).trans hB2).trans hB3)⟩
end Go.Proofs.YtdbcihebhgpblaaDoor
