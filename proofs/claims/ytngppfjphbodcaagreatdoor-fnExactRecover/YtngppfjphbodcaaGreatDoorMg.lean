/-
  FsStep: the specification's side, whole.
-/
import Derived.Test.YtngppfjphbodcaaGreatDoorMf
namespace Go.Proofs.YtngppfjphbodcaaGreatDoor
open Go.RowKit
theorem sDoAll (Bo : Nat) (g n cv : Nat) (L : List Fil) (hLn : L.length = n) (x1 x2 x3 x4 : Int) (x5 : Bool) (kd : Int) (nm dt : ByteArray) (sz r : Int) (w : World) (hO : OwnL w Bo (.slice (some ⟨g, 0, none⟩) n cv) L) (hBo : Bo ≤ w.heap.size) (hF : Fit L x1 kd nm dt) (hr : FdAt L nm r) :
    Calls Tryz.prog 37 #[.agg #[.slice (some ⟨g, 0, none⟩) n cv, .int .i64 x1, .int .i64 x2, .int .i64 x3, .int .i64 x4, .bool x5], .agg #[.int .i64 kd, .string nm, .string dt, .int .i64 sz]] w fun e w' => Done w w' Bo (doS L x1 kd nm dt sz r).1 x1 x2 x3 x4 x5 (doS L x1 kd nm dt sz r).2 e := by
  have h1 := hF.k1
  have h5 := hF.k5
  have hcase : r = -1 ∨ ∃ k : Nat, r = (k : Int) := by
    rcases hr with ⟨e, _⟩ | ⟨k, _, e, _⟩
    · exact Or.inl e
    · exact Or.inr ⟨k, e⟩
  rcases (show kd = 1 ∨ kd = 2 ∨ kd = 3 ∨ kd = 4 ∨ kd = 5 by omega) with rfl | rfl | rfl | rfl | rfl <;> rcases hcase with rfl | ⟨k, rfl⟩
  · by_cases h3 : L.length = 300
    · exact sDo1b Bo _ n cv L hLn x1 x2 x3 x4 x5 nm dt sz w hO hBo hF hr h3
    · exact sDo1 Bo _ n cv L hLn x1 x2 x3 x4 x5 nm dt sz w hO hBo hF hr h3
  · exact sDo1a Bo _ n cv L hLn x1 x2 x3 x4 x5 nm dt sz k w hO hBo hF hr
  · exact sDo2m Bo _ n cv L hLn x1 x2 x3 x4 x5 nm dt sz w hO hBo hF hr
  · by_cases hfit : x1 - (sumD (nthF L) L.length : Int) < (dt.size : Int)
    · exact sDo2c Bo _ _ n cv L hLn x1 x2 x3 x4 x5 nm dt sz k w hO hBo hF hr hfit
    · exact sDo2 Bo _ _ n cv L hLn x1 x2 x3 x4 x5 nm dt sz k w hO hBo hF hr hfit
  · exact sDo3m Bo _ n cv L hLn x1 x2 x3 x4 x5 nm dt sz w hO hBo hF hr
  · exact sDo3 Bo _ _ n cv L hLn x1 x2 x3 x4 x5 nm dt sz k w hO hBo hF hr
  · exact sDo4m Bo _ n cv L hLn x1 x2 x3 x4 x5 nm dt sz w hO hBo hF hr
  · rcases hbt : btw sz 0 (nthF L k).d.size
    · exact sDo4b Bo _ _ n cv L hLn x1 x2 x3 x4 x5 nm dt sz k w hO hBo hF hr hbt
    · exact sDo4 Bo _ _ n cv L hLn x1 x2 x3 x4 x5 nm dt sz k w hO hBo hF hr hbt
  · exact sDo5m Bo _ n cv L hLn x1 x2 x3 x4 x5 nm dt sz w hO hBo hF hr
  · exact sDo5 Bo _ _ n cv L hLn x1 x2 x3 x4 x5 nm dt sz k w hO hBo hF hr
/-- What a step answers: the files, Count, Down, the code. -/
def stS (L : List Fil) (x1 x2 x3 x4 : Int) (x5 : Bool) (kd : Int) (nm dt : ByteArray) (sz r : Int) : List Fil × Int × Bool × Int :=
  if x5 then (L, x2, x5, 11)
  else if x2 = 1000000000000000 then (L, x2, x5, 12)
  else if x3 ≠ 0 ∧ x2 + 1 = x3 then (L, x2 + 1, true, 11)
  else if x4 ≠ 0 ∧ x2 + 1 = x4 then (L, x2 + 1, x5, 12)
  else ((doS L x1 kd nm dt sz r).1, x2 + 1, x5, (doS L x1 kd nm dt sz r).2)
def Stepped (w w' : World) (Bo : Nat) (x1 x3 x4 : Int) (S : List Fil × Int × Bool × Int) (e : Ending) : Prop := Done w w' Bo S.1 x1 S.2.1 x3 x4 S.2.2.1 S.2.2.2 e
set_option maxRecDepth 20000 in
set_option maxHeartbeats 8000000 in
theorem sStep (b off n c : Nat) (L : List Fil) (hLn : L.length = n) (x1 x2 x3 x4 : Int) (x5 : Bool) (kd : Int) (nm dt : ByteArray) (sz r : Int) (w : World) (h : FL w (some ⟨b, off, none⟩) n (nthF L)) (hF : Fit L x1 kd nm dt) (hr : FdAt L nm r) (hv : okFs n (nthF L) x1 x2 x3 x4 = true) (hkd : btw kd 1 5 = true) (hnm : okFn nm = true) (hx20 : 0 ≤ x2) (hx21 : x2 ≤ 1000000000000000) :
    Calls Tryz.prog 22 #[.agg #[.slice (some ⟨b, off, none⟩) n c, .int .i64 x1, .int .i64 x2, .int .i64 x3, .int .i64 x4, .bool x5], .agg #[.int .i64 kd, .string nm, .string dt, .int .i64 sz]] w fun e w' => Stepped w w' w.heap.size x1 x3 x4 (stS L x1 x2 x3 x4 x5 kd nm dt sz r) e := by
  have hsm := hF.sm
  rw [hLn] at hsm
  have hn := hsm.n
  have hnm1 := hF.nm1
  have hb0 : Below w.heap.size w (((w.alloc (.cells #[.slice (some ⟨b, off, none⟩) n c, .int .i64 x1, .int .i64 x2, .int .i64 x3, .int .i64 x4, .bool x5] 28)).alloc (.cells #[.int .i64 kd, .string nm, .string dt, .int .i64 sz] 53)).alloc (.cells #[.slice none 0 0, .int .i64 0, .int .i64 0, .int .i64 0, .int .i64 0, .bool false] 28)) := bstep (bal _ _) (bstep (bal _ _) (bal _ _))
  have hX := rowL (rowL (heap_alloc_new w (.cells #[.slice (some ⟨b, off, none⟩) n c, .int .i64 x1, .int .i64 x2, .int .i64 x3, .int .i64 x4, .bool x5] 28)) (bal (w.alloc (.cells #[.slice (some ⟨b, off, none⟩) n c, .int .i64 x1, .int .i64 x2, .int .i64 x3, .int .i64 x4, .bool x5] 28)) (.cells #[.int .i64 kd, .string nm, .string dt, .int .i64 sz] 53))) (bal ((w.alloc (.cells #[.slice (some ⟨b, off, none⟩) n c, .int .i64 x1, .int .i64 x2, .int .i64 x3, .int .i64 x4, .bool x5] 28)).alloc (.cells #[.int .i64 kd, .string nm, .string dt, .int .i64 sz] 53)) (.cells #[.slice none 0 0, .int .i64 0, .int .i64 0, .int .i64 0, .int .i64 0, .bool false] 28))
  have hP := heap_alloc_new (w.alloc (.cells #[.slice (some ⟨b, off, none⟩) n c, .int .i64 x1, .int .i64 x2, .int .i64 x3, .int .i64 x4, .bool x5] 28)) (.cells #[.int .i64 kd, .string nm, .string dt, .int .i64 sz] 53)
  rw [World.size_alloc] at hP
  replace hP := rowL hP (bal ((w.alloc (.cells #[.slice (some ⟨b, off, none⟩) n c, .int .i64 x1, .int .i64 x2, .int .i64 x3, .int .i64 x4, .bool x5] 28)).alloc (.cells #[.int .i64 kd, .string nm, .string dt, .int .i64 sz] 53)) (.cells #[.slice none 0 0, .int .i64 0, .int .i64 0, .int .i64 0, .int .i64 0, .bool false] 28))
  have hR := heap_alloc_new ((w.alloc (.cells #[.slice (some ⟨b, off, none⟩) n c, .int .i64 x1, .int .i64 x2, .int .i64 x3, .int .i64 x4, .bool x5] 28)).alloc (.cells #[.int .i64 kd, .string nm, .string dt, .int .i64 sz] 53)) (.cells #[.slice none 0 0, .int .i64 0, .int .i64 0, .int .i64 0, .int .i64 0, .bool false] 28)
  have hs2 : ((w.alloc (.cells #[.slice (some ⟨b, off, none⟩) n c, .int .i64 x1, .int .i64 x2, .int .i64 x3, .int .i64 x4, .bool x5] 28)).alloc (.cells #[.int .i64 kd, .string nm, .string dt, .int .i64 sz] 53)).heap.size = w.heap.size + 1 + 1 := by simp
  rw [hs2] at hR
  go_enter Tryz.func22, Tryz.ntmps22
  go_upto_region 3 with (first | (go_at_call 16; refine (sValid (some ⟨b, off, none⟩) n c (nthF L) x1 x2 x3 x4 x5 _ (h.later hb0) hsm).mono ?_; rw [hv]; rintro e w1 ⟨rfl, hb1⟩; have hP1 := rowL hP hb1; have pc0 : w1.cell? ⟨w.heap.size + 1, 0, none⟩ = some (.int .i64 kd) := (cell_of_row _ _ 0 _ _ _ hP1).trans rfl; have pc1 : w1.cell? ⟨w.heap.size + 1, 1, none⟩ = some (.string nm) := (cell_of_row _ _ 1 _ _ _ hP1).trans rfl; have pc2 : w1.cell? ⟨w.heap.size + 1, 2, none⟩ = some (.string dt) := (cell_of_row _ _ 2 _ _ _ hP1).trans rfl; have pc3 : w1.cell? ⟨w.heap.size + 1, 3, none⟩ = some (.int .i64 sz) := (cell_of_row _ _ 3 _ _ _ hP1).trans rfl) | (go_at_call 33; refine (sBetween kd 1 5 _).mono ?_; rw [hkd]; rintro e w1 ⟨rfl, rfl⟩) | (go_at_call 35; refine (sFileName nm _ hnm1).mono ?_; rw [hnm]; rintro e w1 ⟨rfl, rfl⟩))
  have hX1 := rowL hX hb1
  have hR1 := rowL hR hb1
  have hc1 := bstep hb0 hb1
  have xc0 : w1.cell? ⟨w.heap.size, 0, none⟩ = some (.slice (some ⟨b, off, none⟩) n c) := (cell_of_row _ _ 0 _ _ _ hX1).trans rfl
  have xc1 : w1.cell? ⟨w.heap.size, 1, none⟩ = some (.int .i64 x1) := (cell_of_row _ _ 1 _ _ _ hX1).trans rfl
  have xc2 : w1.cell? ⟨w.heap.size, 2, none⟩ = some (.int .i64 x2) := (cell_of_row _ _ 2 _ _ _ hX1).trans rfl
  have xc3 : w1.cell? ⟨w.heap.size, 3, none⟩ = some (.int .i64 x3) := (cell_of_row _ _ 3 _ _ _ hX1).trans rfl
  have xc4 : w1.cell? ⟨w.heap.size, 4, none⟩ = some (.int .i64 x4) := (cell_of_row _ _ 4 _ _ _ hX1).trans rfl
  have xc5 : w1.cell? ⟨w.heap.size, 5, none⟩ = some (.bool x5) := (cell_of_row _ _ 5 _ _ _ hX1).trans rfl
  clear pc0 pc1 pc2 pc3
  go_upto_region 4 with (go_at_call 17; refine (sCopy b off n c (nthF L) x1 x2 x3 x4 x5 _ (h.later hc1) hn).mono ?_; rintro e w2 ⟨g, cap, rfl, hO2, hb2⟩; have hX2 := rowL hX1 hb2; have yc0 : w2.cell? ⟨w.heap.size, 0, none⟩ = some (.slice (some ⟨b, off, none⟩) n c) := (cell_of_row _ _ 0 _ _ _ hX2).trans rfl; have yf0 : w2.frozen? ⟨w.heap.size, 0, none⟩ = false := frozen_of_row _ _ 0 _ _ hX2; have yc1 : w2.cell? ⟨w.heap.size, 1, none⟩ = some (.int .i64 x1) := (cell_of_row _ _ 1 _ _ _ hX2).trans rfl; have yf1 : w2.frozen? ⟨w.heap.size, 1, none⟩ = false := frozen_of_row _ _ 1 _ _ hX2; have yc2 : w2.cell? ⟨w.heap.size, 2, none⟩ = some (.int .i64 x2) := (cell_of_row _ _ 2 _ _ _ hX2).trans rfl; have yf2 : w2.frozen? ⟨w.heap.size, 2, none⟩ = false := frozen_of_row _ _ 2 _ _ hX2; have yc3 : w2.cell? ⟨w.heap.size, 3, none⟩ = some (.int .i64 x3) := (cell_of_row _ _ 3 _ _ _ hX2).trans rfl; have yf3 : w2.frozen? ⟨w.heap.size, 3, none⟩ = false := frozen_of_row _ _ 3 _ _ hX2; have yc4 : w2.cell? ⟨w.heap.size, 4, none⟩ = some (.int .i64 x4) := (cell_of_row _ _ 4 _ _ _ hX2).trans rfl; have yf4 : w2.frozen? ⟨w.heap.size, 4, none⟩ = false := frozen_of_row _ _ 4 _ _ hX2; have yc5 : w2.cell? ⟨w.heap.size, 5, none⟩ = some (.bool x5) := (cell_of_row _ _ 5 _ _ _ hX2).trans rfl; have yf5 : w2.frozen? ⟨w.heap.size, 5, none⟩ = false := frozen_of_row _ _ 5 _ _ hX2)
  clear xc0 xc1 xc2 xc3 xc4 xc5
  have hR2 := rowL hR1 hb2
  have hP2 := rowL (rowL hP hb1) hb2
  have hc2 := bstep hc1 hb2
  have hX3 := set6_row (.slice (some ⟨g, 0, none⟩) n cap) (.int .i64 x1) (.int .i64 x2) (.int .i64 x3) (.int .i64 x4) (.bool x5) hX2
  have hR3 := set6_oth (.slice (some ⟨g, 0, none⟩) n cap) (.int .i64 x1) (.int .i64 x2) (.int .i64 x3) (.int .i64 x4) (.bool x5) (Q := w.heap.size) hR2 (by omega)
  have hP3 := set6_oth (.slice (some ⟨g, 0, none⟩) n cap) (.int .i64 x1) (.int .i64 x2) (.int .i64 x3) (.int .i64 x4) (.bool x5) (Q := w.heap.size) hP2 (by omega)
  have hc3 := set6_below (.slice (some ⟨g, 0, none⟩) n cap) (.int .i64 x1) (.int .i64 x2) (.int .i64 x3) (.int .i64 x4) (.bool x5) (Q := w.heap.size) hc2 (Nat.le_refl _)
  have hl2 : OwnL w2 w.heap.size (.slice (some ⟨g, 0, none⟩) n cap) L := by
    have h1 : OwnF w2 w.heap.size (.slice (some ⟨g, 0, none⟩) n cap) n (nthF L) := hO2.wk hc1.size
    rw [← hLn] at h1 ⊢
    exact h1.l
  have hO3 := keep6 (v0 := .slice (some ⟨g, 0, none⟩) n cap) (v1 := .int .i64 x1) (v2 := .int .i64 x2) (v3 := .int .i64 x3) (v4 := .int .i64 x4) (v5 := .bool x5) hl2 hX2
  obtain ⟨W3, hW3⟩ : ∃ W3, (((((w2.setCell ⟨w.heap.size, 0, none⟩ (.slice (some ⟨g, 0, none⟩) n cap)).setCell ⟨w.heap.size, 1, none⟩ (.int .i64 x1)).setCell ⟨w.heap.size, 2, none⟩ (.int .i64 x2)).setCell ⟨w.heap.size, 3, none⟩ (.int .i64 x3)).setCell ⟨w.heap.size, 4, none⟩ (.int .i64 x4)).setCell ⟨w.heap.size, 5, none⟩ (.bool x5) = W3 := ⟨_, rfl⟩
  rw [hW3] at hX3 hR3 hP3 hc3 hO3 ⊢
  clear hW3 yc0 yf0 yc1 yf1 yc2 yf2 yc3 yf3 yc4 yf4 yc5 yf5
  have zc0 : W3.cell? ⟨w.heap.size, 0, none⟩ = some (.slice (some ⟨g, 0, none⟩) n cap) := (cell_of_row _ _ 0 _ _ _ hX3).trans rfl
  have zf0 : W3.frozen? ⟨w.heap.size, 0, none⟩ = false := frozen_of_row _ _ 0 _ _ hX3
  have zc1 : W3.cell? ⟨w.heap.size, 1, none⟩ = some (.int .i64 x1) := (cell_of_row _ _ 1 _ _ _ hX3).trans rfl
  have zf1 : W3.frozen? ⟨w.heap.size, 1, none⟩ = false := frozen_of_row _ _ 1 _ _ hX3
  have zc2 : W3.cell? ⟨w.heap.size, 2, none⟩ = some (.int .i64 x2) := (cell_of_row _ _ 2 _ _ _ hX3).trans rfl
  have zf2 : W3.frozen? ⟨w.heap.size, 2, none⟩ = false := frozen_of_row _ _ 2 _ _ hX3
  have zc3 : W3.cell? ⟨w.heap.size, 3, none⟩ = some (.int .i64 x3) := (cell_of_row _ _ 3 _ _ _ hX3).trans rfl
  have zf3 : W3.frozen? ⟨w.heap.size, 3, none⟩ = false := frozen_of_row _ _ 3 _ _ hX3
  have zc4 : W3.cell? ⟨w.heap.size, 4, none⟩ = some (.int .i64 x4) := (cell_of_row _ _ 4 _ _ _ hX3).trans rfl
  have zf4 : W3.frozen? ⟨w.heap.size, 4, none⟩ = false := frozen_of_row _ _ 4 _ _ hX3
  have zc5 : W3.cell? ⟨w.heap.size, 5, none⟩ = some (.bool x5) := (cell_of_row _ _ 5 _ _ _ hX3).trans rfl
  have zf5 : W3.frozen? ⟨w.heap.size, 5, none⟩ = false := frozen_of_row _ _ 5 _ _ hX3
  have rc0 : W3.cell? ⟨w.heap.size + 1 + 1, 0, none⟩ = some (.slice none 0 0) := (cell_of_row _ _ 0 _ _ _ hR3).trans rfl
  have rf0 : W3.frozen? ⟨w.heap.size + 1 + 1, 0, none⟩ = false := frozen_of_row _ _ 0 _ _ hR3
  have rc1 : W3.cell? ⟨w.heap.size + 1 + 1, 1, none⟩ = some (.int .i64 0) := (cell_of_row _ _ 1 _ _ _ hR3).trans rfl
  have rf1 : W3.frozen? ⟨w.heap.size + 1 + 1, 1, none⟩ = false := frozen_of_row _ _ 1 _ _ hR3
  have rc2 : W3.cell? ⟨w.heap.size + 1 + 1, 2, none⟩ = some (.int .i64 0) := (cell_of_row _ _ 2 _ _ _ hR3).trans rfl
  have rf2 : W3.frozen? ⟨w.heap.size + 1 + 1, 2, none⟩ = false := frozen_of_row _ _ 2 _ _ hR3
  have rc3 : W3.cell? ⟨w.heap.size + 1 + 1, 3, none⟩ = some (.int .i64 0) := (cell_of_row _ _ 3 _ _ _ hR3).trans rfl
  have rf3 : W3.frozen? ⟨w.heap.size + 1 + 1, 3, none⟩ = false := frozen_of_row _ _ 3 _ _ hR3
  have rc4 : W3.cell? ⟨w.heap.size + 1 + 1, 4, none⟩ = some (.int .i64 0) := (cell_of_row _ _ 4 _ _ _ hR3).trans rfl
  have rf4 : W3.frozen? ⟨w.heap.size + 1 + 1, 4, none⟩ = false := frozen_of_row _ _ 4 _ _ hR3
  have rc5 : W3.cell? ⟨w.heap.size + 1 + 1, 5, none⟩ = some (.bool false) := (cell_of_row _ _ 5 _ _ _ hR3).trans rfl
  have rf5 : W3.frozen? ⟨w.heap.size + 1 + 1, 5, none⟩ = false := frozen_of_row _ _ 5 _ _ hR3
  cases x5
  rotate_left
  · have hst : Hid (stS L x1 x2 x3 x4 true kd nm dt sz r = (L, x2, true, 11)) := by
      show _ = _
      simp [stS]
    go_wp2
    refine bodyPost_ret (results_cell_tmp Tryz.results22 _ _ (w.heap.size + 1 + 1) 28 _ (0, 0) _ rfl (set6_row _ _ _ _ _ _ hR3) Tryz.underlying28 rfl (by kernel_rfl)) rfl (by rw [hst.out]; exact ⟨_, _, _, rfl, keep6 hO3 hR3, set6_below _ _ _ _ _ _ hc3 (by omega)⟩)
  by_cases hmx : x2 = 1000000000000000
  · have hst : Hid (stS L x1 x2 x3 x4 false kd nm dt sz r = (L, x2, false, 12)) := by
      show _ = _
      simp [stS, hmx]
    have hq : (x2 == 1000000000000000) = true := by simp [hmx]
    have HM : Hid (x2 = 1000000000000000) := hmx
    clear hmx
    go_wp2
    refine bodyPost_ret (results_cell_tmp Tryz.results22 _ _ (w.heap.size + 1 + 1) 28 _ (0, 0) _ rfl (set6_row _ _ _ _ _ _ hR3) Tryz.underlying28 rfl (by kernel_rfl)) rfl (by rw [hst.out]; exact ⟨_, _, _, rfl, keep6 hO3 hR3, set6_below _ _ _ _ _ _ hc3 (by omega)⟩)
  have hq : (x2 == 1000000000000000) = false := by simp [hmx]
  have HM : Hid (¬ x2 = 1000000000000000) := hmx
  clear hmx
  go_upto_region 9 with fail
  have hX4 : (W3.setCell ⟨w.heap.size, 2, none⟩ (.int .i64 (x2 + 1))).heap[w.heap.size]? = some (.cells #[.slice (some ⟨g, 0, none⟩) n cap, .int .i64 x1, .int .i64 (x2 + 1), .int .i64 x3, .int .i64 x4, .bool false] 28 (0, 0)) := heap_setCell_same _ _ 2 _ _ _ hX3
  have hR4 := rowO (B := w.heap.size) (i := 2) (v := .int .i64 (x2 + 1)) hR3 (by omega)
  have hP4 := rowO (B := w.heap.size) (i := 2) (v := .int .i64 (x2 + 1)) hP3 (by omega)
  have hc4 := bset (B := w.heap.size) (i := 2) (v := .int .i64 (x2 + 1)) hc3 (Nat.le_refl _)
  have hO4 := keep1 (o := 2) (u := .int .i64 (x2 + 1)) hO3 hX3
  obtain ⟨W4, hW4⟩ : ∃ W4, W3.setCell ⟨w.heap.size, 2, none⟩ (.int .i64 (x2 + 1)) = W4 := ⟨_, rfl⟩
  rw [hW4] at hX4 hR4 hP4 hc4 hO4 ⊢
  clear hW4 zc0 zf0 zc1 zf1 zc2 zf2 zc3 zf3 zc4 zf4 zc5 zf5 rc0 rf0 rc1 rf1 rc2 rf2 rc3 rf3 rc4 rf4 rc5 rf5
  have qc0 : W4.cell? ⟨w.heap.size, 0, none⟩ = some (.slice (some ⟨g, 0, none⟩) n cap) := (cell_of_row _ _ 0 _ _ _ hX4).trans rfl
  have qf0 : W4.frozen? ⟨w.heap.size, 0, none⟩ = false := frozen_of_row _ _ 0 _ _ hX4
  have qc1 : W4.cell? ⟨w.heap.size, 1, none⟩ = some (.int .i64 x1) := (cell_of_row _ _ 1 _ _ _ hX4).trans rfl
  have qf1 : W4.frozen? ⟨w.heap.size, 1, none⟩ = false := frozen_of_row _ _ 1 _ _ hX4
  have qc2 : W4.cell? ⟨w.heap.size, 2, none⟩ = some (.int .i64 (x2 + 1)) := (cell_of_row _ _ 2 _ _ _ hX4).trans rfl
  have qf2 : W4.frozen? ⟨w.heap.size, 2, none⟩ = false := frozen_of_row _ _ 2 _ _ hX4
  have qc3 : W4.cell? ⟨w.heap.size, 3, none⟩ = some (.int .i64 x3) := (cell_of_row _ _ 3 _ _ _ hX4).trans rfl
  have qf3 : W4.frozen? ⟨w.heap.size, 3, none⟩ = false := frozen_of_row _ _ 3 _ _ hX4
  have qc4 : W4.cell? ⟨w.heap.size, 4, none⟩ = some (.int .i64 x4) := (cell_of_row _ _ 4 _ _ _ hX4).trans rfl
  have qf4 : W4.frozen? ⟨w.heap.size, 4, none⟩ = false := frozen_of_row _ _ 4 _ _ hX4
  have qc5 : W4.cell? ⟨w.heap.size, 5, none⟩ = some (.bool false) := (cell_of_row _ _ 5 _ _ _ hX4).trans rfl
  have qf5 : W4.frozen? ⟨w.heap.size, 5, none⟩ = false := frozen_of_row _ _ 5 _ _ hX4
  have sc0 : W4.cell? ⟨w.heap.size + 1 + 1, 0, none⟩ = some (.slice none 0 0) := (cell_of_row _ _ 0 _ _ _ hR4).trans rfl
  have sf0 : W4.frozen? ⟨w.heap.size + 1 + 1, 0, none⟩ = false := frozen_of_row _ _ 0 _ _ hR4
  have sc1 : W4.cell? ⟨w.heap.size + 1 + 1, 1, none⟩ = some (.int .i64 0) := (cell_of_row _ _ 1 _ _ _ hR4).trans rfl
  have sf1 : W4.frozen? ⟨w.heap.size + 1 + 1, 1, none⟩ = false := frozen_of_row _ _ 1 _ _ hR4
  have sc2 : W4.cell? ⟨w.heap.size + 1 + 1, 2, none⟩ = some (.int .i64 0) := (cell_of_row _ _ 2 _ _ _ hR4).trans rfl
  have sf2 : W4.frozen? ⟨w.heap.size + 1 + 1, 2, none⟩ = false := frozen_of_row _ _ 2 _ _ hR4
  have sc3 : W4.cell? ⟨w.heap.size + 1 + 1, 3, none⟩ = some (.int .i64 0) := (cell_of_row _ _ 3 _ _ _ hR4).trans rfl
  have sf3 : W4.frozen? ⟨w.heap.size + 1 + 1, 3, none⟩ = false := frozen_of_row _ _ 3 _ _ hR4
  have sc4 : W4.cell? ⟨w.heap.size + 1 + 1, 4, none⟩ = some (.int .i64 0) := (cell_of_row _ _ 4 _ _ _ hR4).trans rfl
  have sf4 : W4.frozen? ⟨w.heap.size + 1 + 1, 4, none⟩ = false := frozen_of_row _ _ 4 _ _ hR4
  have sc5 : W4.cell? ⟨w.heap.size + 1 + 1, 5, none⟩ = some (.bool false) := (cell_of_row _ _ 5 _ _ _ hR4).trans rfl
  have sf5 : W4.frozen? ⟨w.heap.size + 1 + 1, 5, none⟩ = false := frozen_of_row _ _ 5 _ _ hR4
  by_cases hcr : x3 ≠ 0 ∧ x2 + 1 = x3
  · have hst : Hid (stS L x1 x2 x3 x4 false kd nm dt sz r = (L, x2 + 1, true, 11)) := by
      show _ = _
      unfold stS
      rw [if_neg (by simp), if_neg HM.out, if_pos hcr]
    have q1 : (x3 != 0) = true := by simp [hcr.1]
    have q2 : (x2 + 1 == x3) = true := by simp [hcr.2]
    clear hcr
    go_upto_region 11 with fail
    have hX5 : (W4.setCell ⟨w.heap.size, 5, none⟩ (.bool true)).heap[w.heap.size]? = some (.cells #[.slice (some ⟨g, 0, none⟩) n cap, .int .i64 x1, .int .i64 (x2 + 1), .int .i64 x3, .int .i64 x4, .bool true] 28 (0, 0)) := heap_setCell_same _ _ 5 _ _ _ hX4
    have hR5 := rowO (B := w.heap.size) (i := 5) (v := .bool true) hR4 (by omega)
    have hc5 := bset (B := w.heap.size) (i := 5) (v := .bool true) hc4 (Nat.le_refl _)
    have hO5 := keep1 (o := 5) (u := .bool true) hO4 hX4
    obtain ⟨W5, hW5⟩ : ∃ W5, W4.setCell ⟨w.heap.size, 5, none⟩ (.bool true) = W5 := ⟨_, rfl⟩
    rw [hW5] at hX5 hR5 hc5 hO5 ⊢
    clear hW5 qc0 qf0 qc1 qf1 qc2 qf2 qc3 qf3 qc4 qf4 qc5 qf5 sc0 sf0 sc1 sf1 sc2 sf2 sc3 sf3 sc4 sf4 sc5 sf5
    have uc0 : W5.cell? ⟨w.heap.size, 0, none⟩ = some (.slice (some ⟨g, 0, none⟩) n cap) := (cell_of_row _ _ 0 _ _ _ hX5).trans rfl
    have uc1 : W5.cell? ⟨w.heap.size, 1, none⟩ = some (.int .i64 x1) := (cell_of_row _ _ 1 _ _ _ hX5).trans rfl
    have uc2 : W5.cell? ⟨w.heap.size, 2, none⟩ = some (.int .i64 (x2 + 1)) := (cell_of_row _ _ 2 _ _ _ hX5).trans rfl
    have uc3 : W5.cell? ⟨w.heap.size, 3, none⟩ = some (.int .i64 x3) := (cell_of_row _ _ 3 _ _ _ hX5).trans rfl
    have uc4 : W5.cell? ⟨w.heap.size, 4, none⟩ = some (.int .i64 x4) := (cell_of_row _ _ 4 _ _ _ hX5).trans rfl
    have uc5 : W5.cell? ⟨w.heap.size, 5, none⟩ = some (.bool true) := (cell_of_row _ _ 5 _ _ _ hX5).trans rfl
    have vc0 : W5.cell? ⟨w.heap.size + 1 + 1, 0, none⟩ = some (.slice none 0 0) := (cell_of_row _ _ 0 _ _ _ hR5).trans rfl
    have vf0 : W5.frozen? ⟨w.heap.size + 1 + 1, 0, none⟩ = false := frozen_of_row _ _ 0 _ _ hR5
    have vc1 : W5.cell? ⟨w.heap.size + 1 + 1, 1, none⟩ = some (.int .i64 0) := (cell_of_row _ _ 1 _ _ _ hR5).trans rfl
    have vf1 : W5.frozen? ⟨w.heap.size + 1 + 1, 1, none⟩ = false := frozen_of_row _ _ 1 _ _ hR5
    have vc2 : W5.cell? ⟨w.heap.size + 1 + 1, 2, none⟩ = some (.int .i64 0) := (cell_of_row _ _ 2 _ _ _ hR5).trans rfl
    have vf2 : W5.frozen? ⟨w.heap.size + 1 + 1, 2, none⟩ = false := frozen_of_row _ _ 2 _ _ hR5
    have vc3 : W5.cell? ⟨w.heap.size + 1 + 1, 3, none⟩ = some (.int .i64 0) := (cell_of_row _ _ 3 _ _ _ hR5).trans rfl
    have vf3 : W5.frozen? ⟨w.heap.size + 1 + 1, 3, none⟩ = false := frozen_of_row _ _ 3 _ _ hR5
    have vc4 : W5.cell? ⟨w.heap.size + 1 + 1, 4, none⟩ = some (.int .i64 0) := (cell_of_row _ _ 4 _ _ _ hR5).trans rfl
    have vf4 : W5.frozen? ⟨w.heap.size + 1 + 1, 4, none⟩ = false := frozen_of_row _ _ 4 _ _ hR5
    have vc5 : W5.cell? ⟨w.heap.size + 1 + 1, 5, none⟩ = some (.bool false) := (cell_of_row _ _ 5 _ _ _ hR5).trans rfl
    have vf5 : W5.frozen? ⟨w.heap.size + 1 + 1, 5, none⟩ = false := frozen_of_row _ _ 5 _ _ hR5
    go_wp2
    refine bodyPost_ret (results_cell_tmp Tryz.results22 _ _ (w.heap.size + 1 + 1) 28 _ (0, 0) _ rfl (set6_row _ _ _ _ _ _ hR5) Tryz.underlying28 rfl (by kernel_rfl)) rfl (by rw [hst.out]; exact ⟨_, _, _, rfl, keep6 hO5 hR5, set6_below _ _ _ _ _ _ hc5 (by omega)⟩)
  by_cases hfa : x4 ≠ 0 ∧ x2 + 1 = x4
  · have hst : Hid (stS L x1 x2 x3 x4 false kd nm dt sz r = (L, x2 + 1, false, 12)) := by
      show _ = _
      unfold stS
      rw [if_neg (by simp), if_neg HM.out, if_neg hcr, if_pos hfa]
    have q3 : (x4 != 0) = true := by simp [hfa.1]
    have q4 : (x2 + 1 == x4) = true := by simp [hfa.2]
    by_cases q0 : x3 = 0
    · have q1 : (x3 != 0) = false := by simp [q0]
      have Q0 : Hid (x3 = 0) := q0
      clear q0 hcr hfa
      go_wp2
      refine bodyPost_ret (results_cell_tmp Tryz.results22 _ _ (w.heap.size + 1 + 1) 28 _ (0, 0) _ rfl (set6_row _ _ _ _ _ _ hR4) Tryz.underlying28 rfl (by kernel_rfl)) rfl (by rw [hst.out]; exact ⟨_, _, _, rfl, keep6 hO4 hR4, set6_below _ _ _ _ _ _ hc4 (by omega)⟩)
    · have q1 : (x3 != 0) = true := by simp [q0]
      have q2 : (x2 + 1 == x3) = false := by simp; exact fun e => hcr ⟨q0, e⟩
      clear q0 hcr hfa
      go_wp2
      refine bodyPost_ret (results_cell_tmp Tryz.results22 _ _ (w.heap.size + 1 + 1) 28 _ (0, 0) _ rfl (set6_row _ _ _ _ _ _ hR4) Tryz.underlying28 rfl (by kernel_rfl)) rfl (by rw [hst.out]; exact ⟨_, _, _, rfl, keep6 hO4 hR4, set6_below _ _ _ _ _ _ hc4 (by omega)⟩)
  have hst : Hid (stS L x1 x2 x3 x4 false kd nm dt sz r = ((doS L x1 kd nm dt sz r).1, x2 + 1, false, (doS L x1 kd nm dt sz r).2)) := by
    show _ = _
    unfold stS
    rw [if_neg (by simp), if_neg HM.out, if_neg hcr, if_neg hfa]
  have hdo := sDoAll w.heap.size g n cap L hLn x1 (x2 + 1) x3 x4 false kd nm dt sz r W4 hO4 hc4.size hF hr
  obtain ⟨LR, hLR⟩ : ∃ LR, (doS L x1 kd nm dt sz r).1 = LR := ⟨_, rfl⟩
  obtain ⟨cd, hcd⟩ : ∃ cd, (doS L x1 kd nm dt sz r).2 = cd := ⟨_, rfl⟩
  rw [hLR, hcd] at hdo hst
  clear hLR hcd
  have pc0 : W4.cell? ⟨w.heap.size + 1, 0, none⟩ = some (.int .i64 kd) := (cell_of_row _ _ 0 _ _ _ hP4).trans rfl
  have pc1 : W4.cell? ⟨w.heap.size + 1, 1, none⟩ = some (.string nm) := (cell_of_row _ _ 1 _ _ _ hP4).trans rfl
  have pc2 : W4.cell? ⟨w.heap.size + 1, 2, none⟩ = some (.string dt) := (cell_of_row _ _ 2 _ _ _ hP4).trans rfl
  have pc3 : W4.cell? ⟨w.heap.size + 1, 3, none⟩ = some (.int .i64 sz) := (cell_of_row _ _ 3 _ _ _ hP4).trans rfl
  rcases q1 : (x3 != 0) <;> rcases q2 : (x2 + 1 == x3) <;> rcases q3 : (x4 != 0) <;> rcases q4 : (x2 + 1 == x4)
  all_goals first
    | (exfalso; exact hcr ⟨by simpa using q1, by simpa using q2⟩)
    | (exfalso; exact hfa ⟨by simpa using q3, by simpa using q4⟩)
    | skip
  all_goals
    clear hcr hfa
    go_wp2_with (go_at_call 37; refine hdo.mono ?_; rintro e w5 ⟨a5, m5, cv5, rfl, hO5, hb5⟩; have hR5 := rowL hR4 hb5; have tc0 : w5.cell? ⟨w.heap.size + 1 + 1, 0, none⟩ = some (.slice none 0 0) := (cell_of_row _ _ 0 _ _ _ hR5).trans rfl; have tf0 : w5.frozen? ⟨w.heap.size + 1 + 1, 0, none⟩ = false := frozen_of_row _ _ 0 _ _ hR5; have tc1 : w5.cell? ⟨w.heap.size + 1 + 1, 1, none⟩ = some (.int .i64 0) := (cell_of_row _ _ 1 _ _ _ hR5).trans rfl; have tf1 : w5.frozen? ⟨w.heap.size + 1 + 1, 1, none⟩ = false := frozen_of_row _ _ 1 _ _ hR5; have tc2 : w5.cell? ⟨w.heap.size + 1 + 1, 2, none⟩ = some (.int .i64 0) := (cell_of_row _ _ 2 _ _ _ hR5).trans rfl; have tf2 : w5.frozen? ⟨w.heap.size + 1 + 1, 2, none⟩ = false := frozen_of_row _ _ 2 _ _ hR5; have tc3 : w5.cell? ⟨w.heap.size + 1 + 1, 3, none⟩ = some (.int .i64 0) := (cell_of_row _ _ 3 _ _ _ hR5).trans rfl; have tf3 : w5.frozen? ⟨w.heap.size + 1 + 1, 3, none⟩ = false := frozen_of_row _ _ 3 _ _ hR5; have tc4 : w5.cell? ⟨w.heap.size + 1 + 1, 4, none⟩ = some (.int .i64 0) := (cell_of_row _ _ 4 _ _ _ hR5).trans rfl; have tf4 : w5.frozen? ⟨w.heap.size + 1 + 1, 4, none⟩ = false := frozen_of_row _ _ 4 _ _ hR5; have tc5 : w5.cell? ⟨w.heap.size + 1 + 1, 5, none⟩ = some (.bool false) := (cell_of_row _ _ 5 _ _ _ hR5).trans rfl; have tf5 : w5.frozen? ⟨w.heap.size + 1 + 1, 5, none⟩ = false := frozen_of_row _ _ 5 _ _ hR5)
    refine bodyPost_ret (results_cell_tmp Tryz.results22 _ _ (w.heap.size + 1 + 1) 28 _ (0, 0) _ rfl (set6_row _ _ _ _ _ _ hR5) Tryz.underlying28 rfl (by kernel_rfl)) rfl (by rw [hst.out]; exact ⟨_, _, _, rfl, keep6 hO5 hR5, set6_below _ _ _ _ _ _ (bstep hc4 hb5) (by omega)⟩)
set_option maxRecDepth 20000 in
set_option maxHeartbeats 8000000 in
theorem sStepBad (a : Option Addr) (n c : Nat) (F : Nat → Fil) (x1 x2 x3 x4 : Int) (x5 : Bool) (kd : Int) (nm dt : ByteArray) (sz : Int) (w : World) (h : FL w a n F) (hsm : Small n F) (hnm1 : nm.size ≤ 2097152) (hno : (okFs n F x1 x2 x3 x4 && btw kd 1 5 && okFn nm) = false) :
    Calls Tryz.prog 22 #[.agg #[.slice a n c, .int .i64 x1, .int .i64 x2, .int .i64 x3, .int .i64 x4, .bool x5], .agg #[.int .i64 kd, .string nm, .string dt, .int .i64 sz]] w fun e w' => e = .returned (.tuple #[.agg #[.slice none 0 0, .int .i64 0, .int .i64 0, .int .i64 0, .int .i64 0, .bool false], .int .i64 16]) ∧ Below w.heap.size w w' := by
  have hb0 : Below w.heap.size w (((w.alloc (.cells #[.slice a n c, .int .i64 x1, .int .i64 x2, .int .i64 x3, .int .i64 x4, .bool x5] 28)).alloc (.cells #[.int .i64 kd, .string nm, .string dt, .int .i64 sz] 53)).alloc (.cells #[.slice none 0 0, .int .i64 0, .int .i64 0, .int .i64 0, .int .i64 0, .bool false] 28)) := bstep (bal _ _) (bstep (bal _ _) (bal _ _))
  have hP := heap_alloc_new (w.alloc (.cells #[.slice a n c, .int .i64 x1, .int .i64 x2, .int .i64 x3, .int .i64 x4, .bool x5] 28)) (.cells #[.int .i64 kd, .string nm, .string dt, .int .i64 sz] 53)
  rw [World.size_alloc] at hP
  replace hP := rowL hP (bal ((w.alloc (.cells #[.slice a n c, .int .i64 x1, .int .i64 x2, .int .i64 x3, .int .i64 x4, .bool x5] 28)).alloc (.cells #[.int .i64 kd, .string nm, .string dt, .int .i64 sz] 53)) (.cells #[.slice none 0 0, .int .i64 0, .int .i64 0, .int .i64 0, .int .i64 0, .bool false] 28))
  have hR := heap_alloc_new ((w.alloc (.cells #[.slice a n c, .int .i64 x1, .int .i64 x2, .int .i64 x3, .int .i64 x4, .bool x5] 28)).alloc (.cells #[.int .i64 kd, .string nm, .string dt, .int .i64 sz] 53)) (.cells #[.slice none 0 0, .int .i64 0, .int .i64 0, .int .i64 0, .int .i64 0, .bool false] 28)
  have hs2 : ((w.alloc (.cells #[.slice a n c, .int .i64 x1, .int .i64 x2, .int .i64 x3, .int .i64 x4, .bool x5] 28)).alloc (.cells #[.int .i64 kd, .string nm, .string dt, .int .i64 sz] 53)).heap.size = w.heap.size + 1 + 1 := by simp
  rw [hs2] at hR
  rcases hv : okFs n F x1 x2 x3 x4 <;> rcases hkd : btw kd 1 5 <;> rcases hnm : okFn nm
  all_goals try (exfalso; rw [hv, hkd, hnm] at hno; simp at hno; done)
  all_goals
    clear hno
    go_enter Tryz.func22, Tryz.ntmps22
    go_wp2_with (first | (go_at_call 16; refine (sValid a n c F x1 x2 x3 x4 x5 _ (h.later hb0) hsm).mono ?_; rw [hv]; rintro e w1 ⟨rfl, hb1⟩; have hP1 := rowL hP hb1; have hR1 := rowL hR hb1; have pc0 : w1.cell? ⟨w.heap.size + 1, 0, none⟩ = some (.int .i64 kd) := (cell_of_row _ _ 0 _ _ _ hP1).trans rfl; have pc1 : w1.cell? ⟨w.heap.size + 1, 1, none⟩ = some (.string nm) := (cell_of_row _ _ 1 _ _ _ hP1).trans rfl; have pc2 : w1.cell? ⟨w.heap.size + 1, 2, none⟩ = some (.string dt) := (cell_of_row _ _ 2 _ _ _ hP1).trans rfl; have pc3 : w1.cell? ⟨w.heap.size + 1, 3, none⟩ = some (.int .i64 sz) := (cell_of_row _ _ 3 _ _ _ hP1).trans rfl; have rc0 : w1.cell? ⟨w.heap.size + 1 + 1, 0, none⟩ = some (.slice none 0 0) := (cell_of_row _ _ 0 _ _ _ hR1).trans rfl; have rf0 : w1.frozen? ⟨w.heap.size + 1 + 1, 0, none⟩ = false := frozen_of_row _ _ 0 _ _ hR1; have rc1 : w1.cell? ⟨w.heap.size + 1 + 1, 1, none⟩ = some (.int .i64 0) := (cell_of_row _ _ 1 _ _ _ hR1).trans rfl; have rf1 : w1.frozen? ⟨w.heap.size + 1 + 1, 1, none⟩ = false := frozen_of_row _ _ 1 _ _ hR1; have rc2 : w1.cell? ⟨w.heap.size + 1 + 1, 2, none⟩ = some (.int .i64 0) := (cell_of_row _ _ 2 _ _ _ hR1).trans rfl; have rf2 : w1.frozen? ⟨w.heap.size + 1 + 1, 2, none⟩ = false := frozen_of_row _ _ 2 _ _ hR1; have rc3 : w1.cell? ⟨w.heap.size + 1 + 1, 3, none⟩ = some (.int .i64 0) := (cell_of_row _ _ 3 _ _ _ hR1).trans rfl; have rf3 : w1.frozen? ⟨w.heap.size + 1 + 1, 3, none⟩ = false := frozen_of_row _ _ 3 _ _ hR1; have rc4 : w1.cell? ⟨w.heap.size + 1 + 1, 4, none⟩ = some (.int .i64 0) := (cell_of_row _ _ 4 _ _ _ hR1).trans rfl; have rf4 : w1.frozen? ⟨w.heap.size + 1 + 1, 4, none⟩ = false := frozen_of_row _ _ 4 _ _ hR1; have rc5 : w1.cell? ⟨w.heap.size + 1 + 1, 5, none⟩ = some (.bool false) := (cell_of_row _ _ 5 _ _ _ hR1).trans rfl; have rf5 : w1.frozen? ⟨w.heap.size + 1 + 1, 5, none⟩ = false := frozen_of_row _ _ 5 _ _ hR1) | (go_at_call 33; refine (sBetween kd 1 5 _).mono ?_; rw [hkd]; rintro e w1 ⟨rfl, rfl⟩) | (go_at_call 35; refine (sFileName nm _ hnm1).mono ?_; rw [hnm]; rintro e w1 ⟨rfl, rfl⟩))
    exact bodyPost_ret (results_cell_tmp Tryz.results22 _ _ (w.heap.size + 1 + 1) 28 _ (0, 0) _ rfl (set6_row _ _ _ _ _ _ hR1) Tryz.underlying28 rfl (by kernel_rfl)) rfl ⟨rfl, set6_below _ _ _ _ _ _ (bstep hb0 hb1) (by omega)⟩
end Go.Proofs.YtngppfjphbodcaaGreatDoor
