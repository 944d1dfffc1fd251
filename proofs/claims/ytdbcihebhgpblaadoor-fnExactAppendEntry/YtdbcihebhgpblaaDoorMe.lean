/-
  FsStep: the specification's operation, where it changes the files.
-/
import Derived.Test.YtdbcihebhgpblaaDoorMd
namespace Go.Proofs.YtdbcihebhgpblaaDoor
open Go.RowKit
theorem wk_l {w : World} {B B' : Nat} {v : Value} {L : List Fil} (h : OwnL w B v L) (hB : B' ≤ B) : OwnL w B' v L :=
  ⟨h.1, h.2.imp id (fun ⟨g, cap, cur, e1, e2, e3⟩ => ⟨g, cap, cur, e1, Nat.le_trans hB e2, e3⟩)⟩
set_option maxRecDepth 20000 in
set_option maxHeartbeats 8000000 in
theorem sDo1 (Bo : Nat) (gv : Nat) (n cv : Nat) (L : List Fil) (hLn : L.length = n) (x1 x2 x3 x4 : Int) (x5 : Bool) (nm dt : ByteArray) (sz : Int) (w : World) (hO : OwnL w Bo (.slice (some ⟨gv, 0, none⟩) n cv) L) (hBo : Bo ≤ w.heap.size) (hF : Fit L x1 1 nm dt) (hr : FdAt L nm (-1)) (h3 : L.length ≠ 300) :
    Calls Tryd.prog 53 #[.agg #[.slice (some ⟨gv, 0, none⟩) n cv, .int .i64 x1, .int .i64 x2, .int .i64 x3, .int .i64 x4, .bool x5], .agg #[.int .i64 1, .string nm, .string dt, .int .i64 sz]] w fun e w' => Done w w' Bo (doS L x1 1 nm dt sz (-1)).1 x1 x2 x3 x4 x5 (doS L x1 1 nm dt sz (-1)).2 e := by
  subst hLn
  have hfl := hO.f.fl
  have hb0 : Below w.heap.size w (((w.alloc (.cells #[.slice (some ⟨gv, 0, none⟩) L.length cv, .int .i64 x1, .int .i64 x2, .int .i64 x3, .int .i64 x4, .bool x5] 30)).alloc (.cells #[.int .i64 1, .string nm, .string dt, .int .i64 sz] 59)).alloc (.cells #[.slice none 0 0, .int .i64 0, .int .i64 0, .int .i64 0, .int .i64 0, .bool false] 30)) := bstep (bal _ _) (bstep (bal _ _) (bal _ _))
  have hX := rowL (rowL (heap_alloc_new w (.cells #[.slice (some ⟨gv, 0, none⟩) L.length cv, .int .i64 x1, .int .i64 x2, .int .i64 x3, .int .i64 x4, .bool x5] 30)) (bal (w.alloc (.cells #[.slice (some ⟨gv, 0, none⟩) L.length cv, .int .i64 x1, .int .i64 x2, .int .i64 x3, .int .i64 x4, .bool x5] 30)) (.cells #[.int .i64 1, .string nm, .string dt, .int .i64 sz] 59))) (bal ((w.alloc (.cells #[.slice (some ⟨gv, 0, none⟩) L.length cv, .int .i64 x1, .int .i64 x2, .int .i64 x3, .int .i64 x4, .bool x5] 30)).alloc (.cells #[.int .i64 1, .string nm, .string dt, .int .i64 sz] 59)) (.cells #[.slice none 0 0, .int .i64 0, .int .i64 0, .int .i64 0, .int .i64 0, .bool false] 30))
  have hP := heap_alloc_new (w.alloc (.cells #[.slice (some ⟨gv, 0, none⟩) L.length cv, .int .i64 x1, .int .i64 x2, .int .i64 x3, .int .i64 x4, .bool x5] 30)) (.cells #[.int .i64 1, .string nm, .string dt, .int .i64 sz] 59)
  rw [World.size_alloc] at hP
  replace hP := rowL hP (bal ((w.alloc (.cells #[.slice (some ⟨gv, 0, none⟩) L.length cv, .int .i64 x1, .int .i64 x2, .int .i64 x3, .int .i64 x4, .bool x5] 30)).alloc (.cells #[.int .i64 1, .string nm, .string dt, .int .i64 sz] 59)) (.cells #[.slice none 0 0, .int .i64 0, .int .i64 0, .int .i64 0, .int .i64 0, .bool false] 30))
  have hR := heap_alloc_new ((w.alloc (.cells #[.slice (some ⟨gv, 0, none⟩) L.length cv, .int .i64 x1, .int .i64 x2, .int .i64 x3, .int .i64 x4, .bool x5] 30)).alloc (.cells #[.int .i64 1, .string nm, .string dt, .int .i64 sz] 59)) (.cells #[.slice none 0 0, .int .i64 0, .int .i64 0, .int .i64 0, .int .i64 0, .bool false] 30)
  have hs2 : ((w.alloc (.cells #[.slice (some ⟨gv, 0, none⟩) L.length cv, .int .i64 x1, .int .i64 x2, .int .i64 x3, .int .i64 x4, .bool x5] 30)).alloc (.cells #[.int .i64 1, .string nm, .string dt, .int .i64 sz] 59)).heap.size = w.heap.size + 1 + 1 := by simp
  rw [hs2] at hR
  have hn := hF.sm.n
  obtain ⟨LR, hLR⟩ : ∃ LR, wth ⟨#[]⟩ ⟨nm, ⟨#[]⟩, 0⟩ L (decide (nm.size = 0)) = LR := ⟨_, rfl⟩
  have hdo : doS L x1 1 nm dt sz (-1) = (LR, 0) := by
    have h5 : decide (nm.size = 0) = false := by simp [hF.nm0]
    rw [← hLR, h5]
    simp [doS, h3]
  rw [hdo]
  have h4 : ((L.length : Int) == 300) = false := by simp; omega
  clear h3
  go_enter Tryd.func53, Tryd.ntmps53
  go_upto_region 8 with (first | (go_at_call 94; refine (sFind (some ⟨gv, 0, none⟩) L.length cv (nthF L) x1 x2 x3 x4 x5 nm _ (hfl.later hb0) hn).mono ?_; rintro e w1 ⟨r', rfl, hr', hb1⟩; obtain rfl : r' = (-1) := fd_same hr' hr; have hX1 := rowL hX hb1; have hP1 := rowL hP hb1; have hR1 := rowL hR hb1; obtain ⟨xc0, xc1, xc2, xc3, xc4, xc5⟩ := B6.of hX1; obtain ⟨xf0, xf1, xf2, xf3, xf4, xf5⟩ := F6.of hX1; have pc0 : w1.cell? ⟨w.heap.size + 1, 0, none⟩ = some (.int .i64 1) := (cell_of_row _ _ 0 _ _ _ hP1).trans rfl; have pc1 : w1.cell? ⟨w.heap.size + 1, 1, none⟩ = some (.string nm) := (cell_of_row _ _ 1 _ _ _ hP1).trans rfl; have pc2 : w1.cell? ⟨w.heap.size + 1, 2, none⟩ = some (.string dt) := (cell_of_row _ _ 2 _ _ _ hP1).trans rfl; have pc3 : w1.cell? ⟨w.heap.size + 1, 3, none⟩ = some (.int .i64 sz) := (cell_of_row _ _ 3 _ _ _ hP1).trans rfl; obtain ⟨rc0, rc1, rc2, rc3, rc4, rc5⟩ := B6.of hR1; obtain ⟨rf0, rf1, rf2, rf3, rf4, rf5⟩ := F6.of hR1) | (go_at_call 95; refine (sWith (some ⟨gv, 0, none⟩) cv L ⟨#[]⟩ ⟨nm, ⟨#[]⟩, 0⟩ _ (hfl.later (bstep hb0 hb1)) hn).mono ?_; rw [hLR]; rintro e wb ⟨g2, cap2, rfl, hO2, hb2⟩; replace hO2 := wk_l hO2 (Nat.le_trans hBo (Below.size (bstep hb0 hb1))); have hbw := bstep (bstep hb0 hb1) hb2; have hXb := rowL hX1 hb2; have hRb := rowL hR1 hb2; have bc0 : wb.cell? ⟨w.heap.size, 0, none⟩ = some (.slice (some ⟨gv, 0, none⟩) L.length cv) := (cell_of_row _ _ 0 _ _ _ hXb).trans rfl; have bf0 : wb.frozen? ⟨w.heap.size, 0, none⟩ = false := frozen_of_row _ _ 0 _ _ hXb))
  have hX3 : (wb.setCell ⟨w.heap.size, 0, none⟩ (.slice (some ⟨g2, 0, none⟩) LR.length cap2)).heap[w.heap.size]? = some (.cells #[.slice (some ⟨g2, 0, none⟩) LR.length cap2, .int .i64 x1, .int .i64 x2, .int .i64 x3, .int .i64 x4, .bool x5] 30 (0, 0)) := heap_setCell_same _ _ 0 _ _ _ hXb
  have hR3 := rowO (B := w.heap.size) (i := 0) (v := .slice (some ⟨g2, 0, none⟩) LR.length cap2) hRb (by omega)
  have hO3 : OwnL (wb.setCell ⟨w.heap.size, 0, none⟩ (.slice (some ⟨g2, 0, none⟩) LR.length cap2)) Bo (.slice (some ⟨g2, 0, none⟩) LR.length cap2) LR := keep1 hO2 hXb
  have hb3 : Below w.heap.size w (wb.setCell ⟨w.heap.size, 0, none⟩ (.slice (some ⟨g2, 0, none⟩) LR.length cap2)) := bset hbw (Nat.le_refl _)
  obtain ⟨W3, hW3⟩ : ∃ W3, wb.setCell ⟨w.heap.size, 0, none⟩ (.slice (some ⟨g2, 0, none⟩) LR.length cap2) = W3 := ⟨_, rfl⟩
  rw [hW3] at hX3 hR3 hO3 hb3 ⊢
  clear hW3 xc0 xf0 xc1 xf1 xc2 xf2 xc3 xf3 xc4 xf4 xc5 xf5 pc0 pc1 pc2 pc3 rc0 rf0 rc1 rf1 rc2 rf2 rc3 rf3 rc4 rf4 rc5 rf5 bc0 bf0
  obtain ⟨qc0, qc1, qc2, qc3, qc4, qc5⟩ := B6.of hX3
  obtain ⟨sc0, sc1, sc2, sc3, sc4, sc5⟩ := B6.of hR3
  obtain ⟨sf0, sf1, sf2, sf3, sf4, sf5⟩ := F6.of hR3
  go_wp2
  refine bodyPost_ret (results_cell_tmp Tryd.results53 _ _ (w.heap.size + 1 + 1) 30 _ (0, 0) _ rfl (set6_row _ _ _ _ _ _ hR3) Tryd.underlying30 rfl (by kernel_rfl)) rfl ⟨_, _, _, rfl, ?_, set6_below _ _ _ _ _ _ hb3 (by omega)⟩
  exact keep6 hO3 hR3
theorem fd_lt {L : List Fil} {nm : ByteArray} {k : Nat} (h : FdAt L nm (k : Int)) : k < L.length := by
  rcases h with ⟨e, _⟩ | ⟨k', hk', e, _⟩
  · omega
  · omega
set_option maxRecDepth 20000 in
set_option maxHeartbeats 8000000 in
theorem sDo5 (Bo : Nat) (b off : Nat) (n cv : Nat) (L : List Fil) (hLn : L.length = n) (x1 x2 x3 x4 : Int) (x5 : Bool) (nm dt : ByteArray) (sz : Int) (k : Nat) (w : World) (hO : OwnL w Bo (.slice (some ⟨b, off, none⟩) n cv) L) (hBo : Bo ≤ w.heap.size) (hF : Fit L x1 5 nm dt) (hr : FdAt L nm (k : Int)) :
    Calls Tryd.prog 53 #[.agg #[.slice (some ⟨b, off, none⟩) n cv, .int .i64 x1, .int .i64 x2, .int .i64 x3, .int .i64 x4, .bool x5], .agg #[.int .i64 5, .string nm, .string dt, .int .i64 sz]] w fun e w' => Done w w' Bo (doS L x1 5 nm dt sz (k : Int)).1 x1 x2 x3 x4 x5 (doS L x1 5 nm dt sz (k : Int)).2 e := by
  subst hLn
  have hfl := hO.f.fl
  have hb0 : Below w.heap.size w (((w.alloc (.cells #[.slice (some ⟨b, off, none⟩) L.length cv, .int .i64 x1, .int .i64 x2, .int .i64 x3, .int .i64 x4, .bool x5] 30)).alloc (.cells #[.int .i64 5, .string nm, .string dt, .int .i64 sz] 59)).alloc (.cells #[.slice none 0 0, .int .i64 0, .int .i64 0, .int .i64 0, .int .i64 0, .bool false] 30)) := bstep (bal _ _) (bstep (bal _ _) (bal _ _))
  have hX := rowL (rowL (heap_alloc_new w (.cells #[.slice (some ⟨b, off, none⟩) L.length cv, .int .i64 x1, .int .i64 x2, .int .i64 x3, .int .i64 x4, .bool x5] 30)) (bal (w.alloc (.cells #[.slice (some ⟨b, off, none⟩) L.length cv, .int .i64 x1, .int .i64 x2, .int .i64 x3, .int .i64 x4, .bool x5] 30)) (.cells #[.int .i64 5, .string nm, .string dt, .int .i64 sz] 59))) (bal ((w.alloc (.cells #[.slice (some ⟨b, off, none⟩) L.length cv, .int .i64 x1, .int .i64 x2, .int .i64 x3, .int .i64 x4, .bool x5] 30)).alloc (.cells #[.int .i64 5, .string nm, .string dt, .int .i64 sz] 59)) (.cells #[.slice none 0 0, .int .i64 0, .int .i64 0, .int .i64 0, .int .i64 0, .bool false] 30))
  have hP := heap_alloc_new (w.alloc (.cells #[.slice (some ⟨b, off, none⟩) L.length cv, .int .i64 x1, .int .i64 x2, .int .i64 x3, .int .i64 x4, .bool x5] 30)) (.cells #[.int .i64 5, .string nm, .string dt, .int .i64 sz] 59)
  rw [World.size_alloc] at hP
  replace hP := rowL hP (bal ((w.alloc (.cells #[.slice (some ⟨b, off, none⟩) L.length cv, .int .i64 x1, .int .i64 x2, .int .i64 x3, .int .i64 x4, .bool x5] 30)).alloc (.cells #[.int .i64 5, .string nm, .string dt, .int .i64 sz] 59)) (.cells #[.slice none 0 0, .int .i64 0, .int .i64 0, .int .i64 0, .int .i64 0, .bool false] 30))
  have hR := heap_alloc_new ((w.alloc (.cells #[.slice (some ⟨b, off, none⟩) L.length cv, .int .i64 x1, .int .i64 x2, .int .i64 x3, .int .i64 x4, .bool x5] 30)).alloc (.cells #[.int .i64 5, .string nm, .string dt, .int .i64 sz] 59)) (.cells #[.slice none 0 0, .int .i64 0, .int .i64 0, .int .i64 0, .int .i64 0, .bool false] 30)
  have hs2 : ((w.alloc (.cells #[.slice (some ⟨b, off, none⟩) L.length cv, .int .i64 x1, .int .i64 x2, .int .i64 x3, .int .i64 x4, .bool x5] 30)).alloc (.cells #[.int .i64 5, .string nm, .string dt, .int .i64 sz] 59)).heap.size = w.heap.size + 1 + 1 := by simp
  rw [hs2] at hR
  have hn := hF.sm.n
  have hk := fd_lt hr
  have h5 : (k : Int) < L.length := by omega
  have h6 : ¬ (k : Int) < 0 := by omega
  have h7 : (0 : Int) ≤ (k : Int) := by omega
  have h8 : (k : Int).toNat = k := by omega
  obtain ⟨LR, hLR⟩ : ∃ LR, wth nm ⟨⟨#[]⟩, ⟨#[]⟩, 0⟩ L true = LR := ⟨_, rfl⟩
  have hdo : doS L x1 5 nm dt sz (k : Int) = (LR, 0) := by
    rw [← hLR]
    simp [doS, h6]
  have hLR2 : wth nm ⟨⟨#[]⟩, ⟨#[]⟩, 0⟩ L (decide ((⟨#[]⟩ : ByteArray).size = 0)) = LR := hLR
  replace hLR := hLR2
  rw [hdo]
  clear hdo
  go_enter Tryd.func53, Tryd.ntmps53
  go_upto_region 30 with (first | (go_at_call 94; refine (sFind (some ⟨b, off, none⟩) L.length cv (nthF L) x1 x2 x3 x4 x5 nm _ (hfl.later hb0) hn).mono ?_; rintro e w1 ⟨r', rfl, hr', hb1⟩; obtain rfl : r' = (k : Int) := fd_same hr' hr; have hX1 := rowL hX hb1; have hP1 := rowL hP hb1; have hR1 := rowL hR hb1; obtain ⟨xc0, xc1, xc2, xc3, xc4, xc5⟩ := B6.of hX1; obtain ⟨xf0, xf1, xf2, xf3, xf4, xf5⟩ := F6.of hX1; have pc0 : w1.cell? ⟨w.heap.size + 1, 0, none⟩ = some (.int .i64 5) := (cell_of_row _ _ 0 _ _ _ hP1).trans rfl; have pc1 : w1.cell? ⟨w.heap.size + 1, 1, none⟩ = some (.string nm) := (cell_of_row _ _ 1 _ _ _ hP1).trans rfl; have pc2 : w1.cell? ⟨w.heap.size + 1, 2, none⟩ = some (.string dt) := (cell_of_row _ _ 2 _ _ _ hP1).trans rfl; have pc3 : w1.cell? ⟨w.heap.size + 1, 3, none⟩ = some (.int .i64 sz) := (cell_of_row _ _ 3 _ _ _ hP1).trans rfl; obtain ⟨rc0, rc1, rc2, rc3, rc4, rc5⟩ := B6.of hR1; obtain ⟨rf0, rf1, rf2, rf3, rf4, rf5⟩ := F6.of hR1; obtain ⟨b', off', e', c0, c1, c2⟩ := hfl.later (bstep hb0 hb1) k hk; obtain ⟨rfl, rfl⟩ : b = b' ∧ off = off' := (by simpa using e'); have pa0 : ∀ o, (w1.alloc o).cell? ⟨w.heap.size + 1, 0, none⟩ = some (.int .i64 5) := fun o => keepB (bal w1 o) pc0; have pa1 : ∀ o, (w1.alloc o).cell? ⟨w.heap.size + 1, 1, none⟩ = some (.string nm) := fun o => keepB (bal w1 o) pc1; have pa2 : ∀ o, (w1.alloc o).cell? ⟨w.heap.size + 1, 2, none⟩ = some (.string dt) := fun o => keepB (bal w1 o) pc2; have pa3 : ∀ o, (w1.alloc o).cell? ⟨w.heap.size + 1, 3, none⟩ = some (.int .i64 sz) := fun o => keepB (bal w1 o) pc3; have xa0 : ∀ o, (w1.alloc o).cell? ⟨w.heap.size, 0, none⟩ = some (.slice (some ⟨b, off, none⟩) L.length cv) := fun o => keepB (bal w1 o) xc0; have xa1 : ∀ o, (w1.alloc o).cell? ⟨w.heap.size, 1, none⟩ = some (.int .i64 x1) := fun o => keepB (bal w1 o) xc1; have xa2 : ∀ o, (w1.alloc o).cell? ⟨w.heap.size, 2, none⟩ = some (.int .i64 x2) := fun o => keepB (bal w1 o) xc2; have xa3 : ∀ o, (w1.alloc o).cell? ⟨w.heap.size, 3, none⟩ = some (.int .i64 x3) := fun o => keepB (bal w1 o) xc3; have xa4 : ∀ o, (w1.alloc o).cell? ⟨w.heap.size, 4, none⟩ = some (.int .i64 x4) := fun o => keepB (bal w1 o) xc4; have xa5 : ∀ o, (w1.alloc o).cell? ⟨w.heap.size, 5, none⟩ = some (.bool x5) := fun o => keepB (bal w1 o) xc5) | (go_at_call 95; refine (sWith (some ⟨b, off, none⟩) cv L nm ⟨⟨#[]⟩, ⟨#[]⟩, 0⟩ _ (hfl.later (bstep hb0 (bstep hb1 (bal w1 _)))) hn).mono ?_; rw [hLR]; rintro e wb ⟨g2, cap2, rfl, hO2, hb2⟩; replace hO2 := wk_l hO2 (Nat.le_trans hBo (Below.size (bstep hb0 (bstep hb1 (bal w1 _))))); have hbw := bstep (bstep hb0 (bstep hb1 (bal w1 _))) hb2; have hXb := rowL (rowL hX1 (bal w1 _)) hb2; have hRb := rowL (rowL hR1 (bal w1 _)) hb2; have bc0 : wb.cell? ⟨w.heap.size, 0, none⟩ = some (.slice (some ⟨b, off, none⟩) L.length cv) := (cell_of_row _ _ 0 _ _ _ hXb).trans rfl; have bf0 : wb.frozen? ⟨w.heap.size, 0, none⟩ = false := frozen_of_row _ _ 0 _ _ hXb))
  have hX3 : (wb.setCell ⟨w.heap.size, 0, none⟩ (.slice (some ⟨g2, 0, none⟩) LR.length cap2)).heap[w.heap.size]? = some (.cells #[.slice (some ⟨g2, 0, none⟩) LR.length cap2, .int .i64 x1, .int .i64 x2, .int .i64 x3, .int .i64 x4, .bool x5] 30 (0, 0)) := heap_setCell_same _ _ 0 _ _ _ hXb
  have hR3 := rowO (B := w.heap.size) (i := 0) (v := .slice (some ⟨g2, 0, none⟩) LR.length cap2) hRb (by omega)
  have hO3 : OwnL (wb.setCell ⟨w.heap.size, 0, none⟩ (.slice (some ⟨g2, 0, none⟩) LR.length cap2)) Bo (.slice (some ⟨g2, 0, none⟩) LR.length cap2) LR := keep1 hO2 hXb
  have hb3 : Below w.heap.size w (wb.setCell ⟨w.heap.size, 0, none⟩ (.slice (some ⟨g2, 0, none⟩) LR.length cap2)) := bset hbw (Nat.le_refl _)
  obtain ⟨W3, hW3⟩ : ∃ W3, wb.setCell ⟨w.heap.size, 0, none⟩ (.slice (some ⟨g2, 0, none⟩) LR.length cap2) = W3 := ⟨_, rfl⟩
  rw [hW3] at hX3 hR3 hO3 hb3 ⊢
  clear hW3 xc0 xf0 xc1 xf1 xc2 xf2 xc3 xf3 xc4 xf4 xc5 xf5 pc0 pc1 pc2 pc3 rc0 rf0 rc1 rf1 rc2 rf2 rc3 rf3 rc4 rf4 rc5 rf5 pa0 pa1 pa2 pa3 xa0 xa1 xa2 xa3 xa4 xa5 c0 c1 c2 bc0 bf0
  obtain ⟨qc0, qc1, qc2, qc3, qc4, qc5⟩ := B6.of hX3
  obtain ⟨sc0, sc1, sc2, sc3, sc4, sc5⟩ := B6.of hR3
  obtain ⟨sf0, sf1, sf2, sf3, sf4, sf5⟩ := F6.of hR3
  go_wp2
  refine bodyPost_ret (results_cell_tmp Tryd.results53 _ _ (w.heap.size + 1 + 1) 30 _ (0, 0) _ rfl (set6_row _ _ _ _ _ _ hR3) Tryd.underlying30 rfl (by kernel_rfl)) rfl ⟨_, _, _, rfl, ?_, set6_below _ _ _ _ _ _ hb3 (by omega)⟩
  exact keep6 hO3 hR3
theorem fd_s {L : List Fil} {nm : ByteArray} {k : Nat} (h : FdAt L nm (k : Int)) : (nthF L k).s = nm := by
  rcases h with ⟨e, _⟩ | ⟨k', hk', e, h1, _⟩
  · omega
  · obtain rfl : k = k' := by omega
    exact h1
set_option maxRecDepth 20000 in
set_option maxHeartbeats 8000000 in
theorem sDo3 (Bo : Nat) (b off : Nat) (n cv : Nat) (L : List Fil) (hLn : L.length = n) (x1 x2 x3 x4 : Int) (x5 : Bool) (nm dt : ByteArray) (sz : Int) (k : Nat) (w : World) (hO : OwnL w Bo (.slice (some ⟨b, off, none⟩) n cv) L) (hBo : Bo ≤ w.heap.size) (hF : Fit L x1 3 nm dt) (hr : FdAt L nm (k : Int)) :
    Calls Tryd.prog 53 #[.agg #[.slice (some ⟨b, off, none⟩) n cv, .int .i64 x1, .int .i64 x2, .int .i64 x3, .int .i64 x4, .bool x5], .agg #[.int .i64 3, .string nm, .string dt, .int .i64 sz]] w fun e w' => Done w w' Bo (doS L x1 3 nm dt sz (k : Int)).1 x1 x2 x3 x4 x5 (doS L x1 3 nm dt sz (k : Int)).2 e := by
  subst hLn
  have hfl := hO.f.fl
  have hb0 : Below w.heap.size w (((w.alloc (.cells #[.slice (some ⟨b, off, none⟩) L.length cv, .int .i64 x1, .int .i64 x2, .int .i64 x3, .int .i64 x4, .bool x5] 30)).alloc (.cells #[.int .i64 3, .string nm, .string dt, .int .i64 sz] 59)).alloc (.cells #[.slice none 0 0, .int .i64 0, .int .i64 0, .int .i64 0, .int .i64 0, .bool false] 30)) := bstep (bal _ _) (bstep (bal _ _) (bal _ _))
  have hX := rowL (rowL (heap_alloc_new w (.cells #[.slice (some ⟨b, off, none⟩) L.length cv, .int .i64 x1, .int .i64 x2, .int .i64 x3, .int .i64 x4, .bool x5] 30)) (bal (w.alloc (.cells #[.slice (some ⟨b, off, none⟩) L.length cv, .int .i64 x1, .int .i64 x2, .int .i64 x3, .int .i64 x4, .bool x5] 30)) (.cells #[.int .i64 3, .string nm, .string dt, .int .i64 sz] 59))) (bal ((w.alloc (.cells #[.slice (some ⟨b, off, none⟩) L.length cv, .int .i64 x1, .int .i64 x2, .int .i64 x3, .int .i64 x4, .bool x5] 30)).alloc (.cells #[.int .i64 3, .string nm, .string dt, .int .i64 sz] 59)) (.cells #[.slice none 0 0, .int .i64 0, .int .i64 0, .int .i64 0, .int .i64 0, .bool false] 30))
  have hP := heap_alloc_new (w.alloc (.cells #[.slice (some ⟨b, off, none⟩) L.length cv, .int .i64 x1, .int .i64 x2, .int .i64 x3, .int .i64 x4, .bool x5] 30)) (.cells #[.int .i64 3, .string nm, .string dt, .int .i64 sz] 59)
  rw [World.size_alloc] at hP
  replace hP := rowL hP (bal ((w.alloc (.cells #[.slice (some ⟨b, off, none⟩) L.length cv, .int .i64 x1, .int .i64 x2, .int .i64 x3, .int .i64 x4, .bool x5] 30)).alloc (.cells #[.int .i64 3, .string nm, .string dt, .int .i64 sz] 59)) (.cells #[.slice none 0 0, .int .i64 0, .int .i64 0, .int .i64 0, .int .i64 0, .bool false] 30))
  have hR := heap_alloc_new ((w.alloc (.cells #[.slice (some ⟨b, off, none⟩) L.length cv, .int .i64 x1, .int .i64 x2, .int .i64 x3, .int .i64 x4, .bool x5] 30)).alloc (.cells #[.int .i64 3, .string nm, .string dt, .int .i64 sz] 59)) (.cells #[.slice none 0 0, .int .i64 0, .int .i64 0, .int .i64 0, .int .i64 0, .bool false] 30)
  have hs2 : ((w.alloc (.cells #[.slice (some ⟨b, off, none⟩) L.length cv, .int .i64 x1, .int .i64 x2, .int .i64 x3, .int .i64 x4, .bool x5] 30)).alloc (.cells #[.int .i64 3, .string nm, .string dt, .int .i64 sz] 59)).heap.size = w.heap.size + 1 + 1 := by simp
  rw [hs2] at hR
  have hn := hF.sm.n
  have hk := fd_lt hr
  have h5 : (k : Int) < L.length := by omega
  have h6 : ¬ (k : Int) < 0 := by omega
  have h7 : (0 : Int) ≤ (k : Int) := by omega
  have h8 : (k : Int).toNat = k := by omega
  have h9 : decide ((nthF L k).s.size = 0) = false := by rw [fd_s hr]; simp [hF.nm0]
  obtain ⟨LR, hLR⟩ : ∃ LR, wth nm ⟨(nthF L k).s, (nthF L k).d, ((nthF L k).d.size : Int)⟩ L false = LR := ⟨_, rfl⟩
  have hdo : doS L x1 3 nm dt sz (k : Int) = (LR, 0) := by
    rw [← hLR]
    simp [doS, h6, h8]
  have hLR2 : wth nm ⟨(nthF L k).s, (nthF L k).d, ((nthF L k).d.size : Int)⟩ L (decide ((nthF L k).s.size = 0)) = LR := by rw [h9]; exact hLR
  clear hLR
  have hLR := hLR2
  clear hLR2 h9
  rw [hdo]
  clear hdo
  go_enter Tryd.func53, Tryd.ntmps53
  go_upto_region 32 with (first | (go_at_call 94; refine (sFind (some ⟨b, off, none⟩) L.length cv (nthF L) x1 x2 x3 x4 x5 nm _ (hfl.later hb0) hn).mono ?_; rintro e w1 ⟨r', rfl, hr', hb1⟩; obtain rfl : r' = (k : Int) := fd_same hr' hr; have hX1 := rowL hX hb1; have hP1 := rowL hP hb1; have hR1 := rowL hR hb1; obtain ⟨xc0, xc1, xc2, xc3, xc4, xc5⟩ := B6.of hX1; obtain ⟨xf0, xf1, xf2, xf3, xf4, xf5⟩ := F6.of hX1; have pc0 : w1.cell? ⟨w.heap.size + 1, 0, none⟩ = some (.int .i64 3) := (cell_of_row _ _ 0 _ _ _ hP1).trans rfl; have pc1 : w1.cell? ⟨w.heap.size + 1, 1, none⟩ = some (.string nm) := (cell_of_row _ _ 1 _ _ _ hP1).trans rfl; have pc2 : w1.cell? ⟨w.heap.size + 1, 2, none⟩ = some (.string dt) := (cell_of_row _ _ 2 _ _ _ hP1).trans rfl; have pc3 : w1.cell? ⟨w.heap.size + 1, 3, none⟩ = some (.int .i64 sz) := (cell_of_row _ _ 3 _ _ _ hP1).trans rfl; obtain ⟨rc0, rc1, rc2, rc3, rc4, rc5⟩ := B6.of hR1; obtain ⟨rf0, rf1, rf2, rf3, rf4, rf5⟩ := F6.of hR1; obtain ⟨b', off', e', c0, c1, c2⟩ := hfl.later (bstep hb0 hb1) k hk; obtain ⟨rfl, rfl⟩ : b = b' ∧ off = off' := (by simpa using e'); have pa0 : ∀ o, (w1.alloc o).cell? ⟨w.heap.size + 1, 0, none⟩ = some (.int .i64 3) := fun o => keepB (bal w1 o) pc0; have pa1 : ∀ o, (w1.alloc o).cell? ⟨w.heap.size + 1, 1, none⟩ = some (.string nm) := fun o => keepB (bal w1 o) pc1; have pa2 : ∀ o, (w1.alloc o).cell? ⟨w.heap.size + 1, 2, none⟩ = some (.string dt) := fun o => keepB (bal w1 o) pc2; have pa3 : ∀ o, (w1.alloc o).cell? ⟨w.heap.size + 1, 3, none⟩ = some (.int .i64 sz) := fun o => keepB (bal w1 o) pc3; have xa0 : ∀ o, (w1.alloc o).cell? ⟨w.heap.size, 0, none⟩ = some (.slice (some ⟨b, off, none⟩) L.length cv) := fun o => keepB (bal w1 o) xc0; have xa1 : ∀ o, (w1.alloc o).cell? ⟨w.heap.size, 1, none⟩ = some (.int .i64 x1) := fun o => keepB (bal w1 o) xc1; have xa2 : ∀ o, (w1.alloc o).cell? ⟨w.heap.size, 2, none⟩ = some (.int .i64 x2) := fun o => keepB (bal w1 o) xc2; have xa3 : ∀ o, (w1.alloc o).cell? ⟨w.heap.size, 3, none⟩ = some (.int .i64 x3) := fun o => keepB (bal w1 o) xc3; have xa4 : ∀ o, (w1.alloc o).cell? ⟨w.heap.size, 4, none⟩ = some (.int .i64 x4) := fun o => keepB (bal w1 o) xc4; have xa5 : ∀ o, (w1.alloc o).cell? ⟨w.heap.size, 5, none⟩ = some (.bool x5) := fun o => keepB (bal w1 o) xc5) | (go_at_call 95; refine (sWith (some ⟨b, off, none⟩) cv L nm ⟨(nthF L k).s, (nthF L k).d, ((nthF L k).d.size : Int)⟩ _ (hfl.later (bstep hb0 (bstep hb1 (bal w1 _)))) hn).mono ?_; rw [hLR]; rintro e wb ⟨g2, cap2, rfl, hO2, hb2⟩; replace hO2 := wk_l hO2 (Nat.le_trans hBo (Below.size (bstep hb0 (bstep hb1 (bal w1 _))))); have hbw := bstep (bstep hb0 (bstep hb1 (bal w1 _))) hb2; have hXb := rowL (rowL hX1 (bal w1 _)) hb2; have hRb := rowL (rowL hR1 (bal w1 _)) hb2; have bc0 : wb.cell? ⟨w.heap.size, 0, none⟩ = some (.slice (some ⟨b, off, none⟩) L.length cv) := (cell_of_row _ _ 0 _ _ _ hXb).trans rfl; have bf0 : wb.frozen? ⟨w.heap.size, 0, none⟩ = false := frozen_of_row _ _ 0 _ _ hXb))
  have hX3 : (wb.setCell ⟨w.heap.size, 0, none⟩ (.slice (some ⟨g2, 0, none⟩) LR.length cap2)).heap[w.heap.size]? = some (.cells #[.slice (some ⟨g2, 0, none⟩) LR.length cap2, .int .i64 x1, .int .i64 x2, .int .i64 x3, .int .i64 x4, .bool x5] 30 (0, 0)) := heap_setCell_same _ _ 0 _ _ _ hXb
  have hR3 := rowO (B := w.heap.size) (i := 0) (v := .slice (some ⟨g2, 0, none⟩) LR.length cap2) hRb (by omega)
  have hO3 : OwnL (wb.setCell ⟨w.heap.size, 0, none⟩ (.slice (some ⟨g2, 0, none⟩) LR.length cap2)) Bo (.slice (some ⟨g2, 0, none⟩) LR.length cap2) LR := keep1 hO2 hXb
  have hb3 : Below w.heap.size w (wb.setCell ⟨w.heap.size, 0, none⟩ (.slice (some ⟨g2, 0, none⟩) LR.length cap2)) := bset hbw (Nat.le_refl _)
  obtain ⟨W3, hW3⟩ : ∃ W3, wb.setCell ⟨w.heap.size, 0, none⟩ (.slice (some ⟨g2, 0, none⟩) LR.length cap2) = W3 := ⟨_, rfl⟩
  rw [hW3] at hX3 hR3 hO3 hb3 ⊢
  clear hW3 xc0 xf0 xc1 xf1 xc2 xf2 xc3 xf3 xc4 xf4 xc5 xf5 pc0 pc1 pc2 pc3 rc0 rf0 rc1 rf1 rc2 rf2 rc3 rf3 rc4 rf4 rc5 rf5 pa0 pa1 pa2 pa3 xa0 xa1 xa2 xa3 xa4 xa5 c0 c1 c2 bc0 bf0
  obtain ⟨qc0, qc1, qc2, qc3, qc4, qc5⟩ := B6.of hX3
  obtain ⟨sc0, sc1, sc2, sc3, sc4, sc5⟩ := B6.of hR3
  obtain ⟨sf0, sf1, sf2, sf3, sf4, sf5⟩ := F6.of hR3
  go_wp2
  refine bodyPost_ret (results_cell_tmp Tryd.results53 _ _ (w.heap.size + 1 + 1) 30 _ (0, 0) _ rfl (set6_row _ _ _ _ _ _ hR3) Tryd.underlying30 rfl (by kernel_rfl)) rfl ⟨_, _, _, rfl, ?_, set6_below _ _ _ _ _ _ hb3 (by omega)⟩
  exact keep6 hO3 hR3
set_option maxRecDepth 20000 in
set_option maxHeartbeats 8000000 in
theorem sDo4 (Bo : Nat) (b off : Nat) (n cv : Nat) (L : List Fil) (hLn : L.length = n) (x1 x2 x3 x4 : Int) (x5 : Bool) (nm dt : ByteArray) (sz : Int) (k : Nat) (w : World) (hO : OwnL w Bo (.slice (some ⟨b, off, none⟩) n cv) L) (hBo : Bo ≤ w.heap.size) (hF : Fit L x1 4 nm dt) (hr : FdAt L nm (k : Int)) (hbt : btw sz 0 (nthF L k).d.size = true) :
    Calls Tryd.prog 53 #[.agg #[.slice (some ⟨b, off, none⟩) n cv, .int .i64 x1, .int .i64 x2, .int .i64 x3, .int .i64 x4, .bool x5], .agg #[.int .i64 4, .string nm, .string dt, .int .i64 sz]] w fun e w' => Done w w' Bo (doS L x1 4 nm dt sz (k : Int)).1 x1 x2 x3 x4 x5 (doS L x1 4 nm dt sz (k : Int)).2 e := by
  subst hLn
  have hfl := hO.f.fl
  have hb0 : Below w.heap.size w (((w.alloc (.cells #[.slice (some ⟨b, off, none⟩) L.length cv, .int .i64 x1, .int .i64 x2, .int .i64 x3, .int .i64 x4, .bool x5] 30)).alloc (.cells #[.int .i64 4, .string nm, .string dt, .int .i64 sz] 59)).alloc (.cells #[.slice none 0 0, .int .i64 0, .int .i64 0, .int .i64 0, .int .i64 0, .bool false] 30)) := bstep (bal _ _) (bstep (bal _ _) (bal _ _))
  have hX := rowL (rowL (heap_alloc_new w (.cells #[.slice (some ⟨b, off, none⟩) L.length cv, .int .i64 x1, .int .i64 x2, .int .i64 x3, .int .i64 x4, .bool x5] 30)) (bal (w.alloc (.cells #[.slice (some ⟨b, off, none⟩) L.length cv, .int .i64 x1, .int .i64 x2, .int .i64 x3, .int .i64 x4, .bool x5] 30)) (.cells #[.int .i64 4, .string nm, .string dt, .int .i64 sz] 59))) (bal ((w.alloc (.cells #[.slice (some ⟨b, off, none⟩) L.length cv, .int .i64 x1, .int .i64 x2, .int .i64 x3, .int .i64 x4, .bool x5] 30)).alloc (.cells #[.int .i64 4, .string nm, .string dt, .int .i64 sz] 59)) (.cells #[.slice none 0 0, .int .i64 0, .int .i64 0, .int .i64 0, .int .i64 0, .bool false] 30))
  have hP := heap_alloc_new (w.alloc (.cells #[.slice (some ⟨b, off, none⟩) L.length cv, .int .i64 x1, .int .i64 x2, .int .i64 x3, .int .i64 x4, .bool x5] 30)) (.cells #[.int .i64 4, .string nm, .string dt, .int .i64 sz] 59)
  rw [World.size_alloc] at hP
  replace hP := rowL hP (bal ((w.alloc (.cells #[.slice (some ⟨b, off, none⟩) L.length cv, .int .i64 x1, .int .i64 x2, .int .i64 x3, .int .i64 x4, .bool x5] 30)).alloc (.cells #[.int .i64 4, .string nm, .string dt, .int .i64 sz] 59)) (.cells #[.slice none 0 0, .int .i64 0, .int .i64 0, .int .i64 0, .int .i64 0, .bool false] 30))
  have hR := heap_alloc_new ((w.alloc (.cells #[.slice (some ⟨b, off, none⟩) L.length cv, .int .i64 x1, .int .i64 x2, .int .i64 x3, .int .i64 x4, .bool x5] 30)).alloc (.cells #[.int .i64 4, .string nm, .string dt, .int .i64 sz] 59)) (.cells #[.slice none 0 0, .int .i64 0, .int .i64 0, .int .i64 0, .int .i64 0, .bool false] 30)
  have hs2 : ((w.alloc (.cells #[.slice (some ⟨b, off, none⟩) L.length cv, .int .i64 x1, .int .i64 x2, .int .i64 x3, .int .i64 x4, .bool x5] 30)).alloc (.cells #[.int .i64 4, .string nm, .string dt, .int .i64 sz] 59)).heap.size = w.heap.size + 1 + 1 := by simp
  rw [hs2] at hR
  have hn := hF.sm.n
  have hk := fd_lt hr
  have h5 : (k : Int) < L.length := by omega
  have h6 : ¬ (k : Int) < 0 := by omega
  have h7 : (0 : Int) ≤ (k : Int) := by omega
  have h8 : (k : Int).toNat = k := by omega
  have h9 : decide ((nthF L k).s.size = 0) = false := by rw [fd_s hr]; simp [hF.nm0]
  have z0 : (0 : Int) ≤ sz := by simp [btw] at hbt; omega
  have z1 : sz ≤ ((nthF L k).d.size : Int) := by simp [btw] at hbt; omega
  obtain ⟨LR, hLR⟩ : ∃ LR, wth nm ⟨(nthF L k).s, (nthF L k).d.extract 0 sz.toNat, sz⟩ L false = LR := ⟨_, rfl⟩
  have hdo : doS L x1 4 nm dt sz (k : Int) = (LR, 0) := by
    rw [← hLR]
    simp [doS, h6, h8, hbt]
  have hLR2 : wth nm ⟨(nthF L k).s, (nthF L k).d.extract 0 sz.toNat, sz⟩ L (decide ((nthF L k).s.size = 0)) = LR := by rw [h9]; exact hLR
  clear hLR
  have hLR := hLR2
  clear hLR2 h9
  rw [hdo]
  clear hdo
  go_enter Tryd.func53, Tryd.ntmps53
  go_upto_region 32 with (first | (go_at_call 94; refine (sFind (some ⟨b, off, none⟩) L.length cv (nthF L) x1 x2 x3 x4 x5 nm _ (hfl.later hb0) hn).mono ?_; rintro e w1 ⟨r', rfl, hr', hb1⟩; obtain rfl : r' = (k : Int) := fd_same hr' hr; have hX1 := rowL hX hb1; have hP1 := rowL hP hb1; have hR1 := rowL hR hb1; obtain ⟨xc0, xc1, xc2, xc3, xc4, xc5⟩ := B6.of hX1; obtain ⟨xf0, xf1, xf2, xf3, xf4, xf5⟩ := F6.of hX1; have pc0 : w1.cell? ⟨w.heap.size + 1, 0, none⟩ = some (.int .i64 4) := (cell_of_row _ _ 0 _ _ _ hP1).trans rfl; have pc1 : w1.cell? ⟨w.heap.size + 1, 1, none⟩ = some (.string nm) := (cell_of_row _ _ 1 _ _ _ hP1).trans rfl; have pc2 : w1.cell? ⟨w.heap.size + 1, 2, none⟩ = some (.string dt) := (cell_of_row _ _ 2 _ _ _ hP1).trans rfl; have pc3 : w1.cell? ⟨w.heap.size + 1, 3, none⟩ = some (.int .i64 sz) := (cell_of_row _ _ 3 _ _ _ hP1).trans rfl; obtain ⟨rc0, rc1, rc2, rc3, rc4, rc5⟩ := B6.of hR1; obtain ⟨rf0, rf1, rf2, rf3, rf4, rf5⟩ := F6.of hR1; obtain ⟨b', off', e', c0, c1, c2⟩ := hfl.later (bstep hb0 hb1) k hk; obtain ⟨rfl, rfl⟩ : b = b' ∧ off = off' := (by simpa using e'); have pa0 : ∀ o, (w1.alloc o).cell? ⟨w.heap.size + 1, 0, none⟩ = some (.int .i64 4) := fun o => keepB (bal w1 o) pc0; have pa1 : ∀ o, (w1.alloc o).cell? ⟨w.heap.size + 1, 1, none⟩ = some (.string nm) := fun o => keepB (bal w1 o) pc1; have pa2 : ∀ o, (w1.alloc o).cell? ⟨w.heap.size + 1, 2, none⟩ = some (.string dt) := fun o => keepB (bal w1 o) pc2; have pa3 : ∀ o, (w1.alloc o).cell? ⟨w.heap.size + 1, 3, none⟩ = some (.int .i64 sz) := fun o => keepB (bal w1 o) pc3; have xa0 : ∀ o, (w1.alloc o).cell? ⟨w.heap.size, 0, none⟩ = some (.slice (some ⟨b, off, none⟩) L.length cv) := fun o => keepB (bal w1 o) xc0; have xa1 : ∀ o, (w1.alloc o).cell? ⟨w.heap.size, 1, none⟩ = some (.int .i64 x1) := fun o => keepB (bal w1 o) xc1; have xa2 : ∀ o, (w1.alloc o).cell? ⟨w.heap.size, 2, none⟩ = some (.int .i64 x2) := fun o => keepB (bal w1 o) xc2; have xa3 : ∀ o, (w1.alloc o).cell? ⟨w.heap.size, 3, none⟩ = some (.int .i64 x3) := fun o => keepB (bal w1 o) xc3; have xa4 : ∀ o, (w1.alloc o).cell? ⟨w.heap.size, 4, none⟩ = some (.int .i64 x4) := fun o => keepB (bal w1 o) xc4; have xa5 : ∀ o, (w1.alloc o).cell? ⟨w.heap.size, 5, none⟩ = some (.bool x5) := fun o => keepB (bal w1 o) xc5) | (go_at_call 95; refine (sWith (some ⟨b, off, none⟩) cv L nm ⟨(nthF L k).s, (nthF L k).d.extract 0 sz.toNat, sz⟩ _ (hfl.later (bstep hb0 (bstep hb1 (bal w1 _)))) hn).mono ?_; rw [hLR]; rintro e wb ⟨g2, cap2, rfl, hO2, hb2⟩; replace hO2 := wk_l hO2 (Nat.le_trans hBo (Below.size (bstep hb0 (bstep hb1 (bal w1 _))))); have hbw := bstep (bstep hb0 (bstep hb1 (bal w1 _))) hb2; have hXb := rowL (rowL hX1 (bal w1 _)) hb2; have hRb := rowL (rowL hR1 (bal w1 _)) hb2; have bc0 : wb.cell? ⟨w.heap.size, 0, none⟩ = some (.slice (some ⟨b, off, none⟩) L.length cv) := (cell_of_row _ _ 0 _ _ _ hXb).trans rfl; have bf0 : wb.frozen? ⟨w.heap.size, 0, none⟩ = false := frozen_of_row _ _ 0 _ _ hXb) | (go_at_call 21; refine (sBetween sz 0 (nthF L k).d.size _).mono ?_; rw [hbt]; rintro e w5 ⟨rfl, rfl⟩))
  have hX3 : (wb.setCell ⟨w.heap.size, 0, none⟩ (.slice (some ⟨g2, 0, none⟩) LR.length cap2)).heap[w.heap.size]? = some (.cells #[.slice (some ⟨g2, 0, none⟩) LR.length cap2, .int .i64 x1, .int .i64 x2, .int .i64 x3, .int .i64 x4, .bool x5] 30 (0, 0)) := heap_setCell_same _ _ 0 _ _ _ hXb
  have hR3 := rowO (B := w.heap.size) (i := 0) (v := .slice (some ⟨g2, 0, none⟩) LR.length cap2) hRb (by omega)
  have hO3 : OwnL (wb.setCell ⟨w.heap.size, 0, none⟩ (.slice (some ⟨g2, 0, none⟩) LR.length cap2)) Bo (.slice (some ⟨g2, 0, none⟩) LR.length cap2) LR := keep1 hO2 hXb
  have hb3 : Below w.heap.size w (wb.setCell ⟨w.heap.size, 0, none⟩ (.slice (some ⟨g2, 0, none⟩) LR.length cap2)) := bset hbw (Nat.le_refl _)
  obtain ⟨W3, hW3⟩ : ∃ W3, wb.setCell ⟨w.heap.size, 0, none⟩ (.slice (some ⟨g2, 0, none⟩) LR.length cap2) = W3 := ⟨_, rfl⟩
  rw [hW3] at hX3 hR3 hO3 hb3 ⊢
  clear hW3 xc0 xf0 xc1 xf1 xc2 xf2 xc3 xf3 xc4 xf4 xc5 xf5 pc0 pc1 pc2 pc3 rc0 rf0 rc1 rf1 rc2 rf2 rc3 rf3 rc4 rf4 rc5 rf5 pa0 pa1 pa2 pa3 xa0 xa1 xa2 xa3 xa4 xa5 c0 c1 c2 bc0 bf0
  obtain ⟨qc0, qc1, qc2, qc3, qc4, qc5⟩ := B6.of hX3
  obtain ⟨sc0, sc1, sc2, sc3, sc4, sc5⟩ := B6.of hR3
  obtain ⟨sf0, sf1, sf2, sf3, sf4, sf5⟩ := F6.of hR3
  go_wp2
  refine bodyPost_ret (results_cell_tmp Tryd.results53 _ _ (w.heap.size + 1 + 1) 30 _ (0, 0) _ rfl (set6_row _ _ _ _ _ _ hR3) Tryd.underlying30 rfl (by kernel_rfl)) rfl ⟨_, _, _, rfl, ?_, set6_below _ _ _ _ _ _ hb3 (by omega)⟩
  exact keep6 hO3 hR3
set_option maxRecDepth 20000 in
set_option maxHeartbeats 8000000 in
theorem sDo4b (Bo : Nat) (b off : Nat) (n cv : Nat) (L : List Fil) (hLn : L.length = n) (x1 x2 x3 x4 : Int) (x5 : Bool) (nm dt : ByteArray) (sz : Int) (k : Nat) (w : World) (hO : OwnL w Bo (.slice (some ⟨b, off, none⟩) n cv) L) (_hBo : Bo ≤ w.heap.size) (hF : Fit L x1 4 nm dt) (hr : FdAt L nm (k : Int)) (hbt : btw sz 0 (nthF L k).d.size = false) :
    Calls Tryd.prog 53 #[.agg #[.slice (some ⟨b, off, none⟩) n cv, .int .i64 x1, .int .i64 x2, .int .i64 x3, .int .i64 x4, .bool x5], .agg #[.int .i64 4, .string nm, .string dt, .int .i64 sz]] w fun e w' => Done w w' Bo (doS L x1 4 nm dt sz (k : Int)).1 x1 x2 x3 x4 x5 (doS L x1 4 nm dt sz (k : Int)).2 e := by
  subst hLn
  have hfl := hO.f.fl
  have hb0 : Below w.heap.size w (((w.alloc (.cells #[.slice (some ⟨b, off, none⟩) L.length cv, .int .i64 x1, .int .i64 x2, .int .i64 x3, .int .i64 x4, .bool x5] 30)).alloc (.cells #[.int .i64 4, .string nm, .string dt, .int .i64 sz] 59)).alloc (.cells #[.slice none 0 0, .int .i64 0, .int .i64 0, .int .i64 0, .int .i64 0, .bool false] 30)) := bstep (bal _ _) (bstep (bal _ _) (bal _ _))
  have hX := rowL (rowL (heap_alloc_new w (.cells #[.slice (some ⟨b, off, none⟩) L.length cv, .int .i64 x1, .int .i64 x2, .int .i64 x3, .int .i64 x4, .bool x5] 30)) (bal (w.alloc (.cells #[.slice (some ⟨b, off, none⟩) L.length cv, .int .i64 x1, .int .i64 x2, .int .i64 x3, .int .i64 x4, .bool x5] 30)) (.cells #[.int .i64 4, .string nm, .string dt, .int .i64 sz] 59))) (bal ((w.alloc (.cells #[.slice (some ⟨b, off, none⟩) L.length cv, .int .i64 x1, .int .i64 x2, .int .i64 x3, .int .i64 x4, .bool x5] 30)).alloc (.cells #[.int .i64 4, .string nm, .string dt, .int .i64 sz] 59)) (.cells #[.slice none 0 0, .int .i64 0, .int .i64 0, .int .i64 0, .int .i64 0, .bool false] 30))
  have hP := heap_alloc_new (w.alloc (.cells #[.slice (some ⟨b, off, none⟩) L.length cv, .int .i64 x1, .int .i64 x2, .int .i64 x3, .int .i64 x4, .bool x5] 30)) (.cells #[.int .i64 4, .string nm, .string dt, .int .i64 sz] 59)
  rw [World.size_alloc] at hP
  replace hP := rowL hP (bal ((w.alloc (.cells #[.slice (some ⟨b, off, none⟩) L.length cv, .int .i64 x1, .int .i64 x2, .int .i64 x3, .int .i64 x4, .bool x5] 30)).alloc (.cells #[.int .i64 4, .string nm, .string dt, .int .i64 sz] 59)) (.cells #[.slice none 0 0, .int .i64 0, .int .i64 0, .int .i64 0, .int .i64 0, .bool false] 30))
  have hR := heap_alloc_new ((w.alloc (.cells #[.slice (some ⟨b, off, none⟩) L.length cv, .int .i64 x1, .int .i64 x2, .int .i64 x3, .int .i64 x4, .bool x5] 30)).alloc (.cells #[.int .i64 4, .string nm, .string dt, .int .i64 sz] 59)) (.cells #[.slice none 0 0, .int .i64 0, .int .i64 0, .int .i64 0, .int .i64 0, .bool false] 30)
  have hs2 : ((w.alloc (.cells #[.slice (some ⟨b, off, none⟩) L.length cv, .int .i64 x1, .int .i64 x2, .int .i64 x3, .int .i64 x4, .bool x5] 30)).alloc (.cells #[.int .i64 4, .string nm, .string dt, .int .i64 sz] 59)).heap.size = w.heap.size + 1 + 1 := by simp
  rw [hs2] at hR
  have hn := hF.sm.n
  have hk := fd_lt hr
  have h5 : (k : Int) < L.length := by omega
  have h6 : ¬ (k : Int) < 0 := by omega
  have h7 : (0 : Int) ≤ (k : Int) := by omega
  have h8 : (k : Int).toNat = k := by omega
  have hdo : doS L x1 4 nm dt sz (k : Int) = (L, 16) := by simp [doS, h6, h8, hbt]
  rw [hdo]
  go_enter Tryd.func53, Tryd.ntmps53
  go_wp2_with (first | (go_at_call 94; refine (sFind (some ⟨b, off, none⟩) L.length cv (nthF L) x1 x2 x3 x4 x5 nm _ (hfl.later hb0) hn).mono ?_; rintro e w1 ⟨r', rfl, hr', hb1⟩; obtain rfl : r' = (k : Int) := fd_same hr' hr; have hX1 := rowL hX hb1; have hP1 := rowL hP hb1; have hR1 := rowL hR hb1; obtain ⟨xc0, xc1, xc2, xc3, xc4, xc5⟩ := B6.of hX1; obtain ⟨xf0, xf1, xf2, xf3, xf4, xf5⟩ := F6.of hX1; have pc0 : w1.cell? ⟨w.heap.size + 1, 0, none⟩ = some (.int .i64 4) := (cell_of_row _ _ 0 _ _ _ hP1).trans rfl; have pc1 : w1.cell? ⟨w.heap.size + 1, 1, none⟩ = some (.string nm) := (cell_of_row _ _ 1 _ _ _ hP1).trans rfl; have pc2 : w1.cell? ⟨w.heap.size + 1, 2, none⟩ = some (.string dt) := (cell_of_row _ _ 2 _ _ _ hP1).trans rfl; have pc3 : w1.cell? ⟨w.heap.size + 1, 3, none⟩ = some (.int .i64 sz) := (cell_of_row _ _ 3 _ _ _ hP1).trans rfl; obtain ⟨rc0, rc1, rc2, rc3, rc4, rc5⟩ := B6.of hR1; obtain ⟨rf0, rf1, rf2, rf3, rf4, rf5⟩ := F6.of hR1; obtain ⟨b', off', e', c0, c1, c2⟩ := hfl.later (bstep hb0 hb1) k hk; obtain ⟨rfl, rfl⟩ : b = b' ∧ off = off' := (by simpa using e'); have pa0 : ∀ o, (w1.alloc o).cell? ⟨w.heap.size + 1, 0, none⟩ = some (.int .i64 4) := fun o => keepB (bal w1 o) pc0; have pa1 : ∀ o, (w1.alloc o).cell? ⟨w.heap.size + 1, 1, none⟩ = some (.string nm) := fun o => keepB (bal w1 o) pc1; have pa2 : ∀ o, (w1.alloc o).cell? ⟨w.heap.size + 1, 2, none⟩ = some (.string dt) := fun o => keepB (bal w1 o) pc2; have pa3 : ∀ o, (w1.alloc o).cell? ⟨w.heap.size + 1, 3, none⟩ = some (.int .i64 sz) := fun o => keepB (bal w1 o) pc3; have xa0 : ∀ o, (w1.alloc o).cell? ⟨w.heap.size, 0, none⟩ = some (.slice (some ⟨b, off, none⟩) L.length cv) := fun o => keepB (bal w1 o) xc0; have xa1 : ∀ o, (w1.alloc o).cell? ⟨w.heap.size, 1, none⟩ = some (.int .i64 x1) := fun o => keepB (bal w1 o) xc1; have xa2 : ∀ o, (w1.alloc o).cell? ⟨w.heap.size, 2, none⟩ = some (.int .i64 x2) := fun o => keepB (bal w1 o) xc2; have xa3 : ∀ o, (w1.alloc o).cell? ⟨w.heap.size, 3, none⟩ = some (.int .i64 x3) := fun o => keepB (bal w1 o) xc3; have xa4 : ∀ o, (w1.alloc o).cell? ⟨w.heap.size, 4, none⟩ = some (.int .i64 x4) := fun o => keepB (bal w1 o) xc4; have xa5 : ∀ o, (w1.alloc o).cell? ⟨w.heap.size, 5, none⟩ = some (.bool x5) := fun o => keepB (bal w1 o) xc5; have ra0 : ∀ o, (w1.alloc o).cell? ⟨w.heap.size + 1 + 1, 0, none⟩ = some (.slice none 0 0) := fun o => keepB (bal w1 o) rc0; have rg0 : ∀ o, (w1.alloc o).frozen? ⟨w.heap.size + 1 + 1, 0, none⟩ = false := fun o => frozen_of_row _ _ 0 _ _ (rowL hR1 (bal w1 o)); have ra1 : ∀ o, (w1.alloc o).cell? ⟨w.heap.size + 1 + 1, 1, none⟩ = some (.int .i64 0) := fun o => keepB (bal w1 o) rc1; have rg1 : ∀ o, (w1.alloc o).frozen? ⟨w.heap.size + 1 + 1, 1, none⟩ = false := fun o => frozen_of_row _ _ 1 _ _ (rowL hR1 (bal w1 o)); have ra2 : ∀ o, (w1.alloc o).cell? ⟨w.heap.size + 1 + 1, 2, none⟩ = some (.int .i64 0) := fun o => keepB (bal w1 o) rc2; have rg2 : ∀ o, (w1.alloc o).frozen? ⟨w.heap.size + 1 + 1, 2, none⟩ = false := fun o => frozen_of_row _ _ 2 _ _ (rowL hR1 (bal w1 o)); have ra3 : ∀ o, (w1.alloc o).cell? ⟨w.heap.size + 1 + 1, 3, none⟩ = some (.int .i64 0) := fun o => keepB (bal w1 o) rc3; have rg3 : ∀ o, (w1.alloc o).frozen? ⟨w.heap.size + 1 + 1, 3, none⟩ = false := fun o => frozen_of_row _ _ 3 _ _ (rowL hR1 (bal w1 o)); have ra4 : ∀ o, (w1.alloc o).cell? ⟨w.heap.size + 1 + 1, 4, none⟩ = some (.int .i64 0) := fun o => keepB (bal w1 o) rc4; have rg4 : ∀ o, (w1.alloc o).frozen? ⟨w.heap.size + 1 + 1, 4, none⟩ = false := fun o => frozen_of_row _ _ 4 _ _ (rowL hR1 (bal w1 o)); have ra5 : ∀ o, (w1.alloc o).cell? ⟨w.heap.size + 1 + 1, 5, none⟩ = some (.bool false) := fun o => keepB (bal w1 o) rc5; have rg5 : ∀ o, (w1.alloc o).frozen? ⟨w.heap.size + 1 + 1, 5, none⟩ = false := fun o => frozen_of_row _ _ 5 _ _ (rowL hR1 (bal w1 o))) | (go_at_call 21; refine (sBetween sz 0 (nthF L k).d.size _).mono ?_; rw [hbt]; rintro e w5 ⟨rfl, rfl⟩))
  refine bodyPost_ret (results_cell_tmp Tryd.results53 _ _ (w.heap.size + 1 + 1) 30 _ (0, 0) _ rfl (set6_row _ _ _ _ _ _ (rowL hR1 (bal w1 _))) Tryd.underlying30 rfl (by kernel_rfl)) rfl ⟨_, _, _, rfl, ?_, set6_below _ _ _ _ _ _ (bstep hb0 (bstep hb1 (bal w1 _))) (by omega)⟩
  exact keep6 (own_below hO (bstep hb0 (bstep hb1 (bal w1 _)))) (rowL hR1 (bal w1 _))
end Go.Proofs.YtdbcihebhgpblaaDoor
