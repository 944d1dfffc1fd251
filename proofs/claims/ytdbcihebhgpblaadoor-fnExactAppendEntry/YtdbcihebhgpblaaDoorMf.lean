/-
  FsStep: the specification's append.
-/
import Derived.Test.YtdbcihebhgpblaaDoorMe
namespace Go.Proofs.YtdbcihebhgpblaaDoor
open Go.RowKit
abbrev qMf0 : Oper := { dst := some 48, op := Op.fieldAddr 30 (Operand.tmp 2) 1, type := 0, pos := "l6_journal.go:91", after := #[], guard := none }
abbrev qMf1 : Oper := { dst := some 49, op := Op.load 3 (Operand.tmp 48), type := 3, pos := "l6_journal.go:91", after := #[{ on := 0, ground := Ground.data }], guard := none }
abbrev qMf2 : Oper := { dst := some 50, op := Op.load 30 (Operand.tmp 2), type := 30, pos := "l6_journal.go:91", after := #[], guard := none }
abbrev qMf3 : Oper := { dst := some 51, op := Op.call { callee := Callee.value (Operand.func 92), args := #[Operand.tmp 50], argTypes := #[30] }, type := 3, pos := "l6_journal.go:91", after := #[{ on := 2, ground := Ground.data }], guard := none }
abbrev qMf4 : Oper := { dst := some 52, op := Op.binOp BinOp.sub 3 (Operand.tmp 49) (Operand.tmp 51) 3, type := 3, pos := "l6_journal.go:91", after := #[{ on := 1, ground := Ground.data }, { on := 3, ground := Ground.data }], guard := none }
abbrev qMf5 : Oper := { dst := some 10, op := Op.assign (Operand.tmp 52), type := 3, pos := "l6_journal.go:91", after := #[{ on := 4, ground := Ground.data }, { on := 3, ground := Ground.chain }, { on := 0, ground := Ground.phase }, { on := 1, ground := Ground.phase }, { on := 2, ground := Ground.phase }, { on := 3, ground := Ground.phase }, { on := 4, ground := Ground.phase }], guard := none }
set_option maxRecDepth 20000 in
set_option maxHeartbeats 8000000 in
theorem sDo2 (Bo : Nat) (b off : Nat) (n cv : Nat) (L : List Fil) (hLn : L.length = n) (x1 x2 x3 x4 : Int) (x5 : Bool) (nm dt : ByteArray) (sz : Int) (k : Nat) (w : World) (hO : OwnL w Bo (.slice (some ⟨b, off, none⟩) n cv) L) (hBo : Bo ≤ w.heap.size) (hF : Fit L x1 2 nm dt) (hr : FdAt L nm (k : Int)) (hfit : ¬ x1 - (sumD (nthF L) L.length : Int) < (dt.size : Int)) :
    Calls Tryd.prog 53 #[.agg #[.slice (some ⟨b, off, none⟩) n cv, .int .i64 x1, .int .i64 x2, .int .i64 x3, .int .i64 x4, .bool x5], .agg #[.int .i64 2, .string nm, .string dt, .int .i64 sz]] w fun e w' => Done w w' Bo (doS L x1 2 nm dt sz (k : Int)).1 x1 x2 x3 x4 x5 (doS L x1 2 nm dt sz (k : Int)).2 e := by
  subst hLn
  have hfl := hO.f.fl
  have hb0 : Below w.heap.size w (((w.alloc (.cells #[.slice (some ⟨b, off, none⟩) L.length cv, .int .i64 x1, .int .i64 x2, .int .i64 x3, .int .i64 x4, .bool x5] 30)).alloc (.cells #[.int .i64 2, .string nm, .string dt, .int .i64 sz] 59)).alloc (.cells #[.slice none 0 0, .int .i64 0, .int .i64 0, .int .i64 0, .int .i64 0, .bool false] 30)) := bstep (bal _ _) (bstep (bal _ _) (bal _ _))
  have hX := rowL (rowL (heap_alloc_new w (.cells #[.slice (some ⟨b, off, none⟩) L.length cv, .int .i64 x1, .int .i64 x2, .int .i64 x3, .int .i64 x4, .bool x5] 30)) (bal (w.alloc (.cells #[.slice (some ⟨b, off, none⟩) L.length cv, .int .i64 x1, .int .i64 x2, .int .i64 x3, .int .i64 x4, .bool x5] 30)) (.cells #[.int .i64 2, .string nm, .string dt, .int .i64 sz] 59))) (bal ((w.alloc (.cells #[.slice (some ⟨b, off, none⟩) L.length cv, .int .i64 x1, .int .i64 x2, .int .i64 x3, .int .i64 x4, .bool x5] 30)).alloc (.cells #[.int .i64 2, .string nm, .string dt, .int .i64 sz] 59)) (.cells #[.slice none 0 0, .int .i64 0, .int .i64 0, .int .i64 0, .int .i64 0, .bool false] 30))
  have hP := heap_alloc_new (w.alloc (.cells #[.slice (some ⟨b, off, none⟩) L.length cv, .int .i64 x1, .int .i64 x2, .int .i64 x3, .int .i64 x4, .bool x5] 30)) (.cells #[.int .i64 2, .string nm, .string dt, .int .i64 sz] 59)
  rw [World.size_alloc] at hP
  replace hP := rowL hP (bal ((w.alloc (.cells #[.slice (some ⟨b, off, none⟩) L.length cv, .int .i64 x1, .int .i64 x2, .int .i64 x3, .int .i64 x4, .bool x5] 30)).alloc (.cells #[.int .i64 2, .string nm, .string dt, .int .i64 sz] 59)) (.cells #[.slice none 0 0, .int .i64 0, .int .i64 0, .int .i64 0, .int .i64 0, .bool false] 30))
  have hR := heap_alloc_new ((w.alloc (.cells #[.slice (some ⟨b, off, none⟩) L.length cv, .int .i64 x1, .int .i64 x2, .int .i64 x3, .int .i64 x4, .bool x5] 30)).alloc (.cells #[.int .i64 2, .string nm, .string dt, .int .i64 sz] 59)) (.cells #[.slice none 0 0, .int .i64 0, .int .i64 0, .int .i64 0, .int .i64 0, .bool false] 30)
  have hs2 : ((w.alloc (.cells #[.slice (some ⟨b, off, none⟩) L.length cv, .int .i64 x1, .int .i64 x2, .int .i64 x3, .int .i64 x4, .bool x5] 30)).alloc (.cells #[.int .i64 2, .string nm, .string dt, .int .i64 sz] 59)).heap.size = w.heap.size + 1 + 1 := by simp
  rw [hs2] at hR
  have hn := hF.sm.n
  have hk := fd_lt hr
  have h5 : (k : Int) < L.length := by omega
  have h6 : ¬ (k : Int) < 0 := by omega
  have h7 : (0 : Int) ≤ (k : Int) := by omega
  have h8 : (k : Int).toNat = k := by omega
  have h9 : decide ((nthF L k).s.size = 0) = false := by rw [fd_s hr]; simp [hF.nm0]
  obtain ⟨DX, hDX⟩ : ∃ DX, (nthF L k).d ++ dt = DX := ⟨_, rfl⟩
  have hdL := hF.sm.d k hk
  have hdt := hF.dt1
  have hx1 := hF.rm0
  have hx2 := hF.x1m
  have qs : IntKind.i64.wrap (x1 - (sumD (nthF L) L.length : Int)) = x1 - (sumD (nthF L) L.length : Int) := by rw [IntKind.wrap_i64]; omega
  obtain ⟨LR, hLR⟩ : ∃ LR, wth nm ⟨(nthF L k).s, DX, (nthF L k).y⟩ L false = LR := ⟨_, rfl⟩
  have hdo : doS L x1 2 nm dt sz (k : Int) = (LR, 0) := by
    rw [← hLR, ← hDX]
    simp [doS, h6, h8, hfit]
  have hLR2 : wth nm ⟨(nthF L k).s, DX, (nthF L k).y⟩ L (decide ((nthF L k).s.size = 0)) = LR := by rw [h9]; exact hLR
  clear hLR
  have hLR := hLR2
  clear hLR2 h9
  rw [hdo]
  clear hdo
  go_enter Tryd.func53, Tryd.ntmps53
  go_upto_region 16 with (go_at_call 94; refine (sFind (some ⟨b, off, none⟩) L.length cv (nthF L) x1 x2 x3 x4 x5 nm _ (hfl.later hb0) hn).mono ?_; rintro e w1 ⟨r', rfl, hr', hb1⟩; obtain rfl : r' = (k : Int) := fd_same hr' hr; have hX1 := rowL hX hb1; have hP1 := rowL hP hb1; have hR1 := rowL hR hb1; obtain ⟨xc0, xc1, xc2, xc3, xc4, xc5⟩ := B6.of hX1; obtain ⟨xf0, xf1, xf2, xf3, xf4, xf5⟩ := F6.of hX1; have pc0 : w1.cell? ⟨w.heap.size + 1, 0, none⟩ = some (.int .i64 2) := (cell_of_row _ _ 0 _ _ _ hP1).trans rfl; have pc1 : w1.cell? ⟨w.heap.size + 1, 1, none⟩ = some (.string nm) := (cell_of_row _ _ 1 _ _ _ hP1).trans rfl; have pc2 : w1.cell? ⟨w.heap.size + 1, 2, none⟩ = some (.string dt) := (cell_of_row _ _ 2 _ _ _ hP1).trans rfl; have pc3 : w1.cell? ⟨w.heap.size + 1, 3, none⟩ = some (.int .i64 sz) := (cell_of_row _ _ 3 _ _ _ hP1).trans rfl; obtain ⟨rc0, rc1, rc2, rc3, rc4, rc5⟩ := B6.of hR1; obtain ⟨rf0, rf1, rf2, rf3, rf4, rf5⟩ := F6.of hR1; obtain ⟨b', off', e', c0, c1, c2⟩ := hfl.later (bstep hb0 hb1) k hk; obtain ⟨rfl, rfl⟩ : b = b' ∧ off = off' := (by simpa using e'); have pa0 : ∀ o, (w1.alloc o).cell? ⟨w.heap.size + 1, 0, none⟩ = some (.int .i64 2) := fun o => keepB (bal w1 o) pc0; have pa1 : ∀ o, (w1.alloc o).cell? ⟨w.heap.size + 1, 1, none⟩ = some (.string nm) := fun o => keepB (bal w1 o) pc1; have pa2 : ∀ o, (w1.alloc o).cell? ⟨w.heap.size + 1, 2, none⟩ = some (.string dt) := fun o => keepB (bal w1 o) pc2; have pa3 : ∀ o, (w1.alloc o).cell? ⟨w.heap.size + 1, 3, none⟩ = some (.int .i64 sz) := fun o => keepB (bal w1 o) pc3; have xa0 : ∀ o, (w1.alloc o).cell? ⟨w.heap.size, 0, none⟩ = some (.slice (some ⟨b, off, none⟩) L.length cv) := fun o => keepB (bal w1 o) xc0; have xa1 : ∀ o, (w1.alloc o).cell? ⟨w.heap.size, 1, none⟩ = some (.int .i64 x1) := fun o => keepB (bal w1 o) xc1; have xa2 : ∀ o, (w1.alloc o).cell? ⟨w.heap.size, 2, none⟩ = some (.int .i64 x2) := fun o => keepB (bal w1 o) xc2; have xa3 : ∀ o, (w1.alloc o).cell? ⟨w.heap.size, 3, none⟩ = some (.int .i64 x3) := fun o => keepB (bal w1 o) xc3; have xa4 : ∀ o, (w1.alloc o).cell? ⟨w.heap.size, 4, none⟩ = some (.int .i64 x4) := fun o => keepB (bal w1 o) xc4; have xa5 : ∀ o, (w1.alloc o).cell? ⟨w.heap.size, 5, none⟩ = some (.bool x5) := fun o => keepB (bal w1 o) xc5)
  have hWf := heap_alloc_new w1 (.cells #[.string (nthF L k).s, .string (nthF L k).d, .int .i64 (nthF L k).y] 92)
  have hcw : Below w.heap.size w (w1.alloc (.cells #[.string (nthF L k).s, .string (nthF L k).d, .int .i64 (nthF L k).y] 92)) := bstep hb0 (bstep hb1 (bal w1 _))
  have hXf := rowL hX1 (bal w1 (.cells #[.string (nthF L k).s, .string (nthF L k).d, .int .i64 (nthF L k).y] 92))
  refine wp_region_held_drew (S := fun x => Below (w1.alloc (.cells #[.string (nthF L k).s, .string (nthF L k).d, .int .i64 (nthF L k).y] 92)).heap.size (w1.alloc (.cells #[.string (nthF L k).s, .string (nthF L k).d, .int .i64 (nthF L k).y] 92)) x) (by kernel_rfl) (bdrew1 _) (fun hHeld => ?_)
  refine' takeF (i := 0) (oi := qMf0) rfl ⟨by rfl, fun x hSw => ?h1⟩ hHeld ?r1
  case h1 =>
    go_simp
    try with_reducible rfl
  try simp only [Act.put, List.setIfInBounds_toArray, List.set_cons_zero, List.set_cons_succ]
  refine' takeF (i := 1) (oi := qMf1) rfl ⟨by rfl, fun x hSw => ?h2⟩ hHeld ?r2
  case h2 =>
    have j0 := keepB hSw (xa0 (.cells #[.string (nthF L k).s, .string (nthF L k).d, .int .i64 (nthF L k).y] 92)); have j1 := keepB hSw (xa1 (.cells #[.string (nthF L k).s, .string (nthF L k).d, .int .i64 (nthF L k).y] 92)); have j2 := keepB hSw (xa2 (.cells #[.string (nthF L k).s, .string (nthF L k).d, .int .i64 (nthF L k).y] 92)); have j3 := keepB hSw (xa3 (.cells #[.string (nthF L k).s, .string (nthF L k).d, .int .i64 (nthF L k).y] 92)); have j4 := keepB hSw (xa4 (.cells #[.string (nthF L k).s, .string (nthF L k).d, .int .i64 (nthF L k).y] 92)); have j5 := keepB hSw (xa5 (.cells #[.string (nthF L k).s, .string (nthF L k).d, .int .i64 (nthF L k).y] 92))
    go_simp
    try with_reducible rfl
  try simp only [Act.put, List.setIfInBounds_toArray, List.set_cons_zero, List.set_cons_succ]
  refine' takeF (i := 2) (oi := qMf2) rfl ⟨by rfl, fun x hSw => ?h3⟩ hHeld ?r3
  case h3 =>
    have j0 := keepB hSw (xa0 (.cells #[.string (nthF L k).s, .string (nthF L k).d, .int .i64 (nthF L k).y] 92)); have j1 := keepB hSw (xa1 (.cells #[.string (nthF L k).s, .string (nthF L k).d, .int .i64 (nthF L k).y] 92)); have j2 := keepB hSw (xa2 (.cells #[.string (nthF L k).s, .string (nthF L k).d, .int .i64 (nthF L k).y] 92)); have j3 := keepB hSw (xa3 (.cells #[.string (nthF L k).s, .string (nthF L k).d, .int .i64 (nthF L k).y] 92)); have j4 := keepB hSw (xa4 (.cells #[.string (nthF L k).s, .string (nthF L k).d, .int .i64 (nthF L k).y] 92)); have j5 := keepB hSw (xa5 (.cells #[.string (nthF L k).s, .string (nthF L k).d, .int .i64 (nthF L k).y] 92))
    go_simp
    try with_reducible rfl
  try simp only [Act.put, List.setIfInBounds_toArray, List.set_cons_zero, List.set_cons_succ]
  refine wpAnyH_ready (rs := [3]) (by kernel_rfl) (by simp) ?_
  refine AllReadyH.cons (o := qMf3) rfl (fun K hK => ?_) AllReadyH.nil
  go_simp
  refine (sBytes (some ⟨b, off, none⟩) L.length cv (nthF L) x1 x2 x3 x4 x5 _ (hfl.later (bstep hcw hHeld)) hF.sm).mono ?_
  rintro e w6 ⟨rfl, hb6⟩
  refine hK.out _ _ (bstep hHeld hb6) (fun hHeld => ?_)
  clear hK K
  try simp only [Act.put, List.setIfInBounds_toArray, List.set_cons_zero, List.set_cons_succ]
  refine' takeF (i := 4) (oi := qMf4) rfl ⟨by rfl, fun x hSw => ?h4⟩ hHeld ?r4
  case h4 =>
    go_simp
    try with_reducible rfl
  try simp only [Act.put, List.setIfInBounds_toArray, List.set_cons_zero, List.set_cons_succ]
  refine' takeF (i := 5) (oi := qMf5) rfl ⟨by rfl, fun x hSw => ?h5⟩ hHeld ?r5
  case h5 =>
    go_simp
    try with_reducible rfl
  try simp only [Act.put, List.setIfInBounds_toArray, List.set_cons_zero, List.set_cons_succ]
  refine wpAnyH_done (by kernel_rfl) ?_ _
  have hX6 := rowL hXf hHeld
  have hP6 := rowL (rowL hP1 (bal w1 _)) hHeld
  have hR6 := rowL (rowL hR1 (bal w1 _)) hHeld
  have hF6 := rowL hWf hHeld
  have hc6 := bstep hcw hHeld
  have hs1 : w.heap.size + 1 + 1 < w1.heap.size := (Array.getElem?_eq_some_iff.1 hR1).1
  have fb1 : w6.cell? ⟨w1.heap.size, 1, none⟩ = some (.string (nthF L k).d) := (cell_of_row _ _ 1 _ _ _ hF6).trans rfl
  have ff1 : w6.frozen? ⟨w1.heap.size, 1, none⟩ = false := frozen_of_row _ _ 1 _ _ hF6
  clear xc0 xf0 xc1 xf1 xc2 xf2 xc3 xf3 xc4 xf4 xc5 xf5 pc0 pc1 pc2 pc3 rc0 rf0 rc1 rf1 rc2 rf2 rc3 rf3 rc4 rf4 rc5 rf5 pa0 pa1 pa2 pa3 xa0 xa1 xa2 xa3 xa4 xa5 c0 c1 c2 hHeld
  have zz : ¬ 9223372036854775807 < (nthF L k).d.size + dt.size := by omega
  go_upto_region 31 with fail
  have hX7 := rowO (B := w1.heap.size) (i := 1) (v := .string DX) hX6 (by omega)
  have hP7 := rowO (B := w1.heap.size) (i := 1) (v := .string DX) hP6 (by omega)
  have hR7 := rowO (B := w1.heap.size) (i := 1) (v := .string DX) hR6 (by omega)
  have hF7 : (w6.setCell ⟨w1.heap.size, 1, none⟩ (.string DX)).heap[w1.heap.size]? = some (.cells #[.string (nthF L k).s, .string DX, .int .i64 (nthF L k).y] 92 (0, 0)) := heap_setCell_same _ _ 1 _ _ _ hF6
  have hc7 := bset (B := w1.heap.size) (i := 1) (v := .string DX) hc6 (by omega)
  obtain ⟨W7, hW7⟩ : ∃ W7, w6.setCell ⟨w1.heap.size, 1, none⟩ (.string DX) = W7 := ⟨_, rfl⟩
  rw [hW7] at hX7 hP7 hR7 hF7 hc7 ⊢
  clear hW7 fb1 ff1
  have tx0 : W7.cell? ⟨w.heap.size, 0, none⟩ = some (.slice (some ⟨b, off, none⟩) L.length cv) := (cell_of_row _ _ 0 _ _ _ hX7).trans rfl
  have tp1 : W7.cell? ⟨w.heap.size + 1, 1, none⟩ = some (.string nm) := (cell_of_row _ _ 1 _ _ _ hP7).trans rfl
  have tf0 : W7.cell? ⟨w1.heap.size, 0, none⟩ = some (.string (nthF L k).s) := (cell_of_row _ _ 0 _ _ _ hF7).trans rfl
  have tf1 : W7.cell? ⟨w1.heap.size, 1, none⟩ = some (.string DX) := (cell_of_row _ _ 1 _ _ _ hF7).trans rfl
  have tf2 : W7.cell? ⟨w1.heap.size, 2, none⟩ = some (.int .i64 (nthF L k).y) := (cell_of_row _ _ 2 _ _ _ hF7).trans rfl
  go_upto_region 32 with (go_at_call 95; refine (sWith (some ⟨b, off, none⟩) cv L nm ⟨(nthF L k).s, DX, (nthF L k).y⟩ _ (hfl.later (hc7)) hn).mono ?_; rw [hLR]; rintro e wb ⟨g2, cap2, rfl, hO2, hb2⟩; replace hO2 := wk_l hO2 (Nat.le_trans hBo (Below.size (hc7))); have hbw := bstep (hc7) hb2; have hXb := rowL hX7 hb2; have hRb := rowL hR7 hb2; have bc0 : wb.cell? ⟨w.heap.size, 0, none⟩ = some (.slice (some ⟨b, off, none⟩) L.length cv) := (cell_of_row _ _ 0 _ _ _ hXb).trans rfl; have bf0 : wb.frozen? ⟨w.heap.size, 0, none⟩ = false := frozen_of_row _ _ 0 _ _ hXb)
  have hX3 : (wb.setCell ⟨w.heap.size, 0, none⟩ (.slice (some ⟨g2, 0, none⟩) LR.length cap2)).heap[w.heap.size]? = some (.cells #[.slice (some ⟨g2, 0, none⟩) LR.length cap2, .int .i64 x1, .int .i64 x2, .int .i64 x3, .int .i64 x4, .bool x5] 30 (0, 0)) := heap_setCell_same _ _ 0 _ _ _ hXb
  have hR3 := rowO (B := w.heap.size) (i := 0) (v := .slice (some ⟨g2, 0, none⟩) LR.length cap2) hRb (by omega)
  have hO3 : OwnL (wb.setCell ⟨w.heap.size, 0, none⟩ (.slice (some ⟨g2, 0, none⟩) LR.length cap2)) Bo (.slice (some ⟨g2, 0, none⟩) LR.length cap2) LR := keep1 hO2 hXb
  have hb3 : Below w.heap.size w (wb.setCell ⟨w.heap.size, 0, none⟩ (.slice (some ⟨g2, 0, none⟩) LR.length cap2)) := bset hbw (Nat.le_refl _)
  obtain ⟨W3, hW3⟩ : ∃ W3, wb.setCell ⟨w.heap.size, 0, none⟩ (.slice (some ⟨g2, 0, none⟩) LR.length cap2) = W3 := ⟨_, rfl⟩
  rw [hW3] at hX3 hR3 hO3 hb3 ⊢
  clear hW3 tx0 tp1 tf0 tf1 tf2 bc0 bf0
  obtain ⟨qc0, qc1, qc2, qc3, qc4, qc5⟩ := B6.of hX3
  obtain ⟨sc0, sc1, sc2, sc3, sc4, sc5⟩ := B6.of hR3
  obtain ⟨sf0, sf1, sf2, sf3, sf4, sf5⟩ := F6.of hR3
  go_wp2
  refine bodyPost_ret (results_cell_tmp Tryd.results53 _ _ (w.heap.size + 1 + 1) 30 _ (0, 0) _ rfl (set6_row _ _ _ _ _ _ hR3) Tryd.underlying30 rfl (by kernel_rfl)) rfl ⟨_, _, _, rfl, ?_, set6_below _ _ _ _ _ _ hb3 (by omega)⟩
  exact keep6 hO3 hR3
set_option maxRecDepth 20000 in
set_option maxHeartbeats 8000000 in
theorem sDo2c (Bo : Nat) (b off : Nat) (n cv : Nat) (L : List Fil) (hLn : L.length = n) (x1 x2 x3 x4 : Int) (x5 : Bool) (nm dt : ByteArray) (sz : Int) (k : Nat) (w : World) (hO : OwnL w Bo (.slice (some ⟨b, off, none⟩) n cv) L) (hBo : Bo ≤ w.heap.size) (hF : Fit L x1 2 nm dt) (hr : FdAt L nm (k : Int)) (hfit : x1 - (sumD (nthF L) L.length : Int) < (dt.size : Int)) :
    Calls Tryd.prog 53 #[.agg #[.slice (some ⟨b, off, none⟩) n cv, .int .i64 x1, .int .i64 x2, .int .i64 x3, .int .i64 x4, .bool x5], .agg #[.int .i64 2, .string nm, .string dt, .int .i64 sz]] w fun e w' => Done w w' Bo (doS L x1 2 nm dt sz (k : Int)).1 x1 x2 x3 x4 x5 (doS L x1 2 nm dt sz (k : Int)).2 e := by
  subst hLn
  have hfl := hO.f.fl
  have hb0 : Below w.heap.size w (((w.alloc (.cells #[.slice (some ⟨b, off, none⟩) L.length cv, .int .i64 x1, .int .i64 x2, .int .i64 x3, .int .i64 x4, .bool x5] 30)).alloc (.cells #[.int .i64 2, .string nm, .string dt, .int .i64 sz] 59)).alloc (.cells #[.slice none 0 0, .int .i64 0, .int .i64 0, .int .i64 0, .int .i64 0, .bool false] 30)) := bstep (bal _ _) (bstep (bal _ _) (bal _ _))
  have hX := rowL (rowL (heap_alloc_new w (.cells #[.slice (some ⟨b, off, none⟩) L.length cv, .int .i64 x1, .int .i64 x2, .int .i64 x3, .int .i64 x4, .bool x5] 30)) (bal (w.alloc (.cells #[.slice (some ⟨b, off, none⟩) L.length cv, .int .i64 x1, .int .i64 x2, .int .i64 x3, .int .i64 x4, .bool x5] 30)) (.cells #[.int .i64 2, .string nm, .string dt, .int .i64 sz] 59))) (bal ((w.alloc (.cells #[.slice (some ⟨b, off, none⟩) L.length cv, .int .i64 x1, .int .i64 x2, .int .i64 x3, .int .i64 x4, .bool x5] 30)).alloc (.cells #[.int .i64 2, .string nm, .string dt, .int .i64 sz] 59)) (.cells #[.slice none 0 0, .int .i64 0, .int .i64 0, .int .i64 0, .int .i64 0, .bool false] 30))
  have hP := heap_alloc_new (w.alloc (.cells #[.slice (some ⟨b, off, none⟩) L.length cv, .int .i64 x1, .int .i64 x2, .int .i64 x3, .int .i64 x4, .bool x5] 30)) (.cells #[.int .i64 2, .string nm, .string dt, .int .i64 sz] 59)
  rw [World.size_alloc] at hP
  replace hP := rowL hP (bal ((w.alloc (.cells #[.slice (some ⟨b, off, none⟩) L.length cv, .int .i64 x1, .int .i64 x2, .int .i64 x3, .int .i64 x4, .bool x5] 30)).alloc (.cells #[.int .i64 2, .string nm, .string dt, .int .i64 sz] 59)) (.cells #[.slice none 0 0, .int .i64 0, .int .i64 0, .int .i64 0, .int .i64 0, .bool false] 30))
  have hR := heap_alloc_new ((w.alloc (.cells #[.slice (some ⟨b, off, none⟩) L.length cv, .int .i64 x1, .int .i64 x2, .int .i64 x3, .int .i64 x4, .bool x5] 30)).alloc (.cells #[.int .i64 2, .string nm, .string dt, .int .i64 sz] 59)) (.cells #[.slice none 0 0, .int .i64 0, .int .i64 0, .int .i64 0, .int .i64 0, .bool false] 30)
  have hs2 : ((w.alloc (.cells #[.slice (some ⟨b, off, none⟩) L.length cv, .int .i64 x1, .int .i64 x2, .int .i64 x3, .int .i64 x4, .bool x5] 30)).alloc (.cells #[.int .i64 2, .string nm, .string dt, .int .i64 sz] 59)).heap.size = w.heap.size + 1 + 1 := by simp
  rw [hs2] at hR
  have hn := hF.sm.n
  have hk := fd_lt hr
  have h5 : (k : Int) < L.length := by omega
  have h6 : ¬ (k : Int) < 0 := by omega
  have h7 : (0 : Int) ≤ (k : Int) := by omega
  have h8 : (k : Int).toNat = k := by omega
  have h9 : decide ((nthF L k).s.size = 0) = false := by rw [fd_s hr]; simp [hF.nm0]
  obtain ⟨DE, hDE⟩ : ∃ DE, dt.extract 0 (x1 - (sumD (nthF L) L.length : Int)).toNat = DE := ⟨_, rfl⟩
  obtain ⟨DX, hDX⟩ : ∃ DX, (nthF L k).d ++ DE = DX := ⟨_, rfl⟩
  have hdL := hF.sm.d k hk
  have hdt := hF.dt1
  have hx1 := hF.rm0
  have hx2 := hF.x1m
  have qs : IntKind.i64.wrap (x1 - (sumD (nthF L) L.length : Int)) = x1 - (sumD (nthF L) L.length : Int) := by rw [IntKind.wrap_i64]; omega
  obtain ⟨LR, hLR⟩ : ∃ LR, wth nm ⟨(nthF L k).s, DX, (nthF L k).y⟩ L false = LR := ⟨_, rfl⟩
  have hdo : doS L x1 2 nm dt sz (k : Int) = (LR, 13) := by
    rw [← hLR, ← hDX, ← hDE]
    simp [doS, h6, h8, hfit]
  have hLR2 : wth nm ⟨(nthF L k).s, DX, (nthF L k).y⟩ L (decide ((nthF L k).s.size = 0)) = LR := by rw [h9]; exact hLR
  clear hLR
  have hLR := hLR2
  clear hLR2 h9
  rw [hdo]
  clear hdo
  go_enter Tryd.func53, Tryd.ntmps53
  go_upto_region 16 with (go_at_call 94; refine (sFind (some ⟨b, off, none⟩) L.length cv (nthF L) x1 x2 x3 x4 x5 nm _ (hfl.later hb0) hn).mono ?_; rintro e w1 ⟨r', rfl, hr', hb1⟩; obtain rfl : r' = (k : Int) := fd_same hr' hr; have hX1 := rowL hX hb1; have hP1 := rowL hP hb1; have hR1 := rowL hR hb1; obtain ⟨xc0, xc1, xc2, xc3, xc4, xc5⟩ := B6.of hX1; obtain ⟨xf0, xf1, xf2, xf3, xf4, xf5⟩ := F6.of hX1; have pc0 : w1.cell? ⟨w.heap.size + 1, 0, none⟩ = some (.int .i64 2) := (cell_of_row _ _ 0 _ _ _ hP1).trans rfl; have pc1 : w1.cell? ⟨w.heap.size + 1, 1, none⟩ = some (.string nm) := (cell_of_row _ _ 1 _ _ _ hP1).trans rfl; have pc2 : w1.cell? ⟨w.heap.size + 1, 2, none⟩ = some (.string dt) := (cell_of_row _ _ 2 _ _ _ hP1).trans rfl; have pc3 : w1.cell? ⟨w.heap.size + 1, 3, none⟩ = some (.int .i64 sz) := (cell_of_row _ _ 3 _ _ _ hP1).trans rfl; obtain ⟨rc0, rc1, rc2, rc3, rc4, rc5⟩ := B6.of hR1; obtain ⟨rf0, rf1, rf2, rf3, rf4, rf5⟩ := F6.of hR1; obtain ⟨b', off', e', c0, c1, c2⟩ := hfl.later (bstep hb0 hb1) k hk; obtain ⟨rfl, rfl⟩ : b = b' ∧ off = off' := (by simpa using e'); have pa0 : ∀ o, (w1.alloc o).cell? ⟨w.heap.size + 1, 0, none⟩ = some (.int .i64 2) := fun o => keepB (bal w1 o) pc0; have pa1 : ∀ o, (w1.alloc o).cell? ⟨w.heap.size + 1, 1, none⟩ = some (.string nm) := fun o => keepB (bal w1 o) pc1; have pa2 : ∀ o, (w1.alloc o).cell? ⟨w.heap.size + 1, 2, none⟩ = some (.string dt) := fun o => keepB (bal w1 o) pc2; have pa3 : ∀ o, (w1.alloc o).cell? ⟨w.heap.size + 1, 3, none⟩ = some (.int .i64 sz) := fun o => keepB (bal w1 o) pc3; have xa0 : ∀ o, (w1.alloc o).cell? ⟨w.heap.size, 0, none⟩ = some (.slice (some ⟨b, off, none⟩) L.length cv) := fun o => keepB (bal w1 o) xc0; have xa1 : ∀ o, (w1.alloc o).cell? ⟨w.heap.size, 1, none⟩ = some (.int .i64 x1) := fun o => keepB (bal w1 o) xc1; have xa2 : ∀ o, (w1.alloc o).cell? ⟨w.heap.size, 2, none⟩ = some (.int .i64 x2) := fun o => keepB (bal w1 o) xc2; have xa3 : ∀ o, (w1.alloc o).cell? ⟨w.heap.size, 3, none⟩ = some (.int .i64 x3) := fun o => keepB (bal w1 o) xc3; have xa4 : ∀ o, (w1.alloc o).cell? ⟨w.heap.size, 4, none⟩ = some (.int .i64 x4) := fun o => keepB (bal w1 o) xc4; have xa5 : ∀ o, (w1.alloc o).cell? ⟨w.heap.size, 5, none⟩ = some (.bool x5) := fun o => keepB (bal w1 o) xc5)
  have hWf := heap_alloc_new w1 (.cells #[.string (nthF L k).s, .string (nthF L k).d, .int .i64 (nthF L k).y] 92)
  have hcw : Below w.heap.size w (w1.alloc (.cells #[.string (nthF L k).s, .string (nthF L k).d, .int .i64 (nthF L k).y] 92)) := bstep hb0 (bstep hb1 (bal w1 _))
  have hXf := rowL hX1 (bal w1 (.cells #[.string (nthF L k).s, .string (nthF L k).d, .int .i64 (nthF L k).y] 92))
  refine wp_region_held_drew (S := fun x => Below (w1.alloc (.cells #[.string (nthF L k).s, .string (nthF L k).d, .int .i64 (nthF L k).y] 92)).heap.size (w1.alloc (.cells #[.string (nthF L k).s, .string (nthF L k).d, .int .i64 (nthF L k).y] 92)) x) (by kernel_rfl) (bdrew1 _) (fun hHeld => ?_)
  refine' takeF (i := 0) (oi := qMf0) rfl ⟨by rfl, fun x hSw => ?h6⟩ hHeld ?r6
  case h6 =>
    go_simp
    try with_reducible rfl
  try simp only [Act.put, List.setIfInBounds_toArray, List.set_cons_zero, List.set_cons_succ]
  refine' takeF (i := 1) (oi := qMf1) rfl ⟨by rfl, fun x hSw => ?h7⟩ hHeld ?r7
  case h7 =>
    have j0 := keepB hSw (xa0 (.cells #[.string (nthF L k).s, .string (nthF L k).d, .int .i64 (nthF L k).y] 92)); have j1 := keepB hSw (xa1 (.cells #[.string (nthF L k).s, .string (nthF L k).d, .int .i64 (nthF L k).y] 92)); have j2 := keepB hSw (xa2 (.cells #[.string (nthF L k).s, .string (nthF L k).d, .int .i64 (nthF L k).y] 92)); have j3 := keepB hSw (xa3 (.cells #[.string (nthF L k).s, .string (nthF L k).d, .int .i64 (nthF L k).y] 92)); have j4 := keepB hSw (xa4 (.cells #[.string (nthF L k).s, .string (nthF L k).d, .int .i64 (nthF L k).y] 92)); have j5 := keepB hSw (xa5 (.cells #[.string (nthF L k).s, .string (nthF L k).d, .int .i64 (nthF L k).y] 92))
    go_simp
    try with_reducible rfl
  try simp only [Act.put, List.setIfInBounds_toArray, List.set_cons_zero, List.set_cons_succ]
  refine' takeF (i := 2) (oi := qMf2) rfl ⟨by rfl, fun x hSw => ?h8⟩ hHeld ?r8
  case h8 =>
    have j0 := keepB hSw (xa0 (.cells #[.string (nthF L k).s, .string (nthF L k).d, .int .i64 (nthF L k).y] 92)); have j1 := keepB hSw (xa1 (.cells #[.string (nthF L k).s, .string (nthF L k).d, .int .i64 (nthF L k).y] 92)); have j2 := keepB hSw (xa2 (.cells #[.string (nthF L k).s, .string (nthF L k).d, .int .i64 (nthF L k).y] 92)); have j3 := keepB hSw (xa3 (.cells #[.string (nthF L k).s, .string (nthF L k).d, .int .i64 (nthF L k).y] 92)); have j4 := keepB hSw (xa4 (.cells #[.string (nthF L k).s, .string (nthF L k).d, .int .i64 (nthF L k).y] 92)); have j5 := keepB hSw (xa5 (.cells #[.string (nthF L k).s, .string (nthF L k).d, .int .i64 (nthF L k).y] 92))
    go_simp
    try with_reducible rfl
  try simp only [Act.put, List.setIfInBounds_toArray, List.set_cons_zero, List.set_cons_succ]
  refine wpAnyH_ready (rs := [3]) (by kernel_rfl) (by simp) ?_
  refine AllReadyH.cons (o := qMf3) rfl (fun K hK => ?_) AllReadyH.nil
  go_simp
  refine (sBytes (some ⟨b, off, none⟩) L.length cv (nthF L) x1 x2 x3 x4 x5 _ (hfl.later (bstep hcw hHeld)) hF.sm).mono ?_
  rintro e w6 ⟨rfl, hb6⟩
  refine hK.out _ _ (bstep hHeld hb6) (fun hHeld => ?_)
  clear hK K
  try simp only [Act.put, List.setIfInBounds_toArray, List.set_cons_zero, List.set_cons_succ]
  refine' takeF (i := 4) (oi := qMf4) rfl ⟨by rfl, fun x hSw => ?h9⟩ hHeld ?r9
  case h9 =>
    go_simp
    try with_reducible rfl
  try simp only [Act.put, List.setIfInBounds_toArray, List.set_cons_zero, List.set_cons_succ]
  refine' takeF (i := 5) (oi := qMf5) rfl ⟨by rfl, fun x hSw => ?h10⟩ hHeld ?r10
  case h10 =>
    go_simp
    try with_reducible rfl
  try simp only [Act.put, List.setIfInBounds_toArray, List.set_cons_zero, List.set_cons_succ]
  refine wpAnyH_done (by kernel_rfl) ?_ _
  have hX6 := rowL hXf hHeld
  have hP6 := rowL (rowL hP1 (bal w1 _)) hHeld
  have hR6 := rowL (rowL hR1 (bal w1 _)) hHeld
  have hF6 := rowL hWf hHeld
  have hc6 := bstep hcw hHeld
  have hs1 : w.heap.size + 1 + 1 < w1.heap.size := (Array.getElem?_eq_some_iff.1 hR1).1
  have fb1 : w6.cell? ⟨w1.heap.size, 1, none⟩ = some (.string (nthF L k).d) := (cell_of_row _ _ 1 _ _ _ hF6).trans rfl
  have ff1 : w6.frozen? ⟨w1.heap.size, 1, none⟩ = false := frozen_of_row _ _ 1 _ _ hF6
  clear xc0 xf0 xc1 xf1 xc2 xf2 xc3 xf3 xc4 xf4 xc5 xf5 pc0 pc1 pc2 pc3 rc0 rf0 rc1 rf1 rc2 rf2 rc3 rf3 rc4 rf4 rc5 rf5 pa0 pa1 pa2 pa3 xa0 xa1 xa2 xa3 xa4 xa5 c0 c1 c2 hHeld
  have z0 : (0 : Int) ≤ x1 - (sumD (nthF L) L.length : Int) := by omega
  have z1 : x1 - (sumD (nthF L) L.length : Int) ≤ (dt.size : Int) := by omega
  have hDEs : DE.size ≤ 2097152 := by rw [← hDE]; simp; omega
  have hDE2 : dt.extract 0 (x1.toNat - sumD (nthF L) L.length) = DE := by rw [← hDE, show (x1 - (sumD (nthF L) L.length : Int)).toNat = x1.toNat - sumD (nthF L) L.length by omega]
  have zz : ¬ 9223372036854775807 < (nthF L k).d.size + DE.size := by omega
  go_upto_region 31 with fail
  have hX7 := rowO (B := w1.heap.size) (i := 1) (v := .string DX) hX6 (by omega)
  have hP7 := rowO (B := w1.heap.size) (i := 1) (v := .string DX) hP6 (by omega)
  have hR7 := rowO (B := w1.heap.size) (i := 1) (v := .string DX) hR6 (by omega)
  have hF7 : (w6.setCell ⟨w1.heap.size, 1, none⟩ (.string DX)).heap[w1.heap.size]? = some (.cells #[.string (nthF L k).s, .string DX, .int .i64 (nthF L k).y] 92 (0, 0)) := heap_setCell_same _ _ 1 _ _ _ hF6
  have hc7 := bset (B := w1.heap.size) (i := 1) (v := .string DX) hc6 (by omega)
  obtain ⟨W7, hW7⟩ : ∃ W7, w6.setCell ⟨w1.heap.size, 1, none⟩ (.string DX) = W7 := ⟨_, rfl⟩
  rw [hW7] at hX7 hP7 hR7 hF7 hc7 ⊢
  clear hW7 fb1 ff1
  have tx0 : W7.cell? ⟨w.heap.size, 0, none⟩ = some (.slice (some ⟨b, off, none⟩) L.length cv) := (cell_of_row _ _ 0 _ _ _ hX7).trans rfl
  have tp1 : W7.cell? ⟨w.heap.size + 1, 1, none⟩ = some (.string nm) := (cell_of_row _ _ 1 _ _ _ hP7).trans rfl
  have tf0 : W7.cell? ⟨w1.heap.size, 0, none⟩ = some (.string (nthF L k).s) := (cell_of_row _ _ 0 _ _ _ hF7).trans rfl
  have tf1 : W7.cell? ⟨w1.heap.size, 1, none⟩ = some (.string DX) := (cell_of_row _ _ 1 _ _ _ hF7).trans rfl
  have tf2 : W7.cell? ⟨w1.heap.size, 2, none⟩ = some (.int .i64 (nthF L k).y) := (cell_of_row _ _ 2 _ _ _ hF7).trans rfl
  go_upto_region 32 with (go_at_call 95; refine (sWith (some ⟨b, off, none⟩) cv L nm ⟨(nthF L k).s, DX, (nthF L k).y⟩ _ (hfl.later (hc7)) hn).mono ?_; rw [hLR]; rintro e wb ⟨g2, cap2, rfl, hO2, hb2⟩; replace hO2 := wk_l hO2 (Nat.le_trans hBo (Below.size (hc7))); have hbw := bstep (hc7) hb2; have hXb := rowL hX7 hb2; have hRb := rowL hR7 hb2; have bc0 : wb.cell? ⟨w.heap.size, 0, none⟩ = some (.slice (some ⟨b, off, none⟩) L.length cv) := (cell_of_row _ _ 0 _ _ _ hXb).trans rfl; have bf0 : wb.frozen? ⟨w.heap.size, 0, none⟩ = false := frozen_of_row _ _ 0 _ _ hXb)
  have hX3 : (wb.setCell ⟨w.heap.size, 0, none⟩ (.slice (some ⟨g2, 0, none⟩) LR.length cap2)).heap[w.heap.size]? = some (.cells #[.slice (some ⟨g2, 0, none⟩) LR.length cap2, .int .i64 x1, .int .i64 x2, .int .i64 x3, .int .i64 x4, .bool x5] 30 (0, 0)) := heap_setCell_same _ _ 0 _ _ _ hXb
  have hR3 := rowO (B := w.heap.size) (i := 0) (v := .slice (some ⟨g2, 0, none⟩) LR.length cap2) hRb (by omega)
  have hO3 : OwnL (wb.setCell ⟨w.heap.size, 0, none⟩ (.slice (some ⟨g2, 0, none⟩) LR.length cap2)) Bo (.slice (some ⟨g2, 0, none⟩) LR.length cap2) LR := keep1 hO2 hXb
  have hb3 : Below w.heap.size w (wb.setCell ⟨w.heap.size, 0, none⟩ (.slice (some ⟨g2, 0, none⟩) LR.length cap2)) := bset hbw (Nat.le_refl _)
  obtain ⟨W3, hW3⟩ : ∃ W3, wb.setCell ⟨w.heap.size, 0, none⟩ (.slice (some ⟨g2, 0, none⟩) LR.length cap2) = W3 := ⟨_, rfl⟩
  rw [hW3] at hX3 hR3 hO3 hb3 ⊢
  clear hW3 tx0 tp1 tf0 tf1 tf2 bc0 bf0
  obtain ⟨qc0, qc1, qc2, qc3, qc4, qc5⟩ := B6.of hX3
  obtain ⟨sc0, sc1, sc2, sc3, sc4, sc5⟩ := B6.of hR3
  obtain ⟨sf0, sf1, sf2, sf3, sf4, sf5⟩ := F6.of hR3
  go_wp2
  refine bodyPost_ret (results_cell_tmp Tryd.results53 _ _ (w.heap.size + 1 + 1) 30 _ (0, 0) _ rfl (set6_row _ _ _ _ _ _ hR3) Tryd.underlying30 rfl (by kernel_rfl)) rfl ⟨_, _, _, rfl, ?_, set6_below _ _ _ _ _ _ hb3 (by omega)⟩
  exact keep6 hO3 hR3
end Go.Proofs.YtdbcihebhgpblaaDoor
