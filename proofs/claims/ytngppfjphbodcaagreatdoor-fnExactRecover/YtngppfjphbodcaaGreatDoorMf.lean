/-
  FsStep: the specification's append.
-/
import Derived.Test.YtngppfjphbodcaaGreatDoorMe
namespace Go.Proofs.YtngppfjphbodcaaGreatDoor
open Go.RowKit
set_option maxRecDepth 20000 in
set_option maxHeartbeats 8000000 in
theorem sDo2 (Bo : Nat) (b off : Nat) (n cv : Nat) (L : List Fil) (hLn : L.length = n) (x1 x2 x3 x4 : Int) (x5 : Bool) (nm dt : ByteArray) (sz : Int) (k : Nat) (w : World) (hO : OwnL w Bo (.slice (some ⟨b, off, none⟩) n cv) L) (hBo : Bo ≤ w.heap.size) (hF : Fit L x1 2 nm dt) (hr : FdAt L nm (k : Int)) (hfit : ¬ x1 - (sumD (nthF L) L.length : Int) < (dt.size : Int)) :
    Calls Tryz.prog 37 #[.agg #[.slice (some ⟨b, off, none⟩) n cv, .int .i64 x1, .int .i64 x2, .int .i64 x3, .int .i64 x4, .bool x5], .agg #[.int .i64 2, .string nm, .string dt, .int .i64 sz]] w fun e w' => Done w w' Bo (doS L x1 2 nm dt sz (k : Int)).1 x1 x2 x3 x4 x5 (doS L x1 2 nm dt sz (k : Int)).2 e := by
  subst hLn
  have hfl := hO.f.fl
  have hb0 : Below w.heap.size w (((w.alloc (.cells #[.slice (some ⟨b, off, none⟩) L.length cv, .int .i64 x1, .int .i64 x2, .int .i64 x3, .int .i64 x4, .bool x5] 28)).alloc (.cells #[.int .i64 2, .string nm, .string dt, .int .i64 sz] 53)).alloc (.cells #[.slice none 0 0, .int .i64 0, .int .i64 0, .int .i64 0, .int .i64 0, .bool false] 28)) := bstep (bal _ _) (bstep (bal _ _) (bal _ _))
  have hX := rowL (rowL (heap_alloc_new w (.cells #[.slice (some ⟨b, off, none⟩) L.length cv, .int .i64 x1, .int .i64 x2, .int .i64 x3, .int .i64 x4, .bool x5] 28)) (bal (w.alloc (.cells #[.slice (some ⟨b, off, none⟩) L.length cv, .int .i64 x1, .int .i64 x2, .int .i64 x3, .int .i64 x4, .bool x5] 28)) (.cells #[.int .i64 2, .string nm, .string dt, .int .i64 sz] 53))) (bal ((w.alloc (.cells #[.slice (some ⟨b, off, none⟩) L.length cv, .int .i64 x1, .int .i64 x2, .int .i64 x3, .int .i64 x4, .bool x5] 28)).alloc (.cells #[.int .i64 2, .string nm, .string dt, .int .i64 sz] 53)) (.cells #[.slice none 0 0, .int .i64 0, .int .i64 0, .int .i64 0, .int .i64 0, .bool false] 28))
  have hP := heap_alloc_new (w.alloc (.cells #[.slice (some ⟨b, off, none⟩) L.length cv, .int .i64 x1, .int .i64 x2, .int .i64 x3, .int .i64 x4, .bool x5] 28)) (.cells #[.int .i64 2, .string nm, .string dt, .int .i64 sz] 53)
  rw [World.size_alloc] at hP
  replace hP := rowL hP (bal ((w.alloc (.cells #[.slice (some ⟨b, off, none⟩) L.length cv, .int .i64 x1, .int .i64 x2, .int .i64 x3, .int .i64 x4, .bool x5] 28)).alloc (.cells #[.int .i64 2, .string nm, .string dt, .int .i64 sz] 53)) (.cells #[.slice none 0 0, .int .i64 0, .int .i64 0, .int .i64 0, .int .i64 0, .bool false] 28))
  have hR := heap_alloc_new ((w.alloc (.cells #[.slice (some ⟨b, off, none⟩) L.length cv, .int .i64 x1, .int .i64 x2, .int .i64 x3, .int .i64 x4, .bool x5] 28)).alloc (.cells #[.int .i64 2, .string nm, .string dt, .int .i64 sz] 53)) (.cells #[.slice none 0 0, .int .i64 0, .int .i64 0, .int .i64 0, .int .i64 0, .bool false] 28)
  have hs2 : ((w.alloc (.cells #[.slice (some ⟨b, off, none⟩) L.length cv, .int .i64 x1, .int .i64 x2, .int .i64 x3, .int .i64 x4, .bool x5] 28)).alloc (.cells #[.int .i64 2, .string nm, .string dt, .int .i64 sz] 53)).heap.size = w.heap.size + 1 + 1 := by simp
  rw [hs2] at hR
  have hn := hF.sm.n
  have hk := fd_lt hr
  have h5 : (k : Int) < L.length := by omega
  have h6 : ¬ (k : Int) < 0 := by omega
  have h7 : (0 : Int) ≤ (k : Int) := by omega
  have h8 : (k : Int).toNat = k := by omega
  have h9 : decide ((nthF L k).s.size = 0) = false := by rw [fd_s hr]; simp [hF.nm0]
  obtain ⟨DX, hDX⟩ : ∃ DX, (nthF L k).d ++ dt = DX := ⟨_, rfl⟩
  have hdL := hF.sm.d k hk
  have hdt := hF.dt1
  have hx1 := hF.rm0
  have hx2 := hF.x1m
  have qs : IntKind.i64.wrap (x1 - (sumD (nthF L) L.length : Int)) = x1 - (sumD (nthF L) L.length : Int) := by rw [IntKind.wrap_i64]; omega
  obtain ⟨LR, hLR⟩ : ∃ LR, wth nm ⟨(nthF L k).s, DX, (nthF L k).y⟩ L false = LR := ⟨_, rfl⟩
  have hdo : doS L x1 2 nm dt sz (k : Int) = (LR, 0) := by
    rw [← hLR, ← hDX]
    simp [doS, h6, h8, hfit]
  have hLR2 : wth nm ⟨(nthF L k).s, DX, (nthF L k).y⟩ L (decide ((nthF L k).s.size = 0)) = LR := by rw [h9]; exact hLR
  clear hLR
  have hLR := hLR2
  clear hLR2 h9
  rw [hdo]
  clear hdo
  go_enter Tryz.func37, Tryz.ntmps37
  go_upto_region 16 with (go_at_call 18; refine (sFind (some ⟨b, off, none⟩) L.length cv (nthF L) x1 x2 x3 x4 x5 nm _ (hfl.later hb0) hn).mono ?_; rintro e w1 ⟨r', rfl, hr', hb1⟩; obtain rfl : r' = (k : Int) := fd_same hr' hr; have hX1 := rowL hX hb1; have hP1 := rowL hP hb1; have hR1 := rowL hR hb1; have xc0 : w1.cell? ⟨w.heap.size, 0, none⟩ = some (.slice (some ⟨b, off, none⟩) L.length cv) := (cell_of_row _ _ 0 _ _ _ hX1).trans rfl; have xf0 : w1.frozen? ⟨w.heap.size, 0, none⟩ = false := frozen_of_row _ _ 0 _ _ hX1; have xc1 : w1.cell? ⟨w.heap.size, 1, none⟩ = some (.int .i64 x1) := (cell_of_row _ _ 1 _ _ _ hX1).trans rfl; have xf1 : w1.frozen? ⟨w.heap.size, 1, none⟩ = false := frozen_of_row _ _ 1 _ _ hX1; have xc2 : w1.cell? ⟨w.heap.size, 2, none⟩ = some (.int .i64 x2) := (cell_of_row _ _ 2 _ _ _ hX1).trans rfl; have xf2 : w1.frozen? ⟨w.heap.size, 2, none⟩ = false := frozen_of_row _ _ 2 _ _ hX1; have xc3 : w1.cell? ⟨w.heap.size, 3, none⟩ = some (.int .i64 x3) := (cell_of_row _ _ 3 _ _ _ hX1).trans rfl; have xf3 : w1.frozen? ⟨w.heap.size, 3, none⟩ = false := frozen_of_row _ _ 3 _ _ hX1; have xc4 : w1.cell? ⟨w.heap.size, 4, none⟩ = some (.int .i64 x4) := (cell_of_row _ _ 4 _ _ _ hX1).trans rfl; have xf4 : w1.frozen? ⟨w.heap.size, 4, none⟩ = false := frozen_of_row _ _ 4 _ _ hX1; have xc5 : w1.cell? ⟨w.heap.size, 5, none⟩ = some (.bool x5) := (cell_of_row _ _ 5 _ _ _ hX1).trans rfl; have xf5 : w1.frozen? ⟨w.heap.size, 5, none⟩ = false := frozen_of_row _ _ 5 _ _ hX1; have pc0 : w1.cell? ⟨w.heap.size + 1, 0, none⟩ = some (.int .i64 2) := (cell_of_row _ _ 0 _ _ _ hP1).trans rfl; have pc1 : w1.cell? ⟨w.heap.size + 1, 1, none⟩ = some (.string nm) := (cell_of_row _ _ 1 _ _ _ hP1).trans rfl; have pc2 : w1.cell? ⟨w.heap.size + 1, 2, none⟩ = some (.string dt) := (cell_of_row _ _ 2 _ _ _ hP1).trans rfl; have pc3 : w1.cell? ⟨w.heap.size + 1, 3, none⟩ = some (.int .i64 sz) := (cell_of_row _ _ 3 _ _ _ hP1).trans rfl; have rc0 : w1.cell? ⟨w.heap.size + 1 + 1, 0, none⟩ = some (.slice none 0 0) := (cell_of_row _ _ 0 _ _ _ hR1).trans rfl; have rf0 : w1.frozen? ⟨w.heap.size + 1 + 1, 0, none⟩ = false := frozen_of_row _ _ 0 _ _ hR1; have rc1 : w1.cell? ⟨w.heap.size + 1 + 1, 1, none⟩ = some (.int .i64 0) := (cell_of_row _ _ 1 _ _ _ hR1).trans rfl; have rf1 : w1.frozen? ⟨w.heap.size + 1 + 1, 1, none⟩ = false := frozen_of_row _ _ 1 _ _ hR1; have rc2 : w1.cell? ⟨w.heap.size + 1 + 1, 2, none⟩ = some (.int .i64 0) := (cell_of_row _ _ 2 _ _ _ hR1).trans rfl; have rf2 : w1.frozen? ⟨w.heap.size + 1 + 1, 2, none⟩ = false := frozen_of_row _ _ 2 _ _ hR1; have rc3 : w1.cell? ⟨w.heap.size + 1 + 1, 3, none⟩ = some (.int .i64 0) := (cell_of_row _ _ 3 _ _ _ hR1).trans rfl; have rf3 : w1.frozen? ⟨w.heap.size + 1 + 1, 3, none⟩ = false := frozen_of_row _ _ 3 _ _ hR1; have rc4 : w1.cell? ⟨w.heap.size + 1 + 1, 4, none⟩ = some (.int .i64 0) := (cell_of_row _ _ 4 _ _ _ hR1).trans rfl; have rf4 : w1.frozen? ⟨w.heap.size + 1 + 1, 4, none⟩ = false := frozen_of_row _ _ 4 _ _ hR1; have rc5 : w1.cell? ⟨w.heap.size + 1 + 1, 5, none⟩ = some (.bool false) := (cell_of_row _ _ 5 _ _ _ hR1).trans rfl; have rf5 : w1.frozen? ⟨w.heap.size + 1 + 1, 5, none⟩ = false := frozen_of_row _ _ 5 _ _ hR1; obtain ⟨b', off', e', c0, c1, c2⟩ := hfl.later (bstep hb0 hb1) k hk; obtain ⟨rfl, rfl⟩ : b = b' ∧ off = off' := (by simpa using e'); have pa0 : ∀ o, (w1.alloc o).cell? ⟨w.heap.size + 1, 0, none⟩ = some (.int .i64 2) := fun o => keepB (bal w1 o) pc0; have pa1 : ∀ o, (w1.alloc o).cell? ⟨w.heap.size + 1, 1, none⟩ = some (.string nm) := fun o => keepB (bal w1 o) pc1; have pa2 : ∀ o, (w1.alloc o).cell? ⟨w.heap.size + 1, 2, none⟩ = some (.string dt) := fun o => keepB (bal w1 o) pc2; have pa3 : ∀ o, (w1.alloc o).cell? ⟨w.heap.size + 1, 3, none⟩ = some (.int .i64 sz) := fun o => keepB (bal w1 o) pc3; have xa0 : ∀ o, (w1.alloc o).cell? ⟨w.heap.size, 0, none⟩ = some (.slice (some ⟨b, off, none⟩) L.length cv) := fun o => keepB (bal w1 o) xc0; have xa1 : ∀ o, (w1.alloc o).cell? ⟨w.heap.size, 1, none⟩ = some (.int .i64 x1) := fun o => keepB (bal w1 o) xc1; have xa2 : ∀ o, (w1.alloc o).cell? ⟨w.heap.size, 2, none⟩ = some (.int .i64 x2) := fun o => keepB (bal w1 o) xc2; have xa3 : ∀ o, (w1.alloc o).cell? ⟨w.heap.size, 3, none⟩ = some (.int .i64 x3) := fun o => keepB (bal w1 o) xc3; have xa4 : ∀ o, (w1.alloc o).cell? ⟨w.heap.size, 4, none⟩ = some (.int .i64 x4) := fun o => keepB (bal w1 o) xc4; have xa5 : ∀ o, (w1.alloc o).cell? ⟨w.heap.size, 5, none⟩ = some (.bool x5) := fun o => keepB (bal w1 o) xc5)
  have hWf := heap_alloc_new w1 (.cells #[.string (nthF L k).s, .string (nthF L k).d, .int .i64 (nthF L k).y] 49)
  have hcw : Below w.heap.size w (w1.alloc (.cells #[.string (nthF L k).s, .string (nthF L k).d, .int .i64 (nthF L k).y] 49)) := bstep hb0 (bstep hb1 (bal w1 _))
  have hXf := rowL hX1 (bal w1 (.cells #[.string (nthF L k).s, .string (nthF L k).d, .int .i64 (nthF L k).y] 49))
  refine wp_region_held_drew (S := fun x => Below (w1.alloc (.cells #[.string (nthF L k).s, .string (nthF L k).d, .int .i64 (nthF L k).y] 49)).heap.size (w1.alloc (.cells #[.string (nthF L k).s, .string (nthF L k).d, .int .i64 (nthF L k).y] 49)) x) (by kernel_rfl) (bdrew1 _) (fun hHeld => ?_)
  refine' wpAnyH_take (i := 0) (oi := ({ dst := some 48, op := Op.fieldAddr 28 (Operand.tmp 2) 1, type := 0, pos := "l6_journal.go:91", after := #[], guard := none } : Oper)) (v := _) rfl (by kernel_rfl) (by kernel_rfl) (by kernel_rfl) (fun _ _ _ h => h) (Or.inl ⟨by rfl, fun x hSw => ?hyz1_0⟩) hHeld ?restz1_0
  case hyz1_0 =>
    have j0 := keepB hSw (xa0 (.cells #[.string (nthF L k).s, .string (nthF L k).d, .int .i64 (nthF L k).y] 49)); have j1 := keepB hSw (xa1 (.cells #[.string (nthF L k).s, .string (nthF L k).d, .int .i64 (nthF L k).y] 49)); have j2 := keepB hSw (xa2 (.cells #[.string (nthF L k).s, .string (nthF L k).d, .int .i64 (nthF L k).y] 49)); have j3 := keepB hSw (xa3 (.cells #[.string (nthF L k).s, .string (nthF L k).d, .int .i64 (nthF L k).y] 49)); have j4 := keepB hSw (xa4 (.cells #[.string (nthF L k).s, .string (nthF L k).d, .int .i64 (nthF L k).y] 49)); have j5 := keepB hSw (xa5 (.cells #[.string (nthF L k).s, .string (nthF L k).d, .int .i64 (nthF L k).y] 49))
    go_simp
    try with_reducible rfl
  try simp only [Act.put, List.setIfInBounds_toArray, List.set_cons_zero, List.set_cons_succ]
  refine' wpAnyH_take (i := 1) (oi := ({ dst := some 49, op := Op.load 3 (Operand.tmp 48), type := 3, pos := "l6_journal.go:91", after := #[{ on := 0, ground := Ground.data }], guard := none } : Oper)) (v := _) rfl (by kernel_rfl) (by kernel_rfl) (by kernel_rfl) (fun _ _ _ h => h) (Or.inl ⟨by rfl, fun x hSw => ?hyz1_1⟩) hHeld ?restz1_1
  case hyz1_1 =>
    have j0 := keepB hSw (xa0 (.cells #[.string (nthF L k).s, .string (nthF L k).d, .int .i64 (nthF L k).y] 49)); have j1 := keepB hSw (xa1 (.cells #[.string (nthF L k).s, .string (nthF L k).d, .int .i64 (nthF L k).y] 49)); have j2 := keepB hSw (xa2 (.cells #[.string (nthF L k).s, .string (nthF L k).d, .int .i64 (nthF L k).y] 49)); have j3 := keepB hSw (xa3 (.cells #[.string (nthF L k).s, .string (nthF L k).d, .int .i64 (nthF L k).y] 49)); have j4 := keepB hSw (xa4 (.cells #[.string (nthF L k).s, .string (nthF L k).d, .int .i64 (nthF L k).y] 49)); have j5 := keepB hSw (xa5 (.cells #[.string (nthF L k).s, .string (nthF L k).d, .int .i64 (nthF L k).y] 49))
    go_simp
    try with_reducible rfl
  try simp only [Act.put, List.setIfInBounds_toArray, List.set_cons_zero, List.set_cons_succ]
  refine' wpAnyH_take (i := 2) (oi := ({ dst := some 50, op := Op.load 28 (Operand.tmp 2), type := 28, pos := "l6_journal.go:91", after := #[], guard := none } : Oper)) (v := _) rfl (by kernel_rfl) (by kernel_rfl) (by kernel_rfl) (fun _ _ _ h => h) (Or.inl ⟨by rfl, fun x hSw => ?hyz1_2⟩) hHeld ?restz1_2
  case hyz1_2 =>
    have j0 := keepB hSw (xa0 (.cells #[.string (nthF L k).s, .string (nthF L k).d, .int .i64 (nthF L k).y] 49)); have j1 := keepB hSw (xa1 (.cells #[.string (nthF L k).s, .string (nthF L k).d, .int .i64 (nthF L k).y] 49)); have j2 := keepB hSw (xa2 (.cells #[.string (nthF L k).s, .string (nthF L k).d, .int .i64 (nthF L k).y] 49)); have j3 := keepB hSw (xa3 (.cells #[.string (nthF L k).s, .string (nthF L k).d, .int .i64 (nthF L k).y] 49)); have j4 := keepB hSw (xa4 (.cells #[.string (nthF L k).s, .string (nthF L k).d, .int .i64 (nthF L k).y] 49)); have j5 := keepB hSw (xa5 (.cells #[.string (nthF L k).s, .string (nthF L k).d, .int .i64 (nthF L k).y] 49))
    go_simp
    try with_reducible rfl
  try simp only [Act.put, List.setIfInBounds_toArray, List.set_cons_zero, List.set_cons_succ]
  refine wpAnyH_ready (rs := [3]) (by kernel_rfl) (by simp) ?_
  refine AllReadyH.cons (o := ({ dst := some 51, op := Op.call { callee := Callee.value (Operand.func 34), args := #[Operand.tmp 50], argTypes := #[28] }, type := 3, pos := "l6_journal.go:91", after := #[{ on := 2, ground := Ground.data }], guard := none } : Oper)) rfl (fun K hK => ?_) AllReadyH.nil
  go_simp
  refine (sBytes (some ⟨b, off, none⟩) L.length cv (nthF L) x1 x2 x3 x4 x5 _ (hfl.later (bstep hcw hHeld)) hF.sm).mono ?_
  rintro e w6 ⟨rfl, hb6⟩
  refine hK.out _ _ (bstep hHeld hb6) (fun hHeld => ?_)
  clear hK K
  try simp only [Act.put, List.setIfInBounds_toArray, List.set_cons_zero, List.set_cons_succ]
  refine' wpAnyH_take (i := 4) (oi := ({ dst := some 52, op := Op.binOp BinOp.sub 3 (Operand.tmp 49) (Operand.tmp 51) 3, type := 3, pos := "l6_journal.go:91", after := #[{ on := 1, ground := Ground.data }, { on := 3, ground := Ground.data }], guard := none } : Oper)) (v := _) rfl (by kernel_rfl) (by kernel_rfl) (by kernel_rfl) (fun _ _ _ h => h) (Or.inl ⟨by rfl, fun x hSw => ?hyz1_4⟩) hHeld ?restz1_4
  case hyz1_4 =>
    have j0 := keepB hSw (xa0 (.cells #[.string (nthF L k).s, .string (nthF L k).d, .int .i64 (nthF L k).y] 49)); have j1 := keepB hSw (xa1 (.cells #[.string (nthF L k).s, .string (nthF L k).d, .int .i64 (nthF L k).y] 49)); have j2 := keepB hSw (xa2 (.cells #[.string (nthF L k).s, .string (nthF L k).d, .int .i64 (nthF L k).y] 49)); have j3 := keepB hSw (xa3 (.cells #[.string (nthF L k).s, .string (nthF L k).d, .int .i64 (nthF L k).y] 49)); have j4 := keepB hSw (xa4 (.cells #[.string (nthF L k).s, .string (nthF L k).d, .int .i64 (nthF L k).y] 49)); have j5 := keepB hSw (xa5 (.cells #[.string (nthF L k).s, .string (nthF L k).d, .int .i64 (nthF L k).y] 49))
    go_simp
    try with_reducible rfl
  try simp only [Act.put, List.setIfInBounds_toArray, List.set_cons_zero, List.set_cons_succ]
  refine' wpAnyH_take (i := 5) (oi := ({ dst := some 10, op := Op.assign (Operand.tmp 52), type := 3, pos := "l6_journal.go:91", after := #[{ on := 4, ground := Ground.data }, { on := 3, ground := Ground.chain }, { on := 0, ground := Ground.phase }, { on := 1, ground := Ground.phase }, { on := 2, ground := Ground.phase }, { on := 3, ground := Ground.phase }, { on := 4, ground := Ground.phase }], guard := none } : Oper)) (v := _) rfl (by kernel_rfl) (by kernel_rfl) (by kernel_rfl) (fun _ _ _ h => h) (Or.inl ⟨by rfl, fun x hSw => ?hyz1_5⟩) hHeld ?restz1_5
  case hyz1_5 =>
    have j0 := keepB hSw (xa0 (.cells #[.string (nthF L k).s, .string (nthF L k).d, .int .i64 (nthF L k).y] 49)); have j1 := keepB hSw (xa1 (.cells #[.string (nthF L k).s, .string (nthF L k).d, .int .i64 (nthF L k).y] 49)); have j2 := keepB hSw (xa2 (.cells #[.string (nthF L k).s, .string (nthF L k).d, .int .i64 (nthF L k).y] 49)); have j3 := keepB hSw (xa3 (.cells #[.string (nthF L k).s, .string (nthF L k).d, .int .i64 (nthF L k).y] 49)); have j4 := keepB hSw (xa4 (.cells #[.string (nthF L k).s, .string (nthF L k).d, .int .i64 (nthF L k).y] 49)); have j5 := keepB hSw (xa5 (.cells #[.string (nthF L k).s, .string (nthF L k).d, .int .i64 (nthF L k).y] 49))
    go_simp
    try with_reducible rfl
  try simp only [Act.put, List.setIfInBounds_toArray, List.set_cons_zero, List.set_cons_succ]
  refine wpAnyH_done (by kernel_rfl) ?_ _
  have hX6 := rowL hXf hHeld
  have hP6 := rowL (rowL hP1 (bal w1 _)) hHeld
  have hR6 := rowL (rowL hR1 (bal w1 _)) hHeld
  have hF6 := rowL hWf hHeld
  have hc6 := bstep hcw hHeld
  have hs1 : w.heap.size + 1 + 1 < w1.heap.size := (Array.getElem?_eq_some_iff.1 hR1).1
  have fb1 : w6.cell? ⟨w1.heap.size, 1, none⟩ = some (.string (nthF L k).d) := (cell_of_row _ _ 1 _ _ _ hF6).trans rfl
  have ff1 : w6.frozen? ⟨w1.heap.size, 1, none⟩ = false := frozen_of_row _ _ 1 _ _ hF6
  clear xc0 xf0 xc1 xf1 xc2 xf2 xc3 xf3 xc4 xf4 xc5 xf5 pc0 pc1 pc2 pc3 rc0 rf0 rc1 rf1 rc2 rf2 rc3 rf3 rc4 rf4 rc5 rf5 pa0 pa1 pa2 pa3 xa0 xa1 xa2 xa3 xa4 xa5 c0 c1 c2 hHeld
  have zz : ¬ 9223372036854775807 < (nthF L k).d.size + dt.size := by omega
  go_upto_region 31 with fail
  have hX7 := rowO (B := w1.heap.size) (i := 1) (v := .string DX) hX6 (by omega)
  have hP7 := rowO (B := w1.heap.size) (i := 1) (v := .string DX) hP6 (by omega)
  have hR7 := rowO (B := w1.heap.size) (i := 1) (v := .string DX) hR6 (by omega)
  have hF7 : (w6.setCell ⟨w1.heap.size, 1, none⟩ (.string DX)).heap[w1.heap.size]? = some (.cells #[.string (nthF L k).s, .string DX, .int .i64 (nthF L k).y] 49 (0, 0)) := heap_setCell_same _ _ 1 _ _ _ hF6
  have hc7 := bset (B := w1.heap.size) (i := 1) (v := .string DX) hc6 (by omega)
  obtain ⟨W7, hW7⟩ : ∃ W7, w6.setCell ⟨w1.heap.size, 1, none⟩ (.string DX) = W7 := ⟨_, rfl⟩
  rw [hW7] at hX7 hP7 hR7 hF7 hc7 ⊢
  clear hW7 fb1 ff1
  have tx0 : W7.cell? ⟨w.heap.size, 0, none⟩ = some (.slice (some ⟨b, off, none⟩) L.length cv) := (cell_of_row _ _ 0 _ _ _ hX7).trans rfl
  have tp1 : W7.cell? ⟨w.heap.size + 1, 1, none⟩ = some (.string nm) := (cell_of_row _ _ 1 _ _ _ hP7).trans rfl
  have tf0 : W7.cell? ⟨w1.heap.size, 0, none⟩ = some (.string (nthF L k).s) := (cell_of_row _ _ 0 _ _ _ hF7).trans rfl
  have tf1 : W7.cell? ⟨w1.heap.size, 1, none⟩ = some (.string DX) := (cell_of_row _ _ 1 _ _ _ hF7).trans rfl
  have tf2 : W7.cell? ⟨w1.heap.size, 2, none⟩ = some (.int .i64 (nthF L k).y) := (cell_of_row _ _ 2 _ _ _ hF7).trans rfl
  go_upto_region 32 with (go_at_call 51; refine (sWith (some ⟨b, off, none⟩) cv L nm ⟨(nthF L k).s, DX, (nthF L k).y⟩ _ (hfl.later (hc7)) hn).mono ?_; rw [hLR]; rintro e wb ⟨g2, cap2, rfl, hO2, hb2⟩; replace hO2 := wk_l hO2 (Nat.le_trans hBo (Below.size (hc7))); have hbw := bstep (hc7) hb2; have hXb := rowL hX7 hb2; have hRb := rowL hR7 hb2; have bc0 : wb.cell? ⟨w.heap.size, 0, none⟩ = some (.slice (some ⟨b, off, none⟩) L.length cv) := (cell_of_row _ _ 0 _ _ _ hXb).trans rfl; have bf0 : wb.frozen? ⟨w.heap.size, 0, none⟩ = false := frozen_of_row _ _ 0 _ _ hXb)
  have hX3 : (wb.setCell ⟨w.heap.size, 0, none⟩ (.slice (some ⟨g2, 0, none⟩) LR.length cap2)).heap[w.heap.size]? = some (.cells #[.slice (some ⟨g2, 0, none⟩) LR.length cap2, .int .i64 x1, .int .i64 x2, .int .i64 x3, .int .i64 x4, .bool x5] 28 (0, 0)) := heap_setCell_same _ _ 0 _ _ _ hXb
  have hR3 := rowO (B := w.heap.size) (i := 0) (v := .slice (some ⟨g2, 0, none⟩) LR.length cap2) hRb (by omega)
  have hO3 : OwnL (wb.setCell ⟨w.heap.size, 0, none⟩ (.slice (some ⟨g2, 0, none⟩) LR.length cap2)) Bo (.slice (some ⟨g2, 0, none⟩) LR.length cap2) LR := keep1 hO2 hXb
  have hb3 : Below w.heap.size w (wb.setCell ⟨w.heap.size, 0, none⟩ (.slice (some ⟨g2, 0, none⟩) LR.length cap2)) := bset hbw (Nat.le_refl _)
  obtain ⟨W3, hW3⟩ : ∃ W3, wb.setCell ⟨w.heap.size, 0, none⟩ (.slice (some ⟨g2, 0, none⟩) LR.length cap2) = W3 := ⟨_, rfl⟩
  rw [hW3] at hX3 hR3 hO3 hb3 ⊢
  clear hW3 tx0 tp1 tf0 tf1 tf2 bc0 bf0
  have qc0 : W3.cell? ⟨w.heap.size, 0, none⟩ = some (.slice (some ⟨g2, 0, none⟩) LR.length cap2) := (cell_of_row _ _ 0 _ _ _ hX3).trans rfl
  have qc1 : W3.cell? ⟨w.heap.size, 1, none⟩ = some (.int .i64 x1) := (cell_of_row _ _ 1 _ _ _ hX3).trans rfl
  have qc2 : W3.cell? ⟨w.heap.size, 2, none⟩ = some (.int .i64 x2) := (cell_of_row _ _ 2 _ _ _ hX3).trans rfl
  have qc3 : W3.cell? ⟨w.heap.size, 3, none⟩ = some (.int .i64 x3) := (cell_of_row _ _ 3 _ _ _ hX3).trans rfl
  have qc4 : W3.cell? ⟨w.heap.size, 4, none⟩ = some (.int .i64 x4) := (cell_of_row _ _ 4 _ _ _ hX3).trans rfl
  have qc5 : W3.cell? ⟨w.heap.size, 5, none⟩ = some (.bool x5) := (cell_of_row _ _ 5 _ _ _ hX3).trans rfl
  have sc0 : W3.cell? ⟨w.heap.size + 1 + 1, 0, none⟩ = some (.slice none 0 0) := (cell_of_row _ _ 0 _ _ _ hR3).trans rfl
  have sf0 : W3.frozen? ⟨w.heap.size + 1 + 1, 0, none⟩ = false := frozen_of_row _ _ 0 _ _ hR3
  have sc1 : W3.cell? ⟨w.heap.size + 1 + 1, 1, none⟩ = some (.int .i64 0) := (cell_of_row _ _ 1 _ _ _ hR3).trans rfl
  have sf1 : W3.frozen? ⟨w.heap.size + 1 + 1, 1, none⟩ = false := frozen_of_row _ _ 1 _ _ hR3
  have sc2 : W3.cell? ⟨w.heap.size + 1 + 1, 2, none⟩ = some (.int .i64 0) := (cell_of_row _ _ 2 _ _ _ hR3).trans rfl
  have sf2 : W3.frozen? ⟨w.heap.size + 1 + 1, 2, none⟩ = false := frozen_of_row _ _ 2 _ _ hR3
  have sc3 : W3.cell? ⟨w.heap.size + 1 + 1, 3, none⟩ = some (.int .i64 0) := (cell_of_row _ _ 3 _ _ _ hR3).trans rfl
  have sf3 : W3.frozen? ⟨w.heap.size + 1 + 1, 3, none⟩ = false := frozen_of_row _ _ 3 _ _ hR3
  have sc4 : W3.cell? ⟨w.heap.size + 1 + 1, 4, none⟩ = some (.int .i64 0) := (cell_of_row _ _ 4 _ _ _ hR3).trans rfl
  have sf4 : W3.frozen? ⟨w.heap.size + 1 + 1, 4, none⟩ = false := frozen_of_row _ _ 4 _ _ hR3
  have sc5 : W3.cell? ⟨w.heap.size + 1 + 1, 5, none⟩ = some (.bool false) := (cell_of_row _ _ 5 _ _ _ hR3).trans rfl
  have sf5 : W3.frozen? ⟨w.heap.size + 1 + 1, 5, none⟩ = false := frozen_of_row _ _ 5 _ _ hR3
  go_wp2
  refine bodyPost_ret (results_cell_tmp Tryz.results37 _ _ (w.heap.size + 1 + 1) 28 _ (0, 0) _ rfl (set6_row _ _ _ _ _ _ hR3) Tryz.underlying28 rfl (by kernel_rfl)) rfl ⟨_, _, _, rfl, ?_, set6_below _ _ _ _ _ _ hb3 (by omega)⟩
  exact keep6 hO3 hR3
set_option maxRecDepth 20000 in
set_option maxHeartbeats 8000000 in
theorem sDo2c (Bo : Nat) (b off : Nat) (n cv : Nat) (L : List Fil) (hLn : L.length = n) (x1 x2 x3 x4 : Int) (x5 : Bool) (nm dt : ByteArray) (sz : Int) (k : Nat) (w : World) (hO : OwnL w Bo (.slice (some ⟨b, off, none⟩) n cv) L) (hBo : Bo ≤ w.heap.size) (hF : Fit L x1 2 nm dt) (hr : FdAt L nm (k : Int)) (hfit : x1 - (sumD (nthF L) L.length : Int) < (dt.size : Int)) :
    Calls Tryz.prog 37 #[.agg #[.slice (some ⟨b, off, none⟩) n cv, .int .i64 x1, .int .i64 x2, .int .i64 x3, .int .i64 x4, .bool x5], .agg #[.int .i64 2, .string nm, .string dt, .int .i64 sz]] w fun e w' => Done w w' Bo (doS L x1 2 nm dt sz (k : Int)).1 x1 x2 x3 x4 x5 (doS L x1 2 nm dt sz (k : Int)).2 e := by
  subst hLn
  have hfl := hO.f.fl
  have hb0 : Below w.heap.size w (((w.alloc (.cells #[.slice (some ⟨b, off, none⟩) L.length cv, .int .i64 x1, .int .i64 x2, .int .i64 x3, .int .i64 x4, .bool x5] 28)).alloc (.cells #[.int .i64 2, .string nm, .string dt, .int .i64 sz] 53)).alloc (.cells #[.slice none 0 0, .int .i64 0, .int .i64 0, .int .i64 0, .int .i64 0, .bool false] 28)) := bstep (bal _ _) (bstep (bal _ _) (bal _ _))
  have hX := rowL (rowL (heap_alloc_new w (.cells #[.slice (some ⟨b, off, none⟩) L.length cv, .int .i64 x1, .int .i64 x2, .int .i64 x3, .int .i64 x4, .bool x5] 28)) (bal (w.alloc (.cells #[.slice (some ⟨b, off, none⟩) L.length cv, .int .i64 x1, .int .i64 x2, .int .i64 x3, .int .i64 x4, .bool x5] 28)) (.cells #[.int .i64 2, .string nm, .string dt, .int .i64 sz] 53))) (bal ((w.alloc (.cells #[.slice (some ⟨b, off, none⟩) L.length cv, .int .i64 x1, .int .i64 x2, .int .i64 x3, .int .i64 x4, .bool x5] 28)).alloc (.cells #[.int .i64 2, .string nm, .string dt, .int .i64 sz] 53)) (.cells #[.slice none 0 0, .int .i64 0, .int .i64 0, .int .i64 0, .int .i64 0, .bool false] 28))
  have hP := heap_alloc_new (w.alloc (.cells #[.slice (some ⟨b, off, none⟩) L.length cv, .int .i64 x1, .int .i64 x2, .int .i64 x3, .int .i64 x4, .bool x5] 28)) (.cells #[.int .i64 2, .string nm, .string dt, .int .i64 sz] 53)
  rw [World.size_alloc] at hP
  replace hP := rowL hP (bal ((w.alloc (.cells #[.slice (some ⟨b, off, none⟩) L.length cv, .int .i64 x1, .int .i64 x2, .int .i64 x3, .int .i64 x4, .bool x5] 28)).alloc (.cells #[.int .i64 2, .string nm, .string dt, .int .i64 sz] 53)) (.cells #[.slice none 0 0, .int .i64 0, .int .i64 0, .int .i64 0, .int .i64 0, .bool false] 28))
  have hR := heap_alloc_new ((w.alloc (.cells #[.slice (some ⟨b, off, none⟩) L.length cv, .int .i64 x1, .int .i64 x2, .int .i64 x3, .int .i64 x4, .bool x5] 28)).alloc (.cells #[.int .i64 2, .string nm, .string dt, .int .i64 sz] 53)) (.cells #[.slice none 0 0, .int .i64 0, .int .i64 0, .int .i64 0, .int .i64 0, .bool false] 28)
  have hs2 : ((w.alloc (.cells #[.slice (some ⟨b, off, none⟩) L.length cv, .int .i64 x1, .int .i64 x2, .int .i64 x3, .int .i64 x4, .bool x5] 28)).alloc (.cells #[.int .i64 2, .string nm, .string dt, .int .i64 sz] 53)).heap.size = w.heap.size + 1 + 1 := by simp
  rw [hs2] at hR
  have hn := hF.sm.n
  have hk := fd_lt hr
  have h5 : (k : Int) < L.length := by omega
  have h6 : ¬ (k : Int) < 0 := by omega
  have h7 : (0 : Int) ≤ (k : Int) := by omega
  have h8 : (k : Int).toNat = k := by omega
  have h9 : decide ((nthF L k).s.size = 0) = false := by rw [fd_s hr]; simp [hF.nm0]
  obtain ⟨DE, hDE⟩ : ∃ DE, dt.extract 0 (x1 - (sumD (nthF L) L.length : Int)).toNat = DE := ⟨_, rfl⟩
  obtain ⟨DX, hDX⟩ : ∃ DX, (nthF L k).d ++ DE = DX := ⟨_, rfl⟩
  have hdL := hF.sm.d k hk
  have hdt := hF.dt1
  have hx1 := hF.rm0
  have hx2 := hF.x1m
  have qs : IntKind.i64.wrap (x1 - (sumD (nthF L) L.length : Int)) = x1 - (sumD (nthF L) L.length : Int) := by rw [IntKind.wrap_i64]; omega
  obtain ⟨LR, hLR⟩ : ∃ LR, wth nm ⟨(nthF L k).s, DX, (nthF L k).y⟩ L false = LR := ⟨_, rfl⟩
  have hdo : doS L x1 2 nm dt sz (k : Int) = (LR, 13) := by
    rw [← hLR, ← hDX, ← hDE]
    simp [doS, h6, h8, hfit]
  have hLR2 : wth nm ⟨(nthF L k).s, DX, (nthF L k).y⟩ L (decide ((nthF L k).s.size = 0)) = LR := by rw [h9]; exact hLR
  clear hLR
  have hLR := hLR2
  clear hLR2 h9
  rw [hdo]
  clear hdo
  go_enter Tryz.func37, Tryz.ntmps37
  go_upto_region 16 with (go_at_call 18; refine (sFind (some ⟨b, off, none⟩) L.length cv (nthF L) x1 x2 x3 x4 x5 nm _ (hfl.later hb0) hn).mono ?_; rintro e w1 ⟨r', rfl, hr', hb1⟩; obtain rfl : r' = (k : Int) := fd_same hr' hr; have hX1 := rowL hX hb1; have hP1 := rowL hP hb1; have hR1 := rowL hR hb1; have xc0 : w1.cell? ⟨w.heap.size, 0, none⟩ = some (.slice (some ⟨b, off, none⟩) L.length cv) := (cell_of_row _ _ 0 _ _ _ hX1).trans rfl; have xf0 : w1.frozen? ⟨w.heap.size, 0, none⟩ = false := frozen_of_row _ _ 0 _ _ hX1; have xc1 : w1.cell? ⟨w.heap.size, 1, none⟩ = some (.int .i64 x1) := (cell_of_row _ _ 1 _ _ _ hX1).trans rfl; have xf1 : w1.frozen? ⟨w.heap.size, 1, none⟩ = false := frozen_of_row _ _ 1 _ _ hX1; have xc2 : w1.cell? ⟨w.heap.size, 2, none⟩ = some (.int .i64 x2) := (cell_of_row _ _ 2 _ _ _ hX1).trans rfl; have xf2 : w1.frozen? ⟨w.heap.size, 2, none⟩ = false := frozen_of_row _ _ 2 _ _ hX1; have xc3 : w1.cell? ⟨w.heap.size, 3, none⟩ = some (.int .i64 x3) := (cell_of_row _ _ 3 _ _ _ hX1).trans rfl; have xf3 : w1.frozen? ⟨w.heap.size, 3, none⟩ = false := frozen_of_row _ _ 3 _ _ hX1; have xc4 : w1.cell? ⟨w.heap.size, 4, none⟩ = some (.int .i64 x4) := (cell_of_row _ _ 4 _ _ _ hX1).trans rfl; have xf4 : w1.frozen? ⟨w.heap.size, 4, none⟩ = false := frozen_of_row _ _ 4 _ _ hX1; have xc5 : w1.cell? ⟨w.heap.size, 5, none⟩ = some (.bool x5) := (cell_of_row _ _ 5 _ _ _ hX1).trans rfl; have xf5 : w1.frozen? ⟨w.heap.size, 5, none⟩ = false := frozen_of_row _ _ 5 _ _ hX1; have pc0 : w1.cell? ⟨w.heap.size + 1, 0, none⟩ = some (.int .i64 2) := (cell_of_row _ _ 0 _ _ _ hP1).trans rfl; have pc1 : w1.cell? ⟨w.heap.size + 1, 1, none⟩ = some (.string nm) := (cell_of_row _ _ 1 _ _ _ hP1).trans rfl; have pc2 : w1.cell? ⟨w.heap.size + 1, 2, none⟩ = some (.string dt) := (cell_of_row _ _ 2 _ _ _ hP1).trans rfl; have pc3 : w1.cell? ⟨w.heap.size + 1, 3, none⟩ = some (.int .i64 sz) := (cell_of_row _ _ 3 _ _ _ hP1).trans rfl; have rc0 : w1.cell? ⟨w.heap.size + 1 + 1, 0, none⟩ = some (.slice none 0 0) := (cell_of_row _ _ 0 _ _ _ hR1).trans rfl; have rf0 : w1.frozen? ⟨w.heap.size + 1 + 1, 0, none⟩ = false := frozen_of_row _ _ 0 _ _ hR1; have rc1 : w1.cell? ⟨w.heap.size + 1 + 1, 1, none⟩ = some (.int .i64 0) := (cell_of_row _ _ 1 _ _ _ hR1).trans rfl; have rf1 : w1.frozen? ⟨w.heap.size + 1 + 1, 1, none⟩ = false := frozen_of_row _ _ 1 _ _ hR1; have rc2 : w1.cell? ⟨w.heap.size + 1 + 1, 2, none⟩ = some (.int .i64 0) := (cell_of_row _ _ 2 _ _ _ hR1).trans rfl; have rf2 : w1.frozen? ⟨w.heap.size + 1 + 1, 2, none⟩ = false := frozen_of_row _ _ 2 _ _ hR1; have rc3 : w1.cell? ⟨w.heap.size + 1 + 1, 3, none⟩ = some (.int .i64 0) := (cell_of_row _ _ 3 _ _ _ hR1).trans rfl; have rf3 : w1.frozen? ⟨w.heap.size + 1 + 1, 3, none⟩ = false := frozen_of_row _ _ 3 _ _ hR1; have rc4 : w1.cell? ⟨w.heap.size + 1 + 1, 4, none⟩ = some (.int .i64 0) := (cell_of_row _ _ 4 _ _ _ hR1).trans rfl; have rf4 : w1.frozen? ⟨w.heap.size + 1 + 1, 4, none⟩ = false := frozen_of_row _ _ 4 _ _ hR1; have rc5 : w1.cell? ⟨w.heap.size + 1 + 1, 5, none⟩ = some (.bool false) := (cell_of_row _ _ 5 _ _ _ hR1).trans rfl; have rf5 : w1.frozen? ⟨w.heap.size + 1 + 1, 5, none⟩ = false := frozen_of_row _ _ 5 _ _ hR1; obtain ⟨b', off', e', c0, c1, c2⟩ := hfl.later (bstep hb0 hb1) k hk; obtain ⟨rfl, rfl⟩ : b = b' ∧ off = off' := (by simpa using e'); have pa0 : ∀ o, (w1.alloc o).cell? ⟨w.heap.size + 1, 0, none⟩ = some (.int .i64 2) := fun o => keepB (bal w1 o) pc0; have pa1 : ∀ o, (w1.alloc o).cell? ⟨w.heap.size + 1, 1, none⟩ = some (.string nm) := fun o => keepB (bal w1 o) pc1; have pa2 : ∀ o, (w1.alloc o).cell? ⟨w.heap.size + 1, 2, none⟩ = some (.string dt) := fun o => keepB (bal w1 o) pc2; have pa3 : ∀ o, (w1.alloc o).cell? ⟨w.heap.size + 1, 3, none⟩ = some (.int .i64 sz) := fun o => keepB (bal w1 o) pc3; have xa0 : ∀ o, (w1.alloc o).cell? ⟨w.heap.size, 0, none⟩ = some (.slice (some ⟨b, off, none⟩) L.length cv) := fun o => keepB (bal w1 o) xc0; have xa1 : ∀ o, (w1.alloc o).cell? ⟨w.heap.size, 1, none⟩ = some (.int .i64 x1) := fun o => keepB (bal w1 o) xc1; have xa2 : ∀ o, (w1.alloc o).cell? ⟨w.heap.size, 2, none⟩ = some (.int .i64 x2) := fun o => keepB (bal w1 o) xc2; have xa3 : ∀ o, (w1.alloc o).cell? ⟨w.heap.size, 3, none⟩ = some (.int .i64 x3) := fun o => keepB (bal w1 o) xc3; have xa4 : ∀ o, (w1.alloc o).cell? ⟨w.heap.size, 4, none⟩ = some (.int .i64 x4) := fun o => keepB (bal w1 o) xc4; have xa5 : ∀ o, (w1.alloc o).cell? ⟨w.heap.size, 5, none⟩ = some (.bool x5) := fun o => keepB (bal w1 o) xc5)
  have hWf := heap_alloc_new w1 (.cells #[.string (nthF L k).s, .string (nthF L k).d, .int .i64 (nthF L k).y] 49)
  have hcw : Below w.heap.size w (w1.alloc (.cells #[.string (nthF L k).s, .string (nthF L k).d, .int .i64 (nthF L k).y] 49)) := bstep hb0 (bstep hb1 (bal w1 _))
  have hXf := rowL hX1 (bal w1 (.cells #[.string (nthF L k).s, .string (nthF L k).d, .int .i64 (nthF L k).y] 49))
  refine wp_region_held_drew (S := fun x => Below (w1.alloc (.cells #[.string (nthF L k).s, .string (nthF L k).d, .int .i64 (nthF L k).y] 49)).heap.size (w1.alloc (.cells #[.string (nthF L k).s, .string (nthF L k).d, .int .i64 (nthF L k).y] 49)) x) (by kernel_rfl) (bdrew1 _) (fun hHeld => ?_)
  refine' wpAnyH_take (i := 0) (oi := ({ dst := some 48, op := Op.fieldAddr 28 (Operand.tmp 2) 1, type := 0, pos := "l6_journal.go:91", after := #[], guard := none } : Oper)) (v := _) rfl (by kernel_rfl) (by kernel_rfl) (by kernel_rfl) (fun _ _ _ h => h) (Or.inl ⟨by rfl, fun x hSw => ?hyz2_0⟩) hHeld ?restz2_0
  case hyz2_0 =>
    have j0 := keepB hSw (xa0 (.cells #[.string (nthF L k).s, .string (nthF L k).d, .int .i64 (nthF L k).y] 49)); have j1 := keepB hSw (xa1 (.cells #[.string (nthF L k).s, .string (nthF L k).d, .int .i64 (nthF L k).y] 49)); have j2 := keepB hSw (xa2 (.cells #[.string (nthF L k).s, .string (nthF L k).d, .int .i64 (nthF L k).y] 49)); have j3 := keepB hSw (xa3 (.cells #[.string (nthF L k).s, .string (nthF L k).d, .int .i64 (nthF L k).y] 49)); have j4 := keepB hSw (xa4 (.cells #[.string (nthF L k).s, .string (nthF L k).d, .int .i64 (nthF L k).y] 49)); have j5 := keepB hSw (xa5 (.cells #[.string (nthF L k).s, .string (nthF L k).d, .int .i64 (nthF L k).y] 49))
    go_simp
    try with_reducible rfl
  try simp only [Act.put, List.setIfInBounds_toArray, List.set_cons_zero, List.set_cons_succ]
  refine' wpAnyH_take (i := 1) (oi := ({ dst := some 49, op := Op.load 3 (Operand.tmp 48), type := 3, pos := "l6_journal.go:91", after := #[{ on := 0, ground := Ground.data }], guard := none } : Oper)) (v := _) rfl (by kernel_rfl) (by kernel_rfl) (by kernel_rfl) (fun _ _ _ h => h) (Or.inl ⟨by rfl, fun x hSw => ?hyz2_1⟩) hHeld ?restz2_1
  case hyz2_1 =>
    have j0 := keepB hSw (xa0 (.cells #[.string (nthF L k).s, .string (nthF L k).d, .int .i64 (nthF L k).y] 49)); have j1 := keepB hSw (xa1 (.cells #[.string (nthF L k).s, .string (nthF L k).d, .int .i64 (nthF L k).y] 49)); have j2 := keepB hSw (xa2 (.cells #[.string (nthF L k).s, .string (nthF L k).d, .int .i64 (nthF L k).y] 49)); have j3 := keepB hSw (xa3 (.cells #[.string (nthF L k).s, .string (nthF L k).d, .int .i64 (nthF L k).y] 49)); have j4 := keepB hSw (xa4 (.cells #[.string (nthF L k).s, .string (nthF L k).d, .int .i64 (nthF L k).y] 49)); have j5 := keepB hSw (xa5 (.cells #[.string (nthF L k).s, .string (nthF L k).d, .int .i64 (nthF L k).y] 49))
    go_simp
    try with_reducible rfl
  try simp only [Act.put, List.setIfInBounds_toArray, List.set_cons_zero, List.set_cons_succ]
  refine' wpAnyH_take (i := 2) (oi := ({ dst := some 50, op := Op.load 28 (Operand.tmp 2), type := 28, pos := "l6_journal.go:91", after := #[], guard := none } : Oper)) (v := _) rfl (by kernel_rfl) (by kernel_rfl) (by kernel_rfl) (fun _ _ _ h => h) (Or.inl ⟨by rfl, fun x hSw => ?hyz2_2⟩) hHeld ?restz2_2
  case hyz2_2 =>
    have j0 := keepB hSw (xa0 (.cells #[.string (nthF L k).s, .string (nthF L k).d, .int .i64 (nthF L k).y] 49)); have j1 := keepB hSw (xa1 (.cells #[.string (nthF L k).s, .string (nthF L k).d, .int .i64 (nthF L k).y] 49)); have j2 := keepB hSw (xa2 (.cells #[.string (nthF L k).s, .string (nthF L k).d, .int .i64 (nthF L k).y] 49)); have j3 := keepB hSw (xa3 (.cells #[.string (nthF L k).s, .string (nthF L k).d, .int .i64 (nthF L k).y] 49)); have j4 := keepB hSw (xa4 (.cells #[.string (nthF L k).s, .string (nthF L k).d, .int .i64 (nthF L k).y] 49)); have j5 := keepB hSw (xa5 (.cells #[.string (nthF L k).s, .string (nthF L k).d, .int .i64 (nthF L k).y] 49))
    go_simp
    try with_reducible rfl
  try simp only [Act.put, List.setIfInBounds_toArray, List.set_cons_zero, List.set_cons_succ]
  refine wpAnyH_ready (rs := [3]) (by kernel_rfl) (by simp) ?_
  refine AllReadyH.cons (o := ({ dst := some 51, op := Op.call { callee := Callee.value (Operand.func 34), args := #[Operand.tmp 50], argTypes := #[28] }, type := 3, pos := "l6_journal.go:91", after := #[{ on := 2, ground := Ground.data }], guard := none } : Oper)) rfl (fun K hK => ?_) AllReadyH.nil
  go_simp
  refine (sBytes (some ⟨b, off, none⟩) L.length cv (nthF L) x1 x2 x3 x4 x5 _ (hfl.later (bstep hcw hHeld)) hF.sm).mono ?_
  rintro e w6 ⟨rfl, hb6⟩
  refine hK.out _ _ (bstep hHeld hb6) (fun hHeld => ?_)
  clear hK K
  try simp only [Act.put, List.setIfInBounds_toArray, List.set_cons_zero, List.set_cons_succ]
  refine' wpAnyH_take (i := 4) (oi := ({ dst := some 52, op := Op.binOp BinOp.sub 3 (Operand.tmp 49) (Operand.tmp 51) 3, type := 3, pos := "l6_journal.go:91", after := #[{ on := 1, ground := Ground.data }, { on := 3, ground := Ground.data }], guard := none } : Oper)) (v := _) rfl (by kernel_rfl) (by kernel_rfl) (by kernel_rfl) (fun _ _ _ h => h) (Or.inl ⟨by rfl, fun x hSw => ?hyz2_4⟩) hHeld ?restz2_4
  case hyz2_4 =>
    have j0 := keepB hSw (xa0 (.cells #[.string (nthF L k).s, .string (nthF L k).d, .int .i64 (nthF L k).y] 49)); have j1 := keepB hSw (xa1 (.cells #[.string (nthF L k).s, .string (nthF L k).d, .int .i64 (nthF L k).y] 49)); have j2 := keepB hSw (xa2 (.cells #[.string (nthF L k).s, .string (nthF L k).d, .int .i64 (nthF L k).y] 49)); have j3 := keepB hSw (xa3 (.cells #[.string (nthF L k).s, .string (nthF L k).d, .int .i64 (nthF L k).y] 49)); have j4 := keepB hSw (xa4 (.cells #[.string (nthF L k).s, .string (nthF L k).d, .int .i64 (nthF L k).y] 49)); have j5 := keepB hSw (xa5 (.cells #[.string (nthF L k).s, .string (nthF L k).d, .int .i64 (nthF L k).y] 49))
    go_simp
    try with_reducible rfl
  try simp only [Act.put, List.setIfInBounds_toArray, List.set_cons_zero, List.set_cons_succ]
  refine' wpAnyH_take (i := 5) (oi := ({ dst := some 10, op := Op.assign (Operand.tmp 52), type := 3, pos := "l6_journal.go:91", after := #[{ on := 4, ground := Ground.data }, { on := 3, ground := Ground.chain }, { on := 0, ground := Ground.phase }, { on := 1, ground := Ground.phase }, { on := 2, ground := Ground.phase }, { on := 3, ground := Ground.phase }, { on := 4, ground := Ground.phase }], guard := none } : Oper)) (v := _) rfl (by kernel_rfl) (by kernel_rfl) (by kernel_rfl) (fun _ _ _ h => h) (Or.inl ⟨by rfl, fun x hSw => ?hyz2_5⟩) hHeld ?restz2_5
  case hyz2_5 =>
    have j0 := keepB hSw (xa0 (.cells #[.string (nthF L k).s, .string (nthF L k).d, .int .i64 (nthF L k).y] 49)); have j1 := keepB hSw (xa1 (.cells #[.string (nthF L k).s, .string (nthF L k).d, .int .i64 (nthF L k).y] 49)); have j2 := keepB hSw (xa2 (.cells #[.string (nthF L k).s, .string (nthF L k).d, .int .i64 (nthF L k).y] 49)); have j3 := keepB hSw (xa3 (.cells #[.string (nthF L k).s, .string (nthF L k).d, .int .i64 (nthF L k).y] 49)); have j4 := keepB hSw (xa4 (.cells #[.string (nthF L k).s, .string (nthF L k).d, .int .i64 (nthF L k).y] 49)); have j5 := keepB hSw (xa5 (.cells #[.string (nthF L k).s, .string (nthF L k).d, .int .i64 (nthF L k).y] 49))
    go_simp
    try with_reducible rfl
  try simp only [Act.put, List.setIfInBounds_toArray, List.set_cons_zero, List.set_cons_succ]
  refine wpAnyH_done (by kernel_rfl) ?_ _
  have hX6 := rowL hXf hHeld
  have hP6 := rowL (rowL hP1 (bal w1 _)) hHeld
  have hR6 := rowL (rowL hR1 (bal w1 _)) hHeld
  have hF6 := rowL hWf hHeld
  have hc6 := bstep hcw hHeld
  have hs1 : w.heap.size + 1 + 1 < w1.heap.size := (Array.getElem?_eq_some_iff.1 hR1).1
  have fb1 : w6.cell? ⟨w1.heap.size, 1, none⟩ = some (.string (nthF L k).d) := (cell_of_row _ _ 1 _ _ _ hF6).trans rfl
  have ff1 : w6.frozen? ⟨w1.heap.size, 1, none⟩ = false := frozen_of_row _ _ 1 _ _ hF6
  clear xc0 xf0 xc1 xf1 xc2 xf2 xc3 xf3 xc4 xf4 xc5 xf5 pc0 pc1 pc2 pc3 rc0 rf0 rc1 rf1 rc2 rf2 rc3 rf3 rc4 rf4 rc5 rf5 pa0 pa1 pa2 pa3 xa0 xa1 xa2 xa3 xa4 xa5 c0 c1 c2 hHeld
  have z0 : (0 : Int) ≤ x1 - (sumD (nthF L) L.length : Int) := by omega
  have z1 : x1 - (sumD (nthF L) L.length : Int) ≤ (dt.size : Int) := by omega
  have hDEs : DE.size ≤ 2097152 := by rw [← hDE]; simp; omega
  have hDE2 : dt.extract 0 (x1.toNat - sumD (nthF L) L.length) = DE := by rw [← hDE, show (x1 - (sumD (nthF L) L.length : Int)).toNat = x1.toNat - sumD (nthF L) L.length by omega]
  have zz : ¬ 9223372036854775807 < (nthF L k).d.size + DE.size := by omega
  go_upto_region 31 with fail
  have hX7 := rowO (B := w1.heap.size) (i := 1) (v := .string DX) hX6 (by omega)
  have hP7 := rowO (B := w1.heap.size) (i := 1) (v := .string DX) hP6 (by omega)
  have hR7 := rowO (B := w1.heap.size) (i := 1) (v := .string DX) hR6 (by omega)
  have hF7 : (w6.setCell ⟨w1.heap.size, 1, none⟩ (.string DX)).heap[w1.heap.size]? = some (.cells #[.string (nthF L k).s, .string DX, .int .i64 (nthF L k).y] 49 (0, 0)) := heap_setCell_same _ _ 1 _ _ _ hF6
  have hc7 := bset (B := w1.heap.size) (i := 1) (v := .string DX) hc6 (by omega)
  obtain ⟨W7, hW7⟩ : ∃ W7, w6.setCell ⟨w1.heap.size, 1, none⟩ (.string DX) = W7 := ⟨_, rfl⟩
  rw [hW7] at hX7 hP7 hR7 hF7 hc7 ⊢
  clear hW7 fb1 ff1
  have tx0 : W7.cell? ⟨w.heap.size, 0, none⟩ = some (.slice (some ⟨b, off, none⟩) L.length cv) := (cell_of_row _ _ 0 _ _ _ hX7).trans rfl
  have tp1 : W7.cell? ⟨w.heap.size + 1, 1, none⟩ = some (.string nm) := (cell_of_row _ _ 1 _ _ _ hP7).trans rfl
  have tf0 : W7.cell? ⟨w1.heap.size, 0, none⟩ = some (.string (nthF L k).s) := (cell_of_row _ _ 0 _ _ _ hF7).trans rfl
  have tf1 : W7.cell? ⟨w1.heap.size, 1, none⟩ = some (.string DX) := (cell_of_row _ _ 1 _ _ _ hF7).trans rfl
  have tf2 : W7.cell? ⟨w1.heap.size, 2, none⟩ = some (.int .i64 (nthF L k).y) := (cell_of_row _ _ 2 _ _ _ hF7).trans rfl
  go_upto_region 32 with (go_at_call 51; refine (sWith (some ⟨b, off, none⟩) cv L nm ⟨(nthF L k).s, DX, (nthF L k).y⟩ _ (hfl.later (hc7)) hn).mono ?_; rw [hLR]; rintro e wb ⟨g2, cap2, rfl, hO2, hb2⟩; replace hO2 := wk_l hO2 (Nat.le_trans hBo (Below.size (hc7))); have hbw := bstep (hc7) hb2; have hXb := rowL hX7 hb2; have hRb := rowL hR7 hb2; have bc0 : wb.cell? ⟨w.heap.size, 0, none⟩ = some (.slice (some ⟨b, off, none⟩) L.length cv) := (cell_of_row _ _ 0 _ _ _ hXb).trans rfl; have bf0 : wb.frozen? ⟨w.heap.size, 0, none⟩ = false := frozen_of_row _ _ 0 _ _ hXb)
  have hX3 : (wb.setCell ⟨w.heap.size, 0, none⟩ (.slice (some ⟨g2, 0, none⟩) LR.length cap2)).heap[w.heap.size]? = some (.cells #[.slice (some ⟨g2, 0, none⟩) LR.length cap2, .int .i64 x1, .int .i64 x2, .int .i64 x3, .int .i64 x4, .bool x5] 28 (0, 0)) := heap_setCell_same _ _ 0 _ _ _ hXb
  have hR3 := rowO (B := w.heap.size) (i := 0) (v := .slice (some ⟨g2, 0, none⟩) LR.length cap2) hRb (by omega)
  have hO3 : OwnL (wb.setCell ⟨w.heap.size, 0, none⟩ (.slice (some ⟨g2, 0, none⟩) LR.length cap2)) Bo (.slice (some ⟨g2, 0, none⟩) LR.length cap2) LR := keep1 hO2 hXb
  have hb3 : Below w.heap.size w (wb.setCell ⟨w.heap.size, 0, none⟩ (.slice (some ⟨g2, 0, none⟩) LR.length cap2)) := bset hbw (Nat.le_refl _)
  obtain ⟨W3, hW3⟩ : ∃ W3, wb.setCell ⟨w.heap.size, 0, none⟩ (.slice (some ⟨g2, 0, none⟩) LR.length cap2) = W3 := ⟨_, rfl⟩
  rw [hW3] at hX3 hR3 hO3 hb3 ⊢
  clear hW3 tx0 tp1 tf0 tf1 tf2 bc0 bf0
  have qc0 : W3.cell? ⟨w.heap.size, 0, none⟩ = some (.slice (some ⟨g2, 0, none⟩) LR.length cap2) := (cell_of_row _ _ 0 _ _ _ hX3).trans rfl
  have qc1 : W3.cell? ⟨w.heap.size, 1, none⟩ = some (.int .i64 x1) := (cell_of_row _ _ 1 _ _ _ hX3).trans rfl
  have qc2 : W3.cell? ⟨w.heap.size, 2, none⟩ = some (.int .i64 x2) := (cell_of_row _ _ 2 _ _ _ hX3).trans rfl
  have qc3 : W3.cell? ⟨w.heap.size, 3, none⟩ = some (.int .i64 x3) := (cell_of_row _ _ 3 _ _ _ hX3).trans rfl
  have qc4 : W3.cell? ⟨w.heap.size, 4, none⟩ = some (.int .i64 x4) := (cell_of_row _ _ 4 _ _ _ hX3).trans rfl
  have qc5 : W3.cell? ⟨w.heap.size, 5, none⟩ = some (.bool x5) := (cell_of_row _ _ 5 _ _ _ hX3).trans rfl
  have sc0 : W3.cell? ⟨w.heap.size + 1 + 1, 0, none⟩ = some (.slice none 0 0) := (cell_of_row _ _ 0 _ _ _ hR3).trans rfl
  have sf0 : W3.frozen? ⟨w.heap.size + 1 + 1, 0, none⟩ = false := frozen_of_row _ _ 0 _ _ hR3
  have sc1 : W3.cell? ⟨w.heap.size + 1 + 1, 1, none⟩ = some (.int .i64 0) := (cell_of_row _ _ 1 _ _ _ hR3).trans rfl
  have sf1 : W3.frozen? ⟨w.heap.size + 1 + 1, 1, none⟩ = false := frozen_of_row _ _ 1 _ _ hR3
  have sc2 : W3.cell? ⟨w.heap.size + 1 + 1, 2, none⟩ = some (.int .i64 0) := (cell_of_row _ _ 2 _ _ _ hR3).trans rfl
  have sf2 : W3.frozen? ⟨w.heap.size + 1 + 1, 2, none⟩ = false := frozen_of_row _ _ 2 _ _ hR3
  have sc3 : W3.cell? ⟨w.heap.size + 1 + 1, 3, none⟩ = some (.int .i64 0) := (cell_of_row _ _ 3 _ _ _ hR3).trans rfl
  have sf3 : W3.frozen? ⟨w.heap.size + 1 + 1, 3, none⟩ = false := frozen_of_row _ _ 3 _ _ hR3
  have sc4 : W3.cell? ⟨w.heap.size + 1 + 1, 4, none⟩ = some (.int .i64 0) := (cell_of_row _ _ 4 _ _ _ hR3).trans rfl
  have sf4 : W3.frozen? ⟨w.heap.size + 1 + 1, 4, none⟩ = false := frozen_of_row _ _ 4 _ _ hR3
  have sc5 : W3.cell? ⟨w.heap.size + 1 + 1, 5, none⟩ = some (.bool false) := (cell_of_row _ _ 5 _ _ _ hR3).trans rfl
  have sf5 : W3.frozen? ⟨w.heap.size + 1 + 1, 5, none⟩ = false := frozen_of_row _ _ 5 _ _ hR3
  go_wp2
  refine bodyPost_ret (results_cell_tmp Tryz.results37 _ _ (w.heap.size + 1 + 1) 28 _ (0, 0) _ rfl (set6_row _ _ _ _ _ _ hR3) Tryz.underlying28 rfl (by kernel_rfl)) rfl ⟨_, _, _, rfl, ?_, set6_below _ _ _ _ _ _ hb3 (by omega)⟩
  exact keep6 hO3 hR3
end Go.Proofs.YtngppfjphbodcaaGreatDoor
