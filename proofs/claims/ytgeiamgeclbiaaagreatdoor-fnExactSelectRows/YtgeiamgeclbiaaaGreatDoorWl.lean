/-
  SelectRows: the law.
-/
import Derived.Test.YtgeiamgeclbiaaaGreatDoorWk
namespace Go.Proofs.YtgeiamgeclbiaaaGreatDoor
open Go.RowKit Go.Maps Go.WideMaps
theorem OD.bel {B : Nat} {D : Nat → Prop} {w w' : World} {a : Option Addr} {A : List Rw} (h : OD D w a A) (k : Below B w w') (hD : ∀ b, D b → b < B) : OD D w' a A := fun j hj => by
  obtain ⟨b, off, i, c, e, hd, c0, hl⟩ := h j hj
  exact ⟨b, off, i, c, e, hd, (World.cell?_of_block (k.block _ (hD _ hd))).trans c0, hl.step fun a v hx hc => (World.cell?_of_block (k.block _ (hD _ hx))).trans hc⟩
set_option maxRecDepth 20000 in
set_option maxHeartbeats 16000000 in
theorem lawSel (a : Option Addr) (n c : Nat) (T : Nat → Td) (d : St) (p : Sa) (w : World) (hX : TX w a n T) (hS : SX w d p) (hSp : SpT w) :
    Calls Tryz.prog 3 #[.agg #[.slice a n c], .agg (cs8 d p)] w fun e w' => e = .returned (.bool true) ∧ Below w.heap.size w w' := by
  have hbU : Below w.heap.size w ((w.alloc (.cells #[.slice a n c] 24)).alloc (.cells (cs8 d p) 30)) := bstep (bal _ _) (bal _ _)
  have hq0 : ((w.alloc (.cells #[.slice a n c] 24)).alloc (.cells (cs8 d p) 30)).heap[w.heap.size]? = some (.cells #[.slice a n c] 24 (0, 0)) := rowL (heap_alloc_new w _) (bal _ _)
  have hq1 : ((w.alloc (.cells #[.slice a n c] 24)).alloc (.cells (cs8 d p) 30)).heap[w.heap.size + 1]? = some (.cells (cs8 d p) 30 (0, 0)) := by
    have q := heap_alloc_new (w.alloc (.cells #[.slice a n c] 24)) (.cells (cs8 d p) 30)
    rw [World.size_alloc] at q
    exact q
  obtain ⟨k0_, -⟩ := box1 hq0
  obtain ⟨j0_, j1_, j2_, j3_, j4_, j5_, j6_, j7_⟩ := box8 hq1
  have HZ := szDb' a n c T _ (hX.later hbU)
  go_enter Tryz.func3, Tryz.ntmps3
  go_upto_region 3 with (go_at_call 5; refine HZ.mono ?_; rintro e w0 ⟨hb0, r, rfl, hr1, hr⟩; replace hb0' := bstep hbU hb0; have p0 := rowL hq0 hb0; have p1 := rowL hq1 hb0)
  by_cases hp : (0 : Int) ≤ r
  rotate_left
  · have hp2 : r < 0 := by omega
    go_wp2
    go_ret
    exact ⟨rfl, hb0'⟩
  have hp2 : ¬ r < 0 := by omega
  obtain ⟨hn, hs3⟩ := hr hp
  have hTL := hX.small hs3
  have HZ2 := szStm' d p w0 (hS.later hb0') r hp hr1
  clear hs3 hr HZ
  obtain ⟨i0_, -⟩ := box1 p0
  obtain ⟨h0_, h1_, h2_, h3_, h4_, h5_, h6_, h7_⟩ := box8 p1
  go_upto_region 6 with (go_at_call 6; refine HZ2.mono ?_; rintro e w1 ⟨hb1', r2, rfl, hr2⟩; have hb1 := bstep hb0' hb1'; have r0 := rowL p0 hb1'; have r1 := rowL p1 hb1')
  by_cases hp3 : (0 : Int) ≤ r2
  rotate_left
  · have hp4 : r2 < 0 := by omega
    go_wp2
    go_ret
    exact ⟨rfl, hb1⟩
  have hp4 : ¬ r2 < 0 := by omega
  have hSM := hS.small (hr2 hp3)
  have hAl : (selA n T d).1.length ≤ 1000000 := selA_len n T d
  have HSP : Hid (∀ g q W, TN W g n T → SM W d q → d.n2 ≤ q.c2 → Calls Tryz.prog 7 #[.agg #[.slice (some ⟨g, 0, none⟩) n n], .agg (cs8 d q)] W (RAns W (selA n T d).1 (selA n T d).2)) := fun g q W => specSel n T d hn g q W
  have HIM : Hid (∀ g q W, SpT W → TL W (some ⟨g, 0, none⟩) n T → SM W d q → Calls Tryz.prog 10 #[.agg #[.slice (some ⟨g, 0, none⟩) n n], .agg (cs8 d q)] W (RApt W (selA n T d).1 (selA n T d).2)) := fun g q W => implSel n T d hn g q W
  obtain ⟨A, cd, hAA⟩ : ∃ A cd, selA n T d = (A, cd) := ⟨_, _, rfl⟩
  rw [hAA] at HSP HIM hAl
  simp only at HSP HIM hAl
  clear hAA HZ2 hr2 p0 p1 hq0 hq1 k0_ j0_ j1_ j2_ j3_ j4_ j5_ j6_ j7_ i0_ h0_ h1_ h2_ h3_ h4_ h5_ h6_ h7_
  go_upto_region 8 with (fail)
  refine wp_region_held_drew (S := fun x => Below w1.heap.size w1 x) (by kernel_rfl) (bdrV _) (fun hHeld => ?_)
  refine' takeF (i := 0) (oi := ({ dst := some 28, op := Op.load 24 (Operand.tmp 2), type := 24, pos := "exact.go:1893", after := #[], guard := none } : Oper)) rfl ⟨by rfl, fun x hSw => ?h1⟩ hHeld ?r1
  case h1 =>
    obtain ⟨k0_, -⟩ := box1 (rowL r0 hSw); obtain ⟨j0_, j1_, j2_, j3_, j4_, j5_, j6_, j7_⟩ := box8 (rowL r1 hSw)
    go_simp
    try with_reducible rfl
  try simp only [Act.put, List.setIfInBounds_toArray, List.set_cons_zero, List.set_cons_succ]
  refine' takeF (i := 2) (oi := ({ dst := some 30, op := Op.load 30 (Operand.tmp 3), type := 30, pos := "exact.go:1893", after := #[], guard := none } : Oper)) rfl ⟨by rfl, fun x hSw => ?h2⟩ hHeld ?r2
  case h2 =>
    obtain ⟨k0_, -⟩ := box1 (rowL r0 hSw); obtain ⟨j0_, j1_, j2_, j3_, j4_, j5_, j6_, j7_⟩ := box8 (rowL r1 hSw)
    go_simp
    try with_reducible rfl
  try simp only [Act.put, List.setIfInBounds_toArray, List.set_cons_zero, List.set_cons_succ]
  refine wpAnyH_ready (rs := [1]) (by kernel_rfl) (by simp) ?_
  refine AllReadyH.cons (o := ({ dst := some 29, op := Op.call { callee := Callee.value (Operand.func 8), args := #[Operand.tmp 28], argTypes := #[24] }, type := 38, pos := "exact.go:1893", after := #[{ on := 0, ground := Ground.data }], guard := none } : Oper)) rfl (fun K hK => ?_) AllReadyH.nil
  go_simp
  refine (toDb' a n c T _ (hTL.later (bstep hb1 hHeld)) hn).mono ?_
  rintro e w2 ⟨gA, rfl, hN2, -, hb2⟩; have hH2 := bstep hHeld hb2
  refine hK.out _ _ (hH2) (fun hHeld => ?_)
  clear hK K
  try simp only [Act.put, List.setIfInBounds_toArray, List.set_cons_zero, List.set_cons_succ]
  refine wpAnyH_ready (rs := [3]) (by kernel_rfl) (by simp) ?_
  refine AllReadyH.cons (o := ({ dst := some 31, op := Op.call { callee := Callee.value (Operand.func 9), args := #[Operand.tmp 30], argTypes := #[30] }, type := 45, pos := "exact.go:1893", after := #[{ on := 2, ground := Ground.data }, { on := 1, ground := Ground.chain }], guard := none } : Oper)) rfl (fun K hK => ?_) AllReadyH.nil
  go_simp
  refine (toStm' d p _ (hSM.later (bstep hb1 hHeld))).mono ?_
  rintro e w3 ⟨x1, x2, x3, x4, x5, rfl, hM3, -, -, -, -, -, hb3⟩; have hN3 := hN2.later hb3; have hH3 := bstep hHeld hb3
  refine hK.out _ _ (hH3) (fun hHeld => ?_)
  clear hK K
  try simp only [Act.put, List.setIfInBounds_toArray, List.set_cons_zero, List.set_cons_succ]
  refine wpAnyH_ready (rs := [4]) (by kernel_rfl) (by simp) ?_
  refine AllReadyH.cons (o := ({ dst := some 32, op := Op.call { callee := Callee.value (Operand.func 7), args := #[Operand.tmp 29, Operand.tmp 31], argTypes := #[38, 45] }, type := 34, pos := "exact.go:1893", after := #[{ on := 1, ground := Ground.data }, { on := 3, ground := Ground.data }, { on := 3, ground := Ground.chain }], guard := none } : Oper)) rfl (fun K hK => ?_) AllReadyH.nil
  go_simp
  refine (HSP.out gA (cp d x1 x2 x3 x4 x5) _ hN3 hM3 (Nat.le_refl _)).mono ?_
  rintro e w4 ⟨aW, cW, rfl, hODw, hb4⟩; have hH4 := bstep hHeld hb4
  refine hK.out _ _ (hH4) (fun hHeld => ?_)
  clear hK K
  try simp only [Act.put, List.setIfInBounds_toArray, List.set_cons_zero, List.set_cons_succ]
  refine' takeF (i := 5) (oi := ({ dst := some 27, op := Op.move (Operand.tmp 32), type := 34, pos := "exact.go:1893", after := #[{ on := 4, ground := Ground.data }], guard := none } : Oper)) rfl ⟨by rfl, fun x hSw => ?h3⟩ hHeld ?r3
  case h3 =>
    go_simp
    try with_reducible rfl
  try simp only [Act.put, List.setIfInBounds_toArray, List.set_cons_zero, List.set_cons_succ]
  refine' takeF (i := 6) (oi := ({ dst := some 33, op := Op.extract (Operand.tmp 27) 0, type := 33, pos := "exact.go:1893", after := #[{ on := 5, ground := Ground.data }], guard := none } : Oper)) rfl ⟨by rfl, fun x hSw => ?h4⟩ hHeld ?r4
  case h4 =>
    go_simp
    try with_reducible rfl
  try simp only [Act.put, List.setIfInBounds_toArray, List.set_cons_zero, List.set_cons_succ]
  refine' takeF (i := 7) (oi := ({ dst := some 34, op := Op.extract (Operand.tmp 27) 1, type := 3, pos := "exact.go:1893", after := #[{ on := 5, ground := Ground.data }, { on := 8, ground := Ground.gcOnly Departure.lateStores }], guard := none } : Oper)) rfl ⟨by rfl, fun x hSw => ?h5⟩ hHeld ?r5
  case h5 =>
    go_simp
    try with_reducible rfl
  try simp only [Act.put, List.setIfInBounds_toArray, List.set_cons_zero, List.set_cons_succ]
  refine' takeF (i := 8) (oi := ({ dst := some 6, op := Op.assign (Operand.tmp 33), type := 33, pos := "exact.go:1893", after := #[{ on := 6, ground := Ground.data }, { on := 4, ground := Ground.chain }, { on := 0, ground := Ground.phase }, { on := 1, ground := Ground.phase }, { on := 2, ground := Ground.phase }, { on := 3, ground := Ground.phase }, { on := 4, ground := Ground.phase }, { on := 5, ground := Ground.phase }, { on := 6, ground := Ground.phase }, { on := 7, ground := Ground.textOnly Departure.lateStores }], guard := none } : Oper)) rfl ⟨by rfl, fun x hSw => ?h6⟩ hHeld ?r6
  case h6 =>
    go_simp
    try with_reducible rfl
  try simp only [Act.put, List.setIfInBounds_toArray, List.set_cons_zero, List.set_cons_succ]
  refine' takeF (i := 9) (oi := ({ dst := some 7, op := Op.assign (Operand.tmp 34), type := 3, pos := "exact.go:1893", after := #[{ on := 7, ground := Ground.data }, { on := 8, ground := Ground.chain }, { on := 0, ground := Ground.phase }, { on := 1, ground := Ground.phase }, { on := 2, ground := Ground.phase }, { on := 3, ground := Ground.phase }, { on := 4, ground := Ground.phase }, { on := 5, ground := Ground.phase }, { on := 6, ground := Ground.phase }, { on := 7, ground := Ground.phase }, { on := 8, ground := Ground.phase }], guard := none } : Oper)) rfl ⟨by rfl, fun x hSw => ?h7⟩ hHeld ?r7
  case h7 =>
    go_simp
    try with_reducible rfl
  try simp only [Act.put, List.setIfInBounds_toArray, List.set_cons_zero, List.set_cons_succ]
  refine wpAnyH_done (by kernel_rfl) ?_ _
  have hbA := bstep hb1 hHeld
  have q0 := rowL r0 hHeld
  have q1 := rowL r1 hHeld
  have hODW : OD (fun b => b < w4.heap.size) w4 aW A := hODw.cut.wide (fun b h => h.2)
  obtain ⟨k0_, -⟩ := box1 q0
  obtain ⟨j0_, j1_, j2_, j3_, j4_, j5_, j6_, j7_⟩ := box8 q1
  have hz4 : w.heap.size + 2 ≤ w4.heap.size := by
    have e1 : ((w.alloc (.cells #[.slice a n c] 24)).alloc (.cells (cs8 d p) 30)).heap.size = w.heap.size + 2 := by simp
    have e2 := hb0.size
    have e3 := hb1'.size
    have e4 := hHeld.size
    omega
  clear hHeld hODw
  go_upto_region 14 with (first | (go_at_call 11; have _h := hb7'; refine (eqRows _ _ A.length _ _ _ _ _ hODG.ol (hODW.later (bstep hB5 (bstep hB6 hb7'))).ol (by omega)).mono ?_; rintro e w7 ⟨rfl, hb7b⟩) | (go_at_call 10; have _h := hB6; refine (HIM.out g5 (cp d y1 y2 y3 y4 y5) _ (hSp.later (bstep hbA (bstep hB5 hB6))) ((hN5.later (bal w5 (.cells #[.slice (some ⟨g5, 0, none⟩) n n] 38))).later hB6).tl (hM6.later (bal w6 (.cells (cs8 d (cp d y1 y2 y3 y4 y5)) 45)))).mono ?_; rintro e w7a ⟨aG7, cG7, rfl, hODG, hAp, hb7'⟩) | (go_at_call 9; have _h := hB5; refine (toStm' d p _ (hSM.later (bstep hbA hB5))).mono ?_; rintro e w6 ⟨y1, y2, y3, y4, y5, rfl, hM6, hW1, hW2, hW3, hW4, hW5, hb6⟩; have hB6 := bstep hb6 (bal w6 (.cells (cs8 d (cp d y1 y2 y3 y4 y5)) 45)); obtain ⟨m0, -⟩ := box1 (rowL (heap_alloc_new w5 (.cells #[.slice (some ⟨g5, 0, none⟩) n n] 38)) hB6); obtain ⟨n0_, n1_, n2_, n3_, n4_, n5_, n6_, n7_⟩ := box8 (heap_alloc_new w6 (.cells (cs8 d (cp d y1 y2 y3 y4 y5)) 45))) | (go_at_call 8; refine (toDb' a n c T _ (hTL.later hbA) hn).mono ?_; rintro e w5 ⟨g5, rfl, hN5, hT5, hb5⟩; have hB5 := bstep hb5 (bal w5 (.cells #[.slice (some ⟨g5, 0, none⟩) n n] 38)); obtain ⟨l0_, l1_, l2_, l3_, l4_, l5_, l6_, l7_⟩ := box8 (rowL q1 hB5)))
  have hBt := bstep hB5 (bstep hB6 (bstep hb7' hb7b))
  have hb7 := bstep hbA hBt
  have s0 := rowL q0 hBt
  have s1 := rowL q1 hBt
  have sD := rowL (rowL (rowL (heap_alloc_new w5 (.cells #[.slice (some ⟨g5, 0, none⟩) n n] 38)) hB6) hb7') hb7b
  have sS := rowL (rowL (heap_alloc_new w6 (.cells (cs8 d (cp d y1 y2 y3 y4 y5)) 45)) hb7') hb7b
  have hTA := ((hN5.later (bal w5 (.cells #[.slice (some ⟨g5, 0, none⟩) n n] 38))).later (bstep hB6 (bstep hb7' hb7b))).tl
  have hMA := hM6.later (bstep (bal w6 (.cells (cs8 d (cp d y1 y2 y3 y4 y5)) 45)) (bstep hb7' hb7b))
  have z5 : w4.heap.size ≤ w5.heap.size := hb5.size
  have z5' : (w5.alloc (.cells #[.slice (some ⟨g5, 0, none⟩) n n] 38)).heap.size = w5.heap.size + 1 := World.size_alloc _ _
  have z6 : w5.heap.size + 1 ≤ w6.heap.size := by have := hb6.size; omega
  have z6' : (w6.alloc (.cells (cs8 d (cp d y1 y2 y3 y4 y5)) 45)).heap.size = w6.heap.size + 1 := World.size_alloc _ _
  have hT7 := ((hT5.hi (Nat.le_refl _) (show w5.heap.size ≤ w6.heap.size by omega)).kp (KpR.below (bstep (bal w5 (.cells #[.slice (some ⟨g5, 0, none⟩) n n] 38)) (bstep hB6 (bstep hb7' hb7b)))))
  have hB67 := bstep (bal w6 (.cells (cs8 d (cp d y1 y2 y3 y4 y5)) 45)) (bstep hb7' hb7b)
  have hW1' := (hW1.hi (show w4.heap.size ≤ _ by omega) (Nat.le_refl _)).kp (KpR.below hB67)
  have hW2' := (hW2.hi (show w4.heap.size ≤ _ by omega) (Nat.le_refl _)).kp (KpR.below hB67)
  have hW3' := (hW3.hi (show w4.heap.size ≤ _ by omega) (Nat.le_refl _)).kp (KpR.below hB67)
  have hW4' := (hW4.hi (show w4.heap.size ≤ _ by omega) (Nat.le_refl _)).kp (KpR.below hB67)
  have hW5' := (hW5.hi (show w4.heap.size ≤ _ by omega) (Nat.le_refl _)).kp (KpR.below hB67)
  have hODW7 := hODW.later hBt
  have hODG7 := hODG.later hb7b
  have hAp7 := hAp.later hb7b (Nat.le_refl _)
  rw [z6'] at hODG7 hAp7
  have z7 : w6.heap.size + 1 ≤ w7.heap.size := by have := hb7'.size; have := hb7b.size; omega
  clear hT5 hW1 hW2 hW3 hW4 hW5 hODG hAp hODW hM6 hN5 hN3 hM3 hN2
  refine wp_region_held_drew (S := fun x => Below w7.heap.size w7 x) (by kernel_rfl) (bdrV _) (fun hHeld => ?_)
  refine' takeF (i := 0) (oi := ({ dst := some 54, op := Op.load 38 (Operand.tmp 8), type := 38, pos := "exact.go:1900", after := #[], guard := none } : Oper)) rfl ⟨by rfl, fun x hSw => ?h8⟩ hHeld ?r8
  case h8 =>
    obtain ⟨k0_, -⟩ := box1 (rowL s0 hSw); obtain ⟨j0_, j1_, j2_, j3_, j4_, j5_, j6_, j7_⟩ := box8 (rowL s1 hSw); obtain ⟨y0_, -⟩ := box1 (rowL sD hSw)
    go_simp
    try with_reducible rfl
  try simp only [Act.put, List.setIfInBounds_toArray, List.set_cons_zero, List.set_cons_succ]
  refine' takeF (i := 1) (oi := ({ dst := some 55, op := Op.load 24 (Operand.tmp 2), type := 24, pos := "exact.go:1900", after := #[], guard := none } : Oper)) rfl ⟨by rfl, fun x hSw => ?h9⟩ hHeld ?r9
  case h9 =>
    obtain ⟨k0_, -⟩ := box1 (rowL s0 hSw); obtain ⟨j0_, j1_, j2_, j3_, j4_, j5_, j6_, j7_⟩ := box8 (rowL s1 hSw); obtain ⟨y0_, -⟩ := box1 (rowL sD hSw)
    go_simp
    try with_reducible rfl
  try simp only [Act.put, List.setIfInBounds_toArray, List.set_cons_zero, List.set_cons_succ]
  refine wpAnyH_ready (rs := [2]) (by kernel_rfl) (by simp) ?_
  refine AllReadyH.cons (o := ({ dst := some 56, op := Op.call { callee := Callee.value (Operand.func 8), args := #[Operand.tmp 55], argTypes := #[24] }, type := 38, pos := "exact.go:1900", after := #[{ on := 1, ground := Ground.data }], guard := none } : Oper)) rfl (fun K hK => ?_) AllReadyH.nil
  go_simp
  refine (toDb' a n c T _ (hTL.later (bstep hb7 hHeld)) hn).mono ?_
  rintro e w8 ⟨gC, rfl, hN8, -, hb8⟩; have hH8 := bstep hHeld hb8
  refine hK.out _ _ (hH8) (fun hHeld => ?_)
  clear hK K
  try simp only [Act.put, List.setIfInBounds_toArray, List.set_cons_zero, List.set_cons_succ]
  refine wpAnyH_ready (rs := [3]) (by kernel_rfl) (by simp) ?_
  refine AllReadyH.cons (o := ({ dst := some 57, op := Op.call { callee := Callee.value (Operand.func 12), args := #[Operand.tmp 54, Operand.tmp 56], argTypes := #[38, 38] }, type := 4, pos := "exact.go:1900", after := #[{ on := 0, ground := Ground.data }, { on := 2, ground := Ground.data }, { on := 2, ground := Ground.chain }], guard := none } : Oper)) rfl (fun K hK => ?_) AllReadyH.nil
  go_simp
  refine (eqDb_any _ _ n n n T _ (hTA.later hHeld) hN8.tl hn).mono ?_
  rintro e w9 ⟨rfl, hb9⟩; have hH9 := bstep hHeld hb9
  refine hK.out _ _ (hH9) (fun hHeld => ?_)
  clear hK K
  try simp only [Act.put, List.setIfInBounds_toArray, List.set_cons_zero, List.set_cons_succ]
  refine' takeF (i := 4) (oi := ({ dst := some 58, op := Op.unOp UnOp.not 4 (Operand.tmp 57), type := 4, pos := "exact.go:1900", after := #[{ on := 3, ground := Ground.data }], guard := none } : Oper)) rfl ⟨by rfl, fun x hSw => ?h10⟩ hHeld ?r10
  case h10 =>
    go_simp
    try with_reducible rfl
  try simp only [Act.put, List.setIfInBounds_toArray, List.set_cons_zero, List.set_cons_succ]
  refine wpAnyH_done (by kernel_rfl) ?_ _
  have hb9 := bstep hb7 hHeld
  have u0 := rowL s0 hHeld
  have u1 := rowL s1 hHeld
  have uS := rowL sS hHeld
  have uD := rowL sD hHeld
  replace hMA := hMA.later hHeld
  have hH79 := hHeld
  clear hHeld hTA
  go_upto_region 16 with (fail)
  refine wp_region_held_drew (S := fun x => Below w9.heap.size w9 x) (by kernel_rfl) (bdrV _) (fun hHeld => ?_)
  refine' takeF (i := 0) (oi := ({ dst := some 59, op := Op.load 45 (Operand.tmp 9), type := 45, pos := "exact.go:1903", after := #[], guard := none } : Oper)) rfl ⟨by rfl, fun x hSw => ?h11⟩ hHeld ?r11
  case h11 =>
    obtain ⟨k0_, -⟩ := box1 (rowL u0 hSw); obtain ⟨j0_, j1_, j2_, j3_, j4_, j5_, j6_, j7_⟩ := box8 (rowL u1 hSw); obtain ⟨y0_, y1_, y2_, y3_, y4_, y5_, y6_, y7_⟩ := box8 (rowL uS hSw)
    go_simp
    try with_reducible rfl
  try simp only [Act.put, List.setIfInBounds_toArray, List.set_cons_zero, List.set_cons_succ]
  refine' takeF (i := 1) (oi := ({ dst := some 60, op := Op.load 30 (Operand.tmp 3), type := 30, pos := "exact.go:1903", after := #[], guard := none } : Oper)) rfl ⟨by rfl, fun x hSw => ?h12⟩ hHeld ?r12
  case h12 =>
    obtain ⟨k0_, -⟩ := box1 (rowL u0 hSw); obtain ⟨j0_, j1_, j2_, j3_, j4_, j5_, j6_, j7_⟩ := box8 (rowL u1 hSw); obtain ⟨y0_, y1_, y2_, y3_, y4_, y5_, y6_, y7_⟩ := box8 (rowL uS hSw)
    go_simp
    try with_reducible rfl
  try simp only [Act.put, List.setIfInBounds_toArray, List.set_cons_zero, List.set_cons_succ]
  refine wpAnyH_ready (rs := [2]) (by kernel_rfl) (by simp) ?_
  refine AllReadyH.cons (o := ({ dst := some 61, op := Op.call { callee := Callee.value (Operand.func 9), args := #[Operand.tmp 60], argTypes := #[30] }, type := 45, pos := "exact.go:1903", after := #[{ on := 1, ground := Ground.data }], guard := none } : Oper)) rfl (fun K hK => ?_) AllReadyH.nil
  go_simp
  refine (toStm' d p _ (hSM.later (bstep hb9 hHeld))).mono ?_
  rintro e w10 ⟨z1, z2, z3, z4, z5, rfl, hM10, -, -, -, -, -, hb10⟩; have hH10 := bstep hHeld hb10
  refine hK.out _ _ (hH10) (fun hHeld => ?_)
  clear hK K
  try simp only [Act.put, List.setIfInBounds_toArray, List.set_cons_zero, List.set_cons_succ]
  refine wpAnyH_ready (rs := [3]) (by kernel_rfl) (by simp) ?_
  refine AllReadyH.cons (o := ({ dst := some 62, op := Op.call { callee := Callee.value (Operand.func 13), args := #[Operand.tmp 59, Operand.tmp 61], argTypes := #[45, 45] }, type := 4, pos := "exact.go:1903", after := #[{ on := 0, ground := Ground.data }, { on := 2, ground := Ground.data }, { on := 2, ground := Ground.chain }], guard := none } : Oper)) rfl (fun K hK => ?_) AllReadyH.nil
  go_simp
  refine (eqStm_any d _ _ _ (hMA.later hHeld) hM10).mono ?_
  rintro e w11 ⟨rfl, hb11⟩; have hH11 := bstep hHeld hb11
  refine hK.out _ _ (hH11) (fun hHeld => ?_)
  clear hK K
  try simp only [Act.put, List.setIfInBounds_toArray, List.set_cons_zero, List.set_cons_succ]
  refine' takeF (i := 4) (oi := ({ dst := some 63, op := Op.unOp UnOp.not 4 (Operand.tmp 62), type := 4, pos := "exact.go:1903", after := #[{ on := 3, ground := Ground.data }], guard := none } : Oper)) rfl ⟨by rfl, fun x hSw => ?h13⟩ hHeld ?r13
  case h13 =>
    go_simp
    try with_reducible rfl
  try simp only [Act.put, List.setIfInBounds_toArray, List.set_cons_zero, List.set_cons_succ]
  refine wpAnyH_done (by kernel_rfl) ?_ _
  have hb11 := bstep hb9 hHeld
  have hX11 := bstep hH79 hHeld
  have vD := rowL uD hHeld
  have vS := rowL uS hHeld
  have v0 := rowL u0 hHeld
  have v1 := rowL u1 hHeld
  have hT11 := hT7.kp (KpR.below hX11)
  have g1 := hW1'.kp (KpR.below hX11)
  have g2 := hW2'.kp (KpR.below hX11)
  have g3 := hW3'.kp (KpR.below hX11)
  have g4 := hW4'.kp (KpR.below hX11)
  have g5' := hW5'.kp (KpR.below hX11)
  have oW := hODW7.later hX11
  have oG := hODG7.later hX11
  have hAp11 := hAp7.later hX11 (Nat.le_refl _)
  have z11 : w6.heap.size + 1 ≤ w11.heap.size := by have := hX11.size; omega
  have hwid := hODG7.wid
  have HWID : Hid (∀ i, i < A.length → (A.getD i _root_.Go.Proofs.YtgeiamgeclbiaaaGreatDoor.r0).1 ≤ 1048576) := hwid
  obtain ⟨aa, -⟩ := box1 vD
  obtain ⟨o0_, o1_, o2_, o3_, o4_, o5_, o6_, o7_⟩ := box8 vS
  clear hT7 hW1' hW2' hW3' hW4' hW5' hODW7 hODG7 hAp7 hHeld hwid
  go_upto_region 31 with (first | (go_at_call 17; have _h := hb14; refine (heldGot aG7 cG7 A _ hMd hAl HWID.out).mono ?_; rintro e w15 ⟨K4, rfl, HK4, hb15'⟩; obtain rfl : K4 = K3 := HK4.out.trans HK3.out.symm) | (go_at_call 16; have _h := hb13b; refine (markGot (w6.heap.size + 1) aG7 cG7 A _ ((hAp11.mk hMM (by omega)).later hb13b (Nat.le_refl _)) (by have := hMM.size; have := hb13b.size; omega) hAl HWID.out).mono ?_; rintro e w14 ⟨K3, rfl, HK3, hMd, hb14⟩; have hK3 : ¬ K3 < 0 := (by have := HK3.out; omega)) | (go_at_call 11; have _h := hMM; refine (eqRows _ _ A.length _ _ _ _ _ (oG.mk hMM (fun b h => Or.inr (by omega))).ol (oW.mk hMM (fun b h => Or.inl h)).ol (by omega)).mono ?_; rintro e w13b ⟨rfl, hb13b⟩) | (go_at_call 15; have _h := hM12; refine (mkStm w4.heap.size w6.heap.size k1 d.k d.tb (some ⟨y1, 0, none⟩) d.n2 d.n2 (some ⟨y2, 0, none⟩) d.n3 d.n3 d.col (some ⟨y3, 0, none⟩) d.n5 d.n5 (some ⟨y4, 0, none⟩) d.n6 d.n6 y5 d.n7 d.n7 d.m7 K1 HK1.out _ (g1.mk hM12) (g2.mk hM12) (g3.mk hM12) (g4.mk hM12) (g5'.mk hM12 hardI) (by have := hM12.size; omega) hSM.l2 hSM.l3 hSM.l5 hSM.l6 hSM.l7 (by omega) (by omega)).mono ?_; rintro e w13 ⟨K2, k2, rfl, HK2, hk3, hM13⟩; have hMM := hM12.trans hM13; have hK2 : ¬ K2 < 0 := (by have := HK2.out; omega)) | (go_at_call 14; refine (mkDb w4.heap.size w6.heap.size g5 n n 1 T 1 rfl _ hT11 (by omega) (by omega) hn).mono ?_; rintro e w12 ⟨K1, k1, rfl, HK1, hk1, hk2, hM12⟩; obtain ⟨o0_, o1_, o2_, o3_, o4_, o5_, o6_, o7_⟩ := box8 (hM12.row vS (Or.inr (Nat.le_refl _)))))
  have hbM := below_mk hb11 hMM (by omega) (Nat.le_refl _)
  have hb13 := bstep hbM hb13b
  have hb14w : Below w.heap.size w w14 := ⟨hb14.os.trans hb13.os, hb14.tape.trans hb13.tape, hb14.output.trans hb13.output, Nat.le_trans hb13.size hb14.size, fun x hx => (hb14.block x (by omega)).trans (hb13.block x hx)⟩
  have hb15 := bstep hb14w hb15'
  have t0 := rowL ((hb14.block _ (by omega)).trans (rowL (hMM.row v0 (Or.inl (by omega))) hb13b)) hb15'
  have t1 := rowL ((hb14.block _ (by omega)).trans (rowL (hMM.row v1 (Or.inl (by omega))) hb13b)) hb15'
  have oW15 := ((OD.bel ((oW.mk hMM (fun b h => Or.inl h)).later hb13b) hb14 (fun b h => by omega))).later hb15'
  clear oG oW g1 g2 g3 g4 g5' hT11 hAp11 hMd
  refine wp_region_held_drew (S := fun x => Below w15.heap.size w15 x) (by kernel_rfl) (bdrV _) (fun hHeld => ?_)
  refine' takeF (i := 0) (oi := ({ dst := some 95, op := Op.load 24 (Operand.tmp 2), type := 24, pos := "exact.go:1922", after := #[], guard := none } : Oper)) rfl ⟨by rfl, fun x hSw => ?h14⟩ hHeld ?r14
  case h14 =>
    obtain ⟨k0_, -⟩ := box1 (rowL t0 hSw); obtain ⟨j0_, j1_, j2_, j3_, j4_, j5_, j6_, j7_⟩ := box8 (rowL t1 hSw)
    go_simp
    try with_reducible rfl
  try simp only [Act.put, List.setIfInBounds_toArray, List.set_cons_zero, List.set_cons_succ]
  refine' takeF (i := 2) (oi := ({ dst := some 97, op := Op.load 30 (Operand.tmp 3), type := 30, pos := "exact.go:1922", after := #[], guard := none } : Oper)) rfl ⟨by rfl, fun x hSw => ?h15⟩ hHeld ?r15
  case h15 =>
    obtain ⟨k0_, -⟩ := box1 (rowL t0 hSw); obtain ⟨j0_, j1_, j2_, j3_, j4_, j5_, j6_, j7_⟩ := box8 (rowL t1 hSw)
    go_simp
    try with_reducible rfl
  try simp only [Act.put, List.setIfInBounds_toArray, List.set_cons_zero, List.set_cons_succ]
  refine wpAnyH_ready (rs := [1]) (by kernel_rfl) (by simp) ?_
  refine AllReadyH.cons (o := ({ dst := some 96, op := Op.call { callee := Callee.value (Operand.func 8), args := #[Operand.tmp 95], argTypes := #[24] }, type := 38, pos := "exact.go:1922", after := #[{ on := 0, ground := Ground.data }], guard := none } : Oper)) rfl (fun K hK => ?_) AllReadyH.nil
  go_simp
  refine (toDb' a n c T _ (hTL.later (bstep hb15 hHeld)) hn).mono ?_
  rintro e w16 ⟨gE, rfl, hN16, -, hb16⟩; have hH16 := bstep hHeld hb16
  refine hK.out _ _ (hH16) (fun hHeld => ?_)
  clear hK K
  try simp only [Act.put, List.setIfInBounds_toArray, List.set_cons_zero, List.set_cons_succ]
  refine wpAnyH_ready (rs := [3]) (by kernel_rfl) (by simp) ?_
  refine AllReadyH.cons (o := ({ dst := some 98, op := Op.call { callee := Callee.value (Operand.func 9), args := #[Operand.tmp 97], argTypes := #[30] }, type := 45, pos := "exact.go:1922", after := #[{ on := 2, ground := Ground.data }, { on := 1, ground := Ground.chain }], guard := none } : Oper)) rfl (fun K hK => ?_) AllReadyH.nil
  go_simp
  refine (toStm' d p _ (hSM.later (bstep hb15 hHeld))).mono ?_
  rintro e w17 ⟨v1, v2, v3, v4, v5, rfl, hM17, -, -, -, -, -, hb17⟩; have hN17 := hN16.later hb17; have hH17 := bstep hHeld hb17
  refine hK.out _ _ (hH17) (fun hHeld => ?_)
  clear hK K
  try simp only [Act.put, List.setIfInBounds_toArray, List.set_cons_zero, List.set_cons_succ]
  refine wpAnyH_ready (rs := [4]) (by kernel_rfl) (by simp) ?_
  refine AllReadyH.cons (o := ({ dst := some 99, op := Op.call { callee := Callee.value (Operand.func 10), args := #[Operand.tmp 96, Operand.tmp 98], argTypes := #[38, 45] }, type := 34, pos := "exact.go:1922", after := #[{ on := 1, ground := Ground.data }, { on := 3, ground := Ground.data }, { on := 3, ground := Ground.chain }], guard := none } : Oper)) rfl (fun K hK => ?_) AllReadyH.nil
  go_simp
  refine (HIM.out gE (cp d v1 v2 v3 v4 v5) _ (hSp.later (bstep hb15 hHeld)) hN17.tl hM17).mono ?_
  rintro e w18 ⟨aG, cG, rfl, hODg, -, hb18⟩; have hH18 := bstep hHeld hb18
  refine hK.out _ _ (hH18) (fun hHeld => ?_)
  clear hK K
  try simp only [Act.put, List.setIfInBounds_toArray, List.set_cons_zero, List.set_cons_succ]
  refine' takeF (i := 5) (oi := ({ dst := some 94, op := Op.move (Operand.tmp 99), type := 34, pos := "exact.go:1922", after := #[{ on := 4, ground := Ground.data }], guard := none } : Oper)) rfl ⟨by rfl, fun x hSw => ?h16⟩ hHeld ?r16
  case h16 =>
    go_simp
    try with_reducible rfl
  try simp only [Act.put, List.setIfInBounds_toArray, List.set_cons_zero, List.set_cons_succ]
  refine' takeF (i := 6) (oi := ({ dst := some 100, op := Op.extract (Operand.tmp 94) 0, type := 33, pos := "exact.go:1922", after := #[{ on := 5, ground := Ground.data }], guard := none } : Oper)) rfl ⟨by rfl, fun x hSw => ?h17⟩ hHeld ?r17
  case h17 =>
    go_simp
    try with_reducible rfl
  try simp only [Act.put, List.setIfInBounds_toArray, List.set_cons_zero, List.set_cons_succ]
  refine' takeF (i := 7) (oi := ({ dst := some 101, op := Op.extract (Operand.tmp 94) 1, type := 3, pos := "exact.go:1922", after := #[{ on := 5, ground := Ground.data }, { on := 8, ground := Ground.gcOnly Departure.lateStores }], guard := none } : Oper)) rfl ⟨by rfl, fun x hSw => ?h18⟩ hHeld ?r18
  case h18 =>
    go_simp
    try with_reducible rfl
  try simp only [Act.put, List.setIfInBounds_toArray, List.set_cons_zero, List.set_cons_succ]
  refine' takeF (i := 8) (oi := ({ dst := some 15, op := Op.assign (Operand.tmp 100), type := 33, pos := "exact.go:1922", after := #[{ on := 6, ground := Ground.data }, { on := 4, ground := Ground.chain }, { on := 0, ground := Ground.phase }, { on := 1, ground := Ground.phase }, { on := 2, ground := Ground.phase }, { on := 3, ground := Ground.phase }, { on := 4, ground := Ground.phase }, { on := 5, ground := Ground.phase }, { on := 6, ground := Ground.phase }, { on := 7, ground := Ground.textOnly Departure.lateStores }], guard := none } : Oper)) rfl ⟨by rfl, fun x hSw => ?h19⟩ hHeld ?r19
  case h19 =>
    go_simp
    try with_reducible rfl
  try simp only [Act.put, List.setIfInBounds_toArray, List.set_cons_zero, List.set_cons_succ]
  refine' takeF (i := 9) (oi := ({ dst := some 16, op := Op.assign (Operand.tmp 101), type := 3, pos := "exact.go:1922", after := #[{ on := 7, ground := Ground.data }, { on := 8, ground := Ground.chain }, { on := 0, ground := Ground.phase }, { on := 1, ground := Ground.phase }, { on := 2, ground := Ground.phase }, { on := 3, ground := Ground.phase }, { on := 4, ground := Ground.phase }, { on := 5, ground := Ground.phase }, { on := 6, ground := Ground.phase }, { on := 7, ground := Ground.phase }, { on := 8, ground := Ground.phase }], guard := none } : Oper)) rfl ⟨by rfl, fun x hSw => ?h20⟩ hHeld ?r20
  case h20 =>
    go_simp
    try with_reducible rfl
  try simp only [Act.put, List.setIfInBounds_toArray, List.set_cons_zero, List.set_cons_succ]
  refine wpAnyH_done (by kernel_rfl) ?_ _
  have hb18w := bstep hb15 hHeld
  have oW18 := oW15.later hHeld
  have HEQ := eqRows _ _ A.length cG cW _ _ w18 hODg.ol oW18.ol (by omega)
  go_wp2_with (go_at_call 11; refine HEQ.mono ?_; rintro e w19 ⟨rfl, hb19⟩)
  go_ret
  exact ⟨rfl, bstep hb18w hb19⟩
end Go.Proofs.YtgeiamgeclbiaaaGreatDoor
