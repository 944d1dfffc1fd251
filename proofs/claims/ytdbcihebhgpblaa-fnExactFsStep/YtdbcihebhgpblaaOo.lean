/-
  The law on FsStep.
-/
import Derived.Test.YtdbcihebhgpblaaOn
namespace Go.Proofs.Ytdbcihebhgpblaa
open Go.RowKit
set_option maxRecDepth 20000 in
set_option maxHeartbeats 16000000 in
theorem lawStepL (a : Option Addr) (c : Nat) (L : List Fil) (x1 x2 x3 x4 : Int) (x5 : Bool) (kd : Int) (nm dt : ByteArray) (sz : Int) (w : World) (h : FX w a L.length (nthF L)) (hq1 : nm.size ≤ 9223372036854775807) (hq2 : dt.size ≤ 9223372036854775807) :
    Calls Try.prog 7 #[.agg #[.slice a L.length c, .int .i64 x1, .int .i64 x2, .int .i64 x3, .int .i64 x4, .bool x5], .agg #[.int .i64 kd, .string nm, .string dt, .int .i64 sz]] w fun e w' => e = .returned (.bool true) ∧ Below w.heap.size w w' := by
  have hb0 := bstep (bal w (.cells #[.slice a L.length c, .int .i64 x1, .int .i64 x2, .int .i64 x3, .int .i64 x4, .bool x5] 31)) (bal (w.alloc (.cells #[.slice a L.length c, .int .i64 x1, .int .i64 x2, .int .i64 x3, .int .i64 x4, .bool x5] 31)) (.cells #[.int .i64 kd, .string nm, .string dt, .int .i64 sz] 45))
  have hX0 := rowL (heap_alloc_new w (.cells #[.slice a L.length c, .int .i64 x1, .int .i64 x2, .int .i64 x3, .int .i64 x4, .bool x5] 31)) (bal (w.alloc (.cells #[.slice a L.length c, .int .i64 x1, .int .i64 x2, .int .i64 x3, .int .i64 x4, .bool x5] 31)) (.cells #[.int .i64 kd, .string nm, .string dt, .int .i64 sz] 45))
  have hY0 := heap_alloc_new (w.alloc (.cells #[.slice a L.length c, .int .i64 x1, .int .i64 x2, .int .i64 x3, .int .i64 x4, .bool x5] 31)) (.cells #[.int .i64 kd, .string nm, .string dt, .int .i64 sz] 45)
  rw [World.size_alloc] at hY0
  go_enter Try.func7, Try.ntmps7
  go_upto_region 5 with (go_at_call 16; refine (szFs_any a L.length c (nthF L) x1 x2 x3 x4 x5 _ (h.later hb0) 1048576 (by omega) (by omega)).mono ?_; rintro e w1 ⟨hb1, r, rfl, hr⟩; by_cases hr0 : (0 : Int) ≤ r)
  rotate_left
  · go_wp2
    go_ret
    exact ⟨rfl, bstep hb0 hb1⟩
  have hr' := hr hr0
  have hS : Small L.length (nthF L) := by unfold Small; omega
  have hn := hS.n
  have hf := h.fl
  have hc1 := bstep hb0 hb1
  have hX1 := rowL hX0 hb1
  have hY1 := rowL hY0 hb1
  have y0 : w1.cell? ⟨w.heap.size + 1, 0, none⟩ = some (.int .i64 kd) := (cell_of_row _ _ 0 _ _ _ hY1).trans rfl
  have y1 : w1.cell? ⟨w.heap.size + 1, 1, none⟩ = some (.string nm) := (cell_of_row _ _ 1 _ _ _ hY1).trans rfl
  have y2 : w1.cell? ⟨w.heap.size + 1, 2, none⟩ = some (.string dt) := (cell_of_row _ _ 2 _ _ _ hY1).trans rfl
  have y3 : w1.cell? ⟨w.heap.size + 1, 3, none⟩ = some (.int .i64 sz) := (cell_of_row _ _ 3 _ _ _ hY1).trans rfl
  go_upto_region 8 with (go_at_call 27; refine (szOp kd nm dt sz _ r hr0 (by omega) hq1 hq2).mono ?_; rintro e w2 ⟨hb2, r2, rfl, hr2⟩; by_cases hr3 : (0 : Int) ≤ r2)
  rotate_left
  · go_wp2
    go_ret
    exact ⟨rfl, bstep hc1 hb2⟩
  have hr4 := hr2 hr3
  have hnm : nm.size ≤ 1048576 := by omega
  have hdt : dt.size ≤ 1048576 := by omega
  obtain ⟨M, z1, z2, z3, z4, z5, zc, hrn, hspc, himp⟩ := both L x1 x2 x3 x4 x5 kd nm dt sz hS hnm hdt
  have HSP : Hid (∀ w g, FL w (some ⟨g, 0, none⟩) L.length (nthF L) → Calls Try.prog 28 #[.agg #[.slice (some ⟨g, 0, none⟩) L.length L.length, .int .i64 x1, .int .i64 x2, .int .i64 x3, .int .i64 x4, .bool x5], .agg #[.int .i64 kd, .string nm, .string dt, .int .i64 sz]] w (RS M z1 z2 z3 z4 z5 zc w)) := hspc
  have HIM : Hid (∀ w g, FL w (some ⟨g, 0, none⟩) L.length (nthF L) → Calls Try.prog 30 #[.agg #[.slice (some ⟨g, 0, none⟩) L.length L.length, .int .i64 x1, .int .i64 x2, .int .i64 x3, .int .i64 x4, .bool x5], .agg #[.int .i64 kd, .string nm, .string dt, .int .i64 sz]] w (RS M z1 z2 z3 z4 z5 zc w)) := himp
  clear hspc himp y0 y1 y2 y3
  have hX2 := rowL hX1 hb2
  have hY2 := rowL hY1 hb2
  have hc2 := bstep hc1 hb2
  refine Code.wp_mono (Q := Exit.then (fun a' w' => ∃ (Q : Nat) (av : Option Addr) (cv : Nat) (u5 u16 u17 u18 u19 u20 u21 u22 u23 u24 u25 u26 u27 u28 u29 u30 u31 u32 u33 : Value), a' = { tmps := List.toArray ((.agg #[.slice a L.length c, .int .i64 x1, .int .i64 x2, .int .i64 x3, .int .i64 x4, .bool x5]) :: (.agg #[.int .i64 kd, .string nm, .string dt, .int .i64 sz]) :: (.pointer (some ⟨w.heap.size, 0, none⟩)) :: (.pointer (some ⟨w.heap.size + 1, 0, none⟩)) :: (.bool false) :: (u5) :: (.pointer (some ⟨Q, 0, none⟩)) :: (.int .i64 zc) :: (undef) :: (undef) :: (undef) :: (undef) :: (undef) :: (undef) :: (undef) :: (undef) :: (u16) :: (u17) :: (u18) :: (u19) :: (u20) :: (u21) :: (u22) :: (u23) :: (u24) :: (u25) :: (u26) :: (u27) :: (u28) :: (u29) :: (u30) :: (u31) :: (u32) :: (u33) :: (undef) :: (undef) :: (undef) :: (undef) :: (undef) :: (undef) :: (undef) :: (undef) :: (undef) :: (undef) :: (undef) :: (undef) :: (undef) :: (undef) :: (undef) :: (undef) :: (undef) :: (undef) :: (undef) :: (undef) :: (undef) :: (undef) :: (undef) :: (undef) :: (undef) :: (undef) :: (undef) :: (undef) :: (undef) :: (undef) :: (undef) :: (undef) :: (undef) :: (undef) :: (undef) :: (undef) :: (undef) :: (undef) :: (undef) :: (undef) :: (undef) :: (undef) :: (undef) :: (undef) :: (undef) :: (undef) :: (undef) :: (undef) :: (undef) :: (undef) :: (undef) :: (undef) :: (undef) :: (undef) :: (undef) :: (undef) :: (undef) :: (undef) :: (undef) :: (undef) :: (undef) :: (undef) :: (undef) :: (undef) :: (undef) :: (undef) :: (undef) :: []), defers := [] } ∧ w'.heap[Q]? = some (.cells #[.slice av M.length cv, .int .i64 z1, .int .i64 z2, .int .i64 z3, .int .i64 z4, .bool z5] 36 (0, 0)) ∧ OwnF w' w2.heap.size (.slice av M.length cv) M.length (nthF M) ∧ Below w2.heap.size w2 w') (fun _ _ _ => False)) ?_ ?_
  rotate_left
  · refine wp_region_held_drew (S := fun x => Below w2.heap.size w2 x) (by kernel_rfl) (bdrew1 _) (fun hHeld => ?_)
    refine' wpAnyH_take (i := 0) (oi := ({ dst := some 27, op := Op.load 31 (Operand.tmp 2), type := 31, pos := "exact.go:1959", after := #[], guard := none } : Oper)) (v := _) rfl (by kernel_rfl) (by kernel_rfl) (by kernel_rfl) (fun _ _ _ h => h) (Or.inl ⟨by rfl, fun x hSw => ?hyzm1⟩) hHeld ?restzm1
    case hyzm1 =>
      obtain ⟨k0, k1, k2, k3, k4, k5⟩ := B6.of (rowL hX2 hSw); have hYS := rowL hY2 hSw; have y0 : x.cell? ⟨w.heap.size + 1, 0, none⟩ = some (.int .i64 kd) := (cell_of_row _ _ 0 _ _ _ hYS).trans rfl; have y1 : x.cell? ⟨w.heap.size + 1, 1, none⟩ = some (.string nm) := (cell_of_row _ _ 1 _ _ _ hYS).trans rfl; have y2 : x.cell? ⟨w.heap.size + 1, 2, none⟩ = some (.string dt) := (cell_of_row _ _ 2 _ _ _ hYS).trans rfl; have y3 : x.cell? ⟨w.heap.size + 1, 3, none⟩ = some (.int .i64 sz) := (cell_of_row _ _ 3 _ _ _ hYS).trans rfl
      go_simp
      try with_reducible rfl
    try simp only [Act.put, List.setIfInBounds_toArray, List.set_cons_zero, List.set_cons_succ]
    refine' wpAnyH_take (i := 2) (oi := ({ dst := some 29, op := Op.load 45 (Operand.tmp 3), type := 45, pos := "exact.go:1959", after := #[], guard := none } : Oper)) (v := _) rfl (by kernel_rfl) (by kernel_rfl) (by kernel_rfl) (fun _ _ _ h => h) (Or.inl ⟨by rfl, fun x hSw => ?hyzm2⟩) hHeld ?restzm2
    case hyzm2 =>
      obtain ⟨k0, k1, k2, k3, k4, k5⟩ := B6.of (rowL hX2 hSw); have hYS := rowL hY2 hSw; have y0 : x.cell? ⟨w.heap.size + 1, 0, none⟩ = some (.int .i64 kd) := (cell_of_row _ _ 0 _ _ _ hYS).trans rfl; have y1 : x.cell? ⟨w.heap.size + 1, 1, none⟩ = some (.string nm) := (cell_of_row _ _ 1 _ _ _ hYS).trans rfl; have y2 : x.cell? ⟨w.heap.size + 1, 2, none⟩ = some (.string dt) := (cell_of_row _ _ 2 _ _ _ hYS).trans rfl; have y3 : x.cell? ⟨w.heap.size + 1, 3, none⟩ = some (.int .i64 sz) := (cell_of_row _ _ 3 _ _ _ hYS).trans rfl
      go_simp
      try with_reducible rfl
    try simp only [Act.put, List.setIfInBounds_toArray, List.set_cons_zero, List.set_cons_succ]
    refine wpAnyH_ready (rs := [1, 8]) (by kernel_rfl) (by simp) ?_
    refine (AllReadyH.cons (o := ({ dst := some 28, op := Op.call { callee := Callee.value (Operand.func 18), args := #[Operand.tmp 27], argTypes := #[31] }, type := 36, pos := "exact.go:1959", after := #[{ on := 0, ground := Ground.data }], guard := none } : Oper)) rfl (fun K hK => ?_) (AllReadyH.cons (o := ({ dst := some 6, op := Op.alloc 36, type := 0, pos := "exact.go:1959", after := #[], guard := none } : Oper)) rfl (fun K hK => ?_) AllReadyH.nil))
    · go_simp
      refine (toFs_any a L.length c (nthF L) x1 x2 x3 x4 x5 _ (hf.later (bstep hc2 hHeld)) hn).mono ?_
      rintro e wa ⟨ga, hga, rfl, hRa, hba⟩
      refine hK.out _ _ (bstep hHeld hba) (fun hHeld => ?_)
      clear hK K
      try simp only [Act.put, List.setIfInBounds_toArray, List.set_cons_zero, List.set_cons_succ]
      refine wpAnyH_ready (rs := [3, 8]) (by kernel_rfl) (by simp) ?_
      refine (AllReadyH.cons (o := ({ dst := some 30, op := Op.call { callee := Callee.value (Operand.func 29), args := #[Operand.tmp 29], argTypes := #[45] }, type := 49, pos := "exact.go:1959", after := #[{ on := 2, ground := Ground.data }, { on := 1, ground := Ground.chain }], guard := none } : Oper)) rfl (fun K hK => ?_) (AllReadyH.cons (o := ({ dst := some 6, op := Op.alloc 36, type := 0, pos := "exact.go:1959", after := #[], guard := none } : Oper)) rfl (fun K hK => ?_) AllReadyH.nil))
      · go_simp
        refine (toOp kd nm dt sz _).mono ?_
        rintro e wb ⟨rfl, hbb⟩
        have hRa := hRa.later hbb
        refine hK.out _ _ (bstep hHeld hbb) (fun hHeld => ?_)
        clear hK K
        try simp only [Act.put, List.setIfInBounds_toArray, List.set_cons_zero, List.set_cons_succ]
        refine wpAnyH_ready (rs := [4, 8]) (by kernel_rfl) (by simp) ?_
        refine (AllReadyH.cons (o := ({ dst := some 31, op := Op.call { callee := Callee.value (Operand.func 28), args := #[Operand.tmp 28, Operand.tmp 30], argTypes := #[36, 49] }, type := 47, pos := "exact.go:1959", after := #[{ on := 1, ground := Ground.data }, { on := 3, ground := Ground.data }, { on := 3, ground := Ground.chain }], guard := none } : Oper)) rfl (fun K hK => ?_) (AllReadyH.cons (o := ({ dst := some 6, op := Op.alloc 36, type := 0, pos := "exact.go:1959", after := #[], guard := none } : Oper)) rfl (fun K hK => ?_) AllReadyH.nil))
        · go_simp
          have hH4 := hHeld
          refine (HSP.out _ ga hRa.fl).mono ?_
          rintro e w4 ⟨av, cv, rfl, hO4, hb4⟩
          have hH8 := bstep hHeld hb4
          refine hK.out _ _ (bstep hHeld hb4) (fun hHeld => ?_)
          clear hK K
          try simp only [Act.put, List.setIfInBounds_toArray, List.set_cons_zero, List.set_cons_succ]
          refine' wpAnyH_take (i := 5) (oi := ({ dst := some 26, op := Op.move (Operand.tmp 31), type := 47, pos := "exact.go:1959", after := #[{ on := 4, ground := Ground.data }], guard := none } : Oper)) (v := _) rfl (by kernel_rfl) (by kernel_rfl) (by kernel_rfl) (fun _ _ _ h => h) (Or.inl ⟨by rfl, fun x hSw => ?hyzm3⟩) hHeld ?restzm3
          case hyzm3 =>
            obtain ⟨k0, k1, k2, k3, k4, k5⟩ := B6.of (rowL hX2 hSw); have hYS := rowL hY2 hSw; have y0 : x.cell? ⟨w.heap.size + 1, 0, none⟩ = some (.int .i64 kd) := (cell_of_row _ _ 0 _ _ _ hYS).trans rfl; have y1 : x.cell? ⟨w.heap.size + 1, 1, none⟩ = some (.string nm) := (cell_of_row _ _ 1 _ _ _ hYS).trans rfl; have y2 : x.cell? ⟨w.heap.size + 1, 2, none⟩ = some (.string dt) := (cell_of_row _ _ 2 _ _ _ hYS).trans rfl; have y3 : x.cell? ⟨w.heap.size + 1, 3, none⟩ = some (.int .i64 sz) := (cell_of_row _ _ 3 _ _ _ hYS).trans rfl
            go_simp
            try with_reducible rfl
          try simp only [Act.put, List.setIfInBounds_toArray, List.set_cons_zero, List.set_cons_succ]
          refine' wpAnyH_take (i := 6) (oi := ({ dst := some 32, op := Op.extract (Operand.tmp 26) 0, type := 36, pos := "exact.go:1959", after := #[{ on := 5, ground := Ground.data }], guard := none } : Oper)) (v := _) rfl (by kernel_rfl) (by kernel_rfl) (by kernel_rfl) (fun _ _ _ h => h) (Or.inl ⟨by rfl, fun x hSw => ?hyzm4⟩) hHeld ?restzm4
          case hyzm4 =>
            obtain ⟨k0, k1, k2, k3, k4, k5⟩ := B6.of (rowL hX2 hSw); have hYS := rowL hY2 hSw; have y0 : x.cell? ⟨w.heap.size + 1, 0, none⟩ = some (.int .i64 kd) := (cell_of_row _ _ 0 _ _ _ hYS).trans rfl; have y1 : x.cell? ⟨w.heap.size + 1, 1, none⟩ = some (.string nm) := (cell_of_row _ _ 1 _ _ _ hYS).trans rfl; have y2 : x.cell? ⟨w.heap.size + 1, 2, none⟩ = some (.string dt) := (cell_of_row _ _ 2 _ _ _ hYS).trans rfl; have y3 : x.cell? ⟨w.heap.size + 1, 3, none⟩ = some (.int .i64 sz) := (cell_of_row _ _ 3 _ _ _ hYS).trans rfl
            go_simp
            try with_reducible rfl
          try simp only [Act.put, List.setIfInBounds_toArray, List.set_cons_zero, List.set_cons_succ]
          refine' wpAnyH_take (i := 7) (oi := ({ dst := some 33, op := Op.extract (Operand.tmp 26) 1, type := 3, pos := "exact.go:1959", after := #[{ on := 5, ground := Ground.data }, { on := 9, ground := Ground.gcOnly Departure.lateStores }], guard := none } : Oper)) (v := _) rfl (by kernel_rfl) (by kernel_rfl) (by kernel_rfl) (fun _ _ _ h => h) (Or.inl ⟨by rfl, fun x hSw => ?hyzm5⟩) hHeld ?restzm5
          case hyzm5 =>
            obtain ⟨k0, k1, k2, k3, k4, k5⟩ := B6.of (rowL hX2 hSw); have hYS := rowL hY2 hSw; have y0 : x.cell? ⟨w.heap.size + 1, 0, none⟩ = some (.int .i64 kd) := (cell_of_row _ _ 0 _ _ _ hYS).trans rfl; have y1 : x.cell? ⟨w.heap.size + 1, 1, none⟩ = some (.string nm) := (cell_of_row _ _ 1 _ _ _ hYS).trans rfl; have y2 : x.cell? ⟨w.heap.size + 1, 2, none⟩ = some (.string dt) := (cell_of_row _ _ 2 _ _ _ hYS).trans rfl; have y3 : x.cell? ⟨w.heap.size + 1, 3, none⟩ = some (.int .i64 sz) := (cell_of_row _ _ 3 _ _ _ hYS).trans rfl
            go_simp
            try with_reducible rfl
          try simp only [Act.put, List.setIfInBounds_toArray, List.set_cons_zero, List.set_cons_succ]
          refine wpAnyH_ready (rs := [8]) (by kernel_rfl) (by simp) ?_
          refine AllReadyH.cons (o := ({ dst := some 6, op := Op.alloc 36, type := 0, pos := "exact.go:1959", after := #[], guard := none } : Oper)) rfl (fun K hK => ?_) AllReadyH.nil
          have hQ : (World.alloc (w4) (.cells #[.slice none 0 0, .int .i64 0, .int .i64 0, .int .i64 0, .int .i64 0, .bool false] 36)).heap[w4.heap.size]? = _ := heap_alloc_new (w4) (.cells #[.slice none 0 0, .int .i64 0, .int .i64 0, .int .i64 0, .int .i64 0, .bool false] 36)
          have hQs := hHeld.size
          go_simp
          refine hK.out _ _ (bstep hHeld (bal _ _)) (fun hHeld => ?_)
          clear hK K
          try simp only [Act.put, List.setIfInBounds_toArray, List.set_cons_zero, List.set_cons_succ]
          refine wpAnyH_ready (rs := [9]) (by kernel_rfl) (by simp) ?_
          refine AllReadyH.cons (o := ({ dst := none, op := Op.store 36 (Operand.tmp 6) (Operand.tmp 32), type := 0, pos := "exact.go:1959", after := #[{ on := 8, ground := Ground.data }, { on := 6, ground := Ground.data }, { on := 4, ground := Ground.chain }, { on := 0, ground := Ground.phase }, { on := 1, ground := Ground.phase }, { on := 2, ground := Ground.phase }, { on := 3, ground := Ground.phase }, { on := 4, ground := Ground.phase }, { on := 5, ground := Ground.phase }, { on := 6, ground := Ground.phase }, { on := 7, ground := Ground.textOnly Departure.lateStores }, { on := 8, ground := Ground.phase }], guard := none } : Oper)) rfl (fun K hK => ?_) AllReadyH.nil
          go_simp
          refine hK.out _ _ (bstep hH8 (bal _ _)) (fun hHeld => ?_)
          clear hK K
          try simp only [Act.put, List.setIfInBounds_toArray, List.set_cons_zero, List.set_cons_succ]
          refine' wpAnyH_take (i := 10) (oi := ({ dst := some 7, op := Op.assign (Operand.tmp 33), type := 3, pos := "exact.go:1959", after := #[{ on := 7, ground := Ground.data }, { on := 9, ground := Ground.chain }, { on := 0, ground := Ground.phase }, { on := 1, ground := Ground.phase }, { on := 2, ground := Ground.phase }, { on := 3, ground := Ground.phase }, { on := 4, ground := Ground.phase }, { on := 5, ground := Ground.phase }, { on := 6, ground := Ground.phase }, { on := 7, ground := Ground.phase }, { on := 8, ground := Ground.phase }, { on := 9, ground := Ground.phase }], guard := none } : Oper)) (v := _) rfl (by kernel_rfl) (by kernel_rfl) (by kernel_rfl) (fun _ _ _ h => h) (Or.inl ⟨by rfl, fun x hSw => ?hyzm6⟩) hHeld ?restzm6
          case hyzm6 =>
            obtain ⟨k0, k1, k2, k3, k4, k5⟩ := B6.of (rowL hX2 hSw); have hYS := rowL hY2 hSw; have y0 : x.cell? ⟨w.heap.size + 1, 0, none⟩ = some (.int .i64 kd) := (cell_of_row _ _ 0 _ _ _ hYS).trans rfl; have y1 : x.cell? ⟨w.heap.size + 1, 1, none⟩ = some (.string nm) := (cell_of_row _ _ 1 _ _ _ hYS).trans rfl; have y2 : x.cell? ⟨w.heap.size + 1, 2, none⟩ = some (.string dt) := (cell_of_row _ _ 2 _ _ _ hYS).trans rfl; have y3 : x.cell? ⟨w.heap.size + 1, 3, none⟩ = some (.int .i64 sz) := (cell_of_row _ _ 3 _ _ _ hYS).trans rfl
            go_simp
            try with_reducible rfl
          try simp only [Act.put, List.setIfInBounds_toArray, List.set_cons_zero, List.set_cons_succ]
          refine wpAnyH_done (by kernel_rfl) ?_ _
          exact ⟨_, av, cv, _, _, _, _, _, _, _, _, _, _, _, _, _, _, _, _, _, _, _, rfl, heap_alloc_new w4 _, (OwnF.wk hO4 hH4.size).later (bal _ _), hHeld⟩
        · have hQ : (World.alloc (wb) (.cells #[.slice none 0 0, .int .i64 0, .int .i64 0, .int .i64 0, .int .i64 0, .bool false] 36)).heap[wb.heap.size]? = _ := heap_alloc_new (wb) (.cells #[.slice none 0 0, .int .i64 0, .int .i64 0, .int .i64 0, .int .i64 0, .bool false] 36)
          have hQs := hHeld.size
          have hRa := hRa.later (bal (wb) (.cells #[.slice none 0 0, .int .i64 0, .int .i64 0, .int .i64 0, .int .i64 0, .bool false] 36))
          go_simp
          refine hK.out _ _ (bstep hHeld (bal _ _)) (fun hHeld => ?_)
          clear hK K
          try simp only [Act.put, List.setIfInBounds_toArray, List.set_cons_zero, List.set_cons_succ]
          refine wpAnyH_ready (rs := [4]) (by kernel_rfl) (by simp) ?_
          refine AllReadyH.cons (o := ({ dst := some 31, op := Op.call { callee := Callee.value (Operand.func 28), args := #[Operand.tmp 28, Operand.tmp 30], argTypes := #[36, 49] }, type := 47, pos := "exact.go:1959", after := #[{ on := 1, ground := Ground.data }, { on := 3, ground := Ground.data }, { on := 3, ground := Ground.chain }], guard := none } : Oper)) rfl (fun K hK => ?_) AllReadyH.nil
          go_simp
          have hH4 := hHeld
          refine (HSP.out _ ga hRa.fl).mono ?_
          rintro e w4 ⟨av, cv, rfl, hO4, hb4⟩
          have hQ := rowL hQ hb4
          have hH8 := bstep hHeld hb4
          refine hK.out _ _ (bstep hHeld hb4) (fun hHeld => ?_)
          clear hK K
          try simp only [Act.put, List.setIfInBounds_toArray, List.set_cons_zero, List.set_cons_succ]
          refine' wpAnyH_take (i := 5) (oi := ({ dst := some 26, op := Op.move (Operand.tmp 31), type := 47, pos := "exact.go:1959", after := #[{ on := 4, ground := Ground.data }], guard := none } : Oper)) (v := _) rfl (by kernel_rfl) (by kernel_rfl) (by kernel_rfl) (fun _ _ _ h => h) (Or.inl ⟨by rfl, fun x hSw => ?hyzm7⟩) hHeld ?restzm7
          case hyzm7 =>
            obtain ⟨k0, k1, k2, k3, k4, k5⟩ := B6.of (rowL hX2 hSw); have hYS := rowL hY2 hSw; have y0 : x.cell? ⟨w.heap.size + 1, 0, none⟩ = some (.int .i64 kd) := (cell_of_row _ _ 0 _ _ _ hYS).trans rfl; have y1 : x.cell? ⟨w.heap.size + 1, 1, none⟩ = some (.string nm) := (cell_of_row _ _ 1 _ _ _ hYS).trans rfl; have y2 : x.cell? ⟨w.heap.size + 1, 2, none⟩ = some (.string dt) := (cell_of_row _ _ 2 _ _ _ hYS).trans rfl; have y3 : x.cell? ⟨w.heap.size + 1, 3, none⟩ = some (.int .i64 sz) := (cell_of_row _ _ 3 _ _ _ hYS).trans rfl
            go_simp
            try with_reducible rfl
          try simp only [Act.put, List.setIfInBounds_toArray, List.set_cons_zero, List.set_cons_succ]
          refine' wpAnyH_take (i := 6) (oi := ({ dst := some 32, op := Op.extract (Operand.tmp 26) 0, type := 36, pos := "exact.go:1959", after := #[{ on := 5, ground := Ground.data }], guard := none } : Oper)) (v := _) rfl (by kernel_rfl) (by kernel_rfl) (by kernel_rfl) (fun _ _ _ h => h) (Or.inl ⟨by rfl, fun x hSw => ?hyzm8⟩) hHeld ?restzm8
          case hyzm8 =>
            obtain ⟨k0, k1, k2, k3, k4, k5⟩ := B6.of (rowL hX2 hSw); have hYS := rowL hY2 hSw; have y0 : x.cell? ⟨w.heap.size + 1, 0, none⟩ = some (.int .i64 kd) := (cell_of_row _ _ 0 _ _ _ hYS).trans rfl; have y1 : x.cell? ⟨w.heap.size + 1, 1, none⟩ = some (.string nm) := (cell_of_row _ _ 1 _ _ _ hYS).trans rfl; have y2 : x.cell? ⟨w.heap.size + 1, 2, none⟩ = some (.string dt) := (cell_of_row _ _ 2 _ _ _ hYS).trans rfl; have y3 : x.cell? ⟨w.heap.size + 1, 3, none⟩ = some (.int .i64 sz) := (cell_of_row _ _ 3 _ _ _ hYS).trans rfl
            go_simp
            try with_reducible rfl
          try simp only [Act.put, List.setIfInBounds_toArray, List.set_cons_zero, List.set_cons_succ]
          refine' wpAnyH_take (i := 7) (oi := ({ dst := some 33, op := Op.extract (Operand.tmp 26) 1, type := 3, pos := "exact.go:1959", after := #[{ on := 5, ground := Ground.data }, { on := 9, ground := Ground.gcOnly Departure.lateStores }], guard := none } : Oper)) (v := _) rfl (by kernel_rfl) (by kernel_rfl) (by kernel_rfl) (fun _ _ _ h => h) (Or.inl ⟨by rfl, fun x hSw => ?hyzm9⟩) hHeld ?restzm9
          case hyzm9 =>
            obtain ⟨k0, k1, k2, k3, k4, k5⟩ := B6.of (rowL hX2 hSw); have hYS := rowL hY2 hSw; have y0 : x.cell? ⟨w.heap.size + 1, 0, none⟩ = some (.int .i64 kd) := (cell_of_row _ _ 0 _ _ _ hYS).trans rfl; have y1 : x.cell? ⟨w.heap.size + 1, 1, none⟩ = some (.string nm) := (cell_of_row _ _ 1 _ _ _ hYS).trans rfl; have y2 : x.cell? ⟨w.heap.size + 1, 2, none⟩ = some (.string dt) := (cell_of_row _ _ 2 _ _ _ hYS).trans rfl; have y3 : x.cell? ⟨w.heap.size + 1, 3, none⟩ = some (.int .i64 sz) := (cell_of_row _ _ 3 _ _ _ hYS).trans rfl
            go_simp
            try with_reducible rfl
          try simp only [Act.put, List.setIfInBounds_toArray, List.set_cons_zero, List.set_cons_succ]
          refine wpAnyH_ready (rs := [9]) (by kernel_rfl) (by simp) ?_
          refine AllReadyH.cons (o := ({ dst := none, op := Op.store 36 (Operand.tmp 6) (Operand.tmp 32), type := 0, pos := "exact.go:1959", after := #[{ on := 8, ground := Ground.data }, { on := 6, ground := Ground.data }, { on := 4, ground := Ground.chain }, { on := 0, ground := Ground.phase }, { on := 1, ground := Ground.phase }, { on := 2, ground := Ground.phase }, { on := 3, ground := Ground.phase }, { on := 4, ground := Ground.phase }, { on := 5, ground := Ground.phase }, { on := 6, ground := Ground.phase }, { on := 7, ground := Ground.textOnly Departure.lateStores }, { on := 8, ground := Ground.phase }], guard := none } : Oper)) rfl (fun K hK => ?_) AllReadyH.nil
          have qc0 := (cell_of_row _ _ 0 _ _ _ hQ).trans rfl; have qf0 := frozen_of_row _ _ 0 _ _ hQ; have qc1 := (cell_of_row _ _ 1 _ _ _ hQ).trans rfl; have qf1 := frozen_of_row _ _ 1 _ _ hQ; have qc2 := (cell_of_row _ _ 2 _ _ _ hQ).trans rfl; have qf2 := frozen_of_row _ _ 2 _ _ hQ; have qc3 := (cell_of_row _ _ 3 _ _ _ hQ).trans rfl; have qf3 := frozen_of_row _ _ 3 _ _ hQ; have qc4 := (cell_of_row _ _ 4 _ _ _ hQ).trans rfl; have qf4 := frozen_of_row _ _ 4 _ _ hQ; have qc5 := (cell_of_row _ _ 5 _ _ _ hQ).trans rfl; have qf5 := frozen_of_row _ _ 5 _ _ hQ
          go_simp
          refine hK.out _ _ (set6_below _ _ _ _ _ _ hHeld (by first | exact Nat.le_refl _ | exact hQs)) (fun hHeld => ?_)
          clear hK K
          try simp only [Act.put, List.setIfInBounds_toArray, List.set_cons_zero, List.set_cons_succ]
          refine' wpAnyH_take (i := 10) (oi := ({ dst := some 7, op := Op.assign (Operand.tmp 33), type := 3, pos := "exact.go:1959", after := #[{ on := 7, ground := Ground.data }, { on := 9, ground := Ground.chain }, { on := 0, ground := Ground.phase }, { on := 1, ground := Ground.phase }, { on := 2, ground := Ground.phase }, { on := 3, ground := Ground.phase }, { on := 4, ground := Ground.phase }, { on := 5, ground := Ground.phase }, { on := 6, ground := Ground.phase }, { on := 7, ground := Ground.phase }, { on := 8, ground := Ground.phase }, { on := 9, ground := Ground.phase }], guard := none } : Oper)) (v := _) rfl (by kernel_rfl) (by kernel_rfl) (by kernel_rfl) (fun _ _ _ h => h) (Or.inl ⟨by rfl, fun x hSw => ?hyzm10⟩) hHeld ?restzm10
          case hyzm10 =>
            obtain ⟨k0, k1, k2, k3, k4, k5⟩ := B6.of (rowL hX2 hSw); have hYS := rowL hY2 hSw; have y0 : x.cell? ⟨w.heap.size + 1, 0, none⟩ = some (.int .i64 kd) := (cell_of_row _ _ 0 _ _ _ hYS).trans rfl; have y1 : x.cell? ⟨w.heap.size + 1, 1, none⟩ = some (.string nm) := (cell_of_row _ _ 1 _ _ _ hYS).trans rfl; have y2 : x.cell? ⟨w.heap.size + 1, 2, none⟩ = some (.string dt) := (cell_of_row _ _ 2 _ _ _ hYS).trans rfl; have y3 : x.cell? ⟨w.heap.size + 1, 3, none⟩ = some (.int .i64 sz) := (cell_of_row _ _ 3 _ _ _ hYS).trans rfl
            go_simp
            try with_reducible rfl
          try simp only [Act.put, List.setIfInBounds_toArray, List.set_cons_zero, List.set_cons_succ]
          refine wpAnyH_done (by kernel_rfl) ?_ _
          exact ⟨_, av, cv, _, _, _, _, _, _, _, _, _, _, _, _, _, _, _, _, _, _, _, rfl, set6_row _ _ _ _ _ _ hQ, (keep6 (OwnF.l (OwnF.wk hO4 hH4.size)) hQ).f, hHeld⟩
      · have hQ : (World.alloc (wa) (.cells #[.slice none 0 0, .int .i64 0, .int .i64 0, .int .i64 0, .int .i64 0, .bool false] 36)).heap[wa.heap.size]? = _ := heap_alloc_new (wa) (.cells #[.slice none 0 0, .int .i64 0, .int .i64 0, .int .i64 0, .int .i64 0, .bool false] 36)
        have hQs := hHeld.size
        have hRa := hRa.later (bal (wa) (.cells #[.slice none 0 0, .int .i64 0, .int .i64 0, .int .i64 0, .int .i64 0, .bool false] 36))
        go_simp
        refine hK.out _ _ (bstep hHeld (bal _ _)) (fun hHeld => ?_)
        clear hK K
        try simp only [Act.put, List.setIfInBounds_toArray, List.set_cons_zero, List.set_cons_succ]
        refine wpAnyH_ready (rs := [3]) (by kernel_rfl) (by simp) ?_
        refine AllReadyH.cons (o := ({ dst := some 30, op := Op.call { callee := Callee.value (Operand.func 29), args := #[Operand.tmp 29], argTypes := #[45] }, type := 49, pos := "exact.go:1959", after := #[{ on := 2, ground := Ground.data }, { on := 1, ground := Ground.chain }], guard := none } : Oper)) rfl (fun K hK => ?_) AllReadyH.nil
        go_simp
        refine (toOp kd nm dt sz _).mono ?_
        rintro e wb ⟨rfl, hbb⟩
        have hQ := rowL hQ hbb
        have hRa := hRa.later hbb
        refine hK.out _ _ (bstep hHeld hbb) (fun hHeld => ?_)
        clear hK K
        try simp only [Act.put, List.setIfInBounds_toArray, List.set_cons_zero, List.set_cons_succ]
        refine wpAnyH_ready (rs := [4]) (by kernel_rfl) (by simp) ?_
        refine AllReadyH.cons (o := ({ dst := some 31, op := Op.call { callee := Callee.value (Operand.func 28), args := #[Operand.tmp 28, Operand.tmp 30], argTypes := #[36, 49] }, type := 47, pos := "exact.go:1959", after := #[{ on := 1, ground := Ground.data }, { on := 3, ground := Ground.data }, { on := 3, ground := Ground.chain }], guard := none } : Oper)) rfl (fun K hK => ?_) AllReadyH.nil
        go_simp
        have hH4 := hHeld
        refine (HSP.out _ ga hRa.fl).mono ?_
        rintro e w4 ⟨av, cv, rfl, hO4, hb4⟩
        have hQ := rowL hQ hb4
        have hH8 := bstep hHeld hb4
        refine hK.out _ _ (bstep hHeld hb4) (fun hHeld => ?_)
        clear hK K
        try simp only [Act.put, List.setIfInBounds_toArray, List.set_cons_zero, List.set_cons_succ]
        refine' wpAnyH_take (i := 5) (oi := ({ dst := some 26, op := Op.move (Operand.tmp 31), type := 47, pos := "exact.go:1959", after := #[{ on := 4, ground := Ground.data }], guard := none } : Oper)) (v := _) rfl (by kernel_rfl) (by kernel_rfl) (by kernel_rfl) (fun _ _ _ h => h) (Or.inl ⟨by rfl, fun x hSw => ?hyzm11⟩) hHeld ?restzm11
        case hyzm11 =>
          obtain ⟨k0, k1, k2, k3, k4, k5⟩ := B6.of (rowL hX2 hSw); have hYS := rowL hY2 hSw; have y0 : x.cell? ⟨w.heap.size + 1, 0, none⟩ = some (.int .i64 kd) := (cell_of_row _ _ 0 _ _ _ hYS).trans rfl; have y1 : x.cell? ⟨w.heap.size + 1, 1, none⟩ = some (.string nm) := (cell_of_row _ _ 1 _ _ _ hYS).trans rfl; have y2 : x.cell? ⟨w.heap.size + 1, 2, none⟩ = some (.string dt) := (cell_of_row _ _ 2 _ _ _ hYS).trans rfl; have y3 : x.cell? ⟨w.heap.size + 1, 3, none⟩ = some (.int .i64 sz) := (cell_of_row _ _ 3 _ _ _ hYS).trans rfl
          go_simp
          try with_reducible rfl
        try simp only [Act.put, List.setIfInBounds_toArray, List.set_cons_zero, List.set_cons_succ]
        refine' wpAnyH_take (i := 6) (oi := ({ dst := some 32, op := Op.extract (Operand.tmp 26) 0, type := 36, pos := "exact.go:1959", after := #[{ on := 5, ground := Ground.data }], guard := none } : Oper)) (v := _) rfl (by kernel_rfl) (by kernel_rfl) (by kernel_rfl) (fun _ _ _ h => h) (Or.inl ⟨by rfl, fun x hSw => ?hyzm12⟩) hHeld ?restzm12
        case hyzm12 =>
          obtain ⟨k0, k1, k2, k3, k4, k5⟩ := B6.of (rowL hX2 hSw); have hYS := rowL hY2 hSw; have y0 : x.cell? ⟨w.heap.size + 1, 0, none⟩ = some (.int .i64 kd) := (cell_of_row _ _ 0 _ _ _ hYS).trans rfl; have y1 : x.cell? ⟨w.heap.size + 1, 1, none⟩ = some (.string nm) := (cell_of_row _ _ 1 _ _ _ hYS).trans rfl; have y2 : x.cell? ⟨w.heap.size + 1, 2, none⟩ = some (.string dt) := (cell_of_row _ _ 2 _ _ _ hYS).trans rfl; have y3 : x.cell? ⟨w.heap.size + 1, 3, none⟩ = some (.int .i64 sz) := (cell_of_row _ _ 3 _ _ _ hYS).trans rfl
          go_simp
          try with_reducible rfl
        try simp only [Act.put, List.setIfInBounds_toArray, List.set_cons_zero, List.set_cons_succ]
        refine' wpAnyH_take (i := 7) (oi := ({ dst := some 33, op := Op.extract (Operand.tmp 26) 1, type := 3, pos := "exact.go:1959", after := #[{ on := 5, ground := Ground.data }, { on := 9, ground := Ground.gcOnly Departure.lateStores }], guard := none } : Oper)) (v := _) rfl (by kernel_rfl) (by kernel_rfl) (by kernel_rfl) (fun _ _ _ h => h) (Or.inl ⟨by rfl, fun x hSw => ?hyzm13⟩) hHeld ?restzm13
        case hyzm13 =>
          obtain ⟨k0, k1, k2, k3, k4, k5⟩ := B6.of (rowL hX2 hSw); have hYS := rowL hY2 hSw; have y0 : x.cell? ⟨w.heap.size + 1, 0, none⟩ = some (.int .i64 kd) := (cell_of_row _ _ 0 _ _ _ hYS).trans rfl; have y1 : x.cell? ⟨w.heap.size + 1, 1, none⟩ = some (.string nm) := (cell_of_row _ _ 1 _ _ _ hYS).trans rfl; have y2 : x.cell? ⟨w.heap.size + 1, 2, none⟩ = some (.string dt) := (cell_of_row _ _ 2 _ _ _ hYS).trans rfl; have y3 : x.cell? ⟨w.heap.size + 1, 3, none⟩ = some (.int .i64 sz) := (cell_of_row _ _ 3 _ _ _ hYS).trans rfl
          go_simp
          try with_reducible rfl
        try simp only [Act.put, List.setIfInBounds_toArray, List.set_cons_zero, List.set_cons_succ]
        refine wpAnyH_ready (rs := [9]) (by kernel_rfl) (by simp) ?_
        refine AllReadyH.cons (o := ({ dst := none, op := Op.store 36 (Operand.tmp 6) (Operand.tmp 32), type := 0, pos := "exact.go:1959", after := #[{ on := 8, ground := Ground.data }, { on := 6, ground := Ground.data }, { on := 4, ground := Ground.chain }, { on := 0, ground := Ground.phase }, { on := 1, ground := Ground.phase }, { on := 2, ground := Ground.phase }, { on := 3, ground := Ground.phase }, { on := 4, ground := Ground.phase }, { on := 5, ground := Ground.phase }, { on := 6, ground := Ground.phase }, { on := 7, ground := Ground.textOnly Departure.lateStores }, { on := 8, ground := Ground.phase }], guard := none } : Oper)) rfl (fun K hK => ?_) AllReadyH.nil
        have qc0 := (cell_of_row _ _ 0 _ _ _ hQ).trans rfl; have qf0 := frozen_of_row _ _ 0 _ _ hQ; have qc1 := (cell_of_row _ _ 1 _ _ _ hQ).trans rfl; have qf1 := frozen_of_row _ _ 1 _ _ hQ; have qc2 := (cell_of_row _ _ 2 _ _ _ hQ).trans rfl; have qf2 := frozen_of_row _ _ 2 _ _ hQ; have qc3 := (cell_of_row _ _ 3 _ _ _ hQ).trans rfl; have qf3 := frozen_of_row _ _ 3 _ _ hQ; have qc4 := (cell_of_row _ _ 4 _ _ _ hQ).trans rfl; have qf4 := frozen_of_row _ _ 4 _ _ hQ; have qc5 := (cell_of_row _ _ 5 _ _ _ hQ).trans rfl; have qf5 := frozen_of_row _ _ 5 _ _ hQ
        go_simp
        refine hK.out _ _ (set6_below _ _ _ _ _ _ hHeld (by first | exact Nat.le_refl _ | exact hQs)) (fun hHeld => ?_)
        clear hK K
        try simp only [Act.put, List.setIfInBounds_toArray, List.set_cons_zero, List.set_cons_succ]
        refine' wpAnyH_take (i := 10) (oi := ({ dst := some 7, op := Op.assign (Operand.tmp 33), type := 3, pos := "exact.go:1959", after := #[{ on := 7, ground := Ground.data }, { on := 9, ground := Ground.chain }, { on := 0, ground := Ground.phase }, { on := 1, ground := Ground.phase }, { on := 2, ground := Ground.phase }, { on := 3, ground := Ground.phase }, { on := 4, ground := Ground.phase }, { on := 5, ground := Ground.phase }, { on := 6, ground := Ground.phase }, { on := 7, ground := Ground.phase }, { on := 8, ground := Ground.phase }, { on := 9, ground := Ground.phase }], guard := none } : Oper)) (v := _) rfl (by kernel_rfl) (by kernel_rfl) (by kernel_rfl) (fun _ _ _ h => h) (Or.inl ⟨by rfl, fun x hSw => ?hyzm14⟩) hHeld ?restzm14
        case hyzm14 =>
          obtain ⟨k0, k1, k2, k3, k4, k5⟩ := B6.of (rowL hX2 hSw); have hYS := rowL hY2 hSw; have y0 : x.cell? ⟨w.heap.size + 1, 0, none⟩ = some (.int .i64 kd) := (cell_of_row _ _ 0 _ _ _ hYS).trans rfl; have y1 : x.cell? ⟨w.heap.size + 1, 1, none⟩ = some (.string nm) := (cell_of_row _ _ 1 _ _ _ hYS).trans rfl; have y2 : x.cell? ⟨w.heap.size + 1, 2, none⟩ = some (.string dt) := (cell_of_row _ _ 2 _ _ _ hYS).trans rfl; have y3 : x.cell? ⟨w.heap.size + 1, 3, none⟩ = some (.int .i64 sz) := (cell_of_row _ _ 3 _ _ _ hYS).trans rfl
          go_simp
          try with_reducible rfl
        try simp only [Act.put, List.setIfInBounds_toArray, List.set_cons_zero, List.set_cons_succ]
        refine wpAnyH_done (by kernel_rfl) ?_ _
        exact ⟨_, av, cv, _, _, _, _, _, _, _, _, _, _, _, _, _, _, _, _, _, _, _, rfl, set6_row _ _ _ _ _ _ hQ, (keep6 (OwnF.l (OwnF.wk hO4 hH4.size)) hQ).f, hHeld⟩
    · have hQ : (World.alloc (w2.drew) (.cells #[.slice none 0 0, .int .i64 0, .int .i64 0, .int .i64 0, .int .i64 0, .bool false] 36)).heap[w2.heap.size]? = _ := heap_alloc_new (w2.drew) (.cells #[.slice none 0 0, .int .i64 0, .int .i64 0, .int .i64 0, .int .i64 0, .bool false] 36)
      have hQs := hHeld.size
      go_simp
      refine hK.out _ _ (bstep hHeld (bal _ _)) (fun hHeld => ?_)
      clear hK K
      try simp only [Act.put, List.setIfInBounds_toArray, List.set_cons_zero, List.set_cons_succ]
      refine wpAnyH_ready (rs := [1]) (by kernel_rfl) (by simp) ?_
      refine AllReadyH.cons (o := ({ dst := some 28, op := Op.call { callee := Callee.value (Operand.func 18), args := #[Operand.tmp 27], argTypes := #[31] }, type := 36, pos := "exact.go:1959", after := #[{ on := 0, ground := Ground.data }], guard := none } : Oper)) rfl (fun K hK => ?_) AllReadyH.nil
      go_simp
      refine (toFs_any a L.length c (nthF L) x1 x2 x3 x4 x5 _ (hf.later (bstep hc2 hHeld)) hn).mono ?_
      rintro e wa ⟨ga, hga, rfl, hRa, hba⟩
      have hQ := rowL hQ hba
      refine hK.out _ _ (bstep hHeld hba) (fun hHeld => ?_)
      clear hK K
      try simp only [Act.put, List.setIfInBounds_toArray, List.set_cons_zero, List.set_cons_succ]
      refine wpAnyH_ready (rs := [3]) (by kernel_rfl) (by simp) ?_
      refine AllReadyH.cons (o := ({ dst := some 30, op := Op.call { callee := Callee.value (Operand.func 29), args := #[Operand.tmp 29], argTypes := #[45] }, type := 49, pos := "exact.go:1959", after := #[{ on := 2, ground := Ground.data }, { on := 1, ground := Ground.chain }], guard := none } : Oper)) rfl (fun K hK => ?_) AllReadyH.nil
      go_simp
      refine (toOp kd nm dt sz _).mono ?_
      rintro e wb ⟨rfl, hbb⟩
      have hQ := rowL hQ hbb
      have hRa := hRa.later hbb
      refine hK.out _ _ (bstep hHeld hbb) (fun hHeld => ?_)
      clear hK K
      try simp only [Act.put, List.setIfInBounds_toArray, List.set_cons_zero, List.set_cons_succ]
      refine wpAnyH_ready (rs := [4]) (by kernel_rfl) (by simp) ?_
      refine AllReadyH.cons (o := ({ dst := some 31, op := Op.call { callee := Callee.value (Operand.func 28), args := #[Operand.tmp 28, Operand.tmp 30], argTypes := #[36, 49] }, type := 47, pos := "exact.go:1959", after := #[{ on := 1, ground := Ground.data }, { on := 3, ground := Ground.data }, { on := 3, ground := Ground.chain }], guard := none } : Oper)) rfl (fun K hK => ?_) AllReadyH.nil
      go_simp
      have hH4 := hHeld
      refine (HSP.out _ ga hRa.fl).mono ?_
      rintro e w4 ⟨av, cv, rfl, hO4, hb4⟩
      have hQ := rowL hQ hb4
      have hH8 := bstep hHeld hb4
      refine hK.out _ _ (bstep hHeld hb4) (fun hHeld => ?_)
      clear hK K
      try simp only [Act.put, List.setIfInBounds_toArray, List.set_cons_zero, List.set_cons_succ]
      refine' wpAnyH_take (i := 5) (oi := ({ dst := some 26, op := Op.move (Operand.tmp 31), type := 47, pos := "exact.go:1959", after := #[{ on := 4, ground := Ground.data }], guard := none } : Oper)) (v := _) rfl (by kernel_rfl) (by kernel_rfl) (by kernel_rfl) (fun _ _ _ h => h) (Or.inl ⟨by rfl, fun x hSw => ?hyzm15⟩) hHeld ?restzm15
      case hyzm15 =>
        obtain ⟨k0, k1, k2, k3, k4, k5⟩ := B6.of (rowL hX2 hSw); have hYS := rowL hY2 hSw; have y0 : x.cell? ⟨w.heap.size + 1, 0, none⟩ = some (.int .i64 kd) := (cell_of_row _ _ 0 _ _ _ hYS).trans rfl; have y1 : x.cell? ⟨w.heap.size + 1, 1, none⟩ = some (.string nm) := (cell_of_row _ _ 1 _ _ _ hYS).trans rfl; have y2 : x.cell? ⟨w.heap.size + 1, 2, none⟩ = some (.string dt) := (cell_of_row _ _ 2 _ _ _ hYS).trans rfl; have y3 : x.cell? ⟨w.heap.size + 1, 3, none⟩ = some (.int .i64 sz) := (cell_of_row _ _ 3 _ _ _ hYS).trans rfl
        go_simp
        try with_reducible rfl
      try simp only [Act.put, List.setIfInBounds_toArray, List.set_cons_zero, List.set_cons_succ]
      refine' wpAnyH_take (i := 6) (oi := ({ dst := some 32, op := Op.extract (Operand.tmp 26) 0, type := 36, pos := "exact.go:1959", after := #[{ on := 5, ground := Ground.data }], guard := none } : Oper)) (v := _) rfl (by kernel_rfl) (by kernel_rfl) (by kernel_rfl) (fun _ _ _ h => h) (Or.inl ⟨by rfl, fun x hSw => ?hyzm16⟩) hHeld ?restzm16
      case hyzm16 =>
        obtain ⟨k0, k1, k2, k3, k4, k5⟩ := B6.of (rowL hX2 hSw); have hYS := rowL hY2 hSw; have y0 : x.cell? ⟨w.heap.size + 1, 0, none⟩ = some (.int .i64 kd) := (cell_of_row _ _ 0 _ _ _ hYS).trans rfl; have y1 : x.cell? ⟨w.heap.size + 1, 1, none⟩ = some (.string nm) := (cell_of_row _ _ 1 _ _ _ hYS).trans rfl; have y2 : x.cell? ⟨w.heap.size + 1, 2, none⟩ = some (.string dt) := (cell_of_row _ _ 2 _ _ _ hYS).trans rfl; have y3 : x.cell? ⟨w.heap.size + 1, 3, none⟩ = some (.int .i64 sz) := (cell_of_row _ _ 3 _ _ _ hYS).trans rfl
        go_simp
        try with_reducible rfl
      try simp only [Act.put, List.setIfInBounds_toArray, List.set_cons_zero, List.set_cons_succ]
      refine' wpAnyH_take (i := 7) (oi := ({ dst := some 33, op := Op.extract (Operand.tmp 26) 1, type := 3, pos := "exact.go:1959", after := #[{ on := 5, ground := Ground.data }, { on := 9, ground := Ground.gcOnly Departure.lateStores }], guard := none } : Oper)) (v := _) rfl (by kernel_rfl) (by kernel_rfl) (by kernel_rfl) (fun _ _ _ h => h) (Or.inl ⟨by rfl, fun x hSw => ?hyzm17⟩) hHeld ?restzm17
      case hyzm17 =>
        obtain ⟨k0, k1, k2, k3, k4, k5⟩ := B6.of (rowL hX2 hSw); have hYS := rowL hY2 hSw; have y0 : x.cell? ⟨w.heap.size + 1, 0, none⟩ = some (.int .i64 kd) := (cell_of_row _ _ 0 _ _ _ hYS).trans rfl; have y1 : x.cell? ⟨w.heap.size + 1, 1, none⟩ = some (.string nm) := (cell_of_row _ _ 1 _ _ _ hYS).trans rfl; have y2 : x.cell? ⟨w.heap.size + 1, 2, none⟩ = some (.string dt) := (cell_of_row _ _ 2 _ _ _ hYS).trans rfl; have y3 : x.cell? ⟨w.heap.size + 1, 3, none⟩ = some (.int .i64 sz) := (cell_of_row _ _ 3 _ _ _ hYS).trans rfl
        go_simp
        try with_reducible rfl
      try simp only [Act.put, List.setIfInBounds_toArray, List.set_cons_zero, List.set_cons_succ]
      refine wpAnyH_ready (rs := [9]) (by kernel_rfl) (by simp) ?_
      refine AllReadyH.cons (o := ({ dst := none, op := Op.store 36 (Operand.tmp 6) (Operand.tmp 32), type := 0, pos := "exact.go:1959", after := #[{ on := 8, ground := Ground.data }, { on := 6, ground := Ground.data }, { on := 4, ground := Ground.chain }, { on := 0, ground := Ground.phase }, { on := 1, ground := Ground.phase }, { on := 2, ground := Ground.phase }, { on := 3, ground := Ground.phase }, { on := 4, ground := Ground.phase }, { on := 5, ground := Ground.phase }, { on := 6, ground := Ground.phase }, { on := 7, ground := Ground.textOnly Departure.lateStores }, { on := 8, ground := Ground.phase }], guard := none } : Oper)) rfl (fun K hK => ?_) AllReadyH.nil
      have qc0 := (cell_of_row _ _ 0 _ _ _ hQ).trans rfl; have qf0 := frozen_of_row _ _ 0 _ _ hQ; have qc1 := (cell_of_row _ _ 1 _ _ _ hQ).trans rfl; have qf1 := frozen_of_row _ _ 1 _ _ hQ; have qc2 := (cell_of_row _ _ 2 _ _ _ hQ).trans rfl; have qf2 := frozen_of_row _ _ 2 _ _ hQ; have qc3 := (cell_of_row _ _ 3 _ _ _ hQ).trans rfl; have qf3 := frozen_of_row _ _ 3 _ _ hQ; have qc4 := (cell_of_row _ _ 4 _ _ _ hQ).trans rfl; have qf4 := frozen_of_row _ _ 4 _ _ hQ; have qc5 := (cell_of_row _ _ 5 _ _ _ hQ).trans rfl; have qf5 := frozen_of_row _ _ 5 _ _ hQ
      go_simp
      refine hK.out _ _ (set6_below _ _ _ _ _ _ hHeld (by first | exact Nat.le_refl _ | exact hQs)) (fun hHeld => ?_)
      clear hK K
      try simp only [Act.put, List.setIfInBounds_toArray, List.set_cons_zero, List.set_cons_succ]
      refine' wpAnyH_take (i := 10) (oi := ({ dst := some 7, op := Op.assign (Operand.tmp 33), type := 3, pos := "exact.go:1959", after := #[{ on := 7, ground := Ground.data }, { on := 9, ground := Ground.chain }, { on := 0, ground := Ground.phase }, { on := 1, ground := Ground.phase }, { on := 2, ground := Ground.phase }, { on := 3, ground := Ground.phase }, { on := 4, ground := Ground.phase }, { on := 5, ground := Ground.phase }, { on := 6, ground := Ground.phase }, { on := 7, ground := Ground.phase }, { on := 8, ground := Ground.phase }, { on := 9, ground := Ground.phase }], guard := none } : Oper)) (v := _) rfl (by kernel_rfl) (by kernel_rfl) (by kernel_rfl) (fun _ _ _ h => h) (Or.inl ⟨by rfl, fun x hSw => ?hyzm18⟩) hHeld ?restzm18
      case hyzm18 =>
        obtain ⟨k0, k1, k2, k3, k4, k5⟩ := B6.of (rowL hX2 hSw); have hYS := rowL hY2 hSw; have y0 : x.cell? ⟨w.heap.size + 1, 0, none⟩ = some (.int .i64 kd) := (cell_of_row _ _ 0 _ _ _ hYS).trans rfl; have y1 : x.cell? ⟨w.heap.size + 1, 1, none⟩ = some (.string nm) := (cell_of_row _ _ 1 _ _ _ hYS).trans rfl; have y2 : x.cell? ⟨w.heap.size + 1, 2, none⟩ = some (.string dt) := (cell_of_row _ _ 2 _ _ _ hYS).trans rfl; have y3 : x.cell? ⟨w.heap.size + 1, 3, none⟩ = some (.int .i64 sz) := (cell_of_row _ _ 3 _ _ _ hYS).trans rfl
        go_simp
        try with_reducible rfl
      try simp only [Act.put, List.setIfInBounds_toArray, List.set_cons_zero, List.set_cons_succ]
      refine wpAnyH_done (by kernel_rfl) ?_ _
      exact ⟨_, av, cv, _, _, _, _, _, _, _, _, _, _, _, _, _, _, _, _, _, _, _, rfl, set6_row _ _ _ _ _ _ hQ, (keep6 (OwnF.l (OwnF.wk hO4 hH4.size)) hQ).f, hHeld⟩
  intro e a' w5 hq
  cases e
  all_goals first | exact hq.elim | skip
  obtain ⟨Q, av, cv, u5, u16, u17, u18, u19, u20, u21, u22, u23, u24, u25, u26, u27, u28, u29, u30, u31, u32, u33, rfl, h65, hO5, hb5⟩ := hq
  have hX5 := rowL hX2 hb5
  have hY5 := rowL hY2 hb5
  have hc5 := bstep hc2 hb5
  have hQl : Q < w5.heap.size := (Array.getElem?_eq_some_iff.1 h65).1
  have hlt4 : ∀ q, (Value.slice av M.length cv).ownBlock = some q → q < w5.heap.size := fun q e => (hO5.lt q e).2
  have hwX : w.heap.size + 1 < w5.heap.size := (Array.getElem?_eq_some_iff.1 hY5).1
  simp only [Exit.then]
  go_at_K
  obtain ⟨k0, k1, k2, k3, k4, k5⟩ := B6.of hX5
  go_upto_region 10 with (go_at_call 18; refine (toFs_any a L.length c (nthF L) x1 x2 x3 x4 x5 _ (hf.later hc5) hn).mono ?_; rintro e w6 ⟨g7, hg7, rfl, hR6, hb6⟩)
  have hb7 := bal w6 (.cells #[.slice (some ⟨g7, 0, none⟩) L.length L.length, .int .i64 x1, .int .i64 x2, .int .i64 x3, .int .i64 x4, .bool x5] 36)
  have h77 := heap_alloc_new w6 (.cells #[.slice (some ⟨g7, 0, none⟩) L.length L.length, .int .i64 x1, .int .i64 x2, .int .i64 x3, .int .i64 x4, .bool x5] 36)
  have hR7 := hR6.later hb7
  have h67 := rowL h65 (bstep hb6 hb7)
  have hO7 := hO5.later (bstep hb6 hb7)
  have hX7 := rowL hX5 (bstep hb6 hb7)
  have hY7 := rowL hY5 (bstep hb6 hb7)
  have hc7 := bstep hc5 (bstep hb6 hb7)
  have hs6 := hb6.size
  have hg7l : g7 < w6.heap.size := (Array.getElem?_eq_some_iff.1 hR6).1
  obtain ⟨W7, hW7⟩ : ∃ W7, w6.alloc (.cells #[.slice (some ⟨g7, 0, none⟩) L.length L.length, .int .i64 x1, .int .i64 x2, .int .i64 x3, .int .i64 x4, .bool x5] 36) = W7 := ⟨_, rfl⟩
  have hs7 : w6.heap.size < W7.heap.size := by rw [← hW7]; simp
  rw [hW7] at h77 hR7 h67 hO7 hX7 hY7 hc7 ⊢
  clear hW7 hb7 k0 k1 k2 k3 k4 k5
  refine Code.wp_mono (Q := Exit.then (fun a' w' => ∃ (Q9 : Nat) (a9 : Option Addr) (c9 : Nat) (u34 u35 u36 u37 u38 u39 u40 u41 u42 : Value), a' = { tmps := List.toArray ((.agg #[.slice a L.length c, .int .i64 x1, .int .i64 x2, .int .i64 x3, .int .i64 x4, .bool x5]) :: (.agg #[.int .i64 kd, .string nm, .string dt, .int .i64 sz]) :: (.pointer (some ⟨w.heap.size, 0, none⟩)) :: (.pointer (some ⟨w.heap.size + 1, 0, none⟩)) :: (.bool false) :: (u5) :: (.pointer (some ⟨Q, 0, none⟩)) :: (.int .i64 zc) :: (.pointer (some ⟨w6.heap.size, 0, none⟩)) :: (.pointer (some ⟨Q9, 0, none⟩)) :: (.int .i64 zc) :: (undef) :: (undef) :: (undef) :: (undef) :: (undef) :: (u16) :: (u17) :: (u18) :: (u19) :: (u20) :: (u21) :: (u22) :: (u23) :: (u24) :: (u25) :: (u26) :: (u27) :: (u28) :: (u29) :: (u30) :: (u31) :: (u32) :: (u33) :: (u34) :: (u35) :: (u36) :: (u37) :: (u38) :: (u39) :: (u40) :: (u41) :: (u42) :: (undef) :: (undef) :: (undef) :: (undef) :: (undef) :: (undef) :: (undef) :: (undef) :: (undef) :: (undef) :: (undef) :: (undef) :: (undef) :: (undef) :: (undef) :: (undef) :: (undef) :: (undef) :: (undef) :: (undef) :: (undef) :: (undef) :: (undef) :: (undef) :: (undef) :: (undef) :: (undef) :: (undef) :: (undef) :: (undef) :: (undef) :: (undef) :: (undef) :: (undef) :: (undef) :: (undef) :: (undef) :: (undef) :: (undef) :: (undef) :: (undef) :: (undef) :: (undef) :: (undef) :: (undef) :: (undef) :: (undef) :: (undef) :: (undef) :: (undef) :: (undef) :: (undef) :: (undef) :: (undef) :: (undef) :: (undef) :: (undef) :: (undef) :: []), defers := [] } ∧ w'.heap[Q9]? = some (.cells #[.slice a9 M.length c9, .int .i64 z1, .int .i64 z2, .int .i64 z3, .int .i64 z4, .bool z5] 36 (0, 0)) ∧ OwnF w' W7.heap.size (.slice a9 M.length c9) M.length (nthF M) ∧ W7.heap.size ≤ Q9 ∧ Below W7.heap.size W7 w') (fun _ _ _ => False)) ?_ ?_
  rotate_left
  · refine wp_region_held_drew (S := fun x => Below W7.heap.size W7 x) (by kernel_rfl) (bdrew1 _) (fun hHeld => ?_)
    refine' wpAnyH_take (i := 0) (oi := ({ dst := some 37, op := Op.load 36 (Operand.tmp 8), type := 36, pos := "exact.go:1961", after := #[], guard := none } : Oper)) (v := _) rfl (by kernel_rfl) (by kernel_rfl) (by kernel_rfl) (fun _ _ _ h => h) (Or.inl ⟨by rfl, fun x hSw => ?hyzn1⟩) hHeld ?restzn1
    case hyzn1 =>
      obtain ⟨k0, k1, k2, k3, k4, k5⟩ := B6.of (rowL h77 hSw); have hYS := rowL hY7 hSw; have y0 : x.cell? ⟨w.heap.size + 1, 0, none⟩ = some (.int .i64 kd) := (cell_of_row _ _ 0 _ _ _ hYS).trans rfl; have y1 : x.cell? ⟨w.heap.size + 1, 1, none⟩ = some (.string nm) := (cell_of_row _ _ 1 _ _ _ hYS).trans rfl; have y2 : x.cell? ⟨w.heap.size + 1, 2, none⟩ = some (.string dt) := (cell_of_row _ _ 2 _ _ _ hYS).trans rfl; have y3 : x.cell? ⟨w.heap.size + 1, 3, none⟩ = some (.int .i64 sz) := (cell_of_row _ _ 3 _ _ _ hYS).trans rfl
      go_simp
      try with_reducible rfl
    try simp only [Act.put, List.setIfInBounds_toArray, List.set_cons_zero, List.set_cons_succ]
    refine' wpAnyH_take (i := 1) (oi := ({ dst := some 38, op := Op.load 45 (Operand.tmp 3), type := 45, pos := "exact.go:1961", after := #[], guard := none } : Oper)) (v := _) rfl (by kernel_rfl) (by kernel_rfl) (by kernel_rfl) (fun _ _ _ h => h) (Or.inl ⟨by rfl, fun x hSw => ?hyzn2⟩) hHeld ?restzn2
    case hyzn2 =>
      obtain ⟨k0, k1, k2, k3, k4, k5⟩ := B6.of (rowL h77 hSw); have hYS := rowL hY7 hSw; have y0 : x.cell? ⟨w.heap.size + 1, 0, none⟩ = some (.int .i64 kd) := (cell_of_row _ _ 0 _ _ _ hYS).trans rfl; have y1 : x.cell? ⟨w.heap.size + 1, 1, none⟩ = some (.string nm) := (cell_of_row _ _ 1 _ _ _ hYS).trans rfl; have y2 : x.cell? ⟨w.heap.size + 1, 2, none⟩ = some (.string dt) := (cell_of_row _ _ 2 _ _ _ hYS).trans rfl; have y3 : x.cell? ⟨w.heap.size + 1, 3, none⟩ = some (.int .i64 sz) := (cell_of_row _ _ 3 _ _ _ hYS).trans rfl
      go_simp
      try with_reducible rfl
    try simp only [Act.put, List.setIfInBounds_toArray, List.set_cons_zero, List.set_cons_succ]
    refine wpAnyH_ready (rs := [2, 7]) (by kernel_rfl) (by simp) ?_
    refine (AllReadyH.cons (o := ({ dst := some 39, op := Op.call { callee := Callee.value (Operand.func 29), args := #[Operand.tmp 38], argTypes := #[45] }, type := 49, pos := "exact.go:1961", after := #[{ on := 1, ground := Ground.data }], guard := none } : Oper)) rfl (fun K hK => ?_) (AllReadyH.cons (o := ({ dst := some 9, op := Op.alloc 36, type := 0, pos := "exact.go:1961", after := #[], guard := none } : Oper)) rfl (fun K hK => ?_) AllReadyH.nil))
    · go_simp
      refine (toOp kd nm dt sz _).mono ?_
      rintro e w8 ⟨rfl, hb8⟩
      refine hK.out _ _ (bstep hHeld hb8) (fun hHeld => ?_)
      clear hK K
      try simp only [Act.put, List.setIfInBounds_toArray, List.set_cons_zero, List.set_cons_succ]
      refine wpAnyH_ready (rs := [3, 7]) (by kernel_rfl) (by simp) ?_
      refine (AllReadyH.cons (o := ({ dst := some 40, op := Op.call { callee := Callee.value (Operand.func 30), args := #[Operand.tmp 37, Operand.tmp 39], argTypes := #[36, 49] }, type := 47, pos := "exact.go:1961", after := #[{ on := 0, ground := Ground.data }, { on := 2, ground := Ground.data }, { on := 2, ground := Ground.chain }], guard := none } : Oper)) rfl (fun K hK => ?_) (AllReadyH.cons (o := ({ dst := some 9, op := Op.alloc 36, type := 0, pos := "exact.go:1961", after := #[], guard := none } : Oper)) rfl (fun K hK => ?_) AllReadyH.nil))
      · go_simp
        have hH4 := hHeld
        refine (HIM.out _ g7 (hR7.later hHeld).fl).mono ?_
        rintro e w9 ⟨a9, c9, rfl, hO9, hb9⟩
        have hH8 := bstep hHeld hb9
        refine hK.out _ _ (bstep hHeld hb9) (fun hHeld => ?_)
        clear hK K
        try simp only [Act.put, List.setIfInBounds_toArray, List.set_cons_zero, List.set_cons_succ]
        refine' wpAnyH_take (i := 4) (oi := ({ dst := some 36, op := Op.move (Operand.tmp 40), type := 47, pos := "exact.go:1961", after := #[{ on := 3, ground := Ground.data }], guard := none } : Oper)) (v := _) rfl (by kernel_rfl) (by kernel_rfl) (by kernel_rfl) (fun _ _ _ h => h) (Or.inl ⟨by rfl, fun x hSw => ?hyzn3⟩) hHeld ?restzn3
        case hyzn3 =>
          obtain ⟨k0, k1, k2, k3, k4, k5⟩ := B6.of (rowL h77 hSw); have hYS := rowL hY7 hSw; have y0 : x.cell? ⟨w.heap.size + 1, 0, none⟩ = some (.int .i64 kd) := (cell_of_row _ _ 0 _ _ _ hYS).trans rfl; have y1 : x.cell? ⟨w.heap.size + 1, 1, none⟩ = some (.string nm) := (cell_of_row _ _ 1 _ _ _ hYS).trans rfl; have y2 : x.cell? ⟨w.heap.size + 1, 2, none⟩ = some (.string dt) := (cell_of_row _ _ 2 _ _ _ hYS).trans rfl; have y3 : x.cell? ⟨w.heap.size + 1, 3, none⟩ = some (.int .i64 sz) := (cell_of_row _ _ 3 _ _ _ hYS).trans rfl
          go_simp
          try with_reducible rfl
        try simp only [Act.put, List.setIfInBounds_toArray, List.set_cons_zero, List.set_cons_succ]
        refine' wpAnyH_take (i := 5) (oi := ({ dst := some 41, op := Op.extract (Operand.tmp 36) 0, type := 36, pos := "exact.go:1961", after := #[{ on := 4, ground := Ground.data }], guard := none } : Oper)) (v := _) rfl (by kernel_rfl) (by kernel_rfl) (by kernel_rfl) (fun _ _ _ h => h) (Or.inl ⟨by rfl, fun x hSw => ?hyzn4⟩) hHeld ?restzn4
        case hyzn4 =>
          obtain ⟨k0, k1, k2, k3, k4, k5⟩ := B6.of (rowL h77 hSw); have hYS := rowL hY7 hSw; have y0 : x.cell? ⟨w.heap.size + 1, 0, none⟩ = some (.int .i64 kd) := (cell_of_row _ _ 0 _ _ _ hYS).trans rfl; have y1 : x.cell? ⟨w.heap.size + 1, 1, none⟩ = some (.string nm) := (cell_of_row _ _ 1 _ _ _ hYS).trans rfl; have y2 : x.cell? ⟨w.heap.size + 1, 2, none⟩ = some (.string dt) := (cell_of_row _ _ 2 _ _ _ hYS).trans rfl; have y3 : x.cell? ⟨w.heap.size + 1, 3, none⟩ = some (.int .i64 sz) := (cell_of_row _ _ 3 _ _ _ hYS).trans rfl
          go_simp
          try with_reducible rfl
        try simp only [Act.put, List.setIfInBounds_toArray, List.set_cons_zero, List.set_cons_succ]
        refine' wpAnyH_take (i := 6) (oi := ({ dst := some 42, op := Op.extract (Operand.tmp 36) 1, type := 3, pos := "exact.go:1961", after := #[{ on := 4, ground := Ground.data }, { on := 8, ground := Ground.gcOnly Departure.lateStores }], guard := none } : Oper)) (v := _) rfl (by kernel_rfl) (by kernel_rfl) (by kernel_rfl) (fun _ _ _ h => h) (Or.inl ⟨by rfl, fun x hSw => ?hyzn5⟩) hHeld ?restzn5
        case hyzn5 =>
          obtain ⟨k0, k1, k2, k3, k4, k5⟩ := B6.of (rowL h77 hSw); have hYS := rowL hY7 hSw; have y0 : x.cell? ⟨w.heap.size + 1, 0, none⟩ = some (.int .i64 kd) := (cell_of_row _ _ 0 _ _ _ hYS).trans rfl; have y1 : x.cell? ⟨w.heap.size + 1, 1, none⟩ = some (.string nm) := (cell_of_row _ _ 1 _ _ _ hYS).trans rfl; have y2 : x.cell? ⟨w.heap.size + 1, 2, none⟩ = some (.string dt) := (cell_of_row _ _ 2 _ _ _ hYS).trans rfl; have y3 : x.cell? ⟨w.heap.size + 1, 3, none⟩ = some (.int .i64 sz) := (cell_of_row _ _ 3 _ _ _ hYS).trans rfl
          go_simp
          try with_reducible rfl
        try simp only [Act.put, List.setIfInBounds_toArray, List.set_cons_zero, List.set_cons_succ]
        refine wpAnyH_ready (rs := [7]) (by kernel_rfl) (by simp) ?_
        refine AllReadyH.cons (o := ({ dst := some 9, op := Op.alloc 36, type := 0, pos := "exact.go:1961", after := #[], guard := none } : Oper)) rfl (fun K hK => ?_) AllReadyH.nil
        have hQ : (World.alloc (w9) (.cells #[.slice none 0 0, .int .i64 0, .int .i64 0, .int .i64 0, .int .i64 0, .bool false] 36)).heap[w9.heap.size]? = _ := heap_alloc_new (w9) (.cells #[.slice none 0 0, .int .i64 0, .int .i64 0, .int .i64 0, .int .i64 0, .bool false] 36)
        have hQs := hHeld.size
        go_simp
        refine hK.out _ _ (bstep hHeld (bal _ _)) (fun hHeld => ?_)
        clear hK K
        try simp only [Act.put, List.setIfInBounds_toArray, List.set_cons_zero, List.set_cons_succ]
        refine wpAnyH_ready (rs := [8]) (by kernel_rfl) (by simp) ?_
        refine AllReadyH.cons (o := ({ dst := none, op := Op.store 36 (Operand.tmp 9) (Operand.tmp 41), type := 0, pos := "exact.go:1961", after := #[{ on := 7, ground := Ground.data }, { on := 5, ground := Ground.data }, { on := 3, ground := Ground.chain }, { on := 0, ground := Ground.phase }, { on := 1, ground := Ground.phase }, { on := 2, ground := Ground.phase }, { on := 3, ground := Ground.phase }, { on := 4, ground := Ground.phase }, { on := 5, ground := Ground.phase }, { on := 6, ground := Ground.textOnly Departure.lateStores }, { on := 7, ground := Ground.phase }], guard := none } : Oper)) rfl (fun K hK => ?_) AllReadyH.nil
        go_simp
        refine hK.out _ _ (bstep hH8 (bal _ _)) (fun hHeld => ?_)
        clear hK K
        try simp only [Act.put, List.setIfInBounds_toArray, List.set_cons_zero, List.set_cons_succ]
        refine' wpAnyH_take (i := 9) (oi := ({ dst := some 10, op := Op.assign (Operand.tmp 42), type := 3, pos := "exact.go:1961", after := #[{ on := 6, ground := Ground.data }, { on := 8, ground := Ground.chain }, { on := 0, ground := Ground.phase }, { on := 1, ground := Ground.phase }, { on := 2, ground := Ground.phase }, { on := 3, ground := Ground.phase }, { on := 4, ground := Ground.phase }, { on := 5, ground := Ground.phase }, { on := 6, ground := Ground.phase }, { on := 7, ground := Ground.phase }, { on := 8, ground := Ground.phase }], guard := none } : Oper)) (v := _) rfl (by kernel_rfl) (by kernel_rfl) (by kernel_rfl) (fun _ _ _ h => h) (Or.inl ⟨by rfl, fun x hSw => ?hyzn6⟩) hHeld ?restzn6
        case hyzn6 =>
          obtain ⟨k0, k1, k2, k3, k4, k5⟩ := B6.of (rowL h77 hSw); have hYS := rowL hY7 hSw; have y0 : x.cell? ⟨w.heap.size + 1, 0, none⟩ = some (.int .i64 kd) := (cell_of_row _ _ 0 _ _ _ hYS).trans rfl; have y1 : x.cell? ⟨w.heap.size + 1, 1, none⟩ = some (.string nm) := (cell_of_row _ _ 1 _ _ _ hYS).trans rfl; have y2 : x.cell? ⟨w.heap.size + 1, 2, none⟩ = some (.string dt) := (cell_of_row _ _ 2 _ _ _ hYS).trans rfl; have y3 : x.cell? ⟨w.heap.size + 1, 3, none⟩ = some (.int .i64 sz) := (cell_of_row _ _ 3 _ _ _ hYS).trans rfl
          go_simp
          try with_reducible rfl
        try simp only [Act.put, List.setIfInBounds_toArray, List.set_cons_zero, List.set_cons_succ]
        refine wpAnyH_done (by kernel_rfl) ?_ _
        exact ⟨_, a9, c9, _, _, _, _, _, _, _, _, _, rfl, heap_alloc_new w9 _, (OwnF.wk hO9 hH4.size).later (bal _ _), hQs, hHeld⟩
      · have hQ : (World.alloc (w8) (.cells #[.slice none 0 0, .int .i64 0, .int .i64 0, .int .i64 0, .int .i64 0, .bool false] 36)).heap[w8.heap.size]? = _ := heap_alloc_new (w8) (.cells #[.slice none 0 0, .int .i64 0, .int .i64 0, .int .i64 0, .int .i64 0, .bool false] 36)
        have hQs := hHeld.size
        go_simp
        refine hK.out _ _ (bstep hHeld (bal _ _)) (fun hHeld => ?_)
        clear hK K
        try simp only [Act.put, List.setIfInBounds_toArray, List.set_cons_zero, List.set_cons_succ]
        refine wpAnyH_ready (rs := [3]) (by kernel_rfl) (by simp) ?_
        refine AllReadyH.cons (o := ({ dst := some 40, op := Op.call { callee := Callee.value (Operand.func 30), args := #[Operand.tmp 37, Operand.tmp 39], argTypes := #[36, 49] }, type := 47, pos := "exact.go:1961", after := #[{ on := 0, ground := Ground.data }, { on := 2, ground := Ground.data }, { on := 2, ground := Ground.chain }], guard := none } : Oper)) rfl (fun K hK => ?_) AllReadyH.nil
        go_simp
        have hH4 := hHeld
        refine (HIM.out _ g7 (hR7.later hHeld).fl).mono ?_
        rintro e w9 ⟨a9, c9, rfl, hO9, hb9⟩
        have hQ := rowL hQ hb9
        have hH8 := bstep hHeld hb9
        refine hK.out _ _ (bstep hHeld hb9) (fun hHeld => ?_)
        clear hK K
        try simp only [Act.put, List.setIfInBounds_toArray, List.set_cons_zero, List.set_cons_succ]
        refine' wpAnyH_take (i := 4) (oi := ({ dst := some 36, op := Op.move (Operand.tmp 40), type := 47, pos := "exact.go:1961", after := #[{ on := 3, ground := Ground.data }], guard := none } : Oper)) (v := _) rfl (by kernel_rfl) (by kernel_rfl) (by kernel_rfl) (fun _ _ _ h => h) (Or.inl ⟨by rfl, fun x hSw => ?hyzn7⟩) hHeld ?restzn7
        case hyzn7 =>
          obtain ⟨k0, k1, k2, k3, k4, k5⟩ := B6.of (rowL h77 hSw); have hYS := rowL hY7 hSw; have y0 : x.cell? ⟨w.heap.size + 1, 0, none⟩ = some (.int .i64 kd) := (cell_of_row _ _ 0 _ _ _ hYS).trans rfl; have y1 : x.cell? ⟨w.heap.size + 1, 1, none⟩ = some (.string nm) := (cell_of_row _ _ 1 _ _ _ hYS).trans rfl; have y2 : x.cell? ⟨w.heap.size + 1, 2, none⟩ = some (.string dt) := (cell_of_row _ _ 2 _ _ _ hYS).trans rfl; have y3 : x.cell? ⟨w.heap.size + 1, 3, none⟩ = some (.int .i64 sz) := (cell_of_row _ _ 3 _ _ _ hYS).trans rfl
          go_simp
          try with_reducible rfl
        try simp only [Act.put, List.setIfInBounds_toArray, List.set_cons_zero, List.set_cons_succ]
        refine' wpAnyH_take (i := 5) (oi := ({ dst := some 41, op := Op.extract (Operand.tmp 36) 0, type := 36, pos := "exact.go:1961", after := #[{ on := 4, ground := Ground.data }], guard := none } : Oper)) (v := _) rfl (by kernel_rfl) (by kernel_rfl) (by kernel_rfl) (fun _ _ _ h => h) (Or.inl ⟨by rfl, fun x hSw => ?hyzn8⟩) hHeld ?restzn8
        case hyzn8 =>
          obtain ⟨k0, k1, k2, k3, k4, k5⟩ := B6.of (rowL h77 hSw); have hYS := rowL hY7 hSw; have y0 : x.cell? ⟨w.heap.size + 1, 0, none⟩ = some (.int .i64 kd) := (cell_of_row _ _ 0 _ _ _ hYS).trans rfl; have y1 : x.cell? ⟨w.heap.size + 1, 1, none⟩ = some (.string nm) := (cell_of_row _ _ 1 _ _ _ hYS).trans rfl; have y2 : x.cell? ⟨w.heap.size + 1, 2, none⟩ = some (.string dt) := (cell_of_row _ _ 2 _ _ _ hYS).trans rfl; have y3 : x.cell? ⟨w.heap.size + 1, 3, none⟩ = some (.int .i64 sz) := (cell_of_row _ _ 3 _ _ _ hYS).trans rfl
          go_simp
          try with_reducible rfl
        try simp only [Act.put, List.setIfInBounds_toArray, List.set_cons_zero, List.set_cons_succ]
        refine' wpAnyH_take (i := 6) (oi := ({ dst := some 42, op := Op.extract (Operand.tmp 36) 1, type := 3, pos := "exact.go:1961", after := #[{ on := 4, ground := Ground.data }, { on := 8, ground := Ground.gcOnly Departure.lateStores }], guard := none } : Oper)) (v := _) rfl (by kernel_rfl) (by kernel_rfl) (by kernel_rfl) (fun _ _ _ h => h) (Or.inl ⟨by rfl, fun x hSw => ?hyzn9⟩) hHeld ?restzn9
        case hyzn9 =>
          obtain ⟨k0, k1, k2, k3, k4, k5⟩ := B6.of (rowL h77 hSw); have hYS := rowL hY7 hSw; have y0 : x.cell? ⟨w.heap.size + 1, 0, none⟩ = some (.int .i64 kd) := (cell_of_row _ _ 0 _ _ _ hYS).trans rfl; have y1 : x.cell? ⟨w.heap.size + 1, 1, none⟩ = some (.string nm) := (cell_of_row _ _ 1 _ _ _ hYS).trans rfl; have y2 : x.cell? ⟨w.heap.size + 1, 2, none⟩ = some (.string dt) := (cell_of_row _ _ 2 _ _ _ hYS).trans rfl; have y3 : x.cell? ⟨w.heap.size + 1, 3, none⟩ = some (.int .i64 sz) := (cell_of_row _ _ 3 _ _ _ hYS).trans rfl
          go_simp
          try with_reducible rfl
        try simp only [Act.put, List.setIfInBounds_toArray, List.set_cons_zero, List.set_cons_succ]
        refine wpAnyH_ready (rs := [8]) (by kernel_rfl) (by simp) ?_
        refine AllReadyH.cons (o := ({ dst := none, op := Op.store 36 (Operand.tmp 9) (Operand.tmp 41), type := 0, pos := "exact.go:1961", after := #[{ on := 7, ground := Ground.data }, { on := 5, ground := Ground.data }, { on := 3, ground := Ground.chain }, { on := 0, ground := Ground.phase }, { on := 1, ground := Ground.phase }, { on := 2, ground := Ground.phase }, { on := 3, ground := Ground.phase }, { on := 4, ground := Ground.phase }, { on := 5, ground := Ground.phase }, { on := 6, ground := Ground.textOnly Departure.lateStores }, { on := 7, ground := Ground.phase }], guard := none } : Oper)) rfl (fun K hK => ?_) AllReadyH.nil
        have qc0 := (cell_of_row _ _ 0 _ _ _ hQ).trans rfl; have qf0 := frozen_of_row _ _ 0 _ _ hQ; have qc1 := (cell_of_row _ _ 1 _ _ _ hQ).trans rfl; have qf1 := frozen_of_row _ _ 1 _ _ hQ; have qc2 := (cell_of_row _ _ 2 _ _ _ hQ).trans rfl; have qf2 := frozen_of_row _ _ 2 _ _ hQ; have qc3 := (cell_of_row _ _ 3 _ _ _ hQ).trans rfl; have qf3 := frozen_of_row _ _ 3 _ _ hQ; have qc4 := (cell_of_row _ _ 4 _ _ _ hQ).trans rfl; have qf4 := frozen_of_row _ _ 4 _ _ hQ; have qc5 := (cell_of_row _ _ 5 _ _ _ hQ).trans rfl; have qf5 := frozen_of_row _ _ 5 _ _ hQ
        go_simp
        refine hK.out _ _ (set6_below _ _ _ _ _ _ hHeld (by first | exact Nat.le_refl _ | exact hQs)) (fun hHeld => ?_)
        clear hK K
        try simp only [Act.put, List.setIfInBounds_toArray, List.set_cons_zero, List.set_cons_succ]
        refine' wpAnyH_take (i := 9) (oi := ({ dst := some 10, op := Op.assign (Operand.tmp 42), type := 3, pos := "exact.go:1961", after := #[{ on := 6, ground := Ground.data }, { on := 8, ground := Ground.chain }, { on := 0, ground := Ground.phase }, { on := 1, ground := Ground.phase }, { on := 2, ground := Ground.phase }, { on := 3, ground := Ground.phase }, { on := 4, ground := Ground.phase }, { on := 5, ground := Ground.phase }, { on := 6, ground := Ground.phase }, { on := 7, ground := Ground.phase }, { on := 8, ground := Ground.phase }], guard := none } : Oper)) (v := _) rfl (by kernel_rfl) (by kernel_rfl) (by kernel_rfl) (fun _ _ _ h => h) (Or.inl ⟨by rfl, fun x hSw => ?hyzn10⟩) hHeld ?restzn10
        case hyzn10 =>
          obtain ⟨k0, k1, k2, k3, k4, k5⟩ := B6.of (rowL h77 hSw); have hYS := rowL hY7 hSw; have y0 : x.cell? ⟨w.heap.size + 1, 0, none⟩ = some (.int .i64 kd) := (cell_of_row _ _ 0 _ _ _ hYS).trans rfl; have y1 : x.cell? ⟨w.heap.size + 1, 1, none⟩ = some (.string nm) := (cell_of_row _ _ 1 _ _ _ hYS).trans rfl; have y2 : x.cell? ⟨w.heap.size + 1, 2, none⟩ = some (.string dt) := (cell_of_row _ _ 2 _ _ _ hYS).trans rfl; have y3 : x.cell? ⟨w.heap.size + 1, 3, none⟩ = some (.int .i64 sz) := (cell_of_row _ _ 3 _ _ _ hYS).trans rfl
          go_simp
          try with_reducible rfl
        try simp only [Act.put, List.setIfInBounds_toArray, List.set_cons_zero, List.set_cons_succ]
        refine wpAnyH_done (by kernel_rfl) ?_ _
        exact ⟨_, a9, c9, _, _, _, _, _, _, _, _, _, rfl, set6_row _ _ _ _ _ _ hQ, (keep6 (OwnF.l (OwnF.wk hO9 hH4.size)) hQ).f, by first | exact Nat.le_refl _ | exact hQs, hHeld⟩
    · have hQ : (World.alloc (W7.drew) (.cells #[.slice none 0 0, .int .i64 0, .int .i64 0, .int .i64 0, .int .i64 0, .bool false] 36)).heap[W7.heap.size]? = _ := heap_alloc_new (W7.drew) (.cells #[.slice none 0 0, .int .i64 0, .int .i64 0, .int .i64 0, .int .i64 0, .bool false] 36)
      have hQs := hHeld.size
      go_simp
      refine hK.out _ _ (bstep hHeld (bal _ _)) (fun hHeld => ?_)
      clear hK K
      try simp only [Act.put, List.setIfInBounds_toArray, List.set_cons_zero, List.set_cons_succ]
      refine wpAnyH_ready (rs := [2]) (by kernel_rfl) (by simp) ?_
      refine AllReadyH.cons (o := ({ dst := some 39, op := Op.call { callee := Callee.value (Operand.func 29), args := #[Operand.tmp 38], argTypes := #[45] }, type := 49, pos := "exact.go:1961", after := #[{ on := 1, ground := Ground.data }], guard := none } : Oper)) rfl (fun K hK => ?_) AllReadyH.nil
      go_simp
      refine (toOp kd nm dt sz _).mono ?_
      rintro e w8 ⟨rfl, hb8⟩
      have hQ := rowL hQ hb8
      refine hK.out _ _ (bstep hHeld hb8) (fun hHeld => ?_)
      clear hK K
      try simp only [Act.put, List.setIfInBounds_toArray, List.set_cons_zero, List.set_cons_succ]
      refine wpAnyH_ready (rs := [3]) (by kernel_rfl) (by simp) ?_
      refine AllReadyH.cons (o := ({ dst := some 40, op := Op.call { callee := Callee.value (Operand.func 30), args := #[Operand.tmp 37, Operand.tmp 39], argTypes := #[36, 49] }, type := 47, pos := "exact.go:1961", after := #[{ on := 0, ground := Ground.data }, { on := 2, ground := Ground.data }, { on := 2, ground := Ground.chain }], guard := none } : Oper)) rfl (fun K hK => ?_) AllReadyH.nil
      go_simp
      have hH4 := hHeld
      refine (HIM.out _ g7 (hR7.later hHeld).fl).mono ?_
      rintro e w9 ⟨a9, c9, rfl, hO9, hb9⟩
      have hQ := rowL hQ hb9
      have hH8 := bstep hHeld hb9
      refine hK.out _ _ (bstep hHeld hb9) (fun hHeld => ?_)
      clear hK K
      try simp only [Act.put, List.setIfInBounds_toArray, List.set_cons_zero, List.set_cons_succ]
      refine' wpAnyH_take (i := 4) (oi := ({ dst := some 36, op := Op.move (Operand.tmp 40), type := 47, pos := "exact.go:1961", after := #[{ on := 3, ground := Ground.data }], guard := none } : Oper)) (v := _) rfl (by kernel_rfl) (by kernel_rfl) (by kernel_rfl) (fun _ _ _ h => h) (Or.inl ⟨by rfl, fun x hSw => ?hyzn11⟩) hHeld ?restzn11
      case hyzn11 =>
        obtain ⟨k0, k1, k2, k3, k4, k5⟩ := B6.of (rowL h77 hSw); have hYS := rowL hY7 hSw; have y0 : x.cell? ⟨w.heap.size + 1, 0, none⟩ = some (.int .i64 kd) := (cell_of_row _ _ 0 _ _ _ hYS).trans rfl; have y1 : x.cell? ⟨w.heap.size + 1, 1, none⟩ = some (.string nm) := (cell_of_row _ _ 1 _ _ _ hYS).trans rfl; have y2 : x.cell? ⟨w.heap.size + 1, 2, none⟩ = some (.string dt) := (cell_of_row _ _ 2 _ _ _ hYS).trans rfl; have y3 : x.cell? ⟨w.heap.size + 1, 3, none⟩ = some (.int .i64 sz) := (cell_of_row _ _ 3 _ _ _ hYS).trans rfl
        go_simp
        try with_reducible rfl
      try simp only [Act.put, List.setIfInBounds_toArray, List.set_cons_zero, List.set_cons_succ]
      refine' wpAnyH_take (i := 5) (oi := ({ dst := some 41, op := Op.extract (Operand.tmp 36) 0, type := 36, pos := "exact.go:1961", after := #[{ on := 4, ground := Ground.data }], guard := none } : Oper)) (v := _) rfl (by kernel_rfl) (by kernel_rfl) (by kernel_rfl) (fun _ _ _ h => h) (Or.inl ⟨by rfl, fun x hSw => ?hyzn12⟩) hHeld ?restzn12
      case hyzn12 =>
        obtain ⟨k0, k1, k2, k3, k4, k5⟩ := B6.of (rowL h77 hSw); have hYS := rowL hY7 hSw; have y0 : x.cell? ⟨w.heap.size + 1, 0, none⟩ = some (.int .i64 kd) := (cell_of_row _ _ 0 _ _ _ hYS).trans rfl; have y1 : x.cell? ⟨w.heap.size + 1, 1, none⟩ = some (.string nm) := (cell_of_row _ _ 1 _ _ _ hYS).trans rfl; have y2 : x.cell? ⟨w.heap.size + 1, 2, none⟩ = some (.string dt) := (cell_of_row _ _ 2 _ _ _ hYS).trans rfl; have y3 : x.cell? ⟨w.heap.size + 1, 3, none⟩ = some (.int .i64 sz) := (cell_of_row _ _ 3 _ _ _ hYS).trans rfl
        go_simp
        try with_reducible rfl
      try simp only [Act.put, List.setIfInBounds_toArray, List.set_cons_zero, List.set_cons_succ]
      refine' wpAnyH_take (i := 6) (oi := ({ dst := some 42, op := Op.extract (Operand.tmp 36) 1, type := 3, pos := "exact.go:1961", after := #[{ on := 4, ground := Ground.data }, { on := 8, ground := Ground.gcOnly Departure.lateStores }], guard := none } : Oper)) (v := _) rfl (by kernel_rfl) (by kernel_rfl) (by kernel_rfl) (fun _ _ _ h => h) (Or.inl ⟨by rfl, fun x hSw => ?hyzn13⟩) hHeld ?restzn13
      case hyzn13 =>
        obtain ⟨k0, k1, k2, k3, k4, k5⟩ := B6.of (rowL h77 hSw); have hYS := rowL hY7 hSw; have y0 : x.cell? ⟨w.heap.size + 1, 0, none⟩ = some (.int .i64 kd) := (cell_of_row _ _ 0 _ _ _ hYS).trans rfl; have y1 : x.cell? ⟨w.heap.size + 1, 1, none⟩ = some (.string nm) := (cell_of_row _ _ 1 _ _ _ hYS).trans rfl; have y2 : x.cell? ⟨w.heap.size + 1, 2, none⟩ = some (.string dt) := (cell_of_row _ _ 2 _ _ _ hYS).trans rfl; have y3 : x.cell? ⟨w.heap.size + 1, 3, none⟩ = some (.int .i64 sz) := (cell_of_row _ _ 3 _ _ _ hYS).trans rfl
        go_simp
        try with_reducible rfl
      try simp only [Act.put, List.setIfInBounds_toArray, List.set_cons_zero, List.set_cons_succ]
      refine wpAnyH_ready (rs := [8]) (by kernel_rfl) (by simp) ?_
      refine AllReadyH.cons (o := ({ dst := none, op := Op.store 36 (Operand.tmp 9) (Operand.tmp 41), type := 0, pos := "exact.go:1961", after := #[{ on := 7, ground := Ground.data }, { on := 5, ground := Ground.data }, { on := 3, ground := Ground.chain }, { on := 0, ground := Ground.phase }, { on := 1, ground := Ground.phase }, { on := 2, ground := Ground.phase }, { on := 3, ground := Ground.phase }, { on := 4, ground := Ground.phase }, { on := 5, ground := Ground.phase }, { on := 6, ground := Ground.textOnly Departure.lateStores }, { on := 7, ground := Ground.phase }], guard := none } : Oper)) rfl (fun K hK => ?_) AllReadyH.nil
      have qc0 := (cell_of_row _ _ 0 _ _ _ hQ).trans rfl; have qf0 := frozen_of_row _ _ 0 _ _ hQ; have qc1 := (cell_of_row _ _ 1 _ _ _ hQ).trans rfl; have qf1 := frozen_of_row _ _ 1 _ _ hQ; have qc2 := (cell_of_row _ _ 2 _ _ _ hQ).trans rfl; have qf2 := frozen_of_row _ _ 2 _ _ hQ; have qc3 := (cell_of_row _ _ 3 _ _ _ hQ).trans rfl; have qf3 := frozen_of_row _ _ 3 _ _ hQ; have qc4 := (cell_of_row _ _ 4 _ _ _ hQ).trans rfl; have qf4 := frozen_of_row _ _ 4 _ _ hQ; have qc5 := (cell_of_row _ _ 5 _ _ _ hQ).trans rfl; have qf5 := frozen_of_row _ _ 5 _ _ hQ
      go_simp
      refine hK.out _ _ (set6_below _ _ _ _ _ _ hHeld (by first | exact Nat.le_refl _ | exact hQs)) (fun hHeld => ?_)
      clear hK K
      try simp only [Act.put, List.setIfInBounds_toArray, List.set_cons_zero, List.set_cons_succ]
      refine' wpAnyH_take (i := 9) (oi := ({ dst := some 10, op := Op.assign (Operand.tmp 42), type := 3, pos := "exact.go:1961", after := #[{ on := 6, ground := Ground.data }, { on := 8, ground := Ground.chain }, { on := 0, ground := Ground.phase }, { on := 1, ground := Ground.phase }, { on := 2, ground := Ground.phase }, { on := 3, ground := Ground.phase }, { on := 4, ground := Ground.phase }, { on := 5, ground := Ground.phase }, { on := 6, ground := Ground.phase }, { on := 7, ground := Ground.phase }, { on := 8, ground := Ground.phase }], guard := none } : Oper)) (v := _) rfl (by kernel_rfl) (by kernel_rfl) (by kernel_rfl) (fun _ _ _ h => h) (Or.inl ⟨by rfl, fun x hSw => ?hyzn14⟩) hHeld ?restzn14
      case hyzn14 =>
        obtain ⟨k0, k1, k2, k3, k4, k5⟩ := B6.of (rowL h77 hSw); have hYS := rowL hY7 hSw; have y0 : x.cell? ⟨w.heap.size + 1, 0, none⟩ = some (.int .i64 kd) := (cell_of_row _ _ 0 _ _ _ hYS).trans rfl; have y1 : x.cell? ⟨w.heap.size + 1, 1, none⟩ = some (.string nm) := (cell_of_row _ _ 1 _ _ _ hYS).trans rfl; have y2 : x.cell? ⟨w.heap.size + 1, 2, none⟩ = some (.string dt) := (cell_of_row _ _ 2 _ _ _ hYS).trans rfl; have y3 : x.cell? ⟨w.heap.size + 1, 3, none⟩ = some (.int .i64 sz) := (cell_of_row _ _ 3 _ _ _ hYS).trans rfl
        go_simp
        try with_reducible rfl
      try simp only [Act.put, List.setIfInBounds_toArray, List.set_cons_zero, List.set_cons_succ]
      refine wpAnyH_done (by kernel_rfl) ?_ _
      exact ⟨_, a9, c9, _, _, _, _, _, _, _, _, _, rfl, set6_row _ _ _ _ _ _ hQ, (keep6 (OwnF.l (OwnF.wk hO9 hH4.size)) hQ).f, by first | exact Nat.le_refl _ | exact hQs, hHeld⟩
  intro e a' Wa hq
  cases e
  all_goals first | exact hq.elim | skip
  obtain ⟨Q9, a9, c9, u34, u35, u36, u37, u38, u39, u40, u41, u42, rfl, h9a, hOa, hQ9, hba⟩ := hq
  simp only [Exit.then]
  go_at_K
  have h6a := rowL h67 hba
  have h7a := rowL h77 hba
  have hO6a := hO7.later hba
  have hRa := hR7.later hba
  have hXa := rowL hX7 hba
  have hYa := rowL hY7 hba
  have hca := bstep hc7 hba
  have hsa := hba.size
  have hQ9l : Q9 < Wa.heap.size := (Array.getElem?_eq_some_iff.1 h9a).1
  have hge9 : ∀ q, (Value.slice a9 M.length c9).ownBlock = some q → W7.heap.size ≤ q ∧ q < Wa.heap.size := fun q e => hOa.lt q e
  have hq9 : ∀ q, (Value.slice a9 M.length c9).ownBlock = some q → q ≠ Q9 := fun q e => by
    rintro rfl
    rcases hOa.2 with ⟨e1, _⟩ | ⟨g1, cap1, cur1, e1, _, hg1, _⟩
    · rw [e1] at e; simp [Value.ownBlock] at e
    · rw [e1] at e
      have e2 : g1 = q := by simpa [Value.ownBlock] using e
      rw [e2, h9a] at hg1
      simp at hg1
  obtain ⟨k0, k1, k2, k3, k4, k5⟩ := B6.of h9a
  obtain ⟨j0, j1, j2, j3, j4, j5⟩ := B6.of h6a
  go_upto_region 13 with (go_at_call 20; refine (eqFs_any a9 av M.length c9 cv (nthF M) z1 z2 z3 z4 z5 _ hOa.fl hO6a.fl hrn).mono ?_; rintro e wb ⟨rfl, hbb⟩)
  clear k0 k1 k2 k3 k4 k5 j0 j1 j2 j3 j4 j5
  have h9b := rowL h9a hbb
  have h6b := rowL h6a hbb
  have h7b := rowL h7a hbb
  have hXb := rowL hXa hbb
  have hYb := rowL hYa hbb
  have hOb := hOa.later hbb
  have hO6b := hO6a.later hbb
  have hRb := hRa.later hbb
  have hcb := bstep hca hbb
  have hsb := hbb.size
  have hB7 := B6.of h7b
  have hBX := B6.of hXb
  refine wp_region_held_drew (S := fun x => Below wb.heap.size wb x) (by kernel_rfl) (bdrew1 _) (fun hHeld => ?_)
  refine' wpAnyH_take (i := 0) (oi := ({ dst := some 52, op := Op.load 36 (Operand.tmp 8), type := 36, pos := "exact.go:1965", after := #[], guard := none } : Oper)) (v := _) rfl (by kernel_rfl) (by kernel_rfl) (by kernel_rfl) (fun _ _ _ h => h) (Or.inl ⟨by rfl, fun x hSw => ?hyz1_0⟩) hHeld ?restz1_0
  case hyz1_0 =>
    obtain ⟨p0, p1, p2, p3, p4, p5⟩ := hB7.later hSw; obtain ⟨q0, q1, q2, q3, q4, q5⟩ := hBX.later hSw
    go_simp
    try with_reducible rfl
  try simp only [Act.put, List.setIfInBounds_toArray, List.set_cons_zero, List.set_cons_succ]
  refine' wpAnyH_take (i := 1) (oi := ({ dst := some 53, op := Op.load 31 (Operand.tmp 2), type := 31, pos := "exact.go:1965", after := #[], guard := none } : Oper)) (v := _) rfl (by kernel_rfl) (by kernel_rfl) (by kernel_rfl) (fun _ _ _ h => h) (Or.inl ⟨by rfl, fun x hSw => ?hyz1_1⟩) hHeld ?restz1_1
  case hyz1_1 =>
    obtain ⟨p0, p1, p2, p3, p4, p5⟩ := hB7.later hSw; obtain ⟨q0, q1, q2, q3, q4, q5⟩ := hBX.later hSw
    go_simp
    try with_reducible rfl
  try simp only [Act.put, List.setIfInBounds_toArray, List.set_cons_zero, List.set_cons_succ]
  refine wpAnyH_ready (rs := [2]) (by kernel_rfl) (by simp) ?_
  refine AllReadyH.cons (o := ({ dst := some 54, op := Op.call { callee := Callee.value (Operand.func 18), args := #[Operand.tmp 53], argTypes := #[31] }, type := 36, pos := "exact.go:1965", after := #[{ on := 1, ground := Ground.data }], guard := none } : Oper)) rfl (fun K hK => ?_) AllReadyH.nil
  go_simp
  refine (toFs_any a L.length c (nthF L) x1 x2 x3 x4 x5 _ (hf.later (bstep hcb hHeld)) hn).mono ?_
  rintro e wc ⟨gc, hgc, rfl, hRc, hbc⟩
  refine hK.out _ _ (bstep hHeld hbc) (fun hHeld => ?_)
  clear hK K
  try simp only [Act.put, List.setIfInBounds_toArray, List.set_cons_zero, List.set_cons_succ]
  refine wpAnyH_ready (rs := [3]) (by kernel_rfl) (by simp) ?_
  refine AllReadyH.cons (o := ({ dst := some 55, op := Op.call { callee := Callee.value (Operand.func 20), args := #[Operand.tmp 52, Operand.tmp 54], argTypes := #[36, 36] }, type := 4, pos := "exact.go:1965", after := #[{ on := 0, ground := Ground.data }, { on := 2, ground := Ground.data }, { on := 2, ground := Ground.chain }], guard := none } : Oper)) rfl (fun K hK => ?_) AllReadyH.nil
  go_simp
  refine (eqFs_any _ _ L.length L.length L.length (nthF L) x1 x2 x3 x4 x5 _ (hRb.later hHeld).fl hRc.fl hn).mono ?_
  rintro e wd ⟨rfl, hbd⟩
  refine hK.out _ _ (bstep hHeld hbd) (fun hHeld => ?_)
  clear hK K
  try simp only [Act.put, List.setIfInBounds_toArray, List.set_cons_zero, List.set_cons_succ]
  refine' wpAnyH_take (i := 4) (oi := ({ dst := some 56, op := Op.unOp UnOp.not 4 (Operand.tmp 55), type := 4, pos := "exact.go:1965", after := #[{ on := 3, ground := Ground.data }], guard := none } : Oper)) (v := _) rfl (by kernel_rfl) (by kernel_rfl) (by kernel_rfl) (fun _ _ _ h => h) (Or.inl ⟨by rfl, fun x hSw => ?hyz1_4⟩) hHeld ?restz1_4
  case hyz1_4 =>
    obtain ⟨p0, p1, p2, p3, p4, p5⟩ := hB7.later hSw; obtain ⟨q0, q1, q2, q3, q4, q5⟩ := hBX.later hSw
    go_simp
    try with_reducible rfl
  try simp only [Act.put, List.setIfInBounds_toArray, List.set_cons_zero, List.set_cons_succ]
  refine wpAnyH_done (by kernel_rfl) ?_ _
  have h9f := rowL h9b hHeld
  have h6f := rowL h6b hHeld
  have h7f := rowL h7b hHeld
  have hXf := rowL hXb hHeld
  have hYf := rowL hYb hHeld
  have hOf := hOb.later hHeld
  have hO6f := hO6b.later hHeld
  have hRf := hRb.later hHeld
  have hcf := bstep hcb hHeld
  have hsf := hHeld.size
  obtain ⟨k0, k1, k2, k3, k4, k5⟩ := B6.of h7f
  have hOx : OwnF wd w.heap.size (.slice (some ⟨g7, 0, none⟩) L.length L.length) L.length (nthF L) := OwnF.of hRf (by omega) hn
  go_upto_region 17 with (go_at_call 25; refine (markFs_any _ L.length L.length 1 _ (nthF L) x1 x2 x3 x4 x5 _ hOx hn (by omega) (by omega)).mono ?_; rintro e wg ⟨rfl, hOg, hgg⟩)
  clear k0 k1 k2 k3 k4 k5
  have h9g := rowG h9f hgg (by simp [Value.ownBlock]; omega)
  have h6g := rowG h6f hgg (by simp [Value.ownBlock]; omega)
  have hXg := rowG hXf hgg (by simp [Value.ownBlock]; omega)
  have hYg := rowG hYf hgg (by simp [Value.ownBlock]; omega)
  have hOh9 : OwnF wg W7.heap.size (.slice a9 M.length c9) M.length (nthF M) := World.ownsRow.kept hOf hgg (.inr (fun e => by have := (hge9 g7 e).1; omega))
  have hOh6 : OwnF wg _ (.slice av M.length cv) M.length (nthF M) := World.ownsRow.kept hO6f hgg (.inr (fun e => by have := hlt4 g7 e; omega))
  have hcg := hcf.grown hgg (by have := hcf.size; omega) (fun k e => by have h1 : g7 = k := (by simpa [Value.ownBlock] using e); omega)
  have hsg := hgg.size
  obtain ⟨k0, k1, k2, k3, k4, k5⟩ := B6.of h9g
  obtain ⟨j0, j1, j2, j3, j4, j5⟩ := B6.of h6g
  go_upto_region 20 with (go_at_call 20; refine (eqFs_any a9 av M.length c9 cv (nthF M) z1 z2 z3 z4 z5 _ hOh9.fl hOh6.fl hrn).mono ?_; rintro e wi ⟨rfl, hbi⟩)
  clear k0 k1 k2 k3 k4 k5 j0 j1 j2 j3 j4 j5
  have h9i := rowL h9g hbi
  have h6i := rowL h6g hbi
  have hXi := rowL hXg hbi
  have hYi := rowL hYg hbi
  have hOi9 := hOh9.later hbi
  have hOi6 := hOh6.later hbi
  have hci := bstep hcg hbi
  have hsi := hbi.size
  obtain ⟨k0, k1, k2, k3, k4, k5⟩ := B6.of h9i
  go_upto_region 22 with (go_at_call 25; refine (markFs_any _ M.length c9 1 _ (nthF M) z1 z2 z3 z4 z5 _ hOi9 hrn (by omega) (by omega)).mono ?_; rintro e wj ⟨rfl, hOj, hgj⟩)
  clear k0 k1 k2 k3 k4 k5
  have h9j := rowG h9i hgj (fun e => hq9 _ e.symm rfl)
  have h6j := rowG h6i hgj (fun e => by have := hge9 _ e.symm; omega)
  have hXj := rowG hXi hgj (fun e => by have := hge9 _ e.symm; omega)
  have hYj := rowG hYi hgj (fun e => by have := hge9 _ e.symm; omega)
  have hOj6 : OwnF wj _ (.slice av M.length cv) M.length (nthF M) := World.ownsRow.kept hOi6 hgj (by
    rcases hq : (Value.slice a9 M.length c9).ownBlock with _ | q
    · rcases hq6 : (Value.slice av M.length cv).ownBlock with _ | q
      · exact .inl rfl
      · exact .inr (by simp)
    · exact .inr (fun e => by have := hlt4 q e; have := hge9 q hq; omega))
  have hcj := hci.grown hgj (by have := hci.size; omega) (fun k e => by have := hge9 k e; omega)
  have hsj := hgj.size
  obtain ⟨k0, k1, k2, k3, k4, k5⟩ := B6.of h9j
  go_upto_region 27 with (go_at_call 26; refine (heldFs_any M.length c9 1 _ z1 z2 z3 z4 z5 _ hOj.fl hrn (by omega) (by omega)).mono ?_; rintro e wk ⟨rfl, hbk⟩)
  clear k0 k1 k2 k3 k4 k5
  have h6k := rowL h6j hbk
  have hXk := rowL hXj hbk
  have hYk := rowL hYj hbk
  have hOk6 := hOj6.later hbk
  have hck := bstep hcj hbk
  refine Code.wp_mono (Q := Exit.then (fun a' w' => ∃ (Qe : Nat) (ae : Option Addr) (ce : Nat) (v84 v85 v86 v87 v88 v89 v90 v91 : Value), a' = { tmps := List.toArray ((Value.agg #[Value.slice a L.length c, Value.int .i64 x1, Value.int .i64 x2, Value.int .i64 x3, Value.int .i64 x4, Value.bool x5]) :: (Value.agg #[Value.int .i64 kd, Value.string nm, Value.string dt, Value.int .i64 sz]) :: (Value.pointer (some ⟨w.heap.size, 0, none⟩)) :: (Value.pointer (some ⟨w.heap.size + 1, 0, none⟩)) :: (Value.bool false) :: (u5) :: (Value.pointer (some ⟨Q, 0, none⟩)) :: (Value.int .i64 zc) :: (Value.pointer (some ⟨w6.heap.size, 0, none⟩)) :: (Value.pointer (some ⟨Q9, 0, none⟩)) :: (Value.int .i64 zc) :: (Value.int .i64 (1 + 3 * (L.length : Int))) :: (Value.int .i64 (1 + 3 * (M.length : Int))) :: (Value.int .i64 (1 + 3 * (M.length : Int))) :: (.pointer (some ⟨Qe, 0, none⟩)) :: (.int .i64 zc) :: (u16) :: (u17) :: (u18) :: (u19) :: (u20) :: (u21) :: (u22) :: (u23) :: (u24) :: (u25) :: (u26) :: (u27) :: (u28) :: (u29) :: (u30) :: (u31) :: (u32) :: (u33) :: (u34) :: (u35) :: (u36) :: (u37) :: (u38) :: (u39) :: (u40) :: (u41) :: (u42) :: (Value.agg #[Value.slice a9 M.length c9, Value.int .i64 z1, Value.int .i64 z2, Value.int .i64 z3, Value.int .i64 z4, Value.bool z5]) :: (Value.agg #[Value.slice av M.length cv, Value.int .i64 z1, Value.int .i64 z2, Value.int .i64 z3, Value.int .i64 z4, Value.bool z5]) :: (Value.bool true) :: (Value.bool false) :: (Value.bool false) :: (Value.int .i64 zc) :: (Value.int .i64 zc) :: (Value.bool false) :: (Value.bool false) :: (Value.agg #[Value.slice (some ⟨g7, 0, none⟩) L.length L.length, Value.int .i64 x1, Value.int .i64 x2, Value.int .i64 x3, Value.int .i64 x4, Value.bool x5]) :: (Value.agg #[Value.slice a L.length c, Value.int .i64 x1, Value.int .i64 x2, Value.int .i64 x3, Value.int .i64 x4, Value.bool x5]) :: (Value.agg #[Value.slice (some ⟨gc, 0, none⟩) L.length L.length, Value.int .i64 x1, Value.int .i64 x2, Value.int .i64 x3, Value.int .i64 x4, Value.bool x5]) :: (Value.bool true) :: (Value.bool false) :: (Value.agg #[Value.slice (some ⟨g7, 0, none⟩) L.length L.length, Value.int .i64 x1, Value.int .i64 x2, Value.int .i64 x3, Value.int .i64 x4, Value.bool x5]) :: (Value.int .i64 1) :: (Value.int .i64 (1 + 3 * (L.length : Int))) :: (Value.int .i64 (1 + 3 * (L.length : Int))) :: (Value.bool (decide (1 + 3 * (L.length : Int) < 0))) :: (Value.bool (decide (1 + 3 * (L.length : Int) < 0))) :: (Value.agg #[Value.slice a9 M.length c9, Value.int .i64 z1, Value.int .i64 z2, Value.int .i64 z3, Value.int .i64 z4, Value.bool z5]) :: (Value.agg #[Value.slice av M.length cv, Value.int .i64 z1, Value.int .i64 z2, Value.int .i64 z3, Value.int .i64 z4, Value.bool z5]) :: (Value.bool true) :: (Value.bool false) :: (Value.bool (decide (1 + 3 * (L.length : Int) < 0))) :: (Value.bool (decide (1 + 3 * (L.length : Int) < 0))) :: (Value.int .i64 zc) :: (Value.int .i64 zc) :: (Value.bool false) :: (Value.bool (decide (1 + 3 * (L.length : Int) < 0))) :: (Value.agg #[Value.slice a9 M.length c9, Value.int .i64 z1, Value.int .i64 z2, Value.int .i64 z3, Value.int .i64 z4, Value.bool z5]) :: (Value.int .i64 1) :: (Value.int .i64 (1 + 3 * (M.length : Int))) :: (Value.agg #[Value.slice a9 M.length c9, Value.int .i64 z1, Value.int .i64 z2, Value.int .i64 z3, Value.int .i64 z4, Value.bool z5]) :: (Value.int .i64 1) :: (Value.int .i64 (1 + 3 * (M.length : Int))) :: (Value.int .i64 (1 + 3 * (M.length : Int))) :: (Value.bool (decide (1 + 3 * (M.length : Int) < 0))) :: (Value.int .i64 (1 + 3 * (M.length : Int))) :: (Value.int .i64 (1 + 3 * (M.length : Int))) :: (Value.bool false) :: (v84) :: (v85) :: (v86) :: (v87) :: (v88) :: (v89) :: (v90) :: (v91) :: (undef) :: (undef) :: (undef) :: (undef) :: (undef) :: (undef) :: (undef) :: (undef) :: (undef) :: []), defers := [] } ∧ w'.heap[Qe]? = some (.cells #[.slice ae M.length ce, .int .i64 z1, .int .i64 z2, .int .i64 z3, .int .i64 z4, .bool z5] 36 (0, 0)) ∧ OwnF w' wk.heap.size (.slice ae M.length ce) M.length (nthF M) ∧ wk.heap.size ≤ Qe ∧ Below wk.heap.size wk w') (fun _ _ _ => False)) ?_ ?_
  rotate_left
  · refine wp_region_held_drew (S := fun x => Below wk.heap.size wk x) (by kernel_rfl) (bdrew1 _) (fun hHeld => ?_)
    refine' wpAnyH_take (i := 0) (oi := ({ dst := some 85, op := Op.load 31 (Operand.tmp 2), type := 31, pos := "exact.go:1983", after := #[], guard := none } : Oper)) (v := _) rfl (by kernel_rfl) (by kernel_rfl) (by kernel_rfl) (fun _ _ _ h => h) (Or.inl ⟨by rfl, fun x hSw => ?hyzo1⟩) hHeld ?restzo1
    case hyzo1 =>
      obtain ⟨k0, k1, k2, k3, k4, k5⟩ := B6.of (rowL hXk hSw); have hYS := rowL hYk hSw; have y0 : x.cell? ⟨w.heap.size + 1, 0, none⟩ = some (.int .i64 kd) := (cell_of_row _ _ 0 _ _ _ hYS).trans rfl; have y1 : x.cell? ⟨w.heap.size + 1, 1, none⟩ = some (.string nm) := (cell_of_row _ _ 1 _ _ _ hYS).trans rfl; have y2 : x.cell? ⟨w.heap.size + 1, 2, none⟩ = some (.string dt) := (cell_of_row _ _ 2 _ _ _ hYS).trans rfl; have y3 : x.cell? ⟨w.heap.size + 1, 3, none⟩ = some (.int .i64 sz) := (cell_of_row _ _ 3 _ _ _ hYS).trans rfl
      go_simp
      try with_reducible rfl
    try simp only [Act.put, List.setIfInBounds_toArray, List.set_cons_zero, List.set_cons_succ]
    refine' wpAnyH_take (i := 2) (oi := ({ dst := some 87, op := Op.load 45 (Operand.tmp 3), type := 45, pos := "exact.go:1983", after := #[], guard := none } : Oper)) (v := _) rfl (by kernel_rfl) (by kernel_rfl) (by kernel_rfl) (fun _ _ _ h => h) (Or.inl ⟨by rfl, fun x hSw => ?hyzo2⟩) hHeld ?restzo2
    case hyzo2 =>
      obtain ⟨k0, k1, k2, k3, k4, k5⟩ := B6.of (rowL hXk hSw); have hYS := rowL hYk hSw; have y0 : x.cell? ⟨w.heap.size + 1, 0, none⟩ = some (.int .i64 kd) := (cell_of_row _ _ 0 _ _ _ hYS).trans rfl; have y1 : x.cell? ⟨w.heap.size + 1, 1, none⟩ = some (.string nm) := (cell_of_row _ _ 1 _ _ _ hYS).trans rfl; have y2 : x.cell? ⟨w.heap.size + 1, 2, none⟩ = some (.string dt) := (cell_of_row _ _ 2 _ _ _ hYS).trans rfl; have y3 : x.cell? ⟨w.heap.size + 1, 3, none⟩ = some (.int .i64 sz) := (cell_of_row _ _ 3 _ _ _ hYS).trans rfl
      go_simp
      try with_reducible rfl
    try simp only [Act.put, List.setIfInBounds_toArray, List.set_cons_zero, List.set_cons_succ]
    refine wpAnyH_ready (rs := [1, 8]) (by kernel_rfl) (by simp) ?_
    refine (AllReadyH.cons (o := ({ dst := some 86, op := Op.call { callee := Callee.value (Operand.func 18), args := #[Operand.tmp 85], argTypes := #[31] }, type := 36, pos := "exact.go:1983", after := #[{ on := 0, ground := Ground.data }], guard := none } : Oper)) rfl (fun K hK => ?_) (AllReadyH.cons (o := ({ dst := some 14, op := Op.alloc 36, type := 0, pos := "exact.go:1983", after := #[], guard := none } : Oper)) rfl (fun K hK => ?_) AllReadyH.nil))
    · go_simp
      refine (toFs_any a L.length c (nthF L) x1 x2 x3 x4 x5 _ (hf.later (bstep hck hHeld)) hn).mono ?_
      rintro e wl ⟨gl, hgl, rfl, hRl, hbl⟩
      refine hK.out _ _ (bstep hHeld hbl) (fun hHeld => ?_)
      clear hK K
      try simp only [Act.put, List.setIfInBounds_toArray, List.set_cons_zero, List.set_cons_succ]
      refine wpAnyH_ready (rs := [3, 8]) (by kernel_rfl) (by simp) ?_
      refine (AllReadyH.cons (o := ({ dst := some 88, op := Op.call { callee := Callee.value (Operand.func 29), args := #[Operand.tmp 87], argTypes := #[45] }, type := 49, pos := "exact.go:1983", after := #[{ on := 2, ground := Ground.data }, { on := 1, ground := Ground.chain }], guard := none } : Oper)) rfl (fun K hK => ?_) (AllReadyH.cons (o := ({ dst := some 14, op := Op.alloc 36, type := 0, pos := "exact.go:1983", after := #[], guard := none } : Oper)) rfl (fun K hK => ?_) AllReadyH.nil))
      · go_simp
        refine (toOp kd nm dt sz _).mono ?_
        rintro e wm ⟨rfl, hbm⟩
        have hRl := hRl.later hbm
        refine hK.out _ _ (bstep hHeld hbm) (fun hHeld => ?_)
        clear hK K
        try simp only [Act.put, List.setIfInBounds_toArray, List.set_cons_zero, List.set_cons_succ]
        refine wpAnyH_ready (rs := [4, 8]) (by kernel_rfl) (by simp) ?_
        refine (AllReadyH.cons (o := ({ dst := some 89, op := Op.call { callee := Callee.value (Operand.func 30), args := #[Operand.tmp 86, Operand.tmp 88], argTypes := #[36, 49] }, type := 47, pos := "exact.go:1983", after := #[{ on := 1, ground := Ground.data }, { on := 3, ground := Ground.data }, { on := 3, ground := Ground.chain }], guard := none } : Oper)) rfl (fun K hK => ?_) (AllReadyH.cons (o := ({ dst := some 14, op := Op.alloc 36, type := 0, pos := "exact.go:1983", after := #[], guard := none } : Oper)) rfl (fun K hK => ?_) AllReadyH.nil))
        · go_simp
          have hH4 := hHeld
          refine (HIM.out _ gl hRl.fl).mono ?_
          rintro e wn ⟨ae, ce, rfl, hOn, hbn⟩
          have hH8 := bstep hHeld hbn
          refine hK.out _ _ (bstep hHeld hbn) (fun hHeld => ?_)
          clear hK K
          try simp only [Act.put, List.setIfInBounds_toArray, List.set_cons_zero, List.set_cons_succ]
          refine' wpAnyH_take (i := 5) (oi := ({ dst := some 84, op := Op.move (Operand.tmp 89), type := 47, pos := "exact.go:1983", after := #[{ on := 4, ground := Ground.data }], guard := none } : Oper)) (v := _) rfl (by kernel_rfl) (by kernel_rfl) (by kernel_rfl) (fun _ _ _ h => h) (Or.inl ⟨by rfl, fun x hSw => ?hyzo3⟩) hHeld ?restzo3
          case hyzo3 =>
            obtain ⟨k0, k1, k2, k3, k4, k5⟩ := B6.of (rowL hXk hSw); have hYS := rowL hYk hSw; have y0 : x.cell? ⟨w.heap.size + 1, 0, none⟩ = some (.int .i64 kd) := (cell_of_row _ _ 0 _ _ _ hYS).trans rfl; have y1 : x.cell? ⟨w.heap.size + 1, 1, none⟩ = some (.string nm) := (cell_of_row _ _ 1 _ _ _ hYS).trans rfl; have y2 : x.cell? ⟨w.heap.size + 1, 2, none⟩ = some (.string dt) := (cell_of_row _ _ 2 _ _ _ hYS).trans rfl; have y3 : x.cell? ⟨w.heap.size + 1, 3, none⟩ = some (.int .i64 sz) := (cell_of_row _ _ 3 _ _ _ hYS).trans rfl
            go_simp
            try with_reducible rfl
          try simp only [Act.put, List.setIfInBounds_toArray, List.set_cons_zero, List.set_cons_succ]
          refine' wpAnyH_take (i := 6) (oi := ({ dst := some 90, op := Op.extract (Operand.tmp 84) 0, type := 36, pos := "exact.go:1983", after := #[{ on := 5, ground := Ground.data }], guard := none } : Oper)) (v := _) rfl (by kernel_rfl) (by kernel_rfl) (by kernel_rfl) (fun _ _ _ h => h) (Or.inl ⟨by rfl, fun x hSw => ?hyzo4⟩) hHeld ?restzo4
          case hyzo4 =>
            obtain ⟨k0, k1, k2, k3, k4, k5⟩ := B6.of (rowL hXk hSw); have hYS := rowL hYk hSw; have y0 : x.cell? ⟨w.heap.size + 1, 0, none⟩ = some (.int .i64 kd) := (cell_of_row _ _ 0 _ _ _ hYS).trans rfl; have y1 : x.cell? ⟨w.heap.size + 1, 1, none⟩ = some (.string nm) := (cell_of_row _ _ 1 _ _ _ hYS).trans rfl; have y2 : x.cell? ⟨w.heap.size + 1, 2, none⟩ = some (.string dt) := (cell_of_row _ _ 2 _ _ _ hYS).trans rfl; have y3 : x.cell? ⟨w.heap.size + 1, 3, none⟩ = some (.int .i64 sz) := (cell_of_row _ _ 3 _ _ _ hYS).trans rfl
            go_simp
            try with_reducible rfl
          try simp only [Act.put, List.setIfInBounds_toArray, List.set_cons_zero, List.set_cons_succ]
          refine' wpAnyH_take (i := 7) (oi := ({ dst := some 91, op := Op.extract (Operand.tmp 84) 1, type := 3, pos := "exact.go:1983", after := #[{ on := 5, ground := Ground.data }, { on := 9, ground := Ground.gcOnly Departure.lateStores }], guard := none } : Oper)) (v := _) rfl (by kernel_rfl) (by kernel_rfl) (by kernel_rfl) (fun _ _ _ h => h) (Or.inl ⟨by rfl, fun x hSw => ?hyzo5⟩) hHeld ?restzo5
          case hyzo5 =>
            obtain ⟨k0, k1, k2, k3, k4, k5⟩ := B6.of (rowL hXk hSw); have hYS := rowL hYk hSw; have y0 : x.cell? ⟨w.heap.size + 1, 0, none⟩ = some (.int .i64 kd) := (cell_of_row _ _ 0 _ _ _ hYS).trans rfl; have y1 : x.cell? ⟨w.heap.size + 1, 1, none⟩ = some (.string nm) := (cell_of_row _ _ 1 _ _ _ hYS).trans rfl; have y2 : x.cell? ⟨w.heap.size + 1, 2, none⟩ = some (.string dt) := (cell_of_row _ _ 2 _ _ _ hYS).trans rfl; have y3 : x.cell? ⟨w.heap.size + 1, 3, none⟩ = some (.int .i64 sz) := (cell_of_row _ _ 3 _ _ _ hYS).trans rfl
            go_simp
            try with_reducible rfl
          try simp only [Act.put, List.setIfInBounds_toArray, List.set_cons_zero, List.set_cons_succ]
          refine wpAnyH_ready (rs := [8]) (by kernel_rfl) (by simp) ?_
          refine AllReadyH.cons (o := ({ dst := some 14, op := Op.alloc 36, type := 0, pos := "exact.go:1983", after := #[], guard := none } : Oper)) rfl (fun K hK => ?_) AllReadyH.nil
          have hQ : (World.alloc (wn) (.cells #[.slice none 0 0, .int .i64 0, .int .i64 0, .int .i64 0, .int .i64 0, .bool false] 36)).heap[wn.heap.size]? = _ := heap_alloc_new (wn) (.cells #[.slice none 0 0, .int .i64 0, .int .i64 0, .int .i64 0, .int .i64 0, .bool false] 36)
          have hQs := hHeld.size
          go_simp
          refine hK.out _ _ (bstep hHeld (bal _ _)) (fun hHeld => ?_)
          clear hK K
          try simp only [Act.put, List.setIfInBounds_toArray, List.set_cons_zero, List.set_cons_succ]
          refine wpAnyH_ready (rs := [9]) (by kernel_rfl) (by simp) ?_
          refine AllReadyH.cons (o := ({ dst := none, op := Op.store 36 (Operand.tmp 14) (Operand.tmp 90), type := 0, pos := "exact.go:1983", after := #[{ on := 8, ground := Ground.data }, { on := 6, ground := Ground.data }, { on := 4, ground := Ground.chain }, { on := 0, ground := Ground.phase }, { on := 1, ground := Ground.phase }, { on := 2, ground := Ground.phase }, { on := 3, ground := Ground.phase }, { on := 4, ground := Ground.phase }, { on := 5, ground := Ground.phase }, { on := 6, ground := Ground.phase }, { on := 7, ground := Ground.textOnly Departure.lateStores }, { on := 8, ground := Ground.phase }], guard := none } : Oper)) rfl (fun K hK => ?_) AllReadyH.nil
          go_simp
          refine hK.out _ _ (bstep hH8 (bal _ _)) (fun hHeld => ?_)
          clear hK K
          try simp only [Act.put, List.setIfInBounds_toArray, List.set_cons_zero, List.set_cons_succ]
          refine' wpAnyH_take (i := 10) (oi := ({ dst := some 15, op := Op.assign (Operand.tmp 91), type := 3, pos := "exact.go:1983", after := #[{ on := 7, ground := Ground.data }, { on := 9, ground := Ground.chain }, { on := 0, ground := Ground.phase }, { on := 1, ground := Ground.phase }, { on := 2, ground := Ground.phase }, { on := 3, ground := Ground.phase }, { on := 4, ground := Ground.phase }, { on := 5, ground := Ground.phase }, { on := 6, ground := Ground.phase }, { on := 7, ground := Ground.phase }, { on := 8, ground := Ground.phase }, { on := 9, ground := Ground.phase }], guard := none } : Oper)) (v := _) rfl (by kernel_rfl) (by kernel_rfl) (by kernel_rfl) (fun _ _ _ h => h) (Or.inl ⟨by rfl, fun x hSw => ?hyzo6⟩) hHeld ?restzo6
          case hyzo6 =>
            obtain ⟨k0, k1, k2, k3, k4, k5⟩ := B6.of (rowL hXk hSw); have hYS := rowL hYk hSw; have y0 : x.cell? ⟨w.heap.size + 1, 0, none⟩ = some (.int .i64 kd) := (cell_of_row _ _ 0 _ _ _ hYS).trans rfl; have y1 : x.cell? ⟨w.heap.size + 1, 1, none⟩ = some (.string nm) := (cell_of_row _ _ 1 _ _ _ hYS).trans rfl; have y2 : x.cell? ⟨w.heap.size + 1, 2, none⟩ = some (.string dt) := (cell_of_row _ _ 2 _ _ _ hYS).trans rfl; have y3 : x.cell? ⟨w.heap.size + 1, 3, none⟩ = some (.int .i64 sz) := (cell_of_row _ _ 3 _ _ _ hYS).trans rfl
            go_simp
            try with_reducible rfl
          try simp only [Act.put, List.setIfInBounds_toArray, List.set_cons_zero, List.set_cons_succ]
          refine wpAnyH_done (by kernel_rfl) ?_ _
          exact ⟨_, ae, ce, _, _, _, _, _, _, _, _, rfl, heap_alloc_new wn _, (OwnF.wk hOn hH4.size).later (bal _ _), hQs, hHeld⟩
        · have hQ : (World.alloc (wm) (.cells #[.slice none 0 0, .int .i64 0, .int .i64 0, .int .i64 0, .int .i64 0, .bool false] 36)).heap[wm.heap.size]? = _ := heap_alloc_new (wm) (.cells #[.slice none 0 0, .int .i64 0, .int .i64 0, .int .i64 0, .int .i64 0, .bool false] 36)
          have hQs := hHeld.size
          have hRl := hRl.later (bal (wm) (.cells #[.slice none 0 0, .int .i64 0, .int .i64 0, .int .i64 0, .int .i64 0, .bool false] 36))
          go_simp
          refine hK.out _ _ (bstep hHeld (bal _ _)) (fun hHeld => ?_)
          clear hK K
          try simp only [Act.put, List.setIfInBounds_toArray, List.set_cons_zero, List.set_cons_succ]
          refine wpAnyH_ready (rs := [4]) (by kernel_rfl) (by simp) ?_
          refine AllReadyH.cons (o := ({ dst := some 89, op := Op.call { callee := Callee.value (Operand.func 30), args := #[Operand.tmp 86, Operand.tmp 88], argTypes := #[36, 49] }, type := 47, pos := "exact.go:1983", after := #[{ on := 1, ground := Ground.data }, { on := 3, ground := Ground.data }, { on := 3, ground := Ground.chain }], guard := none } : Oper)) rfl (fun K hK => ?_) AllReadyH.nil
          go_simp
          have hH4 := hHeld
          refine (HIM.out _ gl hRl.fl).mono ?_
          rintro e wn ⟨ae, ce, rfl, hOn, hbn⟩
          have hQ := rowL hQ hbn
          have hH8 := bstep hHeld hbn
          refine hK.out _ _ (bstep hHeld hbn) (fun hHeld => ?_)
          clear hK K
          try simp only [Act.put, List.setIfInBounds_toArray, List.set_cons_zero, List.set_cons_succ]
          refine' wpAnyH_take (i := 5) (oi := ({ dst := some 84, op := Op.move (Operand.tmp 89), type := 47, pos := "exact.go:1983", after := #[{ on := 4, ground := Ground.data }], guard := none } : Oper)) (v := _) rfl (by kernel_rfl) (by kernel_rfl) (by kernel_rfl) (fun _ _ _ h => h) (Or.inl ⟨by rfl, fun x hSw => ?hyzo7⟩) hHeld ?restzo7
          case hyzo7 =>
            obtain ⟨k0, k1, k2, k3, k4, k5⟩ := B6.of (rowL hXk hSw); have hYS := rowL hYk hSw; have y0 : x.cell? ⟨w.heap.size + 1, 0, none⟩ = some (.int .i64 kd) := (cell_of_row _ _ 0 _ _ _ hYS).trans rfl; have y1 : x.cell? ⟨w.heap.size + 1, 1, none⟩ = some (.string nm) := (cell_of_row _ _ 1 _ _ _ hYS).trans rfl; have y2 : x.cell? ⟨w.heap.size + 1, 2, none⟩ = some (.string dt) := (cell_of_row _ _ 2 _ _ _ hYS).trans rfl; have y3 : x.cell? ⟨w.heap.size + 1, 3, none⟩ = some (.int .i64 sz) := (cell_of_row _ _ 3 _ _ _ hYS).trans rfl
            go_simp
            try with_reducible rfl
          try simp only [Act.put, List.setIfInBounds_toArray, List.set_cons_zero, List.set_cons_succ]
          refine' wpAnyH_take (i := 6) (oi := ({ dst := some 90, op := Op.extract (Operand.tmp 84) 0, type := 36, pos := "exact.go:1983", after := #[{ on := 5, ground := Ground.data }], guard := none } : Oper)) (v := _) rfl (by kernel_rfl) (by kernel_rfl) (by kernel_rfl) (fun _ _ _ h => h) (Or.inl ⟨by rfl, fun x hSw => ?hyzo8⟩) hHeld ?restzo8
          case hyzo8 =>
            obtain ⟨k0, k1, k2, k3, k4, k5⟩ := B6.of (rowL hXk hSw); have hYS := rowL hYk hSw; have y0 : x.cell? ⟨w.heap.size + 1, 0, none⟩ = some (.int .i64 kd) := (cell_of_row _ _ 0 _ _ _ hYS).trans rfl; have y1 : x.cell? ⟨w.heap.size + 1, 1, none⟩ = some (.string nm) := (cell_of_row _ _ 1 _ _ _ hYS).trans rfl; have y2 : x.cell? ⟨w.heap.size + 1, 2, none⟩ = some (.string dt) := (cell_of_row _ _ 2 _ _ _ hYS).trans rfl; have y3 : x.cell? ⟨w.heap.size + 1, 3, none⟩ = some (.int .i64 sz) := (cell_of_row _ _ 3 _ _ _ hYS).trans rfl
            go_simp
            try with_reducible rfl
          try simp only [Act.put, List.setIfInBounds_toArray, List.set_cons_zero, List.set_cons_succ]
          refine' wpAnyH_take (i := 7) (oi := ({ dst := some 91, op := Op.extract (Operand.tmp 84) 1, type := 3, pos := "exact.go:1983", after := #[{ on := 5, ground := Ground.data }, { on := 9, ground := Ground.gcOnly Departure.lateStores }], guard := none } : Oper)) (v := _) rfl (by kernel_rfl) (by kernel_rfl) (by kernel_rfl) (fun _ _ _ h => h) (Or.inl ⟨by rfl, fun x hSw => ?hyzo9⟩) hHeld ?restzo9
          case hyzo9 =>
            obtain ⟨k0, k1, k2, k3, k4, k5⟩ := B6.of (rowL hXk hSw); have hYS := rowL hYk hSw; have y0 : x.cell? ⟨w.heap.size + 1, 0, none⟩ = some (.int .i64 kd) := (cell_of_row _ _ 0 _ _ _ hYS).trans rfl; have y1 : x.cell? ⟨w.heap.size + 1, 1, none⟩ = some (.string nm) := (cell_of_row _ _ 1 _ _ _ hYS).trans rfl; have y2 : x.cell? ⟨w.heap.size + 1, 2, none⟩ = some (.string dt) := (cell_of_row _ _ 2 _ _ _ hYS).trans rfl; have y3 : x.cell? ⟨w.heap.size + 1, 3, none⟩ = some (.int .i64 sz) := (cell_of_row _ _ 3 _ _ _ hYS).trans rfl
            go_simp
            try with_reducible rfl
          try simp only [Act.put, List.setIfInBounds_toArray, List.set_cons_zero, List.set_cons_succ]
          refine wpAnyH_ready (rs := [9]) (by kernel_rfl) (by simp) ?_
          refine AllReadyH.cons (o := ({ dst := none, op := Op.store 36 (Operand.tmp 14) (Operand.tmp 90), type := 0, pos := "exact.go:1983", after := #[{ on := 8, ground := Ground.data }, { on := 6, ground := Ground.data }, { on := 4, ground := Ground.chain }, { on := 0, ground := Ground.phase }, { on := 1, ground := Ground.phase }, { on := 2, ground := Ground.phase }, { on := 3, ground := Ground.phase }, { on := 4, ground := Ground.phase }, { on := 5, ground := Ground.phase }, { on := 6, ground := Ground.phase }, { on := 7, ground := Ground.textOnly Departure.lateStores }, { on := 8, ground := Ground.phase }], guard := none } : Oper)) rfl (fun K hK => ?_) AllReadyH.nil
          have qc0 := (cell_of_row _ _ 0 _ _ _ hQ).trans rfl; have qf0 := frozen_of_row _ _ 0 _ _ hQ; have qc1 := (cell_of_row _ _ 1 _ _ _ hQ).trans rfl; have qf1 := frozen_of_row _ _ 1 _ _ hQ; have qc2 := (cell_of_row _ _ 2 _ _ _ hQ).trans rfl; have qf2 := frozen_of_row _ _ 2 _ _ hQ; have qc3 := (cell_of_row _ _ 3 _ _ _ hQ).trans rfl; have qf3 := frozen_of_row _ _ 3 _ _ hQ; have qc4 := (cell_of_row _ _ 4 _ _ _ hQ).trans rfl; have qf4 := frozen_of_row _ _ 4 _ _ hQ; have qc5 := (cell_of_row _ _ 5 _ _ _ hQ).trans rfl; have qf5 := frozen_of_row _ _ 5 _ _ hQ
          go_simp
          refine hK.out _ _ (set6_below _ _ _ _ _ _ hHeld (by first | exact Nat.le_refl _ | exact hQs)) (fun hHeld => ?_)
          clear hK K
          try simp only [Act.put, List.setIfInBounds_toArray, List.set_cons_zero, List.set_cons_succ]
          refine' wpAnyH_take (i := 10) (oi := ({ dst := some 15, op := Op.assign (Operand.tmp 91), type := 3, pos := "exact.go:1983", after := #[{ on := 7, ground := Ground.data }, { on := 9, ground := Ground.chain }, { on := 0, ground := Ground.phase }, { on := 1, ground := Ground.phase }, { on := 2, ground := Ground.phase }, { on := 3, ground := Ground.phase }, { on := 4, ground := Ground.phase }, { on := 5, ground := Ground.phase }, { on := 6, ground := Ground.phase }, { on := 7, ground := Ground.phase }, { on := 8, ground := Ground.phase }, { on := 9, ground := Ground.phase }], guard := none } : Oper)) (v := _) rfl (by kernel_rfl) (by kernel_rfl) (by kernel_rfl) (fun _ _ _ h => h) (Or.inl ⟨by rfl, fun x hSw => ?hyzo10⟩) hHeld ?restzo10
          case hyzo10 =>
            obtain ⟨k0, k1, k2, k3, k4, k5⟩ := B6.of (rowL hXk hSw); have hYS := rowL hYk hSw; have y0 : x.cell? ⟨w.heap.size + 1, 0, none⟩ = some (.int .i64 kd) := (cell_of_row _ _ 0 _ _ _ hYS).trans rfl; have y1 : x.cell? ⟨w.heap.size + 1, 1, none⟩ = some (.string nm) := (cell_of_row _ _ 1 _ _ _ hYS).trans rfl; have y2 : x.cell? ⟨w.heap.size + 1, 2, none⟩ = some (.string dt) := (cell_of_row _ _ 2 _ _ _ hYS).trans rfl; have y3 : x.cell? ⟨w.heap.size + 1, 3, none⟩ = some (.int .i64 sz) := (cell_of_row _ _ 3 _ _ _ hYS).trans rfl
            go_simp
            try with_reducible rfl
          try simp only [Act.put, List.setIfInBounds_toArray, List.set_cons_zero, List.set_cons_succ]
          refine wpAnyH_done (by kernel_rfl) ?_ _
          exact ⟨_, ae, ce, _, _, _, _, _, _, _, _, rfl, set6_row _ _ _ _ _ _ hQ, (keep6 (OwnF.l (OwnF.wk hOn hH4.size)) hQ).f, by first | exact Nat.le_refl _ | exact hQs, hHeld⟩
      · have hQ : (World.alloc (wl) (.cells #[.slice none 0 0, .int .i64 0, .int .i64 0, .int .i64 0, .int .i64 0, .bool false] 36)).heap[wl.heap.size]? = _ := heap_alloc_new (wl) (.cells #[.slice none 0 0, .int .i64 0, .int .i64 0, .int .i64 0, .int .i64 0, .bool false] 36)
        have hQs := hHeld.size
        have hRl := hRl.later (bal (wl) (.cells #[.slice none 0 0, .int .i64 0, .int .i64 0, .int .i64 0, .int .i64 0, .bool false] 36))
        go_simp
        refine hK.out _ _ (bstep hHeld (bal _ _)) (fun hHeld => ?_)
        clear hK K
        try simp only [Act.put, List.setIfInBounds_toArray, List.set_cons_zero, List.set_cons_succ]
        refine wpAnyH_ready (rs := [3]) (by kernel_rfl) (by simp) ?_
        refine AllReadyH.cons (o := ({ dst := some 88, op := Op.call { callee := Callee.value (Operand.func 29), args := #[Operand.tmp 87], argTypes := #[45] }, type := 49, pos := "exact.go:1983", after := #[{ on := 2, ground := Ground.data }, { on := 1, ground := Ground.chain }], guard := none } : Oper)) rfl (fun K hK => ?_) AllReadyH.nil
        go_simp
        refine (toOp kd nm dt sz _).mono ?_
        rintro e wm ⟨rfl, hbm⟩
        have hQ := rowL hQ hbm
        have hRl := hRl.later hbm
        refine hK.out _ _ (bstep hHeld hbm) (fun hHeld => ?_)
        clear hK K
        try simp only [Act.put, List.setIfInBounds_toArray, List.set_cons_zero, List.set_cons_succ]
        refine wpAnyH_ready (rs := [4]) (by kernel_rfl) (by simp) ?_
        refine AllReadyH.cons (o := ({ dst := some 89, op := Op.call { callee := Callee.value (Operand.func 30), args := #[Operand.tmp 86, Operand.tmp 88], argTypes := #[36, 49] }, type := 47, pos := "exact.go:1983", after := #[{ on := 1, ground := Ground.data }, { on := 3, ground := Ground.data }, { on := 3, ground := Ground.chain }], guard := none } : Oper)) rfl (fun K hK => ?_) AllReadyH.nil
        go_simp
        have hH4 := hHeld
        refine (HIM.out _ gl hRl.fl).mono ?_
        rintro e wn ⟨ae, ce, rfl, hOn, hbn⟩
        have hQ := rowL hQ hbn
        have hH8 := bstep hHeld hbn
        refine hK.out _ _ (bstep hHeld hbn) (fun hHeld => ?_)
        clear hK K
        try simp only [Act.put, List.setIfInBounds_toArray, List.set_cons_zero, List.set_cons_succ]
        refine' wpAnyH_take (i := 5) (oi := ({ dst := some 84, op := Op.move (Operand.tmp 89), type := 47, pos := "exact.go:1983", after := #[{ on := 4, ground := Ground.data }], guard := none } : Oper)) (v := _) rfl (by kernel_rfl) (by kernel_rfl) (by kernel_rfl) (fun _ _ _ h => h) (Or.inl ⟨by rfl, fun x hSw => ?hyzo11⟩) hHeld ?restzo11
        case hyzo11 =>
          obtain ⟨k0, k1, k2, k3, k4, k5⟩ := B6.of (rowL hXk hSw); have hYS := rowL hYk hSw; have y0 : x.cell? ⟨w.heap.size + 1, 0, none⟩ = some (.int .i64 kd) := (cell_of_row _ _ 0 _ _ _ hYS).trans rfl; have y1 : x.cell? ⟨w.heap.size + 1, 1, none⟩ = some (.string nm) := (cell_of_row _ _ 1 _ _ _ hYS).trans rfl; have y2 : x.cell? ⟨w.heap.size + 1, 2, none⟩ = some (.string dt) := (cell_of_row _ _ 2 _ _ _ hYS).trans rfl; have y3 : x.cell? ⟨w.heap.size + 1, 3, none⟩ = some (.int .i64 sz) := (cell_of_row _ _ 3 _ _ _ hYS).trans rfl
          go_simp
          try with_reducible rfl
        try simp only [Act.put, List.setIfInBounds_toArray, List.set_cons_zero, List.set_cons_succ]
        refine' wpAnyH_take (i := 6) (oi := ({ dst := some 90, op := Op.extract (Operand.tmp 84) 0, type := 36, pos := "exact.go:1983", after := #[{ on := 5, ground := Ground.data }], guard := none } : Oper)) (v := _) rfl (by kernel_rfl) (by kernel_rfl) (by kernel_rfl) (fun _ _ _ h => h) (Or.inl ⟨by rfl, fun x hSw => ?hyzo12⟩) hHeld ?restzo12
        case hyzo12 =>
          obtain ⟨k0, k1, k2, k3, k4, k5⟩ := B6.of (rowL hXk hSw); have hYS := rowL hYk hSw; have y0 : x.cell? ⟨w.heap.size + 1, 0, none⟩ = some (.int .i64 kd) := (cell_of_row _ _ 0 _ _ _ hYS).trans rfl; have y1 : x.cell? ⟨w.heap.size + 1, 1, none⟩ = some (.string nm) := (cell_of_row _ _ 1 _ _ _ hYS).trans rfl; have y2 : x.cell? ⟨w.heap.size + 1, 2, none⟩ = some (.string dt) := (cell_of_row _ _ 2 _ _ _ hYS).trans rfl; have y3 : x.cell? ⟨w.heap.size + 1, 3, none⟩ = some (.int .i64 sz) := (cell_of_row _ _ 3 _ _ _ hYS).trans rfl
          go_simp
          try with_reducible rfl
        try simp only [Act.put, List.setIfInBounds_toArray, List.set_cons_zero, List.set_cons_succ]
        refine' wpAnyH_take (i := 7) (oi := ({ dst := some 91, op := Op.extract (Operand.tmp 84) 1, type := 3, pos := "exact.go:1983", after := #[{ on := 5, ground := Ground.data }, { on := 9, ground := Ground.gcOnly Departure.lateStores }], guard := none } : Oper)) (v := _) rfl (by kernel_rfl) (by kernel_rfl) (by kernel_rfl) (fun _ _ _ h => h) (Or.inl ⟨by rfl, fun x hSw => ?hyzo13⟩) hHeld ?restzo13
        case hyzo13 =>
          obtain ⟨k0, k1, k2, k3, k4, k5⟩ := B6.of (rowL hXk hSw); have hYS := rowL hYk hSw; have y0 : x.cell? ⟨w.heap.size + 1, 0, none⟩ = some (.int .i64 kd) := (cell_of_row _ _ 0 _ _ _ hYS).trans rfl; have y1 : x.cell? ⟨w.heap.size + 1, 1, none⟩ = some (.string nm) := (cell_of_row _ _ 1 _ _ _ hYS).trans rfl; have y2 : x.cell? ⟨w.heap.size + 1, 2, none⟩ = some (.string dt) := (cell_of_row _ _ 2 _ _ _ hYS).trans rfl; have y3 : x.cell? ⟨w.heap.size + 1, 3, none⟩ = some (.int .i64 sz) := (cell_of_row _ _ 3 _ _ _ hYS).trans rfl
          go_simp
          try with_reducible rfl
        try simp only [Act.put, List.setIfInBounds_toArray, List.set_cons_zero, List.set_cons_succ]
        refine wpAnyH_ready (rs := [9]) (by kernel_rfl) (by simp) ?_
        refine AllReadyH.cons (o := ({ dst := none, op := Op.store 36 (Operand.tmp 14) (Operand.tmp 90), type := 0, pos := "exact.go:1983", after := #[{ on := 8, ground := Ground.data }, { on := 6, ground := Ground.data }, { on := 4, ground := Ground.chain }, { on := 0, ground := Ground.phase }, { on := 1, ground := Ground.phase }, { on := 2, ground := Ground.phase }, { on := 3, ground := Ground.phase }, { on := 4, ground := Ground.phase }, { on := 5, ground := Ground.phase }, { on := 6, ground := Ground.phase }, { on := 7, ground := Ground.textOnly Departure.lateStores }, { on := 8, ground := Ground.phase }], guard := none } : Oper)) rfl (fun K hK => ?_) AllReadyH.nil
        have qc0 := (cell_of_row _ _ 0 _ _ _ hQ).trans rfl; have qf0 := frozen_of_row _ _ 0 _ _ hQ; have qc1 := (cell_of_row _ _ 1 _ _ _ hQ).trans rfl; have qf1 := frozen_of_row _ _ 1 _ _ hQ; have qc2 := (cell_of_row _ _ 2 _ _ _ hQ).trans rfl; have qf2 := frozen_of_row _ _ 2 _ _ hQ; have qc3 := (cell_of_row _ _ 3 _ _ _ hQ).trans rfl; have qf3 := frozen_of_row _ _ 3 _ _ hQ; have qc4 := (cell_of_row _ _ 4 _ _ _ hQ).trans rfl; have qf4 := frozen_of_row _ _ 4 _ _ hQ; have qc5 := (cell_of_row _ _ 5 _ _ _ hQ).trans rfl; have qf5 := frozen_of_row _ _ 5 _ _ hQ
        go_simp
        refine hK.out _ _ (set6_below _ _ _ _ _ _ hHeld (by first | exact Nat.le_refl _ | exact hQs)) (fun hHeld => ?_)
        clear hK K
        try simp only [Act.put, List.setIfInBounds_toArray, List.set_cons_zero, List.set_cons_succ]
        refine' wpAnyH_take (i := 10) (oi := ({ dst := some 15, op := Op.assign (Operand.tmp 91), type := 3, pos := "exact.go:1983", after := #[{ on := 7, ground := Ground.data }, { on := 9, ground := Ground.chain }, { on := 0, ground := Ground.phase }, { on := 1, ground := Ground.phase }, { on := 2, ground := Ground.phase }, { on := 3, ground := Ground.phase }, { on := 4, ground := Ground.phase }, { on := 5, ground := Ground.phase }, { on := 6, ground := Ground.phase }, { on := 7, ground := Ground.phase }, { on := 8, ground := Ground.phase }, { on := 9, ground := Ground.phase }], guard := none } : Oper)) (v := _) rfl (by kernel_rfl) (by kernel_rfl) (by kernel_rfl) (fun _ _ _ h => h) (Or.inl ⟨by rfl, fun x hSw => ?hyzo14⟩) hHeld ?restzo14
        case hyzo14 =>
          obtain ⟨k0, k1, k2, k3, k4, k5⟩ := B6.of (rowL hXk hSw); have hYS := rowL hYk hSw; have y0 : x.cell? ⟨w.heap.size + 1, 0, none⟩ = some (.int .i64 kd) := (cell_of_row _ _ 0 _ _ _ hYS).trans rfl; have y1 : x.cell? ⟨w.heap.size + 1, 1, none⟩ = some (.string nm) := (cell_of_row _ _ 1 _ _ _ hYS).trans rfl; have y2 : x.cell? ⟨w.heap.size + 1, 2, none⟩ = some (.string dt) := (cell_of_row _ _ 2 _ _ _ hYS).trans rfl; have y3 : x.cell? ⟨w.heap.size + 1, 3, none⟩ = some (.int .i64 sz) := (cell_of_row _ _ 3 _ _ _ hYS).trans rfl
          go_simp
          try with_reducible rfl
        try simp only [Act.put, List.setIfInBounds_toArray, List.set_cons_zero, List.set_cons_succ]
        refine wpAnyH_done (by kernel_rfl) ?_ _
        exact ⟨_, ae, ce, _, _, _, _, _, _, _, _, rfl, set6_row _ _ _ _ _ _ hQ, (keep6 (OwnF.l (OwnF.wk hOn hH4.size)) hQ).f, by first | exact Nat.le_refl _ | exact hQs, hHeld⟩
    · have hQ : (World.alloc (wk.drew) (.cells #[.slice none 0 0, .int .i64 0, .int .i64 0, .int .i64 0, .int .i64 0, .bool false] 36)).heap[wk.heap.size]? = _ := heap_alloc_new (wk.drew) (.cells #[.slice none 0 0, .int .i64 0, .int .i64 0, .int .i64 0, .int .i64 0, .bool false] 36)
      have hQs := hHeld.size
      go_simp
      refine hK.out _ _ (bstep hHeld (bal _ _)) (fun hHeld => ?_)
      clear hK K
      try simp only [Act.put, List.setIfInBounds_toArray, List.set_cons_zero, List.set_cons_succ]
      refine wpAnyH_ready (rs := [1]) (by kernel_rfl) (by simp) ?_
      refine AllReadyH.cons (o := ({ dst := some 86, op := Op.call { callee := Callee.value (Operand.func 18), args := #[Operand.tmp 85], argTypes := #[31] }, type := 36, pos := "exact.go:1983", after := #[{ on := 0, ground := Ground.data }], guard := none } : Oper)) rfl (fun K hK => ?_) AllReadyH.nil
      go_simp
      refine (toFs_any a L.length c (nthF L) x1 x2 x3 x4 x5 _ (hf.later (bstep hck hHeld)) hn).mono ?_
      rintro e wl ⟨gl, hgl, rfl, hRl, hbl⟩
      have hQ := rowL hQ hbl
      refine hK.out _ _ (bstep hHeld hbl) (fun hHeld => ?_)
      clear hK K
      try simp only [Act.put, List.setIfInBounds_toArray, List.set_cons_zero, List.set_cons_succ]
      refine wpAnyH_ready (rs := [3]) (by kernel_rfl) (by simp) ?_
      refine AllReadyH.cons (o := ({ dst := some 88, op := Op.call { callee := Callee.value (Operand.func 29), args := #[Operand.tmp 87], argTypes := #[45] }, type := 49, pos := "exact.go:1983", after := #[{ on := 2, ground := Ground.data }, { on := 1, ground := Ground.chain }], guard := none } : Oper)) rfl (fun K hK => ?_) AllReadyH.nil
      go_simp
      refine (toOp kd nm dt sz _).mono ?_
      rintro e wm ⟨rfl, hbm⟩
      have hQ := rowL hQ hbm
      have hRl := hRl.later hbm
      refine hK.out _ _ (bstep hHeld hbm) (fun hHeld => ?_)
      clear hK K
      try simp only [Act.put, List.setIfInBounds_toArray, List.set_cons_zero, List.set_cons_succ]
      refine wpAnyH_ready (rs := [4]) (by kernel_rfl) (by simp) ?_
      refine AllReadyH.cons (o := ({ dst := some 89, op := Op.call { callee := Callee.value (Operand.func 30), args := #[Operand.tmp 86, Operand.tmp 88], argTypes := #[36, 49] }, type := 47, pos := "exact.go:1983", after := #[{ on := 1, ground := Ground.data }, { on := 3, ground := Ground.data }, { on := 3, ground := Ground.chain }], guard := none } : Oper)) rfl (fun K hK => ?_) AllReadyH.nil
      go_simp
      have hH4 := hHeld
      refine (HIM.out _ gl hRl.fl).mono ?_
      rintro e wn ⟨ae, ce, rfl, hOn, hbn⟩
      have hQ := rowL hQ hbn
      have hH8 := bstep hHeld hbn
      refine hK.out _ _ (bstep hHeld hbn) (fun hHeld => ?_)
      clear hK K
      try simp only [Act.put, List.setIfInBounds_toArray, List.set_cons_zero, List.set_cons_succ]
      refine' wpAnyH_take (i := 5) (oi := ({ dst := some 84, op := Op.move (Operand.tmp 89), type := 47, pos := "exact.go:1983", after := #[{ on := 4, ground := Ground.data }], guard := none } : Oper)) (v := _) rfl (by kernel_rfl) (by kernel_rfl) (by kernel_rfl) (fun _ _ _ h => h) (Or.inl ⟨by rfl, fun x hSw => ?hyzo15⟩) hHeld ?restzo15
      case hyzo15 =>
        obtain ⟨k0, k1, k2, k3, k4, k5⟩ := B6.of (rowL hXk hSw); have hYS := rowL hYk hSw; have y0 : x.cell? ⟨w.heap.size + 1, 0, none⟩ = some (.int .i64 kd) := (cell_of_row _ _ 0 _ _ _ hYS).trans rfl; have y1 : x.cell? ⟨w.heap.size + 1, 1, none⟩ = some (.string nm) := (cell_of_row _ _ 1 _ _ _ hYS).trans rfl; have y2 : x.cell? ⟨w.heap.size + 1, 2, none⟩ = some (.string dt) := (cell_of_row _ _ 2 _ _ _ hYS).trans rfl; have y3 : x.cell? ⟨w.heap.size + 1, 3, none⟩ = some (.int .i64 sz) := (cell_of_row _ _ 3 _ _ _ hYS).trans rfl
        go_simp
        try with_reducible rfl
      try simp only [Act.put, List.setIfInBounds_toArray, List.set_cons_zero, List.set_cons_succ]
      refine' wpAnyH_take (i := 6) (oi := ({ dst := some 90, op := Op.extract (Operand.tmp 84) 0, type := 36, pos := "exact.go:1983", after := #[{ on := 5, ground := Ground.data }], guard := none } : Oper)) (v := _) rfl (by kernel_rfl) (by kernel_rfl) (by kernel_rfl) (fun _ _ _ h => h) (Or.inl ⟨by rfl, fun x hSw => ?hyzo16⟩) hHeld ?restzo16
      case hyzo16 =>
        obtain ⟨k0, k1, k2, k3, k4, k5⟩ := B6.of (rowL hXk hSw); have hYS := rowL hYk hSw; have y0 : x.cell? ⟨w.heap.size + 1, 0, none⟩ = some (.int .i64 kd) := (cell_of_row _ _ 0 _ _ _ hYS).trans rfl; have y1 : x.cell? ⟨w.heap.size + 1, 1, none⟩ = some (.string nm) := (cell_of_row _ _ 1 _ _ _ hYS).trans rfl; have y2 : x.cell? ⟨w.heap.size + 1, 2, none⟩ = some (.string dt) := (cell_of_row _ _ 2 _ _ _ hYS).trans rfl; have y3 : x.cell? ⟨w.heap.size + 1, 3, none⟩ = some (.int .i64 sz) := (cell_of_row _ _ 3 _ _ _ hYS).trans rfl
        go_simp
        try with_reducible rfl
      try simp only [Act.put, List.setIfInBounds_toArray, List.set_cons_zero, List.set_cons_succ]
      refine' wpAnyH_take (i := 7) (oi := ({ dst := some 91, op := Op.extract (Operand.tmp 84) 1, type := 3, pos := "exact.go:1983", after := #[{ on := 5, ground := Ground.data }, { on := 9, ground := Ground.gcOnly Departure.lateStores }], guard := none } : Oper)) (v := _) rfl (by kernel_rfl) (by kernel_rfl) (by kernel_rfl) (fun _ _ _ h => h) (Or.inl ⟨by rfl, fun x hSw => ?hyzo17⟩) hHeld ?restzo17
      case hyzo17 =>
        obtain ⟨k0, k1, k2, k3, k4, k5⟩ := B6.of (rowL hXk hSw); have hYS := rowL hYk hSw; have y0 : x.cell? ⟨w.heap.size + 1, 0, none⟩ = some (.int .i64 kd) := (cell_of_row _ _ 0 _ _ _ hYS).trans rfl; have y1 : x.cell? ⟨w.heap.size + 1, 1, none⟩ = some (.string nm) := (cell_of_row _ _ 1 _ _ _ hYS).trans rfl; have y2 : x.cell? ⟨w.heap.size + 1, 2, none⟩ = some (.string dt) := (cell_of_row _ _ 2 _ _ _ hYS).trans rfl; have y3 : x.cell? ⟨w.heap.size + 1, 3, none⟩ = some (.int .i64 sz) := (cell_of_row _ _ 3 _ _ _ hYS).trans rfl
        go_simp
        try with_reducible rfl
      try simp only [Act.put, List.setIfInBounds_toArray, List.set_cons_zero, List.set_cons_succ]
      refine wpAnyH_ready (rs := [9]) (by kernel_rfl) (by simp) ?_
      refine AllReadyH.cons (o := ({ dst := none, op := Op.store 36 (Operand.tmp 14) (Operand.tmp 90), type := 0, pos := "exact.go:1983", after := #[{ on := 8, ground := Ground.data }, { on := 6, ground := Ground.data }, { on := 4, ground := Ground.chain }, { on := 0, ground := Ground.phase }, { on := 1, ground := Ground.phase }, { on := 2, ground := Ground.phase }, { on := 3, ground := Ground.phase }, { on := 4, ground := Ground.phase }, { on := 5, ground := Ground.phase }, { on := 6, ground := Ground.phase }, { on := 7, ground := Ground.textOnly Departure.lateStores }, { on := 8, ground := Ground.phase }], guard := none } : Oper)) rfl (fun K hK => ?_) AllReadyH.nil
      have qc0 := (cell_of_row _ _ 0 _ _ _ hQ).trans rfl; have qf0 := frozen_of_row _ _ 0 _ _ hQ; have qc1 := (cell_of_row _ _ 1 _ _ _ hQ).trans rfl; have qf1 := frozen_of_row _ _ 1 _ _ hQ; have qc2 := (cell_of_row _ _ 2 _ _ _ hQ).trans rfl; have qf2 := frozen_of_row _ _ 2 _ _ hQ; have qc3 := (cell_of_row _ _ 3 _ _ _ hQ).trans rfl; have qf3 := frozen_of_row _ _ 3 _ _ hQ; have qc4 := (cell_of_row _ _ 4 _ _ _ hQ).trans rfl; have qf4 := frozen_of_row _ _ 4 _ _ hQ; have qc5 := (cell_of_row _ _ 5 _ _ _ hQ).trans rfl; have qf5 := frozen_of_row _ _ 5 _ _ hQ
      go_simp
      refine hK.out _ _ (set6_below _ _ _ _ _ _ hHeld (by first | exact Nat.le_refl _ | exact hQs)) (fun hHeld => ?_)
      clear hK K
      try simp only [Act.put, List.setIfInBounds_toArray, List.set_cons_zero, List.set_cons_succ]
      refine' wpAnyH_take (i := 10) (oi := ({ dst := some 15, op := Op.assign (Operand.tmp 91), type := 3, pos := "exact.go:1983", after := #[{ on := 7, ground := Ground.data }, { on := 9, ground := Ground.chain }, { on := 0, ground := Ground.phase }, { on := 1, ground := Ground.phase }, { on := 2, ground := Ground.phase }, { on := 3, ground := Ground.phase }, { on := 4, ground := Ground.phase }, { on := 5, ground := Ground.phase }, { on := 6, ground := Ground.phase }, { on := 7, ground := Ground.phase }, { on := 8, ground := Ground.phase }, { on := 9, ground := Ground.phase }], guard := none } : Oper)) (v := _) rfl (by kernel_rfl) (by kernel_rfl) (by kernel_rfl) (fun _ _ _ h => h) (Or.inl ⟨by rfl, fun x hSw => ?hyzo18⟩) hHeld ?restzo18
      case hyzo18 =>
        obtain ⟨k0, k1, k2, k3, k4, k5⟩ := B6.of (rowL hXk hSw); have hYS := rowL hYk hSw; have y0 : x.cell? ⟨w.heap.size + 1, 0, none⟩ = some (.int .i64 kd) := (cell_of_row _ _ 0 _ _ _ hYS).trans rfl; have y1 : x.cell? ⟨w.heap.size + 1, 1, none⟩ = some (.string nm) := (cell_of_row _ _ 1 _ _ _ hYS).trans rfl; have y2 : x.cell? ⟨w.heap.size + 1, 2, none⟩ = some (.string dt) := (cell_of_row _ _ 2 _ _ _ hYS).trans rfl; have y3 : x.cell? ⟨w.heap.size + 1, 3, none⟩ = some (.int .i64 sz) := (cell_of_row _ _ 3 _ _ _ hYS).trans rfl
        go_simp
        try with_reducible rfl
      try simp only [Act.put, List.setIfInBounds_toArray, List.set_cons_zero, List.set_cons_succ]
      refine wpAnyH_done (by kernel_rfl) ?_ _
      exact ⟨_, ae, ce, _, _, _, _, _, _, _, _, rfl, set6_row _ _ _ _ _ _ hQ, (keep6 (OwnF.l (OwnF.wk hOn hH4.size)) hQ).f, by first | exact Nat.le_refl _ | exact hQs, hHeld⟩
  intro e a' wo hq
  cases e
  all_goals first | exact hq.elim | skip
  obtain ⟨Qe, ae, ce, v84, v85, v86, v87, v88, v89, v90, v91, rfl, h13, hOo, hQe, hbo⟩ := hq
  simp only [Exit.then]
  go_at_K
  have h6o := rowL h6k hbo
  have hOo6 := hOk6.later hbo
  have hco := bstep hck hbo
  obtain ⟨k0, k1, k2, k3, k4, k5⟩ := B6.of h13
  obtain ⟨j0, j1, j2, j3, j4, j5⟩ := B6.of h6o
  go_wp2_with (go_at_call 20; refine (eqFs_any ae av M.length ce cv (nthF M) z1 z2 z3 z4 z5 _ hOo.fl hOo6.fl hrn).mono ?_; rintro e wp ⟨rfl, hbp⟩)
  go_ret
  exact ⟨rfl, bstep hco hbp⟩
theorem lawStep (a : Option Addr) (n c : Nat) (F : Nat → Fil) (x1 x2 x3 x4 : Int) (x5 : Bool) (kd : Int) (nm dt : ByteArray) (sz : Int) (w : World) (h : FX w a n F) (hq1 : nm.size ≤ 9223372036854775807) (hq2 : dt.size ≤ 9223372036854775807) :
    Calls Try.prog 7 #[.agg #[.slice a n c, .int .i64 x1, .int .i64 x2, .int .i64 x3, .int .i64 x4, .bool x5], .agg #[.int .i64 kd, .string nm, .string dt, .int .i64 sz]] w fun e w' => e = .returned (.bool true) ∧ Below w.heap.size w w' := by
  obtain ⟨L, hL, hF⟩ : ∃ L : List Fil, L.length = n ∧ ∀ k, k < n → nthF L k = F k := ⟨(List.range n).map F, by simp, fun k hk => by simp [nthF, hk]⟩
  subst hL
  exact lawStepL a c L x1 x2 x3 x4 x5 kd nm dt sz w ⟨h.1, fun k hk => by rw [hF k hk]; exact h.2 k hk⟩ hq1 hq2
end Go.Proofs.Ytdbcihebhgpblaa
