/-
  The law's marks: a statement.
-/
import Derived.Test.YtnbgdfhfmbgbhaaGreatDoorRw
namespace Go.Proofs.YtnbgdfhfmbgbhaaGreatDoor
open Go.RowKit Go.Maps Go.WideMaps
set_option maxRecDepth 20000 in
set_option maxHeartbeats 8000000 in
theorem heldCl (a : Option Addr) (n c z : Nat) (w : World) (h : MC w a n z) (hz0 : 0 < z) (hz : z + 2 * n < 9000000) :
    Calls Tryz.prog 29 #[.slice a n c, .int .i64 (z : Int)] w fun e w' => e = .returned (.int .i64 ((z + 2 * n : Nat) : Int)) ∧ Below w.heap.size w w' := by
  have hb0 := Below.refl w.heap.size w
  go_enter Tryz.func29, Tryz.ntmps29
  go_wp2
  go_loopw [1, 5] (fun k i wr => ∃ (j : Nat) (K : Int), k = .int .i64 K ∧ K = ((z + 2 * j : Nat) : Int) ∧ j ≤ n ∧ i = .int .i64 j ∧ Below w.heap.size w wr) (fun _ i _ => n - (intOf i).toNat)
  case atStart => exact ⟨0, _, rfl, by omega, by omega, rfl, hb0⟩
  case round =>
    obtain ⟨j, K, rfl, hK, hj, rfl, hb⟩ := hrel
    have HK : Hid (K = ((z + 2 * j : Nat) : Int)) := hK
    have hK0 : 0 < K := by omega
    have hK1 : K < 9000000 := by omega
    by_cases hlt : j < n
    · have hjn : (j : Int) < n := by omega
      obtain ⟨y0, hy0⟩ : ∃ y, mtx (z + 2 * j) = y := ⟨_, rfl⟩
      have HY0 : Hid (mtx (z + 2 * j) = y0) := hy0
      rcases h.later hb with h0 | ⟨g, cur, rfl, hg, hall⟩
      · omega
      obtain ⟨r0, r1⟩ := hall j hlt
      rw [hy0] at r0
      have c0 : wr.cell? ⟨g, j * 2, none⟩ = some (.string y0) := (cell_of_row _ _ _ _ _ _ hg).trans r0
      rw [show ((z + 2 * j + 1 : Nat) : Int) = K + 1 from by omega] at r1
      have c1 : wr.cell? ⟨g, j * 2 + 1, none⟩ = some (.int .i64 (K + 1)) := (cell_of_row _ _ _ _ _ _ hg).trans r1
      clear hy0 hK hg hall r0 r1
      have e0 := eqS_same y0
      go_upto_region 4 with (fail)
      refine wp_region_held_drew (S := fun x => Below wr.heap.size wr x) (by kernel_rfl) (bdrewR _) (fun hHeld => ?_)
      refine' wpAnyH_take (i := 0) (oi := ({ dst := some 12, op := Op.move (Operand.tmp 0), type := 22, pos := "exact.go:522", after := #[], guard := none } : Oper)) (v := _) rfl (by kernel_rfl) (by kernel_rfl) (by kernel_rfl) (fun _ _ _ h => h) (Or.inl ⟨by rfl, fun x hSw => ?hyz1_0⟩) hHeld ?restz1_0
      case hyz1_0 =>
        have k0 := keepB hSw c0; have k1 := keepB hSw c1
        go_simp
        try with_reducible rfl
      try simp only [Act.put, List.setIfInBounds_toArray, List.set_cons_zero, List.set_cons_succ]
      refine' wpAnyH_take (i := 1) (oi := ({ dst := some 13, op := Op.move (Operand.tmp 5), type := 3, pos := "exact.go:522", after := #[], guard := none } : Oper)) (v := _) rfl (by kernel_rfl) (by kernel_rfl) (by kernel_rfl) (fun _ _ _ h => h) (Or.inl ⟨by rfl, fun x hSw => ?hyz1_1⟩) hHeld ?restz1_1
      case hyz1_1 =>
        have k0 := keepB hSw c0; have k1 := keepB hSw c1
        go_simp
        try with_reducible rfl
      try simp only [Act.put, List.setIfInBounds_toArray, List.set_cons_zero, List.set_cons_succ]
      refine' wpAnyH_take (i := 2) (oi := ({ dst := some 14, op := Op.indexAddr 22 (Operand.tmp 12) (Operand.tmp 13), type := 0, pos := "exact.go:522", after := #[{ on := 0, ground := Ground.data }, { on := 1, ground := Ground.data }], guard := none } : Oper)) (v := _) rfl (by kernel_rfl) (by kernel_rfl) (by kernel_rfl) (fun _ _ _ h => h) (Or.inl ⟨by rfl, fun x hSw => ?hyz1_2⟩) hHeld ?restz1_2
      case hyz1_2 =>
        have k0 := keepB hSw c0; have k1 := keepB hSw c1
        go_simp
        try with_reducible rfl
      try simp only [Act.put, List.setIfInBounds_toArray, List.set_cons_zero, List.set_cons_succ]
      refine' wpAnyH_take (i := 3) (oi := ({ dst := some 15, op := Op.fieldAddr 49 (Operand.tmp 14) 0, type := 0, pos := "exact.go:522", after := #[{ on := 2, ground := Ground.data }], guard := none } : Oper)) (v := _) rfl (by kernel_rfl) (by kernel_rfl) (by kernel_rfl) (fun _ _ _ h => h) (Or.inl ⟨by rfl, fun x hSw => ?hyz1_3⟩) hHeld ?restz1_3
      case hyz1_3 =>
        have k0 := keepB hSw c0; have k1 := keepB hSw c1
        go_simp
        try with_reducible rfl
      try simp only [Act.put, List.setIfInBounds_toArray, List.set_cons_zero, List.set_cons_succ]
      refine' wpAnyH_take (i := 4) (oi := ({ dst := some 16, op := Op.load 9 (Operand.tmp 15), type := 9, pos := "exact.go:522", after := #[{ on := 3, ground := Ground.data }], guard := none } : Oper)) (v := _) rfl (by kernel_rfl) (by kernel_rfl) (by kernel_rfl) (fun _ _ _ h => h) (Or.inl ⟨by rfl, fun x hSw => ?hyz1_4⟩) hHeld ?restz1_4
      case hyz1_4 =>
        have k0 := keepB hSw c0; have k1 := keepB hSw c1
        go_simp
        try with_reducible rfl
      try simp only [Act.put, List.setIfInBounds_toArray, List.set_cons_zero, List.set_cons_succ]
      refine' wpAnyH_take (i := 5) (oi := ({ dst := some 17, op := Op.move (Operand.tmp 1), type := 3, pos := "exact.go:522", after := #[], guard := none } : Oper)) (v := _) rfl (by kernel_rfl) (by kernel_rfl) (by kernel_rfl) (fun _ _ _ h => h) (Or.inl ⟨by rfl, fun x hSw => ?hyz1_5⟩) hHeld ?restz1_5
      case hyz1_5 =>
        have k0 := keepB hSw c0; have k1 := keepB hSw c1
        go_simp
        try with_reducible rfl
      try simp only [Act.put, List.setIfInBounds_toArray, List.set_cons_zero, List.set_cons_succ]
      refine wpAnyH_ready (rs := [6]) (by kernel_rfl) (by simp) ?_
      refine AllReadyH.cons (o := ({ dst := some 18, op := Op.call { callee := Callee.value (Operand.func 79), args := #[Operand.tmp 17], argTypes := #[3] }, type := 9, pos := "exact.go:522", after := #[{ on := 5, ground := Ground.data }], guard := none } : Oper)) rfl (fun K hK => ?_) AllReadyH.nil
      go_simp
      refine (markText_as (z + 2 * j) _ _ (by have := HK.out; omega) (by omega) (by omega) y0 HY0.out).mono ?_
      rintro e w2 ⟨rfl, hb2⟩
      refine hK.out _ _ (bstep hHeld hb2) (fun hHeld => ?_)
      clear hK K
      try simp only [Act.put, List.setIfInBounds_toArray, List.set_cons_zero, List.set_cons_succ]
      refine' wpAnyH_take (i := 7) (oi := ({ dst := some 19, op := Op.binOp BinOp.neq 9 (Operand.tmp 16) (Operand.tmp 18) 9, type := 4, pos := "exact.go:522", after := #[{ on := 4, ground := Ground.data }, { on := 6, ground := Ground.data }], guard := none } : Oper)) (v := _) rfl (by kernel_rfl) (by kernel_rfl) (by kernel_rfl) (fun _ _ _ h => h) (Or.inl ⟨by rfl, fun x hSw => ?hyz1_7⟩) hHeld ?restz1_7
      case hyz1_7 =>
        have k0 := keepB hSw c0; have k1 := keepB hSw c1
        go_simp
        try with_reducible rfl
      try simp only [Act.put, List.setIfInBounds_toArray, List.set_cons_zero, List.set_cons_succ]
      refine wpAnyH_done (by kernel_rfl) ?_ _
      have k0 := keepB hHeld c0
      have k1 := keepB hHeld c1
      go_wp2
      go_roundw
      case rel => exact ⟨j + 1, _, rfl, by have := HK.out; omega, by omega, by go_num, bstep hb hHeld⟩
      case measure => simp [intOf]; omega
    · obtain rfl : j = n := by omega
      clear hK
      go_wp2
      go_ret
      exact ⟨by rw [HK.out]; rfl, hb⟩
set_option maxRecDepth 20000 in
set_option maxHeartbeats 8000000 in
theorem heldVl (a : Option Addr) (n c z : Nat) (w : World) (h : M3 w 51 a n z) (hz0 : 0 < z) (hz : z + 3 * n < 9000000) :
    Calls Tryz.prog 30 #[.slice a n c, .int .i64 (z : Int)] w fun e w' => e = .returned (.int .i64 ((z + 3 * n : Nat) : Int)) ∧ Below w.heap.size w w' := by
  have hb0 := Below.refl w.heap.size w
  go_enter Tryz.func30, Tryz.ntmps30
  go_wp2
  go_loopw [1, 5] (fun k i wr => ∃ (j : Nat) (K : Int), k = .int .i64 K ∧ K = ((z + 3 * j : Nat) : Int) ∧ j ≤ n ∧ i = .int .i64 j ∧ Below w.heap.size w wr) (fun _ i _ => n - (intOf i).toNat)
  case atStart => exact ⟨0, _, rfl, by omega, by omega, rfl, hb0⟩
  case round =>
    obtain ⟨j, K, rfl, hK, hj, rfl, hb⟩ := hrel
    have HK : Hid (K = ((z + 3 * j : Nat) : Int)) := hK
    have hK0 : 0 < K := by omega
    have hK1 : K < 9000000 := by omega
    by_cases hlt : j < n
    · have hjn : (j : Int) < n := by omega
      obtain ⟨y0, hy0⟩ : ∃ y, mtx (z + 3 * j + 2) = y := ⟨_, rfl⟩
      have HY0 : Hid (mtx (z + 3 * j + 2) = y0) := hy0
      rcases h.later hb with h0 | ⟨g, cur, rfl, hg, hall⟩
      · omega
      obtain ⟨r0, r1, r2⟩ := hall j hlt
      rw [show ((z + 3 * j : Nat) : Int) = K from by omega] at r0
      have c0 : wr.cell? ⟨g, j * 3, none⟩ = some (.int .i64 K) := (cell_of_row _ _ _ _ _ _ hg).trans r0
      rw [show ((z + 3 * j + 1 : Nat) : Int) = K + 1 from by omega] at r1
      have c1 : wr.cell? ⟨g, j * 3 + 1, none⟩ = some (.int .i64 (K + 1)) := (cell_of_row _ _ _ _ _ _ hg).trans r1
      rw [hy0] at r2
      have c2 : wr.cell? ⟨g, j * 3 + 2, none⟩ = some (.string y0) := (cell_of_row _ _ _ _ _ _ hg).trans r2
      clear hy0 hK hg hall r0 r1 r2
      have e0 := eqS_same y0
      go_upto_region 10 with (fail)
      refine wp_region_held_drew (S := fun x => Below wr.heap.size wr x) (by kernel_rfl) (bdrewR _) (fun hHeld => ?_)
      refine' wpAnyH_take (i := 0) (oi := ({ dst := some 30, op := Op.move (Operand.tmp 0), type := 23, pos := "exact.go:556", after := #[], guard := none } : Oper)) (v := _) rfl (by kernel_rfl) (by kernel_rfl) (by kernel_rfl) (fun _ _ _ h => h) (Or.inl ⟨by rfl, fun x hSw => ?hyz2_0⟩) hHeld ?restz2_0
      case hyz2_0 =>
        have k0 := keepB hSw c0; have k1 := keepB hSw c1; have k2 := keepB hSw c2
        go_simp
        try with_reducible rfl
      try simp only [Act.put, List.setIfInBounds_toArray, List.set_cons_zero, List.set_cons_succ]
      refine' wpAnyH_take (i := 1) (oi := ({ dst := some 31, op := Op.move (Operand.tmp 5), type := 3, pos := "exact.go:556", after := #[], guard := none } : Oper)) (v := _) rfl (by kernel_rfl) (by kernel_rfl) (by kernel_rfl) (fun _ _ _ h => h) (Or.inl ⟨by rfl, fun x hSw => ?hyz2_1⟩) hHeld ?restz2_1
      case hyz2_1 =>
        have k0 := keepB hSw c0; have k1 := keepB hSw c1; have k2 := keepB hSw c2
        go_simp
        try with_reducible rfl
      try simp only [Act.put, List.setIfInBounds_toArray, List.set_cons_zero, List.set_cons_succ]
      refine' wpAnyH_take (i := 2) (oi := ({ dst := some 32, op := Op.indexAddr 23 (Operand.tmp 30) (Operand.tmp 31), type := 0, pos := "exact.go:556", after := #[{ on := 0, ground := Ground.data }, { on := 1, ground := Ground.data }], guard := none } : Oper)) (v := _) rfl (by kernel_rfl) (by kernel_rfl) (by kernel_rfl) (fun _ _ _ h => h) (Or.inl ⟨by rfl, fun x hSw => ?hyz2_2⟩) hHeld ?restz2_2
      case hyz2_2 =>
        have k0 := keepB hSw c0; have k1 := keepB hSw c1; have k2 := keepB hSw c2
        go_simp
        try with_reducible rfl
      try simp only [Act.put, List.setIfInBounds_toArray, List.set_cons_zero, List.set_cons_succ]
      refine' wpAnyH_take (i := 3) (oi := ({ dst := some 33, op := Op.fieldAddr 51 (Operand.tmp 32) 2, type := 0, pos := "exact.go:556", after := #[{ on := 2, ground := Ground.data }], guard := none } : Oper)) (v := _) rfl (by kernel_rfl) (by kernel_rfl) (by kernel_rfl) (fun _ _ _ h => h) (Or.inl ⟨by rfl, fun x hSw => ?hyz2_3⟩) hHeld ?restz2_3
      case hyz2_3 =>
        have k0 := keepB hSw c0; have k1 := keepB hSw c1; have k2 := keepB hSw c2
        go_simp
        try with_reducible rfl
      try simp only [Act.put, List.setIfInBounds_toArray, List.set_cons_zero, List.set_cons_succ]
      refine' wpAnyH_take (i := 4) (oi := ({ dst := some 34, op := Op.load 9 (Operand.tmp 33), type := 9, pos := "exact.go:556", after := #[{ on := 3, ground := Ground.data }], guard := none } : Oper)) (v := _) rfl (by kernel_rfl) (by kernel_rfl) (by kernel_rfl) (fun _ _ _ h => h) (Or.inl ⟨by rfl, fun x hSw => ?hyz2_4⟩) hHeld ?restz2_4
      case hyz2_4 =>
        have k0 := keepB hSw c0; have k1 := keepB hSw c1; have k2 := keepB hSw c2
        go_simp
        try with_reducible rfl
      try simp only [Act.put, List.setIfInBounds_toArray, List.set_cons_zero, List.set_cons_succ]
      refine' wpAnyH_take (i := 5) (oi := ({ dst := some 35, op := Op.move (Operand.tmp 1), type := 3, pos := "exact.go:556", after := #[], guard := none } : Oper)) (v := _) rfl (by kernel_rfl) (by kernel_rfl) (by kernel_rfl) (fun _ _ _ h => h) (Or.inl ⟨by rfl, fun x hSw => ?hyz2_5⟩) hHeld ?restz2_5
      case hyz2_5 =>
        have k0 := keepB hSw c0; have k1 := keepB hSw c1; have k2 := keepB hSw c2
        go_simp
        try with_reducible rfl
      try simp only [Act.put, List.setIfInBounds_toArray, List.set_cons_zero, List.set_cons_succ]
      refine wpAnyH_ready (rs := [6]) (by kernel_rfl) (by simp) ?_
      refine AllReadyH.cons (o := ({ dst := some 36, op := Op.call { callee := Callee.value (Operand.func 79), args := #[Operand.tmp 35], argTypes := #[3] }, type := 9, pos := "exact.go:556", after := #[{ on := 5, ground := Ground.data }], guard := none } : Oper)) rfl (fun K hK => ?_) AllReadyH.nil
      go_simp
      refine (markText_as (z + 3 * j + 2) _ _ (by have := HK.out; omega) (by omega) (by omega) y0 HY0.out).mono ?_
      rintro e w2 ⟨rfl, hb2⟩
      refine hK.out _ _ (bstep hHeld hb2) (fun hHeld => ?_)
      clear hK K
      try simp only [Act.put, List.setIfInBounds_toArray, List.set_cons_zero, List.set_cons_succ]
      refine' wpAnyH_take (i := 7) (oi := ({ dst := some 37, op := Op.binOp BinOp.neq 9 (Operand.tmp 34) (Operand.tmp 36) 9, type := 4, pos := "exact.go:556", after := #[{ on := 4, ground := Ground.data }, { on := 6, ground := Ground.data }], guard := none } : Oper)) (v := _) rfl (by kernel_rfl) (by kernel_rfl) (by kernel_rfl) (fun _ _ _ h => h) (Or.inl ⟨by rfl, fun x hSw => ?hyz2_7⟩) hHeld ?restz2_7
      case hyz2_7 =>
        have k0 := keepB hSw c0; have k1 := keepB hSw c1; have k2 := keepB hSw c2
        go_simp
        try with_reducible rfl
      try simp only [Act.put, List.setIfInBounds_toArray, List.set_cons_zero, List.set_cons_succ]
      refine wpAnyH_done (by kernel_rfl) ?_ _
      have k0 := keepB hHeld c0
      have k1 := keepB hHeld c1
      have k2 := keepB hHeld c2
      go_wp2
      go_roundw
      case rel => exact ⟨j + 1, _, rfl, by have := HK.out; omega, by omega, by go_num, bstep hb hHeld⟩
      case measure => simp [intOf]; omega
    · obtain rfl : j = n := by omega
      clear hK
      go_wp2
      go_ret
      exact ⟨by rw [HK.out]; rfl, hb⟩
set_option maxRecDepth 20000 in
set_option maxHeartbeats 8000000 in
theorem heldIt (a : Option Addr) (n c z : Nat) (w : World) (h : M3 w 85 a n z) (hz0 : 0 < z) (hz : z + 3 * n < 9000000) :
    Calls Tryz.prog 31 #[.slice a n c, .int .i64 (z : Int)] w fun e w' => e = .returned (.int .i64 ((z + 3 * n : Nat) : Int)) ∧ Below w.heap.size w w' := by
  have hb0 := Below.refl w.heap.size w
  go_enter Tryz.func31, Tryz.ntmps31
  go_wp2
  go_loopw [1, 5] (fun k i wr => ∃ (j : Nat) (K : Int), k = .int .i64 K ∧ K = ((z + 3 * j : Nat) : Int) ∧ j ≤ n ∧ i = .int .i64 j ∧ Below w.heap.size w wr) (fun _ i _ => n - (intOf i).toNat)
  case atStart => exact ⟨0, _, rfl, by omega, by omega, rfl, hb0⟩
  case round =>
    obtain ⟨j, K, rfl, hK, hj, rfl, hb⟩ := hrel
    have HK : Hid (K = ((z + 3 * j : Nat) : Int)) := hK
    have hK0 : 0 < K := by omega
    have hK1 : K < 9000000 := by omega
    by_cases hlt : j < n
    · have hjn : (j : Int) < n := by omega
      obtain ⟨y0, hy0⟩ : ∃ y, mtx (z + 3 * j + 2) = y := ⟨_, rfl⟩
      have HY0 : Hid (mtx (z + 3 * j + 2) = y0) := hy0
      rcases h.later hb with h0 | ⟨g, cur, rfl, hg, hall⟩
      · omega
      obtain ⟨r0, r1, r2⟩ := hall j hlt
      rw [show ((z + 3 * j : Nat) : Int) = K from by omega] at r0
      have c0 : wr.cell? ⟨g, j * 3, none⟩ = some (.int .i64 K) := (cell_of_row _ _ _ _ _ _ hg).trans r0
      rw [show ((z + 3 * j + 1 : Nat) : Int) = K + 1 from by omega] at r1
      have c1 : wr.cell? ⟨g, j * 3 + 1, none⟩ = some (.int .i64 (K + 1)) := (cell_of_row _ _ _ _ _ _ hg).trans r1
      rw [hy0] at r2
      have c2 : wr.cell? ⟨g, j * 3 + 2, none⟩ = some (.string y0) := (cell_of_row _ _ _ _ _ _ hg).trans r2
      clear hy0 hK hg hall r0 r1 r2
      have e0 := eqS_same y0
      go_upto_region 10 with (fail)
      refine wp_region_held_drew (S := fun x => Below wr.heap.size wr x) (by kernel_rfl) (bdrewR _) (fun hHeld => ?_)
      refine' wpAnyH_take (i := 0) (oi := ({ dst := some 30, op := Op.move (Operand.tmp 0), type := 24, pos := "exact.go:586", after := #[], guard := none } : Oper)) (v := _) rfl (by kernel_rfl) (by kernel_rfl) (by kernel_rfl) (fun _ _ _ h => h) (Or.inl ⟨by rfl, fun x hSw => ?hyz3_0⟩) hHeld ?restz3_0
      case hyz3_0 =>
        have k0 := keepB hSw c0; have k1 := keepB hSw c1; have k2 := keepB hSw c2
        go_simp
        try with_reducible rfl
      try simp only [Act.put, List.setIfInBounds_toArray, List.set_cons_zero, List.set_cons_succ]
      refine' wpAnyH_take (i := 1) (oi := ({ dst := some 31, op := Op.move (Operand.tmp 5), type := 3, pos := "exact.go:586", after := #[], guard := none } : Oper)) (v := _) rfl (by kernel_rfl) (by kernel_rfl) (by kernel_rfl) (fun _ _ _ h => h) (Or.inl ⟨by rfl, fun x hSw => ?hyz3_1⟩) hHeld ?restz3_1
      case hyz3_1 =>
        have k0 := keepB hSw c0; have k1 := keepB hSw c1; have k2 := keepB hSw c2
        go_simp
        try with_reducible rfl
      try simp only [Act.put, List.setIfInBounds_toArray, List.set_cons_zero, List.set_cons_succ]
      refine' wpAnyH_take (i := 2) (oi := ({ dst := some 32, op := Op.indexAddr 24 (Operand.tmp 30) (Operand.tmp 31), type := 0, pos := "exact.go:586", after := #[{ on := 0, ground := Ground.data }, { on := 1, ground := Ground.data }], guard := none } : Oper)) (v := _) rfl (by kernel_rfl) (by kernel_rfl) (by kernel_rfl) (fun _ _ _ h => h) (Or.inl ⟨by rfl, fun x hSw => ?hyz3_2⟩) hHeld ?restz3_2
      case hyz3_2 =>
        have k0 := keepB hSw c0; have k1 := keepB hSw c1; have k2 := keepB hSw c2
        go_simp
        try with_reducible rfl
      try simp only [Act.put, List.setIfInBounds_toArray, List.set_cons_zero, List.set_cons_succ]
      refine' wpAnyH_take (i := 3) (oi := ({ dst := some 33, op := Op.fieldAddr 85 (Operand.tmp 32) 2, type := 0, pos := "exact.go:586", after := #[{ on := 2, ground := Ground.data }], guard := none } : Oper)) (v := _) rfl (by kernel_rfl) (by kernel_rfl) (by kernel_rfl) (fun _ _ _ h => h) (Or.inl ⟨by rfl, fun x hSw => ?hyz3_3⟩) hHeld ?restz3_3
      case hyz3_3 =>
        have k0 := keepB hSw c0; have k1 := keepB hSw c1; have k2 := keepB hSw c2
        go_simp
        try with_reducible rfl
      try simp only [Act.put, List.setIfInBounds_toArray, List.set_cons_zero, List.set_cons_succ]
      refine' wpAnyH_take (i := 4) (oi := ({ dst := some 34, op := Op.load 9 (Operand.tmp 33), type := 9, pos := "exact.go:586", after := #[{ on := 3, ground := Ground.data }], guard := none } : Oper)) (v := _) rfl (by kernel_rfl) (by kernel_rfl) (by kernel_rfl) (fun _ _ _ h => h) (Or.inl ⟨by rfl, fun x hSw => ?hyz3_4⟩) hHeld ?restz3_4
      case hyz3_4 =>
        have k0 := keepB hSw c0; have k1 := keepB hSw c1; have k2 := keepB hSw c2
        go_simp
        try with_reducible rfl
      try simp only [Act.put, List.setIfInBounds_toArray, List.set_cons_zero, List.set_cons_succ]
      refine' wpAnyH_take (i := 5) (oi := ({ dst := some 35, op := Op.move (Operand.tmp 1), type := 3, pos := "exact.go:586", after := #[], guard := none } : Oper)) (v := _) rfl (by kernel_rfl) (by kernel_rfl) (by kernel_rfl) (fun _ _ _ h => h) (Or.inl ⟨by rfl, fun x hSw => ?hyz3_5⟩) hHeld ?restz3_5
      case hyz3_5 =>
        have k0 := keepB hSw c0; have k1 := keepB hSw c1; have k2 := keepB hSw c2
        go_simp
        try with_reducible rfl
      try simp only [Act.put, List.setIfInBounds_toArray, List.set_cons_zero, List.set_cons_succ]
      refine wpAnyH_ready (rs := [6]) (by kernel_rfl) (by simp) ?_
      refine AllReadyH.cons (o := ({ dst := some 36, op := Op.call { callee := Callee.value (Operand.func 79), args := #[Operand.tmp 35], argTypes := #[3] }, type := 9, pos := "exact.go:586", after := #[{ on := 5, ground := Ground.data }], guard := none } : Oper)) rfl (fun K hK => ?_) AllReadyH.nil
      go_simp
      refine (markText_as (z + 3 * j + 2) _ _ (by have := HK.out; omega) (by omega) (by omega) y0 HY0.out).mono ?_
      rintro e w2 ⟨rfl, hb2⟩
      refine hK.out _ _ (bstep hHeld hb2) (fun hHeld => ?_)
      clear hK K
      try simp only [Act.put, List.setIfInBounds_toArray, List.set_cons_zero, List.set_cons_succ]
      refine' wpAnyH_take (i := 7) (oi := ({ dst := some 37, op := Op.binOp BinOp.neq 9 (Operand.tmp 34) (Operand.tmp 36) 9, type := 4, pos := "exact.go:586", after := #[{ on := 4, ground := Ground.data }, { on := 6, ground := Ground.data }], guard := none } : Oper)) (v := _) rfl (by kernel_rfl) (by kernel_rfl) (by kernel_rfl) (fun _ _ _ h => h) (Or.inl ⟨by rfl, fun x hSw => ?hyz3_7⟩) hHeld ?restz3_7
      case hyz3_7 =>
        have k0 := keepB hSw c0; have k1 := keepB hSw c1; have k2 := keepB hSw c2
        go_simp
        try with_reducible rfl
      try simp only [Act.put, List.setIfInBounds_toArray, List.set_cons_zero, List.set_cons_succ]
      refine wpAnyH_done (by kernel_rfl) ?_ _
      have k0 := keepB hHeld c0
      have k1 := keepB hHeld c1
      have k2 := keepB hHeld c2
      go_wp2
      go_roundw
      case rel => exact ⟨j + 1, _, rfl, by have := HK.out; omega, by omega, by go_num, bstep hb hHeld⟩
      case measure => simp [intOf]; omega
    · obtain rfl : j = n := by omega
      clear hK
      go_wp2
      go_ret
      exact ⟨by rw [HK.out]; rfl, hb⟩
end Go.Proofs.YtnbgdfhfmbgbhaaGreatDoor
namespace Go.Proofs.YtnbgdfhfmbgbhaaGreatDoor
open Go.RowKit Go.Maps Go.WideMaps
theorem Dj.symm {a a' : Option Addr} {n n' : Nat} (h : Dj a n a' n') : Dj a' n' a n := by
  unfold Dj at *
  rcases h with h | h
  · cases e : bk a' n' with
    | none => exact Or.inl rfl
    | some x => rw [h]; exact Or.inr (by simp)
  · exact Or.inr (fun e => h e.symm)
/-- The sum of the first lengths. -/
def sm (M : Nat → Nat) : Nat → Nat
  | 0 => 0
  | k + 1 => sm M k + M k
theorem sm_succ (M : Nat → Nat) (k : Nat) : sm M (k + 1) = sm M k + M k := rfl
theorem sm_le (M : Nat → Nat) {k : Nat} : ∀ {n : Nat}, k ≤ n → sm M k ≤ sm M n
  | 0, h => by obtain rfl : k = 0 := by omega
               exact Nat.le_refl _
  | n + 1, h => by
    by_cases e : k = n + 1
    · subst e; exact Nat.le_refl _
    · have := sm_le M (k := k) (n := n) (by omega)
      rw [sm_succ]
      omega
theorem markClA (lo hi : Nat) (a : Option Addr) (n c z : Nat) (Z : Int) (hZ : Z = (z : Int)) (w : World) (h : WR w lo hi 49 2 a n) (hz0 : 0 < z) (hz : z + 2 * n < 9000000) :
    Calls Tryz.prog 25 #[.slice a n c, .int .i64 Z] w fun e w' => ∃ K : Int, e = .returned (.int .i64 K) ∧ Hid (K = ((z + 2 * n : Nat) : Int)) ∧ MC w' a n z ∧ w.grownBy w' (bk a n) := by
  subst hZ
  refine (markCl lo hi a n c z w h hz0 hz).mono ?_
  rintro e w' ⟨rfl, h1, h2⟩
  exact ⟨_, rfl, rfl, h1, h2⟩
theorem markVlA (lo hi : Nat) (a : Option Addr) (n c z : Nat) (Z : Int) (hZ : Z = (z : Int)) (w : World) (h : WR w lo hi 51 3 a n) (hz0 : 0 < z) (hz : z + 3 * n < 9000000) :
    Calls Tryz.prog 26 #[.slice a n c, .int .i64 Z] w fun e w' => ∃ K : Int, e = .returned (.int .i64 K) ∧ Hid (K = ((z + 3 * n : Nat) : Int)) ∧ M3 w' 51 a n z ∧ w.grownBy w' (bk a n) := by
  subst hZ
  refine (markVl lo hi a n c z w h hz0 hz).mono ?_
  rintro e w' ⟨rfl, h1, h2⟩
  exact ⟨_, rfl, rfl, h1, h2⟩
theorem markItA (lo hi : Nat) (a : Option Addr) (n c z : Nat) (Z : Int) (hZ : Z = (z : Int)) (w : World) (h : WR w lo hi 85 3 a n) (hz0 : 0 < z) (hz : z + 3 * n < 9000000) :
    Calls Tryz.prog 27 #[.slice a n c, .int .i64 Z] w fun e w' => ∃ K : Int, e = .returned (.int .i64 K) ∧ Hid (K = ((z + 3 * n : Nat) : Int)) ∧ M3 w' 85 a n z ∧ w.grownBy w' (bk a n) := by
  subst hZ
  refine (markIt lo hi a n c z w h hz0 hz).mono ?_
  rintro e w' ⟨rfl, h1, h2⟩
  exact ⟨_, rfl, rfl, h1, h2⟩
theorem heldClA (a : Option Addr) (n c z : Nat) (Z : Int) (hZ : Z = (z : Int)) (w : World) (h : MC w a n z) (hz0 : 0 < z) (hz : z + 2 * n < 9000000) :
    Calls Tryz.prog 29 #[.slice a n c, .int .i64 Z] w fun e w' => ∃ K : Int, e = .returned (.int .i64 K) ∧ Hid (K = ((z + 2 * n : Nat) : Int)) ∧ Below w.heap.size w w' := by
  subst hZ
  refine (heldCl a n c z w h hz0 hz).mono ?_
  rintro e w' ⟨rfl, h1⟩
  exact ⟨_, rfl, rfl, h1⟩
theorem heldVlA (a : Option Addr) (n c z : Nat) (Z : Int) (hZ : Z = (z : Int)) (w : World) (h : M3 w 51 a n z) (hz0 : 0 < z) (hz : z + 3 * n < 9000000) :
    Calls Tryz.prog 30 #[.slice a n c, .int .i64 Z] w fun e w' => ∃ K : Int, e = .returned (.int .i64 K) ∧ Hid (K = ((z + 3 * n : Nat) : Int)) ∧ Below w.heap.size w w' := by
  subst hZ
  refine (heldVl a n c z w h hz0 hz).mono ?_
  rintro e w' ⟨rfl, h1⟩
  exact ⟨_, rfl, rfl, h1⟩
theorem heldItA (a : Option Addr) (n c z : Nat) (Z : Int) (hZ : Z = (z : Int)) (w : World) (h : M3 w 85 a n z) (hz0 : 0 < z) (hz : z + 3 * n < 9000000) :
    Calls Tryz.prog 31 #[.slice a n c, .int .i64 Z] w fun e w' => ∃ K : Int, e = .returned (.int .i64 K) ∧ Hid (K = ((z + 3 * n : Nat) : Int)) ∧ Below w.heap.size w w' := by
  subst hZ
  refine (heldIt a n c z w h hz0 hz).mono ?_
  rintro e w' ⟨rfl, h1⟩
  exact ⟨_, rfl, rfl, h1⟩
/-- Only the blocks of these lists have turned. -/
structure OutG (n : Nat) (A : Nat → Option Addr) (M : Nat → Nat) (w w' : World) : Prop where
  os : w'.os = w.os
  tape : w'.tape = w.tape
  output : w'.output = w.output
  size : w.heap.size ≤ w'.heap.size
  block : ∀ b, b < w.heap.size → (∀ i, i < n → bk (A i) (M i) ≠ some b) → w'.heap[b]? = w.heap[b]?
theorem OutG.refl (n : Nat) (A : Nat → Option Addr) (M : Nat → Nat) (w : World) : OutG n A M w w := ⟨rfl, rfl, rfl, Nat.le_refl _, fun _ _ _ => rfl⟩
theorem OutG.step {n : Nat} {A : Nat → Option Addr} {M : Nat → Nat} {w a b : World} (h : OutG n A M w a) {j : Nat} (hj : j < n) (g : a.grownBy b (bk (A j) (M j))) : OutG n A M w b :=
  ⟨g.os.trans h.os, g.tape.trans h.tape, g.output.trans h.output, Nat.le_trans h.size g.size, fun k hk hn => (g.block k (Nat.lt_of_lt_of_le hk h.size) (fun e => hn j hj e.symm)).trans (h.block k hk hn)⟩
theorem OutG.row {n : Nat} {A : Nat → Option Addr} {M : Nat → Nat} {w w' : World} (h : OutG n A M w w') {q : Nat} {o : Obj} (hq : w.heap[q]? = some o) (hn : ∀ i, i < n → bk (A i) (M i) ≠ some q) : w'.heap[q]? = some o :=
  (h.block q (Array.getElem?_eq_some_iff.1 hq).1 hn).trans hq
set_option maxRecDepth 20000 in
set_option maxHeartbeats 8000000 in
theorem markOut (lo hi g n c z : Nat) (Z : Int) (hZ : Z = (z : Int)) (cur : Array Value) (A : Nat → Option Addr) (C M : Nat → Nat) (w : World) (hrow : w.heap[g]? = some (.cells cur 24 (0, 0))) (hat : ∀ i, i < n → cur[i]? = some (.slice (A i) (M i) (C i))) (hw : ∀ i, i < n → WR w lo hi 85 3 (A i) (M i)) (hji : ∀ i, i < n → bk (A i) (M i) ≠ some g) (hjik : ∀ i k, k < i → i < n → Dj (A i) (M i) (A k) (M k)) (hz0 : 0 < z) (hz : z + 3 * sm M n < 9000000) (hn : n ≤ 1048576) :
    Calls Tryz.prog 28 #[.slice (some ⟨g, 0, none⟩) n c, .int .i64 Z] w fun e w' => ∃ K : Int, e = .returned (.int .i64 K) ∧ Hid (K = ((z + 3 * sm M n : Nat) : Int)) ∧ w'.heap[g]? = some (.cells cur 24 (0, 0)) ∧ (∀ i, i < n → M3 w' 85 (A i) (M i) (z + 3 * sm M i)) ∧ OutG n A M w w' := by
  go_enter Tryz.func28, Tryz.ntmps28
  go_wp2
  go_loopw [1, 5] (fun k i wr => ∃ (j : Nat) (K : Int), k = .int .i64 K ∧ K = ((z + 3 * sm M j : Nat) : Int) ∧ j ≤ n ∧ i = .int .i64 j ∧ wr.heap[g]? = some (.cells cur 24 (0, 0)) ∧ (∀ i, i < j → M3 wr 85 (A i) (M i) (z + 3 * sm M i)) ∧ (∀ i, j ≤ i → i < n → WR wr lo hi 85 3 (A i) (M i)) ∧ OutG n A M w wr) (fun _ i _ => n - (intOf i).toNat)
  case atStart => exact ⟨0, _, rfl, hZ, by omega, rfl, hrow, fun i hi => by omega, fun i _ hi => hw i hi, OutG.refl _ _ _ _⟩
  case round =>
    obtain ⟨j, K, rfl, hK, hj, rfl, hg, hM, hW, hG⟩ := hrel
    have HK : Hid (K = ((z + 3 * sm M j : Nat) : Int)) := hK
    have HM : Hid (∀ i, i < j → M3 wr 85 (A i) (M i) (z + 3 * sm M i)) := hM
    have HW : Hid (∀ i, j ≤ i → i < n → WR wr lo hi 85 3 (A i) (M i)) := hW
    have HG : Hid (wr.heap[g]? = some (.cells cur 24 (0, 0))) := hg
    by_cases hlt : j < n
    · have hjn : (j : Int) < n := by omega
      have c0 : wr.cell? ⟨g, j, none⟩ = some (.slice (A j) (M j) (C j)) := (cell_of_row _ _ _ _ _ _ hg).trans (hat j hlt)
      have hs1 := sm_le M (k := j + 1) (n := n) hlt
      rw [sm_succ] at hs1
      have hC := markItA lo hi (A j) (M j) (C j) (z + 3 * sm M j) K hK wr (hW j (Nat.le_refl _) hlt) (by omega) (by omega)
      clear hK hM hW hg
      go_wp2_with (go_at_call 27; refine hC.mono ?_; rintro e w2 ⟨K2, rfl, HK2, hM2, hg2⟩)
      go_roundw
      case rel =>
        refine ⟨j + 1, K2, rfl, ?_, by omega, by go_num, rowG' HG.out hg2 (fun e => hji j hlt e.symm), fun i hi => ?_, fun i h1 h2 => (HW.out i (by omega) h2).gr hg2 (hjik i j (by omega) h2), hG.step hlt hg2⟩
        · rw [HK2.out, sm_succ]; omega
        · by_cases e : i = j
          · subst e; exact hM2
          · exact (HM.out i (by omega)).gr hg2 (hjik j i (by omega) hlt).symm
      case measure => simp [intOf]; omega
    · obtain rfl : j = n := by omega
      clear hK hM hW hg
      go_wp2
      go_ret
      exact ⟨K, rfl, HK, HG.out, HM.out, hG⟩
set_option maxRecDepth 20000 in
set_option maxHeartbeats 8000000 in
theorem markOut0 (a : Option Addr) (c : Nat) (Z : Int) (w : World) : Calls Tryz.prog 28 #[.slice a 0 c, .int .i64 Z] w fun e w' => e = .returned (.int .i64 Z) ∧ w' = w := by
  go_enter Tryz.func28, Tryz.ntmps28
  go_wp2
  go_loop [1, 5] (fun k i => k = .int .i64 Z ∧ i = .int .i64 0) (fun _ _ => 0)
  case atStart => exact ⟨rfl, rfl⟩
  case round =>
    obtain ⟨rfl, rfl⟩ := hrel
    go_wp2
    go_ret
    exact ⟨rfl, rfl⟩
set_option maxRecDepth 20000 in
set_option maxHeartbeats 8000000 in
theorem heldOut0 (a : Option Addr) (c : Nat) (Z : Int) (w : World) : Calls Tryz.prog 32 #[.slice a 0 c, .int .i64 Z] w fun e w' => e = .returned (.int .i64 Z) ∧ w' = w := by
  go_enter Tryz.func32, Tryz.ntmps32
  go_wp2
  go_loop [1, 5] (fun k i => k = .int .i64 Z ∧ i = .int .i64 0) (fun _ _ => 0)
  case atStart => exact ⟨rfl, rfl⟩
  case round =>
    obtain ⟨rfl, rfl⟩ := hrel
    go_wp2
    go_ret
    exact ⟨rfl, rfl⟩
set_option maxRecDepth 20000 in
set_option maxHeartbeats 8000000 in
theorem heldOut (g n c z : Nat) (Z : Int) (hZ : Z = (z : Int)) (cur : Array Value) (A : Nat → Option Addr) (C M : Nat → Nat) (w : World) (hrow : w.heap[g]? = some (.cells cur 24 (0, 0))) (hat : ∀ i, i < n → cur[i]? = some (.slice (A i) (M i) (C i))) (hM : ∀ i, i < n → M3 w 85 (A i) (M i) (z + 3 * sm M i)) (hz0 : 0 < z) (hz : z + 3 * sm M n < 9000000) (hn : n ≤ 1048576) :
    Calls Tryz.prog 32 #[.slice (some ⟨g, 0, none⟩) n c, .int .i64 Z] w fun e w' => ∃ K : Int, e = .returned (.int .i64 K) ∧ Hid (K = ((z + 3 * sm M n : Nat) : Int)) ∧ Below w.heap.size w w' := by
  have hb0 := Below.refl w.heap.size w
  have HM : Hid (∀ i, i < n → M3 w 85 (A i) (M i) (z + 3 * sm M i)) := hM
  have HG : Hid (w.heap[g]? = some (.cells cur 24 (0, 0))) := hrow
  clear hM hrow
  go_enter Tryz.func32, Tryz.ntmps32
  go_wp2
  go_loopw [1, 5] (fun k i wr => ∃ (j : Nat) (K : Int), k = .int .i64 K ∧ K = ((z + 3 * sm M j : Nat) : Int) ∧ j ≤ n ∧ i = .int .i64 j ∧ Below w.heap.size w wr) (fun _ i _ => n - (intOf i).toNat)
  case atStart => exact ⟨0, _, rfl, hZ, by omega, rfl, hb0⟩
  case round =>
    obtain ⟨j, K, rfl, hK, hj, rfl, hb⟩ := hrel
    have HK : Hid (K = ((z + 3 * sm M j : Nat) : Int)) := hK
    by_cases hlt : j < n
    · have hjn : (j : Int) < n := by omega
      have c0 : wr.cell? ⟨g, j, none⟩ = some (.slice (A j) (M j) (C j)) := (cell_of_row _ _ _ _ _ _ (rowL HG.out hb)).trans (hat j hlt)
      have hs1 := sm_le M (k := j + 1) (n := n) hlt
      rw [sm_succ] at hs1
      have hC := heldItA (A j) (M j) (C j) (z + 3 * sm M j) K hK wr ((HM.out j hlt).later hb) (by omega) (by omega)
      clear hK
      go_wp2_with (go_at_call 31; refine hC.mono ?_; rintro e w2 ⟨K2, rfl, HK2, hb2⟩; have hK2 : 0 ≤ K2 := (by rw [HK2.out]; omega))
      go_roundw
      case rel =>
        refine ⟨j + 1, K2, rfl, ?_, by omega, by go_num, bstep hb hb2⟩
        rw [HK2.out, sm_succ]; omega
      case measure => simp [intOf]; omega
    · obtain rfl : j = n := by omega
      clear hK
      go_wp2
      go_ret
      exact ⟨K, rfl, HK, hb⟩
end Go.Proofs.YtnbgdfhfmbgbhaaGreatDoor
namespace Go.Proofs.YtnbgdfhfmbgbhaaGreatDoor
open Go.RowKit Go.Maps Go.WideMaps
theorem WR.ne {w : World} {lo hi : Nat} {t : TypeId} {z : Nat} {a : Option Addr} {n Q : Nat} (h : WR w lo hi t z a n) (hQ : Q < lo ∨ hi ≤ Q) : some Q ≠ bk a n := by
  rcases h with rfl | ⟨g, cur, rfl, h2, h3, -⟩
  · rw [bk_zero]; simp
  · by_cases e : n = 0
    · subst e; rw [bk_zero]; simp
    · rw [bk_some e]
      intro e'
      have : Q = g := Option.some.inj e'
      omega
theorem WR.later {w w' : World} {lo hi : Nat} {t : TypeId} {z : Nat} {a : Option Addr} {n : Nat} (h : WR w lo hi t z a n) (hb : Below w.heap.size w w') : WR w' lo hi t z a n := h.kp (KpR.below hb)
theorem gnone {w w' : World} {a : Option Addr} (g : w.grownBy w' (bk a 0)) : Below w.heap.size w w' := ⟨g.os, g.tape, g.output, g.size, fun k hk => g.block k hk (by rw [bk_zero]; simp)⟩
/-- Only blocks between two marks of the heap have turned. -/
structure Mid (lo hi : Nat) (w w' : World) : Prop where
  os : w'.os = w.os
  tape : w'.tape = w.tape
  output : w'.output = w.output
  size : w.heap.size ≤ w'.heap.size
  block : ∀ b, b < w.heap.size → b < lo ∨ hi ≤ b → w'.heap[b]? = w.heap[b]?
theorem Mid.trans {lo hi : Nat} {a b c : World} (h : Mid lo hi a b) (k : Mid lo hi b c) : Mid lo hi a c :=
  ⟨k.os.trans h.os, k.tape.trans h.tape, k.output.trans h.output, Nat.le_trans h.size k.size, fun x hx hn => (k.block x (Nat.lt_of_lt_of_le hx h.size) hn).trans (h.block x hx hn)⟩
theorem Mid.below {lo hi : Nat} {w w' : World} (h : Below w.heap.size w w') : Mid lo hi w w' := ⟨h.os, h.tape, h.output, h.size, fun k hk _ => h.block k hk⟩
theorem Mid.grown {lo hi : Nat} {w w' V : World} {t : TypeId} {z : Nat} {a : Option Addr} {n : Nat} (g : w.grownBy w' (bk a n)) (h : WR V lo hi t z a n) : Mid lo hi w w' := ⟨g.os, g.tape, g.output, g.size, fun k hk hn => g.block k hk (h.ne hn)⟩
theorem Mid.outs {lo hi n : Nat} {A : Nat → Option Addr} {M : Nat → Nat} {w w' V : World} {t : TypeId} {z : Nat} (g : OutG n A M w w') (h : ∀ i, i < n → WR V lo hi t z (A i) (M i)) : Mid lo hi w w' := ⟨g.os, g.tape, g.output, g.size, fun k hk hn => g.block k hk (fun i hi e => (h i hi).ne hn e.symm)⟩
theorem Mid.row {lo hi : Nat} {w w' : World} (h : Mid lo hi w w') {q : Nat} {o : Obj} (hq : w.heap[q]? = some o) (hn : q < lo ∨ hi ≤ q) : w'.heap[q]? = some o := (h.block q (Array.getElem?_eq_some_iff.1 hq).1 hn).trans hq
theorem OutG.keep3 {n : Nat} {A : Nat → Option Addr} {M : Nat → Nat} {w w' : World} (h : OutG n A M w w') {t : TypeId} {a : Option Addr} {m k : Nat} (h3 : M3 w t a m k) (hd : ∀ i, i < n → Dj a m (A i) (M i)) : M3 w' t a m k := by
  by_cases e : m = 0
  · exact Or.inl e
  · rcases h3 with h3 | ⟨g, cur, rfl, h2, h3⟩
    · exact Or.inl h3
    · refine Or.inr ⟨g, cur, rfl, h.row h2 (fun i hi e2 => ?_), h3⟩
      have := hd i hi
      unfold Dj at this
      rw [bk_some e, e2] at this
      rcases this with h | h
      · cases h
      · exact h rfl
/-- The marks of a statement. -/
structure MkA (w : World) (d : St) (p : Sa) : Prop where
  n7 : d.n7 = 0
  c2 : MC w p.a2 d.n2 1
  c3 : M3 w 51 p.a3 d.n3 (1 + 2 * d.n2)
  c5 : M3 w 85 p.a5 d.n5 (1 + 2 * d.n2 + 3 * d.n3)
  c6 : M3 w 85 p.a6 d.n6 (1 + 2 * d.n2 + 3 * d.n3 + 3 * d.n5)
structure MkO (w : World) (d : St) (p : Sa) (g : Nat) (cur : Array Value) (A : Nat → Option Addr) (C : Nat → Nat) : Prop where
  a7 : p.a7 = some ⟨g, 0, none⟩
  row : w.heap[g]? = some (.cells cur 24 (0, 0))
  at' : ∀ i, i < d.n7 → cur[i]? = some (.slice (A i) (d.m7 i) (C i))
  m : ∀ i, i < d.n7 → M3 w 85 (A i) (d.m7 i) (1 + 3 * d.n6 + 3 * sm d.m7 i)
structure MkB (w : World) (d : St) (p : Sa) : Prop where
  n2 : d.n2 = 0
  n3 : d.n3 = 0
  n5 : d.n5 = 0
  c6 : M3 w 85 p.a6 d.n6 1
  ou : ∃ g cur A C, MkO w d p g cur A C
set_option maxRecDepth 20000 in
set_option maxHeartbeats 8000000 in
theorem markA (d : St) (p : Sa) (lo hi : Nat) (w : World) (h : WrA w lo hi d p) (hhi : hi ≤ w.heap.size) (hz : 1 + 2 * d.n2 + 3 * d.n3 + 3 * d.n5 + 3 * d.n6 < 9000000) :
    Calls Tryz.prog 8 #[.agg (cs8 d p), .int .i64 1] w fun e w' => ∃ K : Int, e = .returned (.int .i64 K) ∧ Hid (K = ((1 + 2 * d.n2 + 3 * d.n3 + 3 * d.n5 + 3 * d.n6 : Nat) : Int)) ∧ MkA w' d p ∧ Mid lo hi w w' := by
  have hb0 := bal w (.cells (cs8 d p) 27)
  have HQ0 : Hid ((w.alloc (.cells (cs8 d p) 27)).heap[w.heap.size]? = some (.cells (cs8 d p) 27 (0, 0))) := heap_alloc_new w _
  have h2 := h.c2.later hb0
  have h3 := h.c3.later hb0
  have h5 := h.c5.later hb0
  have h6 := h.c6.later hb0
  have hQ1 := h2.ne (Or.inr hhi)
  have hQ2 := h3.ne (Or.inr hhi)
  have hQ3 := h5.ne (Or.inr hhi)
  have hQ4 := h6.ne (Or.inr hhi)
  have n7 : Hid (d.n7 = 0) := h.n7
  have HD : Hid (WrA w lo hi d p) := h
  clear h
  go_enter Tryz.func8, Tryz.ntmps8
  go_wp2_with (first | (go_at_call 28; rw [n7.out]; refine (markOut0 p.a7 p.c7 K4 _).mono ?_; rintro e w5 ⟨rfl, rfl⟩) | (go_at_call 27; have _h := h6x; refine (markItA lo hi p.a6 d.n6 p.c6 (1 + 2 * d.n2 + 3 * d.n3 + 3 * d.n5) _ HK3.out _ h6x (by omega) (by omega)).mono ?_; rintro e w4 ⟨K4, rfl, HK4, hM4, hg4⟩; have HQ4 : Hid (w4.heap[w.heap.size]? = some (.cells (cs8 d p) 27 (0, 0))) := rowG' HQ3.out hg4 (hQ4); have m2x := m2'.gr hg4 HD.out.j26; have m3x := m3'.gr hg4 HD.out.j36; have m5x := hM3.gr hg4 HD.out.j56; have q4_2 : w4.cell? ⟨w.heap.size, 2, none⟩ = some (.slice p.a2 d.n2 p.c2) := (cell_of_row _ _ 2 _ _ _ HQ4.out).trans rfl; have q4_3 : w4.cell? ⟨w.heap.size, 3, none⟩ = some (.slice p.a3 d.n3 p.c3) := (cell_of_row _ _ 3 _ _ _ HQ4.out).trans rfl; have q4_5 : w4.cell? ⟨w.heap.size, 5, none⟩ = some (.slice p.a5 d.n5 p.c5) := (cell_of_row _ _ 5 _ _ _ HQ4.out).trans rfl; have q4_6 : w4.cell? ⟨w.heap.size, 6, none⟩ = some (.slice p.a6 d.n6 p.c6) := (cell_of_row _ _ 6 _ _ _ HQ4.out).trans rfl; have q4_7 : w4.cell? ⟨w.heap.size, 7, none⟩ = some (.slice p.a7 d.n7 p.c7) := (cell_of_row _ _ 7 _ _ _ HQ4.out).trans rfl) | (go_at_call 27; refine (markItA lo hi p.a5 d.n5 p.c5 (1 + 2 * d.n2 + 3 * d.n3) _ HK2.out _ h5'' (by omega) (by omega)).mono ?_; rintro e w3 ⟨K3, rfl, HK3, hM3, hg3⟩; have HQ3 : Hid (w3.heap[w.heap.size]? = some (.cells (cs8 d p) 27 (0, 0))) := rowG' HQ2.out hg3 (hQ3); have h6x := h6''.gr hg3 HD.out.j56.symm; have m2' := m2.gr hg3 HD.out.j25; have m3' := hM2.gr hg3 HD.out.j35; have q3_2 : w3.cell? ⟨w.heap.size, 2, none⟩ = some (.slice p.a2 d.n2 p.c2) := (cell_of_row _ _ 2 _ _ _ HQ3.out).trans rfl; have q3_3 : w3.cell? ⟨w.heap.size, 3, none⟩ = some (.slice p.a3 d.n3 p.c3) := (cell_of_row _ _ 3 _ _ _ HQ3.out).trans rfl; have q3_5 : w3.cell? ⟨w.heap.size, 5, none⟩ = some (.slice p.a5 d.n5 p.c5) := (cell_of_row _ _ 5 _ _ _ HQ3.out).trans rfl; have q3_6 : w3.cell? ⟨w.heap.size, 6, none⟩ = some (.slice p.a6 d.n6 p.c6) := (cell_of_row _ _ 6 _ _ _ HQ3.out).trans rfl; have q3_7 : w3.cell? ⟨w.heap.size, 7, none⟩ = some (.slice p.a7 d.n7 p.c7) := (cell_of_row _ _ 7 _ _ _ HQ3.out).trans rfl) | (go_at_call 26; refine (markVlA lo hi p.a3 d.n3 p.c3 (1 + 2 * d.n2) _ HK1.out _ h3' (by omega) (by omega)).mono ?_; rintro e w2 ⟨K2, rfl, HK2, hM2, hg2⟩; have HQ2 : Hid (w2.heap[w.heap.size]? = some (.cells (cs8 d p) 27 (0, 0))) := rowG' HQ1.out hg2 (hQ2); have h5'' := h5'.gr hg2 HD.out.j35.symm; have h6'' := h6'.gr hg2 HD.out.j36.symm; have m2 := hM1.gr hg2 HD.out.j23; have q2_2 : w2.cell? ⟨w.heap.size, 2, none⟩ = some (.slice p.a2 d.n2 p.c2) := (cell_of_row _ _ 2 _ _ _ HQ2.out).trans rfl; have q2_3 : w2.cell? ⟨w.heap.size, 3, none⟩ = some (.slice p.a3 d.n3 p.c3) := (cell_of_row _ _ 3 _ _ _ HQ2.out).trans rfl; have q2_5 : w2.cell? ⟨w.heap.size, 5, none⟩ = some (.slice p.a5 d.n5 p.c5) := (cell_of_row _ _ 5 _ _ _ HQ2.out).trans rfl; have q2_6 : w2.cell? ⟨w.heap.size, 6, none⟩ = some (.slice p.a6 d.n6 p.c6) := (cell_of_row _ _ 6 _ _ _ HQ2.out).trans rfl; have q2_7 : w2.cell? ⟨w.heap.size, 7, none⟩ = some (.slice p.a7 d.n7 p.c7) := (cell_of_row _ _ 7 _ _ _ HQ2.out).trans rfl) | (go_at_call 25; refine (markClA lo hi p.a2 d.n2 p.c2 1 _ rfl _ h2 (by omega) (by omega)).mono ?_; rintro e w1 ⟨K1, rfl, HK1, hM1, hg1⟩; have HQ1 : Hid (w1.heap[w.heap.size]? = some (.cells (cs8 d p) 27 (0, 0))) := rowG' HQ0.out hg1 (hQ1); have h3' := h3.gr hg1 HD.out.j23.symm; have h5' := h5.gr hg1 HD.out.j25.symm; have h6' := h6.gr hg1 HD.out.j26.symm; have q1_2 : w1.cell? ⟨w.heap.size, 2, none⟩ = some (.slice p.a2 d.n2 p.c2) := (cell_of_row _ _ 2 _ _ _ HQ1.out).trans rfl; have q1_3 : w1.cell? ⟨w.heap.size, 3, none⟩ = some (.slice p.a3 d.n3 p.c3) := (cell_of_row _ _ 3 _ _ _ HQ1.out).trans rfl; have q1_5 : w1.cell? ⟨w.heap.size, 5, none⟩ = some (.slice p.a5 d.n5 p.c5) := (cell_of_row _ _ 5 _ _ _ HQ1.out).trans rfl; have q1_6 : w1.cell? ⟨w.heap.size, 6, none⟩ = some (.slice p.a6 d.n6 p.c6) := (cell_of_row _ _ 6 _ _ _ HQ1.out).trans rfl; have q1_7 : w1.cell? ⟨w.heap.size, 7, none⟩ = some (.slice p.a7 d.n7 p.c7) := (cell_of_row _ _ 7 _ _ _ HQ1.out).trans rfl))
  go_ret
  refine ⟨K4, rfl, HK4, ⟨n7.out, m2x, m3x, m5x, hM4⟩, ?_⟩
  exact (Mid.below hb0).trans ((Mid.grown hg1 h2).trans ((Mid.grown hg2 h3).trans ((Mid.grown hg3 h5).trans (Mid.grown hg4 h6))))
set_option maxRecDepth 20000 in
set_option maxHeartbeats 8000000 in
theorem heldA (d : St) (p : Sa) (w : World) (h : MkA w d p) (hz : 1 + 2 * d.n2 + 3 * d.n3 + 3 * d.n5 + 3 * d.n6 < 9000000) :
    Calls Tryz.prog 9 #[.agg (cs8 d p), .int .i64 1] w fun e w' => ∃ K : Int, e = .returned (.int .i64 K) ∧ Hid (K = ((1 + 2 * d.n2 + 3 * d.n3 + 3 * d.n5 + 3 * d.n6 : Nat) : Int)) ∧ Below w.heap.size w w' := by
  have hb0 := bal w (.cells (cs8 d p) 27)
  have HQ0 : Hid ((w.alloc (.cells (cs8 d p) 27)).heap[w.heap.size]? = some (.cells (cs8 d p) 27 (0, 0))) := heap_alloc_new w _
  have n7 : Hid (d.n7 = 0) := h.n7
  go_enter Tryz.func9, Tryz.ntmps9
  go_wp2_with (first | (go_at_call 32; rw [n7.out]; refine (heldOut0 p.a7 p.c7 K4 _).mono ?_; rintro e w5 ⟨rfl, rfl⟩) | (go_at_call 31; have _h := B3; refine (heldItA p.a6 d.n6 p.c6 (1 + 2 * d.n2 + 3 * d.n3 + 3 * d.n5) _ HK3.out _ (h.c6.later B3) (by omega) (by omega)).mono ?_; rintro e w4 ⟨K4, rfl, HK4, hb4⟩; have hK4 : 0 ≤ K4 := (by rw [HK4.out]; omega); have HQ4 : Hid (w4.heap[w.heap.size]? = some (.cells (cs8 d p) 27 (0, 0))) := rowL HQ3.out hb4; have B4 := bstep B3 hb4; have q4_2 : w4.cell? ⟨w.heap.size, 2, none⟩ = some (.slice p.a2 d.n2 p.c2) := (cell_of_row _ _ 2 _ _ _ HQ4.out).trans rfl; have q4_3 : w4.cell? ⟨w.heap.size, 3, none⟩ = some (.slice p.a3 d.n3 p.c3) := (cell_of_row _ _ 3 _ _ _ HQ4.out).trans rfl; have q4_5 : w4.cell? ⟨w.heap.size, 5, none⟩ = some (.slice p.a5 d.n5 p.c5) := (cell_of_row _ _ 5 _ _ _ HQ4.out).trans rfl; have q4_6 : w4.cell? ⟨w.heap.size, 6, none⟩ = some (.slice p.a6 d.n6 p.c6) := (cell_of_row _ _ 6 _ _ _ HQ4.out).trans rfl; have q4_7 : w4.cell? ⟨w.heap.size, 7, none⟩ = some (.slice p.a7 d.n7 p.c7) := (cell_of_row _ _ 7 _ _ _ HQ4.out).trans rfl) | (go_at_call 31; refine (heldItA p.a5 d.n5 p.c5 (1 + 2 * d.n2 + 3 * d.n3) _ HK2.out _ (h.c5.later B2) (by omega) (by omega)).mono ?_; rintro e w3 ⟨K3, rfl, HK3, hb3⟩; have hK3 : 0 ≤ K3 := (by rw [HK3.out]; omega); have HQ3 : Hid (w3.heap[w.heap.size]? = some (.cells (cs8 d p) 27 (0, 0))) := rowL HQ2.out hb3; have B3 := bstep B2 hb3; have q3_2 : w3.cell? ⟨w.heap.size, 2, none⟩ = some (.slice p.a2 d.n2 p.c2) := (cell_of_row _ _ 2 _ _ _ HQ3.out).trans rfl; have q3_3 : w3.cell? ⟨w.heap.size, 3, none⟩ = some (.slice p.a3 d.n3 p.c3) := (cell_of_row _ _ 3 _ _ _ HQ3.out).trans rfl; have q3_5 : w3.cell? ⟨w.heap.size, 5, none⟩ = some (.slice p.a5 d.n5 p.c5) := (cell_of_row _ _ 5 _ _ _ HQ3.out).trans rfl; have q3_6 : w3.cell? ⟨w.heap.size, 6, none⟩ = some (.slice p.a6 d.n6 p.c6) := (cell_of_row _ _ 6 _ _ _ HQ3.out).trans rfl; have q3_7 : w3.cell? ⟨w.heap.size, 7, none⟩ = some (.slice p.a7 d.n7 p.c7) := (cell_of_row _ _ 7 _ _ _ HQ3.out).trans rfl) | (go_at_call 30; refine (heldVlA p.a3 d.n3 p.c3 (1 + 2 * d.n2) _ HK1.out _ (h.c3.later B1) (by omega) (by omega)).mono ?_; rintro e w2 ⟨K2, rfl, HK2, hb2⟩; have hK2 : 0 ≤ K2 := (by rw [HK2.out]; omega); have HQ2 : Hid (w2.heap[w.heap.size]? = some (.cells (cs8 d p) 27 (0, 0))) := rowL HQ1.out hb2; have B2 := bstep B1 hb2; have q2_2 : w2.cell? ⟨w.heap.size, 2, none⟩ = some (.slice p.a2 d.n2 p.c2) := (cell_of_row _ _ 2 _ _ _ HQ2.out).trans rfl; have q2_3 : w2.cell? ⟨w.heap.size, 3, none⟩ = some (.slice p.a3 d.n3 p.c3) := (cell_of_row _ _ 3 _ _ _ HQ2.out).trans rfl; have q2_5 : w2.cell? ⟨w.heap.size, 5, none⟩ = some (.slice p.a5 d.n5 p.c5) := (cell_of_row _ _ 5 _ _ _ HQ2.out).trans rfl; have q2_6 : w2.cell? ⟨w.heap.size, 6, none⟩ = some (.slice p.a6 d.n6 p.c6) := (cell_of_row _ _ 6 _ _ _ HQ2.out).trans rfl; have q2_7 : w2.cell? ⟨w.heap.size, 7, none⟩ = some (.slice p.a7 d.n7 p.c7) := (cell_of_row _ _ 7 _ _ _ HQ2.out).trans rfl) | (go_at_call 29; refine (heldClA p.a2 d.n2 p.c2 1 _ rfl _ (h.c2.later hb0) (by omega) (by omega)).mono ?_; rintro e w1 ⟨K1, rfl, HK1, hb1⟩; have hK1 : 0 ≤ K1 := (by rw [HK1.out]; omega); have HQ1 : Hid (w1.heap[w.heap.size]? = some (.cells (cs8 d p) 27 (0, 0))) := rowL HQ0.out hb1; have B1 := bstep hb0 hb1; have q1_2 : w1.cell? ⟨w.heap.size, 2, none⟩ = some (.slice p.a2 d.n2 p.c2) := (cell_of_row _ _ 2 _ _ _ HQ1.out).trans rfl; have q1_3 : w1.cell? ⟨w.heap.size, 3, none⟩ = some (.slice p.a3 d.n3 p.c3) := (cell_of_row _ _ 3 _ _ _ HQ1.out).trans rfl; have q1_5 : w1.cell? ⟨w.heap.size, 5, none⟩ = some (.slice p.a5 d.n5 p.c5) := (cell_of_row _ _ 5 _ _ _ HQ1.out).trans rfl; have q1_6 : w1.cell? ⟨w.heap.size, 6, none⟩ = some (.slice p.a6 d.n6 p.c6) := (cell_of_row _ _ 6 _ _ _ HQ1.out).trans rfl; have q1_7 : w1.cell? ⟨w.heap.size, 7, none⟩ = some (.slice p.a7 d.n7 p.c7) := (cell_of_row _ _ 7 _ _ _ HQ1.out).trans rfl))
  go_ret
  exact ⟨K4, rfl, HK4, B4⟩
set_option maxRecDepth 20000 in
set_option maxHeartbeats 8000000 in
theorem markB (d : St) (p : Sa) (lo hi : Nat) (w : World) (h : WrB w lo hi d p) (hhi : hi ≤ w.heap.size) (hz : 1 + 3 * d.n6 + 3 * sm d.m7 d.n7 < 9000000) (hn : d.n7 ≤ 1048576) :
    Calls Tryz.prog 8 #[.agg (cs8 d p), .int .i64 1] w fun e w' => ∃ K : Int, e = .returned (.int .i64 K) ∧ Hid (K = ((1 + 3 * d.n6 + 3 * sm d.m7 d.n7 : Nat) : Int)) ∧ MkB w' d p ∧ Mid lo hi w w' := by
  have hb0 := bal w (.cells (cs8 d p) 27)
  have HQ0 : Hid ((w.alloc (.cells (cs8 d p) 27)).heap[w.heap.size]? = some (.cells (cs8 d p) 27 (0, 0))) := heap_alloc_new w _
  obtain ⟨g, cur, A, C, o⟩ := h.ou
  have HO : Hid (OW w lo hi d p g cur A C) := o
  have a7 : Hid (p.a7 = some ⟨g, 0, none⟩) := o.a7
  have n2 : Hid (d.n2 = 0) := h.n2
  have n3 : Hid (d.n3 = 0) := h.n3
  have n5 : Hid (d.n5 = 0) := h.n5
  have HC6 : Hid (WR w lo hi 85 3 p.a6 d.n6) := h.c6
  have hQ4 := h.c6.ne (Or.inr hhi)
  clear h o
  go_enter Tryz.func8, Tryz.ntmps8
  go_wp2_with (first | (go_at_call 28; rw [a7.out]; refine (markOut lo hi g d.n7 p.c7 (1 + 3 * d.n6) _ HK6.out cur A C d.m7 _ HG6 HO.out.at' (fun i hi => ((HO.out.wr i hi).later B5).gr hg6 (HO.out.j6i i hi).symm) HO.out.ji HO.out.jik (by omega) (by omega) hn).mono ?_; rintro e w7 ⟨K7, rfl, HK7, hrow7, hM7, hG7⟩) | (go_at_call 27; have _h := B5; have h6 := HC6.out.later B5; refine (markItA lo hi p.a6 d.n6 p.c6 1 _ HK5.out _ h6 (by omega) (by omega)).mono ?_; rintro e w6 ⟨K6, rfl, HK6, hM6, hg6⟩; have HQ6 : Hid (w6.heap[w.heap.size]? = some (.cells (cs8 d p) 27 (0, 0))) := rowG' HQ5.out hg6 hQ4; have HG6 := rowG' (rowL HO.out.row B5) hg6 (fun e => HO.out.j6 e.symm); have q6_2 : w6.cell? ⟨w.heap.size, 2, none⟩ = some (.slice p.a2 d.n2 p.c2) := (cell_of_row _ _ 2 _ _ _ HQ6.out).trans rfl; have q6_3 : w6.cell? ⟨w.heap.size, 3, none⟩ = some (.slice p.a3 d.n3 p.c3) := (cell_of_row _ _ 3 _ _ _ HQ6.out).trans rfl; have q6_5 : w6.cell? ⟨w.heap.size, 5, none⟩ = some (.slice p.a5 d.n5 p.c5) := (cell_of_row _ _ 5 _ _ _ HQ6.out).trans rfl; have q6_6 : w6.cell? ⟨w.heap.size, 6, none⟩ = some (.slice p.a6 d.n6 p.c6) := (cell_of_row _ _ 6 _ _ _ HQ6.out).trans rfl; have q6_7 : w6.cell? ⟨w.heap.size, 7, none⟩ = some (.slice p.a7 d.n7 p.c7) := (cell_of_row _ _ 7 _ _ _ HQ6.out).trans rfl) | (go_at_call 27; rw [n5.out]; refine (markItA 0 0 p.a5 0 p.c5 1 _ HK3.out _ (Or.inl rfl) (by omega) (by omega)).mono ?_; rintro e w5 ⟨K5, rfl, HK5, -, hg5⟩; have hb5 := gnone hg5; have B5 := bstep B3 hb5; have HQ5 : Hid (w5.heap[w.heap.size]? = some (.cells (cs8 d p) 27 (0, 0))) := rowL HQ3.out hb5; have q5_2 : w5.cell? ⟨w.heap.size, 2, none⟩ = some (.slice p.a2 d.n2 p.c2) := (cell_of_row _ _ 2 _ _ _ HQ5.out).trans rfl; have q5_3 : w5.cell? ⟨w.heap.size, 3, none⟩ = some (.slice p.a3 d.n3 p.c3) := (cell_of_row _ _ 3 _ _ _ HQ5.out).trans rfl; have q5_5 : w5.cell? ⟨w.heap.size, 5, none⟩ = some (.slice p.a5 d.n5 p.c5) := (cell_of_row _ _ 5 _ _ _ HQ5.out).trans rfl; have q5_6 : w5.cell? ⟨w.heap.size, 6, none⟩ = some (.slice p.a6 d.n6 p.c6) := (cell_of_row _ _ 6 _ _ _ HQ5.out).trans rfl; have q5_7 : w5.cell? ⟨w.heap.size, 7, none⟩ = some (.slice p.a7 d.n7 p.c7) := (cell_of_row _ _ 7 _ _ _ HQ5.out).trans rfl) | (go_at_call 26; rw [n3.out]; refine (markVlA 0 0 p.a3 0 p.c3 1 _ HK2.out _ (Or.inl rfl) (by omega) (by omega)).mono ?_; rintro e w3 ⟨K3, rfl, HK3, -, hg3⟩; have hb3 := gnone hg3; have B3 := bstep B2 hb3; have HQ3 : Hid (w3.heap[w.heap.size]? = some (.cells (cs8 d p) 27 (0, 0))) := rowL HQ2.out hb3; have q3_2 : w3.cell? ⟨w.heap.size, 2, none⟩ = some (.slice p.a2 d.n2 p.c2) := (cell_of_row _ _ 2 _ _ _ HQ3.out).trans rfl; have q3_3 : w3.cell? ⟨w.heap.size, 3, none⟩ = some (.slice p.a3 d.n3 p.c3) := (cell_of_row _ _ 3 _ _ _ HQ3.out).trans rfl; have q3_5 : w3.cell? ⟨w.heap.size, 5, none⟩ = some (.slice p.a5 d.n5 p.c5) := (cell_of_row _ _ 5 _ _ _ HQ3.out).trans rfl; have q3_6 : w3.cell? ⟨w.heap.size, 6, none⟩ = some (.slice p.a6 d.n6 p.c6) := (cell_of_row _ _ 6 _ _ _ HQ3.out).trans rfl; have q3_7 : w3.cell? ⟨w.heap.size, 7, none⟩ = some (.slice p.a7 d.n7 p.c7) := (cell_of_row _ _ 7 _ _ _ HQ3.out).trans rfl) | (go_at_call 25; rw [n2.out]; refine (markClA 0 0 p.a2 0 p.c2 1 _ rfl _ (Or.inl rfl) (by omega) (by omega)).mono ?_; rintro e w2 ⟨K2, rfl, HK2, -, hg2⟩; have hb2 := gnone hg2; have B2 := bstep hb0 hb2; have HQ2 : Hid (w2.heap[w.heap.size]? = some (.cells (cs8 d p) 27 (0, 0))) := rowL HQ0.out hb2; have q2_2 : w2.cell? ⟨w.heap.size, 2, none⟩ = some (.slice p.a2 d.n2 p.c2) := (cell_of_row _ _ 2 _ _ _ HQ2.out).trans rfl; have q2_3 : w2.cell? ⟨w.heap.size, 3, none⟩ = some (.slice p.a3 d.n3 p.c3) := (cell_of_row _ _ 3 _ _ _ HQ2.out).trans rfl; have q2_5 : w2.cell? ⟨w.heap.size, 5, none⟩ = some (.slice p.a5 d.n5 p.c5) := (cell_of_row _ _ 5 _ _ _ HQ2.out).trans rfl; have q2_6 : w2.cell? ⟨w.heap.size, 6, none⟩ = some (.slice p.a6 d.n6 p.c6) := (cell_of_row _ _ 6 _ _ _ HQ2.out).trans rfl; have q2_7 : w2.cell? ⟨w.heap.size, 7, none⟩ = some (.slice p.a7 d.n7 p.c7) := (cell_of_row _ _ 7 _ _ _ HQ2.out).trans rfl))
  go_ret
  refine ⟨K7, rfl, HK7, ⟨n2.out, n3.out, n5.out, hG7.keep3 hM6 HO.out.j6i, g, cur, A, C, a7.out, hrow7, HO.out.at', hM7⟩, ?_⟩
  exact (Mid.below B5).trans ((Mid.grown hg6 h6).trans (Mid.outs hG7 HO.out.wr))
set_option maxRecDepth 20000 in
set_option maxHeartbeats 8000000 in
theorem heldB (d : St) (p : Sa) (w : World) (h : MkB w d p) (hz : 1 + 3 * d.n6 + 3 * sm d.m7 d.n7 < 9000000) (hn : d.n7 ≤ 1048576) :
    Calls Tryz.prog 9 #[.agg (cs8 d p), .int .i64 1] w fun e w' => ∃ K : Int, e = .returned (.int .i64 K) ∧ Hid (K = ((1 + 3 * d.n6 + 3 * sm d.m7 d.n7 : Nat) : Int)) ∧ Below w.heap.size w w' := by
  have hb0 := bal w (.cells (cs8 d p) 27)
  have HQ0 : Hid ((w.alloc (.cells (cs8 d p) 27)).heap[w.heap.size]? = some (.cells (cs8 d p) 27 (0, 0))) := heap_alloc_new w _
  obtain ⟨g, cur, A, C, o⟩ := h.ou
  have HO : Hid (MkO w d p g cur A C) := o
  have a7 : Hid (p.a7 = some ⟨g, 0, none⟩) := o.a7
  have n2 : Hid (d.n2 = 0) := h.n2
  have n3 : Hid (d.n3 = 0) := h.n3
  have n5 : Hid (d.n5 = 0) := h.n5
  clear o
  go_enter Tryz.func9, Tryz.ntmps9
  go_wp2_with (first | (go_at_call 32; rw [a7.out]; refine (heldOut g d.n7 p.c7 (1 + 3 * d.n6) _ HK6.out cur A C d.m7 _ (rowL HO.out.row B6) HO.out.at' (fun i hi => (HO.out.m i hi).later B6) (by omega) (by omega) hn).mono ?_; rintro e w7 ⟨K7, rfl, HK7, hb7⟩; have hK7 : 0 ≤ K7 := (by rw [HK7.out]; omega)) | (go_at_call 31; have _h := B5; refine (heldItA p.a6 d.n6 p.c6 1 _ HK5.out _ (h.c6.later B5) (by omega) (by omega)).mono ?_; rintro e w6 ⟨K6, rfl, HK6, hb6⟩; have hK6 : 0 ≤ K6 := (by rw [HK6.out]; omega); have B6 := bstep B5 hb6; have HQ6 : Hid (w6.heap[w.heap.size]? = some (.cells (cs8 d p) 27 (0, 0))) := rowL HQ5.out hb6; have q6_2 : w6.cell? ⟨w.heap.size, 2, none⟩ = some (.slice p.a2 d.n2 p.c2) := (cell_of_row _ _ 2 _ _ _ HQ6.out).trans rfl; have q6_3 : w6.cell? ⟨w.heap.size, 3, none⟩ = some (.slice p.a3 d.n3 p.c3) := (cell_of_row _ _ 3 _ _ _ HQ6.out).trans rfl; have q6_5 : w6.cell? ⟨w.heap.size, 5, none⟩ = some (.slice p.a5 d.n5 p.c5) := (cell_of_row _ _ 5 _ _ _ HQ6.out).trans rfl; have q6_6 : w6.cell? ⟨w.heap.size, 6, none⟩ = some (.slice p.a6 d.n6 p.c6) := (cell_of_row _ _ 6 _ _ _ HQ6.out).trans rfl; have q6_7 : w6.cell? ⟨w.heap.size, 7, none⟩ = some (.slice p.a7 d.n7 p.c7) := (cell_of_row _ _ 7 _ _ _ HQ6.out).trans rfl) | (go_at_call 31; rw [n5.out]; refine (heldItA p.a5 0 p.c5 1 _ HK3.out _ (Or.inl rfl) (by omega) (by omega)).mono ?_; rintro e w5 ⟨K5, rfl, HK5, hb5⟩; have hK5 : 0 ≤ K5 := (by rw [HK5.out]; omega); have B5 := bstep B3 hb5; have HQ5 : Hid (w5.heap[w.heap.size]? = some (.cells (cs8 d p) 27 (0, 0))) := rowL HQ3.out hb5; have q5_2 : w5.cell? ⟨w.heap.size, 2, none⟩ = some (.slice p.a2 d.n2 p.c2) := (cell_of_row _ _ 2 _ _ _ HQ5.out).trans rfl; have q5_3 : w5.cell? ⟨w.heap.size, 3, none⟩ = some (.slice p.a3 d.n3 p.c3) := (cell_of_row _ _ 3 _ _ _ HQ5.out).trans rfl; have q5_5 : w5.cell? ⟨w.heap.size, 5, none⟩ = some (.slice p.a5 d.n5 p.c5) := (cell_of_row _ _ 5 _ _ _ HQ5.out).trans rfl; have q5_6 : w5.cell? ⟨w.heap.size, 6, none⟩ = some (.slice p.a6 d.n6 p.c6) := (cell_of_row _ _ 6 _ _ _ HQ5.out).trans rfl; have q5_7 : w5.cell? ⟨w.heap.size, 7, none⟩ = some (.slice p.a7 d.n7 p.c7) := (cell_of_row _ _ 7 _ _ _ HQ5.out).trans rfl) | (go_at_call 30; rw [n3.out]; refine (heldVlA p.a3 0 p.c3 1 _ HK2.out _ (Or.inl rfl) (by omega) (by omega)).mono ?_; rintro e w3 ⟨K3, rfl, HK3, hb3⟩; have hK3 : 0 ≤ K3 := (by rw [HK3.out]; omega); have B3 := bstep B2 hb3; have HQ3 : Hid (w3.heap[w.heap.size]? = some (.cells (cs8 d p) 27 (0, 0))) := rowL HQ2.out hb3; have q3_2 : w3.cell? ⟨w.heap.size, 2, none⟩ = some (.slice p.a2 d.n2 p.c2) := (cell_of_row _ _ 2 _ _ _ HQ3.out).trans rfl; have q3_3 : w3.cell? ⟨w.heap.size, 3, none⟩ = some (.slice p.a3 d.n3 p.c3) := (cell_of_row _ _ 3 _ _ _ HQ3.out).trans rfl; have q3_5 : w3.cell? ⟨w.heap.size, 5, none⟩ = some (.slice p.a5 d.n5 p.c5) := (cell_of_row _ _ 5 _ _ _ HQ3.out).trans rfl; have q3_6 : w3.cell? ⟨w.heap.size, 6, none⟩ = some (.slice p.a6 d.n6 p.c6) := (cell_of_row _ _ 6 _ _ _ HQ3.out).trans rfl; have q3_7 : w3.cell? ⟨w.heap.size, 7, none⟩ = some (.slice p.a7 d.n7 p.c7) := (cell_of_row _ _ 7 _ _ _ HQ3.out).trans rfl) | (go_at_call 29; rw [n2.out]; refine (heldClA p.a2 0 p.c2 1 _ rfl _ (Or.inl rfl) (by omega) (by omega)).mono ?_; rintro e w2 ⟨K2, rfl, HK2, hb2⟩; have hK2 : 0 ≤ K2 := (by rw [HK2.out]; omega); have B2 := bstep hb0 hb2; have HQ2 : Hid (w2.heap[w.heap.size]? = some (.cells (cs8 d p) 27 (0, 0))) := rowL HQ0.out hb2; have q2_2 : w2.cell? ⟨w.heap.size, 2, none⟩ = some (.slice p.a2 d.n2 p.c2) := (cell_of_row _ _ 2 _ _ _ HQ2.out).trans rfl; have q2_3 : w2.cell? ⟨w.heap.size, 3, none⟩ = some (.slice p.a3 d.n3 p.c3) := (cell_of_row _ _ 3 _ _ _ HQ2.out).trans rfl; have q2_5 : w2.cell? ⟨w.heap.size, 5, none⟩ = some (.slice p.a5 d.n5 p.c5) := (cell_of_row _ _ 5 _ _ _ HQ2.out).trans rfl; have q2_6 : w2.cell? ⟨w.heap.size, 6, none⟩ = some (.slice p.a6 d.n6 p.c6) := (cell_of_row _ _ 6 _ _ _ HQ2.out).trans rfl; have q2_7 : w2.cell? ⟨w.heap.size, 7, none⟩ = some (.slice p.a7 d.n7 p.c7) := (cell_of_row _ _ 7 _ _ _ HQ2.out).trans rfl))
  go_ret
  exact ⟨K7, rfl, HK7, bstep B6 hb7⟩
end Go.Proofs.YtnbgdfhfmbgbhaaGreatDoor
