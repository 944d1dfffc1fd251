/-
  Tables: the program's test of a row.
-/
import Derived.Test.YtfodndnkhgijmaaDoorTo
namespace Go.Proofs.YtfodndnkhgijmaaDoor
open Go.RowKit Go.Maps Go.WideMaps
set_option maxRecDepth 20000 in
set_option maxHeartbeats 4000000 in
theorem iRow (a : Option Addr) (n c : Nat) (I : Nat → Itm) (a' : Option Addr) (n' c' : Nat) (C : Nat → Clm) (w : World) (h : IL w a n I) (h' : CL w a' n' C) (hn : n ≤ 1048576) (hn' : n' ≤ 1048576) :
    Calls Tryd.prog 73 #[.slice a n c, .slice a' n' c'] w fun e w' => e = .returned (.bool (rowB n I n' C)) ∧ Below w.heap.size w w' := by
  have hb0 := Below.refl w.heap.size w
  go_enter Tryd.func73, Tryd.ntmps73
  go_wp2
  go_loopw [6, 9] (fun _ i wr => ∃ k : Nat, k ≤ n ∧ i = .int .i64 k ∧ (∀ j, j < k → valB (I j).o (I j).m (I j).s = true) ∧ Below w.heap.size w wr) (fun _ i _ => n - (intOf i).toNat)
  case atStart => exact ⟨0, by omega, rfl, fun j hj => by omega, hb0⟩
  case round =>
    obtain ⟨k, hk, rfl, hall, hb⟩ := hrel
    by_cases hlt : k < n
    · obtain ⟨b, off, rfl, d0, d1, d2, hs⟩ := h.later hb k hlt
      have hR := heap_alloc_new wr (.cells #[.int .i64 (I k).o, .int .i64 (I k).m, .string (I k).s] 73)
      have c0 : (wr.alloc (.cells #[.int .i64 (I k).o, .int .i64 (I k).m, .string (I k).s] 73)).cell? ⟨wr.heap.size, 0, none⟩ = some (.int .i64 (I k).o) := (cell_of_row _ _ 0 _ _ _ hR).trans rfl
      have c1 : (wr.alloc (.cells #[.int .i64 (I k).o, .int .i64 (I k).m, .string (I k).s] 73)).cell? ⟨wr.heap.size, 1, none⟩ = some (.int .i64 (I k).m) := (cell_of_row _ _ 1 _ _ _ hR).trans rfl
      have c2 : (wr.alloc (.cells #[.int .i64 (I k).o, .int .i64 (I k).m, .string (I k).s] 73)).cell? ⟨wr.heap.size, 2, none⟩ = some (.string (I k).s) := (cell_of_row _ _ 2 _ _ _ hR).trans rfl
      clear hR
      rcases hv : okValue (I k).o (I k).m (I k).s
      rotate_left
      · go_wp2
        refine wp_region_held_drew (S := fun x => Below (wr.alloc (.cells #[.int .i64 (I k).o, .int .i64 (I k).m, .string (I k).s] 73)).heap.size (wr.alloc (.cells #[.int .i64 (I k).o, .int .i64 (I k).m, .string (I k).s] 73)) x) (by kernel_rfl) (bdrew _) (fun hHeld => ?_)
        refine' wpAnyH_take (i := 0) (oi := ({ dst := some 13, op := Op.load 73 (Operand.tmp 6), type := 73, pos := "l5_replay.go:95", after := #[], guard := none } : Oper)) (v := _) rfl (by kernel_rfl) (by kernel_rfl) (by kernel_rfl) (fun _ _ _ h => h) (Or.inl ⟨by rfl, fun x hSw => ?hyz1_0⟩) hHeld ?restz1_0
        case hyz1_0 =>
          have k0 := keepB hSw c0; have k1 := keepB hSw c1; have k2 := keepB hSw c2
          go_simp
          try with_reducible rfl
        try simp only [Act.put, List.setIfInBounds_toArray, List.set_cons_zero, List.set_cons_succ]
        refine wpAnyH_ready (rs := [1]) (by kernel_rfl) (by simp) ?_
        refine AllReadyH.cons (o := ({ dst := some 14, op := Op.call { callee := Callee.value (Operand.func 45), args := #[Operand.tmp 13], argTypes := #[73] }, type := 4, pos := "l5_replay.go:95", after := #[{ on := 0, ground := Ground.data }], guard := none } : Oper)) rfl (fun K hK => ?_) AllReadyH.nil
        go_simp
        refine (iValue _ _ _ _ hs).mono ?_
        rw [hv]; rintro e w1 ⟨rfl, hb1⟩
        refine hK.out _ _ (bstep hHeld hb1) (fun hHeld => ?_)
        clear hK K
        try simp only [Act.put, List.setIfInBounds_toArray, List.set_cons_zero, List.set_cons_succ]
        refine' wpAnyH_take (i := 2) (oi := ({ dst := some 15, op := Op.unOp UnOp.not 4 (Operand.tmp 14), type := 4, pos := "l5_replay.go:95", after := #[{ on := 1, ground := Ground.data }], guard := none } : Oper)) (v := _) rfl (by kernel_rfl) (by kernel_rfl) (by kernel_rfl) (fun _ _ _ h => h) (Or.inl ⟨by rfl, fun x hSw => ?hyz1_2⟩) hHeld ?restz1_2
        case hyz1_2 =>
          have k0 := keepB hSw c0; have k1 := keepB hSw c1; have k2 := keepB hSw c2
          go_simp
          try with_reducible rfl
        try simp only [Act.put, List.setIfInBounds_toArray, List.set_cons_zero, List.set_cons_succ]
        refine' wpAnyH_take (i := 3) (oi := ({ dst := some 16, op := Op.move (Operand.tmp 15), type := 4, pos := "l5_replay.go:95", after := #[{ on := 2, ground := Ground.data }, { on := 1, ground := Ground.chain }], guard := none } : Oper)) (v := _) rfl (by kernel_rfl) (by kernel_rfl) (by kernel_rfl) (fun _ _ _ h => h) (Or.inl ⟨by rfl, fun x hSw => ?hyz1_3⟩) hHeld ?restz1_3
        case hyz1_3 =>
          have k0 := keepB hSw c0; have k1 := keepB hSw c1; have k2 := keepB hSw c2
          go_simp
          try with_reducible rfl
        try simp only [Act.put, List.setIfInBounds_toArray, List.set_cons_zero, List.set_cons_succ]
        refine wpAnyH_take (i := 4) (oi := ({ dst := some 17, op := Op.load 73 (Operand.tmp 6), type := 73, pos := "l5_replay.go:95", after := #[{ on := 3, ground := Ground.guard }], guard := some (3, true) } : Oper)) (v := undef) rfl (by kernel_rfl) (by kernel_rfl) (by kernel_rfl) (fun _ _ _ h => h) (Or.inr ⟨by rfl, rfl⟩) hHeld ?_
        try simp only [Act.put, List.setIfInBounds_toArray, List.set_cons_zero, List.set_cons_succ]
        refine wpAnyH_take (i := 5) (oi := ({ dst := some 18, op := Op.fieldAddr 73 (Operand.tmp 6) 1, type := 0, pos := "l5_replay.go:95", after := #[{ on := 3, ground := Ground.guard }], guard := some (3, true) } : Oper)) (v := undef) rfl (by kernel_rfl) (by kernel_rfl) (by kernel_rfl) (fun _ _ _ h => h) (Or.inr ⟨by rfl, rfl⟩) hHeld ?_
        try simp only [Act.put, List.setIfInBounds_toArray, List.set_cons_zero, List.set_cons_succ]
        refine wpAnyH_take (i := 6) (oi := ({ dst := some 19, op := Op.load 3 (Operand.tmp 18), type := 3, pos := "l5_replay.go:95", after := #[{ on := 5, ground := Ground.data }, { on := 3, ground := Ground.guard }], guard := some (3, true) } : Oper)) (v := undef) rfl (by kernel_rfl) (by kernel_rfl) (by kernel_rfl) (fun _ _ _ h => h) (Or.inr ⟨by rfl, rfl⟩) hHeld ?_
        try simp only [Act.put, List.setIfInBounds_toArray, List.set_cons_zero, List.set_cons_succ]
        refine wpAnyH_take (i := 7) (oi := ({ dst := some 20, op := Op.call { callee := Callee.value (Operand.func 110), args := #[Operand.tmp 19], argTypes := #[3] }, type := 73, pos := "l5_replay.go:95", after := #[{ on := 6, ground := Ground.data }, { on := 3, ground := Ground.chain }, { on := 3, ground := Ground.guard }], guard := some (3, true) } : Oper)) (v := undef) rfl (by kernel_rfl) (by kernel_rfl) (by kernel_rfl) (fun _ _ _ h => h) (Or.inr ⟨by rfl, rfl⟩) hHeld ?_
        try simp only [Act.put, List.setIfInBounds_toArray, List.set_cons_zero, List.set_cons_succ]
        refine wpAnyH_take (i := 8) (oi := ({ dst := some 21, op := Op.binOp BinOp.neq 73 (Operand.tmp 17) (Operand.tmp 20) 73, type := 4, pos := "l5_replay.go:95", after := #[{ on := 4, ground := Ground.data }, { on := 7, ground := Ground.data }, { on := 3, ground := Ground.guard }], guard := some (3, true) } : Oper)) (v := undef) rfl (by kernel_rfl) (by kernel_rfl) (by kernel_rfl) (fun _ _ _ h => h) (Or.inr ⟨by rfl, rfl⟩) hHeld ?_
        try simp only [Act.put, List.setIfInBounds_toArray, List.set_cons_zero, List.set_cons_succ]
        refine' wpAnyH_take (i := 9) (oi := ({ dst := some 22, op := Op.pick (Operand.tmp 16) (Operand.tmp 21) (Operand.const (Value.bool false)), type := 4, pos := "l5_replay.go:95", after := #[{ on := 3, ground := Ground.data }, { on := 8, ground := Ground.data }], guard := none } : Oper)) (v := _) rfl (by kernel_rfl) (by kernel_rfl) (by kernel_rfl) (fun _ _ _ h => h) (Or.inl ⟨by rfl, fun x hSw => ?hyz1_9⟩) hHeld ?restz1_9
        case hyz1_9 =>
          have k0 := keepB hSw c0; have k1 := keepB hSw c1; have k2 := keepB hSw c2
          go_simp
          try with_reducible rfl
        try simp only [Act.put, List.setIfInBounds_toArray, List.set_cons_zero, List.set_cons_succ]
        refine wpAnyH_done (by kernel_rfl) ?_ _
        go_wp2
        go_roundw
        case rel => exact ⟨k + 1, by omega, by go_num, fun j hj => by
          by_cases e : j = k
          · subst e; unfold valB; rw [hv]; rfl
          · exact hall j (by omega), bstep hb (bstep (bal _ _) hHeld)⟩
        case measure => simp [intOf]; omega
      rcases hw : ((I k).o == 1 && decide ((I k).s.size = 0))
      · go_wp2
        refine wp_region_held_drew (S := fun x => Below (wr.alloc (.cells #[.int .i64 (I k).o, .int .i64 (I k).m, .string (I k).s] 73)).heap.size (wr.alloc (.cells #[.int .i64 (I k).o, .int .i64 (I k).m, .string (I k).s] 73)) x) (by kernel_rfl) (bdrew _) (fun hHeld => ?_)
        refine' wpAnyH_take (i := 0) (oi := ({ dst := some 13, op := Op.load 73 (Operand.tmp 6), type := 73, pos := "l5_replay.go:95", after := #[], guard := none } : Oper)) (v := _) rfl (by kernel_rfl) (by kernel_rfl) (by kernel_rfl) (fun _ _ _ h => h) (Or.inl ⟨by rfl, fun x hSw => ?hyz2_0⟩) hHeld ?restz2_0
        case hyz2_0 =>
          have k0 := keepB hSw c0; have k1 := keepB hSw c1; have k2 := keepB hSw c2
          go_simp
          try with_reducible rfl
        try simp only [Act.put, List.setIfInBounds_toArray, List.set_cons_zero, List.set_cons_succ]
        refine wpAnyH_ready (rs := [1]) (by kernel_rfl) (by simp) ?_
        refine AllReadyH.cons (o := ({ dst := some 14, op := Op.call { callee := Callee.value (Operand.func 45), args := #[Operand.tmp 13], argTypes := #[73] }, type := 4, pos := "l5_replay.go:95", after := #[{ on := 0, ground := Ground.data }], guard := none } : Oper)) rfl (fun K hK => ?_) AllReadyH.nil
        go_simp
        refine (iValue _ _ _ _ hs).mono ?_
        rw [hv]; rintro e w1 ⟨rfl, hb1⟩
        refine hK.out _ _ (bstep hHeld hb1) (fun hHeld => ?_)
        clear hK K
        try simp only [Act.put, List.setIfInBounds_toArray, List.set_cons_zero, List.set_cons_succ]
        refine' wpAnyH_take (i := 2) (oi := ({ dst := some 15, op := Op.unOp UnOp.not 4 (Operand.tmp 14), type := 4, pos := "l5_replay.go:95", after := #[{ on := 1, ground := Ground.data }], guard := none } : Oper)) (v := _) rfl (by kernel_rfl) (by kernel_rfl) (by kernel_rfl) (fun _ _ _ h => h) (Or.inl ⟨by rfl, fun x hSw => ?hyz2_2⟩) hHeld ?restz2_2
        case hyz2_2 =>
          have k0 := keepB hSw c0; have k1 := keepB hSw c1; have k2 := keepB hSw c2
          go_simp
          try with_reducible rfl
        try simp only [Act.put, List.setIfInBounds_toArray, List.set_cons_zero, List.set_cons_succ]
        refine' wpAnyH_take (i := 3) (oi := ({ dst := some 16, op := Op.move (Operand.tmp 15), type := 4, pos := "l5_replay.go:95", after := #[{ on := 2, ground := Ground.data }, { on := 1, ground := Ground.chain }], guard := none } : Oper)) (v := _) rfl (by kernel_rfl) (by kernel_rfl) (by kernel_rfl) (fun _ _ _ h => h) (Or.inl ⟨by rfl, fun x hSw => ?hyz2_3⟩) hHeld ?restz2_3
        case hyz2_3 =>
          have k0 := keepB hSw c0; have k1 := keepB hSw c1; have k2 := keepB hSw c2
          go_simp
          try with_reducible rfl
        try simp only [Act.put, List.setIfInBounds_toArray, List.set_cons_zero, List.set_cons_succ]
        refine' wpAnyH_take (i := 4) (oi := ({ dst := some 17, op := Op.load 73 (Operand.tmp 6), type := 73, pos := "l5_replay.go:95", after := #[{ on := 3, ground := Ground.guard }], guard := some (3, true) } : Oper)) (v := _) rfl (by kernel_rfl) (by kernel_rfl) (by kernel_rfl) (fun _ _ _ h => h) (Or.inl ⟨by rfl, fun x hSw => ?hyz2_4⟩) hHeld ?restz2_4
        case hyz2_4 =>
          have k0 := keepB hSw c0; have k1 := keepB hSw c1; have k2 := keepB hSw c2
          go_simp
          try with_reducible rfl
        try simp only [Act.put, List.setIfInBounds_toArray, List.set_cons_zero, List.set_cons_succ]
        refine' wpAnyH_take (i := 5) (oi := ({ dst := some 18, op := Op.fieldAddr 73 (Operand.tmp 6) 1, type := 0, pos := "l5_replay.go:95", after := #[{ on := 3, ground := Ground.guard }], guard := some (3, true) } : Oper)) (v := _) rfl (by kernel_rfl) (by kernel_rfl) (by kernel_rfl) (fun _ _ _ h => h) (Or.inl ⟨by rfl, fun x hSw => ?hyz2_5⟩) hHeld ?restz2_5
        case hyz2_5 =>
          have k0 := keepB hSw c0; have k1 := keepB hSw c1; have k2 := keepB hSw c2
          go_simp
          try with_reducible rfl
        try simp only [Act.put, List.setIfInBounds_toArray, List.set_cons_zero, List.set_cons_succ]
        refine' wpAnyH_take (i := 6) (oi := ({ dst := some 19, op := Op.load 3 (Operand.tmp 18), type := 3, pos := "l5_replay.go:95", after := #[{ on := 5, ground := Ground.data }, { on := 3, ground := Ground.guard }], guard := some (3, true) } : Oper)) (v := _) rfl (by kernel_rfl) (by kernel_rfl) (by kernel_rfl) (fun _ _ _ h => h) (Or.inl ⟨by rfl, fun x hSw => ?hyz2_6⟩) hHeld ?restz2_6
        case hyz2_6 =>
          have k0 := keepB hSw c0; have k1 := keepB hSw c1; have k2 := keepB hSw c2
          go_simp
          try with_reducible rfl
        try simp only [Act.put, List.setIfInBounds_toArray, List.set_cons_zero, List.set_cons_succ]
        refine wpAnyH_ready (rs := [7]) (by kernel_rfl) (by simp) ?_
        refine AllReadyH.cons (o := ({ dst := some 20, op := Op.call { callee := Callee.value (Operand.func 110), args := #[Operand.tmp 19], argTypes := #[3] }, type := 73, pos := "l5_replay.go:95", after := #[{ on := 6, ground := Ground.data }, { on := 3, ground := Ground.chain }, { on := 3, ground := Ground.guard }], guard := some (3, true) } : Oper)) rfl (fun K hK => ?_) AllReadyH.nil
        go_simp
        refine (iIntValue _ _).mono ?_
        rintro e w2 ⟨rfl, hb2⟩
        refine hK.out _ _ (bstep hHeld hb2) (fun hHeld => ?_)
        clear hK K
        try simp only [Act.put, List.setIfInBounds_toArray, List.set_cons_zero, List.set_cons_succ]
        refine wpAnyH_take (i := 8) (oi := ({ dst := some 21, op := Op.binOp BinOp.neq 73 (Operand.tmp 17) (Operand.tmp 20) 73, type := 4, pos := "l5_replay.go:95", after := #[{ on := 4, ground := Ground.data }, { on := 7, ground := Ground.data }, { on := 3, ground := Ground.guard }], guard := some (3, true) } : Oper)) (v := .bool true) rfl (by kernel_rfl) (by kernel_rfl) (by kernel_rfl) (fun _ _ _ h => h) (Or.inl ⟨by rfl, fun x hSw => (by go_simp; intro e1 e2; rw [e1, (show (I k).s.size = 0 from (empty_iff _).1 e2)] at hw; exact absurd hw (by decide))⟩) hHeld ?_
        try simp only [Act.put, List.setIfInBounds_toArray, List.set_cons_zero, List.set_cons_succ]
        refine' wpAnyH_take (i := 9) (oi := ({ dst := some 22, op := Op.pick (Operand.tmp 16) (Operand.tmp 21) (Operand.const (Value.bool false)), type := 4, pos := "l5_replay.go:95", after := #[{ on := 3, ground := Ground.data }, { on := 8, ground := Ground.data }], guard := none } : Oper)) (v := _) rfl (by kernel_rfl) (by kernel_rfl) (by kernel_rfl) (fun _ _ _ h => h) (Or.inl ⟨by rfl, fun x hSw => ?hyz2_9⟩) hHeld ?restz2_9
        case hyz2_9 =>
          have k0 := keepB hSw c0; have k1 := keepB hSw c1; have k2 := keepB hSw c2
          go_simp
          try with_reducible rfl
        try simp only [Act.put, List.setIfInBounds_toArray, List.set_cons_zero, List.set_cons_succ]
        refine wpAnyH_done (by kernel_rfl) ?_ _
        go_wp2
        go_ret
        exact ⟨retB (by unfold rowB; rw [allN_false hlt (show valB (I k).o (I k).m (I k).s = false by unfold valB; rw [hv, hw]; rfl)]; rfl), bstep hb (bstep (bal _ _) hHeld)⟩
      · go_wp2
        refine wp_region_held_drew (S := fun x => Below (wr.alloc (.cells #[.int .i64 (I k).o, .int .i64 (I k).m, .string (I k).s] 73)).heap.size (wr.alloc (.cells #[.int .i64 (I k).o, .int .i64 (I k).m, .string (I k).s] 73)) x) (by kernel_rfl) (bdrew _) (fun hHeld => ?_)
        refine' wpAnyH_take (i := 0) (oi := ({ dst := some 13, op := Op.load 73 (Operand.tmp 6), type := 73, pos := "l5_replay.go:95", after := #[], guard := none } : Oper)) (v := _) rfl (by kernel_rfl) (by kernel_rfl) (by kernel_rfl) (fun _ _ _ h => h) (Or.inl ⟨by rfl, fun x hSw => ?hyz3_0⟩) hHeld ?restz3_0
        case hyz3_0 =>
          have k0 := keepB hSw c0; have k1 := keepB hSw c1; have k2 := keepB hSw c2
          go_simp
          try with_reducible rfl
        try simp only [Act.put, List.setIfInBounds_toArray, List.set_cons_zero, List.set_cons_succ]
        refine wpAnyH_ready (rs := [1]) (by kernel_rfl) (by simp) ?_
        refine AllReadyH.cons (o := ({ dst := some 14, op := Op.call { callee := Callee.value (Operand.func 45), args := #[Operand.tmp 13], argTypes := #[73] }, type := 4, pos := "l5_replay.go:95", after := #[{ on := 0, ground := Ground.data }], guard := none } : Oper)) rfl (fun K hK => ?_) AllReadyH.nil
        go_simp
        refine (iValue _ _ _ _ hs).mono ?_
        rw [hv]; rintro e w1 ⟨rfl, hb1⟩
        refine hK.out _ _ (bstep hHeld hb1) (fun hHeld => ?_)
        clear hK K
        try simp only [Act.put, List.setIfInBounds_toArray, List.set_cons_zero, List.set_cons_succ]
        refine' wpAnyH_take (i := 2) (oi := ({ dst := some 15, op := Op.unOp UnOp.not 4 (Operand.tmp 14), type := 4, pos := "l5_replay.go:95", after := #[{ on := 1, ground := Ground.data }], guard := none } : Oper)) (v := _) rfl (by kernel_rfl) (by kernel_rfl) (by kernel_rfl) (fun _ _ _ h => h) (Or.inl ⟨by rfl, fun x hSw => ?hyz3_2⟩) hHeld ?restz3_2
        case hyz3_2 =>
          have k0 := keepB hSw c0; have k1 := keepB hSw c1; have k2 := keepB hSw c2
          go_simp
          try with_reducible rfl
        try simp only [Act.put, List.setIfInBounds_toArray, List.set_cons_zero, List.set_cons_succ]
        refine' wpAnyH_take (i := 3) (oi := ({ dst := some 16, op := Op.move (Operand.tmp 15), type := 4, pos := "l5_replay.go:95", after := #[{ on := 2, ground := Ground.data }, { on := 1, ground := Ground.chain }], guard := none } : Oper)) (v := _) rfl (by kernel_rfl) (by kernel_rfl) (by kernel_rfl) (fun _ _ _ h => h) (Or.inl ⟨by rfl, fun x hSw => ?hyz3_3⟩) hHeld ?restz3_3
        case hyz3_3 =>
          have k0 := keepB hSw c0; have k1 := keepB hSw c1; have k2 := keepB hSw c2
          go_simp
          try with_reducible rfl
        try simp only [Act.put, List.setIfInBounds_toArray, List.set_cons_zero, List.set_cons_succ]
        refine' wpAnyH_take (i := 4) (oi := ({ dst := some 17, op := Op.load 73 (Operand.tmp 6), type := 73, pos := "l5_replay.go:95", after := #[{ on := 3, ground := Ground.guard }], guard := some (3, true) } : Oper)) (v := _) rfl (by kernel_rfl) (by kernel_rfl) (by kernel_rfl) (fun _ _ _ h => h) (Or.inl ⟨by rfl, fun x hSw => ?hyz3_4⟩) hHeld ?restz3_4
        case hyz3_4 =>
          have k0 := keepB hSw c0; have k1 := keepB hSw c1; have k2 := keepB hSw c2
          go_simp
          try with_reducible rfl
        try simp only [Act.put, List.setIfInBounds_toArray, List.set_cons_zero, List.set_cons_succ]
        refine' wpAnyH_take (i := 5) (oi := ({ dst := some 18, op := Op.fieldAddr 73 (Operand.tmp 6) 1, type := 0, pos := "l5_replay.go:95", after := #[{ on := 3, ground := Ground.guard }], guard := some (3, true) } : Oper)) (v := _) rfl (by kernel_rfl) (by kernel_rfl) (by kernel_rfl) (fun _ _ _ h => h) (Or.inl ⟨by rfl, fun x hSw => ?hyz3_5⟩) hHeld ?restz3_5
        case hyz3_5 =>
          have k0 := keepB hSw c0; have k1 := keepB hSw c1; have k2 := keepB hSw c2
          go_simp
          try with_reducible rfl
        try simp only [Act.put, List.setIfInBounds_toArray, List.set_cons_zero, List.set_cons_succ]
        refine' wpAnyH_take (i := 6) (oi := ({ dst := some 19, op := Op.load 3 (Operand.tmp 18), type := 3, pos := "l5_replay.go:95", after := #[{ on := 5, ground := Ground.data }, { on := 3, ground := Ground.guard }], guard := some (3, true) } : Oper)) (v := _) rfl (by kernel_rfl) (by kernel_rfl) (by kernel_rfl) (fun _ _ _ h => h) (Or.inl ⟨by rfl, fun x hSw => ?hyz3_6⟩) hHeld ?restz3_6
        case hyz3_6 =>
          have k0 := keepB hSw c0; have k1 := keepB hSw c1; have k2 := keepB hSw c2
          go_simp
          try with_reducible rfl
        try simp only [Act.put, List.setIfInBounds_toArray, List.set_cons_zero, List.set_cons_succ]
        refine wpAnyH_ready (rs := [7]) (by kernel_rfl) (by simp) ?_
        refine AllReadyH.cons (o := ({ dst := some 20, op := Op.call { callee := Callee.value (Operand.func 110), args := #[Operand.tmp 19], argTypes := #[3] }, type := 73, pos := "l5_replay.go:95", after := #[{ on := 6, ground := Ground.data }, { on := 3, ground := Ground.chain }, { on := 3, ground := Ground.guard }], guard := some (3, true) } : Oper)) rfl (fun K hK => ?_) AllReadyH.nil
        go_simp
        refine (iIntValue _ _).mono ?_
        rintro e w2 ⟨rfl, hb2⟩
        refine hK.out _ _ (bstep hHeld hb2) (fun hHeld => ?_)
        clear hK K
        try simp only [Act.put, List.setIfInBounds_toArray, List.set_cons_zero, List.set_cons_succ]
        refine wpAnyH_take (i := 8) (oi := ({ dst := some 21, op := Op.binOp BinOp.neq 73 (Operand.tmp 17) (Operand.tmp 20) 73, type := 4, pos := "l5_replay.go:95", after := #[{ on := 4, ground := Ground.data }, { on := 7, ground := Ground.data }, { on := 3, ground := Ground.guard }], guard := some (3, true) } : Oper)) (v := .bool false) rfl (by kernel_rfl) (by kernel_rfl) (by kernel_rfl) (fun _ _ _ h => h) (Or.inl ⟨by rfl, fun x hSw => (by go_simp; have q := hw; rw [Bool.and_eq_true, beq_iff_eq, decide_eq_true_eq] at q; rw [if_pos q.1, if_pos ((empty_iff _).2 q.2)])⟩) hHeld ?_
        try simp only [Act.put, List.setIfInBounds_toArray, List.set_cons_zero, List.set_cons_succ]
        refine' wpAnyH_take (i := 9) (oi := ({ dst := some 22, op := Op.pick (Operand.tmp 16) (Operand.tmp 21) (Operand.const (Value.bool false)), type := 4, pos := "l5_replay.go:95", after := #[{ on := 3, ground := Ground.data }, { on := 8, ground := Ground.data }], guard := none } : Oper)) (v := _) rfl (by kernel_rfl) (by kernel_rfl) (by kernel_rfl) (fun _ _ _ h => h) (Or.inl ⟨by rfl, fun x hSw => ?hyz3_9⟩) hHeld ?restz3_9
        case hyz3_9 =>
          have k0 := keepB hSw c0; have k1 := keepB hSw c1; have k2 := keepB hSw c2
          go_simp
          try with_reducible rfl
        try simp only [Act.put, List.setIfInBounds_toArray, List.set_cons_zero, List.set_cons_succ]
        refine wpAnyH_done (by kernel_rfl) ?_ _
        go_wp2
        go_roundw
        case rel => exact ⟨k + 1, by omega, by go_num, fun j hj => by
          by_cases e : j = k
          · subst e; unfold valB; rw [hw]; simp
          · exact hall j (by omega), bstep hb (bstep (bal _ _) hHeld)⟩
        case measure => simp [intOf]; omega
    · obtain rfl : k = n := by omega
      go_wp2_with (go_at_call 111; refine (iHaveTypes _ _ _ _ _ _ _ _ _ (h.later hb) (h'.later hb) hn hn').mono ?_; rintro e w1 ⟨rfl, hb1⟩)
      go_ret
      exact ⟨retB (by unfold rowB; rw [allN_true hall]; rfl), bstep hb hb1⟩
end Go.Proofs.YtfodndnkhgijmaaDoor
