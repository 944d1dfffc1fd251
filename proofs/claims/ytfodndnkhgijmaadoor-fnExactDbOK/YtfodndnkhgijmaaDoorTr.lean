/-
  Tables: DbOK, the specification's way.
-/
import Derived.Test.YtfodndnkhgijmaaDoorTi
import Derived.Test.YtfodndnkhgijmaaDoorTq
namespace Go.Proofs.YtfodndnkhgijmaaDoor
open Go.RowKit Go.Maps Go.WideMaps
theorem okDb_no {n k : Nat} {T : Nat → Td} (hk : k < n) (h : okTd (T k) = false ∨ ltD T k = false) : okDb n T = false := by
  unfold okDb
  rcases h with h | h
  · rw [allT_no hk h]; rfl
  · rw [allN_false hk h]; simp
set_option maxRecDepth 20000 in
set_option maxHeartbeats 8000000 in
theorem sDb (g n c : Nat) (T : Nat → Td) (w : World) (h : TC w g n T) (hn : n ≤ 1048576) :
    Calls Tryd.prog 7 #[.agg #[.slice (some ⟨g, 0, none⟩) n c]] w fun e w' => e = .returned (.bool (okDb n T)) ∧ Below w.heap.size w w' := by
  have hb0 := bal w (.cells #[.slice (some ⟨g, 0, none⟩) n c] 29)
  have hX0 := heap_alloc_new w (.cells #[.slice (some ⟨g, 0, none⟩) n c] 29)
  have c0 : (w.alloc (.cells #[.slice (some ⟨g, 0, none⟩) n c] 29)).cell? ⟨w.heap.size, 0, none⟩ = some (.slice (some ⟨g, 0, none⟩) n c) := (cell_of_row _ _ 0 _ _ _ hX0).trans rfl
  clear hX0
  by_cases h1 : 100 < n
  · have h2 : (100 : Int) < n := by omega
    have HF : Hid (okDb n T = false) := by show _ = _; unfold okDb; rw [allT_out h1]; rfl
    go_enter Tryd.func7, Tryd.ntmps7
    go_wp2
    go_ret
    exact ⟨retB HF.out.symm, hb0⟩
  have h2 : ¬ (100 : Int) < n := by omega
  go_enter Tryd.func7, Tryd.ntmps7
  go_wp2
  go_loopw [3, 4, 12] (fun _ _ i wr => ∃ k : Nat, k ≤ n ∧ i = .int .i64 k ∧ (∀ j, j < k → okTd (T j) = true ∧ ltD T j = true) ∧ Below (w.alloc (.cells #[.slice (some ⟨g, 0, none⟩) n c] 29)).heap.size (w.alloc (.cells #[.slice (some ⟨g, 0, none⟩) n c] 29)) wr) (fun _ _ i _ => n - (intOf i).toNat)
  case atStart => exact ⟨0, by omega, rfl, fun j hj => by omega, Below.refl _ _⟩
  case round =>
    obtain ⟨k, hk, rfl, hall, hb⟩ := hrel
    have B2 := bstep hb0 hb
    by_cases hlt : k < n
    · obtain ⟨g1, ar, cr, e0, e1, e2, hC, hO, hs⟩ := h.later B2 k hlt
      have hR2 := heap_alloc_new wr (.cells #[.string (T k).s, .slice (some ⟨g1, 0, none⟩) (T k).n (T k).n, .slice ar (T k).r cr] 54)
      have y0 : (wr.alloc (.cells #[.string (T k).s, .slice (some ⟨g1, 0, none⟩) (T k).n (T k).n, .slice ar (T k).r cr] 54)).cell? ⟨wr.heap.size, 0, none⟩ = some (.string (T k).s) := (cell_of_row _ _ 0 _ _ _ hR2).trans rfl
      have y1 : (wr.alloc (.cells #[.string (T k).s, .slice (some ⟨g1, 0, none⟩) (T k).n (T k).n, .slice ar (T k).r cr] 54)).cell? ⟨wr.heap.size, 1, none⟩ = some (.slice (some ⟨g1, 0, none⟩) (T k).n (T k).n) := (cell_of_row _ _ 1 _ _ _ hR2).trans rfl
      have y2 : (wr.alloc (.cells #[.string (T k).s, .slice (some ⟨g1, 0, none⟩) (T k).n (T k).n, .slice ar (T k).r cr] 54)).cell? ⟨wr.heap.size, 2, none⟩ = some (.slice ar (T k).r cr) := (cell_of_row _ _ 2 _ _ _ hR2).trans rfl
      clear hR2
      have B3 := bal wr (.cells #[.string (T k).s, .slice (some ⟨g1, 0, none⟩) (T k).n (T k).n, .slice ar (T k).r cr] 54)
      have x0 := keepB B3 (keepB hb c0)
      have i1 : (0 : Int) ≤ (k : Int) := by omega
      have i2 : (k : Int) < (n : Int) := by omega
      rcases hv : okTd (T k)
      · go_wp2
        refine wp_region_held_drew (S := fun x => Below (wr.alloc (.cells #[.string (T k).s, .slice (some ⟨g1, 0, none⟩) (T k).n (T k).n, .slice ar (T k).r cr] 54)).heap.size (wr.alloc (.cells #[.string (T k).s, .slice (some ⟨g1, 0, none⟩) (T k).n (T k).n, .slice ar (T k).r cr] 54)) x) (by kernel_rfl) (bdrew _) (fun hHeld => ?_)
        refine' wpAnyH_take (i := 0) (oi := ({ dst := some 17, op := Op.load 54 (Operand.tmp 4), type := 54, pos := "l5_replay.go:57", after := #[], guard := none } : Oper)) (v := _) rfl (by kernel_rfl) (by kernel_rfl) (by kernel_rfl) (fun _ _ _ h => h) (Or.inl ⟨by rfl, fun x hSw => ?hyz1_0⟩) hHeld ?restz1_0
        case hyz1_0 =>
          have k0 := keepB hSw y0; have k1 := keepB hSw y1; have k2 := keepB hSw y2; have k3 := keepB hSw x0
          go_simp
          try with_reducible rfl
        try simp only [Act.put, List.setIfInBounds_toArray, List.set_cons_zero, List.set_cons_succ]
        refine wpAnyH_ready (rs := [1]) (by kernel_rfl) (by simp) ?_
        refine AllReadyH.cons (o := ({ dst := some 18, op := Op.call { callee := Callee.value (Operand.func 19), args := #[Operand.tmp 17], argTypes := #[54] }, type := 4, pos := "l5_replay.go:57", after := #[{ on := 0, ground := Ground.data }], guard := none } : Oper)) rfl (fun K hK => ?_) AllReadyH.nil
        go_simp
        refine (sTab _ _ _ _ _ _ _ ar cr _ (hC.later (bstep B3 hHeld)) (hO.later (bstep B3 hHeld)) hs).mono ?_
        rw [show okTab (T k).s (T k).n (T k).C (T k).r (T k).m (T k).R = _ from hv]; rintro e w3 ⟨rfl, hb3⟩
        refine hK.out _ _ (bstep hHeld hb3) (fun hHeld => ?_)
        clear hK K
        try simp only [Act.put, List.setIfInBounds_toArray, List.set_cons_zero, List.set_cons_succ]
        refine' wpAnyH_take (i := 2) (oi := ({ dst := some 19, op := Op.unOp UnOp.not 4 (Operand.tmp 18), type := 4, pos := "l5_replay.go:57", after := #[{ on := 1, ground := Ground.data }], guard := none } : Oper)) (v := _) rfl (by kernel_rfl) (by kernel_rfl) (by kernel_rfl) (fun _ _ _ h => h) (Or.inl ⟨by rfl, fun x hSw => ?hyz1_2⟩) hHeld ?restz1_2
        case hyz1_2 =>
          have k0 := keepB hSw y0; have k1 := keepB hSw y1; have k2 := keepB hSw y2; have k3 := keepB hSw x0
          go_simp
          try with_reducible rfl
        try simp only [Act.put, List.setIfInBounds_toArray, List.set_cons_zero, List.set_cons_succ]
        refine' wpAnyH_take (i := 3) (oi := ({ dst := some 20, op := Op.move (Operand.tmp 19), type := 4, pos := "l5_replay.go:57", after := #[{ on := 2, ground := Ground.data }, { on := 1, ground := Ground.chain }], guard := none } : Oper)) (v := _) rfl (by kernel_rfl) (by kernel_rfl) (by kernel_rfl) (fun _ _ _ h => h) (Or.inl ⟨by rfl, fun x hSw => ?hyz1_3⟩) hHeld ?restz1_3
        case hyz1_3 =>
          have k0 := keepB hSw y0; have k1 := keepB hSw y1; have k2 := keepB hSw y2; have k3 := keepB hSw x0
          go_simp
          try with_reducible rfl
        try simp only [Act.put, List.setIfInBounds_toArray, List.set_cons_zero, List.set_cons_succ]
        refine wpAnyH_take (i := 4) (oi := ({ dst := some 21, op := Op.move (Operand.tmp 3), type := 3, pos := "l5_replay.go:57", after := #[{ on := 3, ground := Ground.guard }], guard := some (3, false) } : Oper)) (v := undef) rfl (by kernel_rfl) (by kernel_rfl) (by kernel_rfl) (fun _ _ _ h => h) (Or.inr ⟨by rfl, rfl⟩) hHeld ?_
        try simp only [Act.put, List.setIfInBounds_toArray, List.set_cons_zero, List.set_cons_succ]
        refine wpAnyH_take (i := 5) (oi := ({ dst := some 22, op := Op.binOp BinOp.gtr 3 (Operand.tmp 21) (Operand.const (Value.int IntKind.i64 0)) 3, type := 4, pos := "l5_replay.go:57", after := #[{ on := 4, ground := Ground.data }, { on := 3, ground := Ground.guard }], guard := some (3, false) } : Oper)) (v := undef) rfl (by kernel_rfl) (by kernel_rfl) (by kernel_rfl) (fun _ _ _ h => h) (Or.inr ⟨by rfl, rfl⟩) hHeld ?_
        try simp only [Act.put, List.setIfInBounds_toArray, List.set_cons_zero, List.set_cons_succ]
        refine wpAnyH_take (i := 6) (oi := ({ dst := some 23, op := Op.move (Operand.tmp 22), type := 4, pos := "l5_replay.go:57", after := #[{ on := 5, ground := Ground.data }, { on := 3, ground := Ground.chain }, { on := 3, ground := Ground.guard }], guard := some (3, false) } : Oper)) (v := undef) rfl (by kernel_rfl) (by kernel_rfl) (by kernel_rfl) (fun _ _ _ h => h) (Or.inr ⟨by rfl, rfl⟩) hHeld ?_
        try simp only [Act.put, List.setIfInBounds_toArray, List.set_cons_zero, List.set_cons_succ]
        refine wpAnyH_take (i := 7) (oi := ({ dst := some 24, op := Op.fieldAddr 29 (Operand.tmp 1) 0, type := 0, pos := "l5_replay.go:57", after := #[{ on := 6, ground := Ground.guard }], guard := some (6, true) } : Oper)) (v := undef) rfl (by kernel_rfl) (by kernel_rfl) (by kernel_rfl) (fun _ _ _ h => h) (Or.inr ⟨by rfl, rfl⟩) hHeld ?_
        try simp only [Act.put, List.setIfInBounds_toArray, List.set_cons_zero, List.set_cons_succ]
        refine wpAnyH_take (i := 8) (oi := ({ dst := some 25, op := Op.load 27 (Operand.tmp 24), type := 27, pos := "l5_replay.go:57", after := #[{ on := 7, ground := Ground.data }, { on := 6, ground := Ground.guard }], guard := some (6, true) } : Oper)) (v := undef) rfl (by kernel_rfl) (by kernel_rfl) (by kernel_rfl) (fun _ _ _ h => h) (Or.inr ⟨by rfl, rfl⟩) hHeld ?_
        try simp only [Act.put, List.setIfInBounds_toArray, List.set_cons_zero, List.set_cons_succ]
        refine wpAnyH_take (i := 9) (oi := ({ dst := some 26, op := Op.move (Operand.tmp 3), type := 3, pos := "l5_replay.go:57", after := #[{ on := 6, ground := Ground.guard }], guard := some (6, true) } : Oper)) (v := undef) rfl (by kernel_rfl) (by kernel_rfl) (by kernel_rfl) (fun _ _ _ h => h) (Or.inr ⟨by rfl, rfl⟩) hHeld ?_
        try simp only [Act.put, List.setIfInBounds_toArray, List.set_cons_zero, List.set_cons_succ]
        refine wpAnyH_take (i := 10) (oi := ({ dst := some 27, op := Op.binOp BinOp.sub 3 (Operand.tmp 26) (Operand.const (Value.int IntKind.i64 1)) 3, type := 3, pos := "l5_replay.go:57", after := #[{ on := 9, ground := Ground.data }, { on := 6, ground := Ground.guard }], guard := some (6, true) } : Oper)) (v := undef) rfl (by kernel_rfl) (by kernel_rfl) (by kernel_rfl) (fun _ _ _ h => h) (Or.inr ⟨by rfl, rfl⟩) hHeld ?_
        try simp only [Act.put, List.setIfInBounds_toArray, List.set_cons_zero, List.set_cons_succ]
        refine wpAnyH_take (i := 11) (oi := ({ dst := some 28, op := Op.indexAddr 27 (Operand.tmp 25) (Operand.tmp 27), type := 0, pos := "l5_replay.go:57", after := #[{ on := 8, ground := Ground.data }, { on := 10, ground := Ground.data }, { on := 6, ground := Ground.guard }], guard := some (6, true) } : Oper)) (v := undef) rfl (by kernel_rfl) (by kernel_rfl) (by kernel_rfl) (fun _ _ _ h => h) (Or.inr ⟨by rfl, rfl⟩) hHeld ?_
        try simp only [Act.put, List.setIfInBounds_toArray, List.set_cons_zero, List.set_cons_succ]
        refine wpAnyH_take (i := 12) (oi := ({ dst := some 29, op := Op.fieldAddr 54 (Operand.tmp 28) 0, type := 0, pos := "l5_replay.go:57", after := #[{ on := 11, ground := Ground.data }, { on := 6, ground := Ground.guard }], guard := some (6, true) } : Oper)) (v := undef) rfl (by kernel_rfl) (by kernel_rfl) (by kernel_rfl) (fun _ _ _ h => h) (Or.inr ⟨by rfl, rfl⟩) hHeld ?_
        try simp only [Act.put, List.setIfInBounds_toArray, List.set_cons_zero, List.set_cons_succ]
        refine wpAnyH_take (i := 13) (oi := ({ dst := some 30, op := Op.load 9 (Operand.tmp 29), type := 9, pos := "l5_replay.go:57", after := #[{ on := 12, ground := Ground.data }, { on := 6, ground := Ground.guard }], guard := some (6, true) } : Oper)) (v := undef) rfl (by kernel_rfl) (by kernel_rfl) (by kernel_rfl) (fun _ _ _ h => h) (Or.inr ⟨by rfl, rfl⟩) hHeld ?_
        try simp only [Act.put, List.setIfInBounds_toArray, List.set_cons_zero, List.set_cons_succ]
        refine wpAnyH_take (i := 14) (oi := ({ dst := some 31, op := Op.fieldAddr 54 (Operand.tmp 4) 0, type := 0, pos := "l5_replay.go:57", after := #[{ on := 6, ground := Ground.guard }], guard := some (6, true) } : Oper)) (v := undef) rfl (by kernel_rfl) (by kernel_rfl) (by kernel_rfl) (fun _ _ _ h => h) (Or.inr ⟨by rfl, rfl⟩) hHeld ?_
        try simp only [Act.put, List.setIfInBounds_toArray, List.set_cons_zero, List.set_cons_succ]
        refine wpAnyH_take (i := 15) (oi := ({ dst := some 32, op := Op.load 9 (Operand.tmp 31), type := 9, pos := "l5_replay.go:57", after := #[{ on := 14, ground := Ground.data }, { on := 6, ground := Ground.guard }], guard := some (6, true) } : Oper)) (v := undef) rfl (by kernel_rfl) (by kernel_rfl) (by kernel_rfl) (fun _ _ _ h => h) (Or.inr ⟨by rfl, rfl⟩) hHeld ?_
        try simp only [Act.put, List.setIfInBounds_toArray, List.set_cons_zero, List.set_cons_succ]
        refine wpAnyH_take (i := 16) (oi := ({ dst := some 33, op := Op.binOp BinOp.geq 9 (Operand.tmp 30) (Operand.tmp 32) 9, type := 4, pos := "l5_replay.go:57", after := #[{ on := 13, ground := Ground.data }, { on := 15, ground := Ground.data }, { on := 6, ground := Ground.guard }], guard := some (6, true) } : Oper)) (v := undef) rfl (by kernel_rfl) (by kernel_rfl) (by kernel_rfl) (fun _ _ _ h => h) (Or.inr ⟨by rfl, rfl⟩) hHeld ?_
        try simp only [Act.put, List.setIfInBounds_toArray, List.set_cons_zero, List.set_cons_succ]
        refine wpAnyH_take (i := 17) (oi := ({ dst := some 34, op := Op.pick (Operand.tmp 23) (Operand.tmp 33) (Operand.const (Value.bool false)), type := 4, pos := "l5_replay.go:57", after := #[{ on := 6, ground := Ground.data }, { on := 16, ground := Ground.data }, { on := 3, ground := Ground.guard }], guard := some (3, false) } : Oper)) (v := undef) rfl (by kernel_rfl) (by kernel_rfl) (by kernel_rfl) (fun _ _ _ h => h) (Or.inr ⟨by rfl, rfl⟩) hHeld ?_
        try simp only [Act.put, List.setIfInBounds_toArray, List.set_cons_zero, List.set_cons_succ]
        refine' wpAnyH_take (i := 18) (oi := ({ dst := some 35, op := Op.pick (Operand.tmp 20) (Operand.const (Value.bool true)) (Operand.tmp 34), type := 4, pos := "l5_replay.go:57", after := #[{ on := 3, ground := Ground.data }, { on := 17, ground := Ground.data }], guard := none } : Oper)) (v := _) rfl (by kernel_rfl) (by kernel_rfl) (by kernel_rfl) (fun _ _ _ h => h) (Or.inl ⟨by rfl, fun x hSw => ?hyz1_18⟩) hHeld ?restz1_18
        case hyz1_18 =>
          have k0 := keepB hSw y0; have k1 := keepB hSw y1; have k2 := keepB hSw y2; have k3 := keepB hSw x0
          go_simp
          try with_reducible rfl
        try simp only [Act.put, List.setIfInBounds_toArray, List.set_cons_zero, List.set_cons_succ]
        refine wpAnyH_done (by kernel_rfl) ?_ _
        go_wp2
        go_ret
        exact ⟨retB (okDb_no hlt (Or.inl hv)).symm, bstep B2 (bstep B3 hHeld)⟩
      by_cases hk0 : k = 0
      · subst hk0
        go_wp2
        refine wp_region_held_drew (S := fun x => Below (wr.alloc (.cells #[.string (T 0).s, .slice (some ⟨g1, 0, none⟩) (T 0).n (T 0).n, .slice ar (T 0).r cr] 54)).heap.size (wr.alloc (.cells #[.string (T 0).s, .slice (some ⟨g1, 0, none⟩) (T 0).n (T 0).n, .slice ar (T 0).r cr] 54)) x) (by kernel_rfl) (bdrew _) (fun hHeld => ?_)
        refine' wpAnyH_take (i := 0) (oi := ({ dst := some 17, op := Op.load 54 (Operand.tmp 4), type := 54, pos := "l5_replay.go:57", after := #[], guard := none } : Oper)) (v := _) rfl (by kernel_rfl) (by kernel_rfl) (by kernel_rfl) (fun _ _ _ h => h) (Or.inl ⟨by rfl, fun x hSw => ?hyz2_0⟩) hHeld ?restz2_0
        case hyz2_0 =>
          have k0 := keepB hSw y0; have k1 := keepB hSw y1; have k2 := keepB hSw y2; have k3 := keepB hSw x0
          go_simp
          try with_reducible rfl
        try simp only [Act.put, List.setIfInBounds_toArray, List.set_cons_zero, List.set_cons_succ]
        refine wpAnyH_ready (rs := [1]) (by kernel_rfl) (by simp) ?_
        refine AllReadyH.cons (o := ({ dst := some 18, op := Op.call { callee := Callee.value (Operand.func 19), args := #[Operand.tmp 17], argTypes := #[54] }, type := 4, pos := "l5_replay.go:57", after := #[{ on := 0, ground := Ground.data }], guard := none } : Oper)) rfl (fun K hK => ?_) AllReadyH.nil
        go_simp
        refine (sTab _ _ _ _ _ _ _ ar cr _ (hC.later (bstep B3 hHeld)) (hO.later (bstep B3 hHeld)) hs).mono ?_
        rw [show okTab (T 0).s (T 0).n (T 0).C (T 0).r (T 0).m (T 0).R = _ from hv]; rintro e w3 ⟨rfl, hb3⟩
        refine hK.out _ _ (bstep hHeld hb3) (fun hHeld => ?_)
        clear hK K
        try simp only [Act.put, List.setIfInBounds_toArray, List.set_cons_zero, List.set_cons_succ]
        refine' wpAnyH_take (i := 2) (oi := ({ dst := some 19, op := Op.unOp UnOp.not 4 (Operand.tmp 18), type := 4, pos := "l5_replay.go:57", after := #[{ on := 1, ground := Ground.data }], guard := none } : Oper)) (v := _) rfl (by kernel_rfl) (by kernel_rfl) (by kernel_rfl) (fun _ _ _ h => h) (Or.inl ⟨by rfl, fun x hSw => ?hyz2_2⟩) hHeld ?restz2_2
        case hyz2_2 =>
          have k0 := keepB hSw y0; have k1 := keepB hSw y1; have k2 := keepB hSw y2; have k3 := keepB hSw x0
          go_simp
          try with_reducible rfl
        try simp only [Act.put, List.setIfInBounds_toArray, List.set_cons_zero, List.set_cons_succ]
        refine' wpAnyH_take (i := 3) (oi := ({ dst := some 20, op := Op.move (Operand.tmp 19), type := 4, pos := "l5_replay.go:57", after := #[{ on := 2, ground := Ground.data }, { on := 1, ground := Ground.chain }], guard := none } : Oper)) (v := _) rfl (by kernel_rfl) (by kernel_rfl) (by kernel_rfl) (fun _ _ _ h => h) (Or.inl ⟨by rfl, fun x hSw => ?hyz2_3⟩) hHeld ?restz2_3
        case hyz2_3 =>
          have k0 := keepB hSw y0; have k1 := keepB hSw y1; have k2 := keepB hSw y2; have k3 := keepB hSw x0
          go_simp
          try with_reducible rfl
        try simp only [Act.put, List.setIfInBounds_toArray, List.set_cons_zero, List.set_cons_succ]
        refine' wpAnyH_take (i := 4) (oi := ({ dst := some 21, op := Op.move (Operand.tmp 3), type := 3, pos := "l5_replay.go:57", after := #[{ on := 3, ground := Ground.guard }], guard := some (3, false) } : Oper)) (v := _) rfl (by kernel_rfl) (by kernel_rfl) (by kernel_rfl) (fun _ _ _ h => h) (Or.inl ⟨by rfl, fun x hSw => ?hyz2_4⟩) hHeld ?restz2_4
        case hyz2_4 =>
          have k0 := keepB hSw y0; have k1 := keepB hSw y1; have k2 := keepB hSw y2; have k3 := keepB hSw x0
          go_simp
          try with_reducible rfl
        try simp only [Act.put, List.setIfInBounds_toArray, List.set_cons_zero, List.set_cons_succ]
        refine' wpAnyH_take (i := 5) (oi := ({ dst := some 22, op := Op.binOp BinOp.gtr 3 (Operand.tmp 21) (Operand.const (Value.int IntKind.i64 0)) 3, type := 4, pos := "l5_replay.go:57", after := #[{ on := 4, ground := Ground.data }, { on := 3, ground := Ground.guard }], guard := some (3, false) } : Oper)) (v := _) rfl (by kernel_rfl) (by kernel_rfl) (by kernel_rfl) (fun _ _ _ h => h) (Or.inl ⟨by rfl, fun x hSw => ?hyz2_5⟩) hHeld ?restz2_5
        case hyz2_5 =>
          have k0 := keepB hSw y0; have k1 := keepB hSw y1; have k2 := keepB hSw y2; have k3 := keepB hSw x0
          go_simp
          try with_reducible rfl
        try simp only [Act.put, List.setIfInBounds_toArray, List.set_cons_zero, List.set_cons_succ]
        refine' wpAnyH_take (i := 6) (oi := ({ dst := some 23, op := Op.move (Operand.tmp 22), type := 4, pos := "l5_replay.go:57", after := #[{ on := 5, ground := Ground.data }, { on := 3, ground := Ground.chain }, { on := 3, ground := Ground.guard }], guard := some (3, false) } : Oper)) (v := _) rfl (by kernel_rfl) (by kernel_rfl) (by kernel_rfl) (fun _ _ _ h => h) (Or.inl ⟨by rfl, fun x hSw => ?hyz2_6⟩) hHeld ?restz2_6
        case hyz2_6 =>
          have k0 := keepB hSw y0; have k1 := keepB hSw y1; have k2 := keepB hSw y2; have k3 := keepB hSw x0
          go_simp
          try with_reducible rfl
        try simp only [Act.put, List.setIfInBounds_toArray, List.set_cons_zero, List.set_cons_succ]
        refine wpAnyH_take (i := 7) (oi := ({ dst := some 24, op := Op.fieldAddr 29 (Operand.tmp 1) 0, type := 0, pos := "l5_replay.go:57", after := #[{ on := 6, ground := Ground.guard }], guard := some (6, true) } : Oper)) (v := undef) rfl (by kernel_rfl) (by kernel_rfl) (by kernel_rfl) (fun _ _ _ h => h) (Or.inr ⟨by rfl, rfl⟩) hHeld ?_
        try simp only [Act.put, List.setIfInBounds_toArray, List.set_cons_zero, List.set_cons_succ]
        refine wpAnyH_take (i := 8) (oi := ({ dst := some 25, op := Op.load 27 (Operand.tmp 24), type := 27, pos := "l5_replay.go:57", after := #[{ on := 7, ground := Ground.data }, { on := 6, ground := Ground.guard }], guard := some (6, true) } : Oper)) (v := undef) rfl (by kernel_rfl) (by kernel_rfl) (by kernel_rfl) (fun _ _ _ h => h) (Or.inr ⟨by rfl, rfl⟩) hHeld ?_
        try simp only [Act.put, List.setIfInBounds_toArray, List.set_cons_zero, List.set_cons_succ]
        refine wpAnyH_take (i := 9) (oi := ({ dst := some 26, op := Op.move (Operand.tmp 3), type := 3, pos := "l5_replay.go:57", after := #[{ on := 6, ground := Ground.guard }], guard := some (6, true) } : Oper)) (v := undef) rfl (by kernel_rfl) (by kernel_rfl) (by kernel_rfl) (fun _ _ _ h => h) (Or.inr ⟨by rfl, rfl⟩) hHeld ?_
        try simp only [Act.put, List.setIfInBounds_toArray, List.set_cons_zero, List.set_cons_succ]
        refine wpAnyH_take (i := 10) (oi := ({ dst := some 27, op := Op.binOp BinOp.sub 3 (Operand.tmp 26) (Operand.const (Value.int IntKind.i64 1)) 3, type := 3, pos := "l5_replay.go:57", after := #[{ on := 9, ground := Ground.data }, { on := 6, ground := Ground.guard }], guard := some (6, true) } : Oper)) (v := undef) rfl (by kernel_rfl) (by kernel_rfl) (by kernel_rfl) (fun _ _ _ h => h) (Or.inr ⟨by rfl, rfl⟩) hHeld ?_
        try simp only [Act.put, List.setIfInBounds_toArray, List.set_cons_zero, List.set_cons_succ]
        refine wpAnyH_take (i := 11) (oi := ({ dst := some 28, op := Op.indexAddr 27 (Operand.tmp 25) (Operand.tmp 27), type := 0, pos := "l5_replay.go:57", after := #[{ on := 8, ground := Ground.data }, { on := 10, ground := Ground.data }, { on := 6, ground := Ground.guard }], guard := some (6, true) } : Oper)) (v := undef) rfl (by kernel_rfl) (by kernel_rfl) (by kernel_rfl) (fun _ _ _ h => h) (Or.inr ⟨by rfl, rfl⟩) hHeld ?_
        try simp only [Act.put, List.setIfInBounds_toArray, List.set_cons_zero, List.set_cons_succ]
        refine wpAnyH_take (i := 12) (oi := ({ dst := some 29, op := Op.fieldAddr 54 (Operand.tmp 28) 0, type := 0, pos := "l5_replay.go:57", after := #[{ on := 11, ground := Ground.data }, { on := 6, ground := Ground.guard }], guard := some (6, true) } : Oper)) (v := undef) rfl (by kernel_rfl) (by kernel_rfl) (by kernel_rfl) (fun _ _ _ h => h) (Or.inr ⟨by rfl, rfl⟩) hHeld ?_
        try simp only [Act.put, List.setIfInBounds_toArray, List.set_cons_zero, List.set_cons_succ]
        refine wpAnyH_take (i := 13) (oi := ({ dst := some 30, op := Op.load 9 (Operand.tmp 29), type := 9, pos := "l5_replay.go:57", after := #[{ on := 12, ground := Ground.data }, { on := 6, ground := Ground.guard }], guard := some (6, true) } : Oper)) (v := undef) rfl (by kernel_rfl) (by kernel_rfl) (by kernel_rfl) (fun _ _ _ h => h) (Or.inr ⟨by rfl, rfl⟩) hHeld ?_
        try simp only [Act.put, List.setIfInBounds_toArray, List.set_cons_zero, List.set_cons_succ]
        refine wpAnyH_take (i := 14) (oi := ({ dst := some 31, op := Op.fieldAddr 54 (Operand.tmp 4) 0, type := 0, pos := "l5_replay.go:57", after := #[{ on := 6, ground := Ground.guard }], guard := some (6, true) } : Oper)) (v := undef) rfl (by kernel_rfl) (by kernel_rfl) (by kernel_rfl) (fun _ _ _ h => h) (Or.inr ⟨by rfl, rfl⟩) hHeld ?_
        try simp only [Act.put, List.setIfInBounds_toArray, List.set_cons_zero, List.set_cons_succ]
        refine wpAnyH_take (i := 15) (oi := ({ dst := some 32, op := Op.load 9 (Operand.tmp 31), type := 9, pos := "l5_replay.go:57", after := #[{ on := 14, ground := Ground.data }, { on := 6, ground := Ground.guard }], guard := some (6, true) } : Oper)) (v := undef) rfl (by kernel_rfl) (by kernel_rfl) (by kernel_rfl) (fun _ _ _ h => h) (Or.inr ⟨by rfl, rfl⟩) hHeld ?_
        try simp only [Act.put, List.setIfInBounds_toArray, List.set_cons_zero, List.set_cons_succ]
        refine wpAnyH_take (i := 16) (oi := ({ dst := some 33, op := Op.binOp BinOp.geq 9 (Operand.tmp 30) (Operand.tmp 32) 9, type := 4, pos := "l5_replay.go:57", after := #[{ on := 13, ground := Ground.data }, { on := 15, ground := Ground.data }, { on := 6, ground := Ground.guard }], guard := some (6, true) } : Oper)) (v := undef) rfl (by kernel_rfl) (by kernel_rfl) (by kernel_rfl) (fun _ _ _ h => h) (Or.inr ⟨by rfl, rfl⟩) hHeld ?_
        try simp only [Act.put, List.setIfInBounds_toArray, List.set_cons_zero, List.set_cons_succ]
        refine' wpAnyH_take (i := 17) (oi := ({ dst := some 34, op := Op.pick (Operand.tmp 23) (Operand.tmp 33) (Operand.const (Value.bool false)), type := 4, pos := "l5_replay.go:57", after := #[{ on := 6, ground := Ground.data }, { on := 16, ground := Ground.data }, { on := 3, ground := Ground.guard }], guard := some (3, false) } : Oper)) (v := _) rfl (by kernel_rfl) (by kernel_rfl) (by kernel_rfl) (fun _ _ _ h => h) (Or.inl ⟨by rfl, fun x hSw => ?hyz2_17⟩) hHeld ?restz2_17
        case hyz2_17 =>
          have k0 := keepB hSw y0; have k1 := keepB hSw y1; have k2 := keepB hSw y2; have k3 := keepB hSw x0
          go_simp
          try with_reducible rfl
        try simp only [Act.put, List.setIfInBounds_toArray, List.set_cons_zero, List.set_cons_succ]
        refine' wpAnyH_take (i := 18) (oi := ({ dst := some 35, op := Op.pick (Operand.tmp 20) (Operand.const (Value.bool true)) (Operand.tmp 34), type := 4, pos := "l5_replay.go:57", after := #[{ on := 3, ground := Ground.data }, { on := 17, ground := Ground.data }], guard := none } : Oper)) (v := _) rfl (by kernel_rfl) (by kernel_rfl) (by kernel_rfl) (fun _ _ _ h => h) (Or.inl ⟨by rfl, fun x hSw => ?hyz2_18⟩) hHeld ?restz2_18
        case hyz2_18 =>
          have k0 := keepB hSw y0; have k1 := keepB hSw y1; have k2 := keepB hSw y2; have k3 := keepB hSw x0
          go_simp
          try with_reducible rfl
        try simp only [Act.put, List.setIfInBounds_toArray, List.set_cons_zero, List.set_cons_succ]
        refine wpAnyH_done (by kernel_rfl) ?_ _
        go_wp2
        go_roundw
        case rel => exact ⟨0 + 1, by omega, by go_num, fun j hj => by
          obtain rfl : j = 0 := by omega
          exact ⟨hv, rfl⟩, bstep hb (bstep B3 hHeld)⟩
        case measure => simp [intOf]; omega
      obtain ⟨p, rfl⟩ : ∃ p, k = p + 1 := ⟨k - 1, by omega⟩
      obtain ⟨-, -, -, q0, -, -, -, -, -⟩ := h.later B2 p (by omega)
      have p0 := keepB B3 q0
      have i0 : (0 : Int) ≤ (p : Int) := by omega
      have i4 : (p : Int) < (n : Int) := by omega
      have i3 : IntKind.i64.wrap (p : Int) = (p : Int) := by rw [IntKind.wrap_i64]; omega
      have i5 : (0 : Int) < (p : Int) + 1 := by omega
      rcases h7 : Op.bytesLess (T p).s.toList (T (p + 1)).s.toList
      · go_wp2
        refine wp_region_held_drew (S := fun x => Below (wr.alloc (.cells #[.string (T (p + 1)).s, .slice (some ⟨g1, 0, none⟩) (T (p + 1)).n (T (p + 1)).n, .slice ar (T (p + 1)).r cr] 54)).heap.size (wr.alloc (.cells #[.string (T (p + 1)).s, .slice (some ⟨g1, 0, none⟩) (T (p + 1)).n (T (p + 1)).n, .slice ar (T (p + 1)).r cr] 54)) x) (by kernel_rfl) (bdrew _) (fun hHeld => ?_)
        refine' wpAnyH_take (i := 0) (oi := ({ dst := some 17, op := Op.load 54 (Operand.tmp 4), type := 54, pos := "l5_replay.go:57", after := #[], guard := none } : Oper)) (v := _) rfl (by kernel_rfl) (by kernel_rfl) (by kernel_rfl) (fun _ _ _ h => h) (Or.inl ⟨by rfl, fun x hSw => ?hyz3_0⟩) hHeld ?restz3_0
        case hyz3_0 =>
          have k0 := keepB hSw y0; have k1 := keepB hSw y1; have k2 := keepB hSw y2; have k3 := keepB hSw x0; have k4 := keepB hSw p0
          go_simp
          try with_reducible rfl
        try simp only [Act.put, List.setIfInBounds_toArray, List.set_cons_zero, List.set_cons_succ]
        refine wpAnyH_ready (rs := [1]) (by kernel_rfl) (by simp) ?_
        refine AllReadyH.cons (o := ({ dst := some 18, op := Op.call { callee := Callee.value (Operand.func 19), args := #[Operand.tmp 17], argTypes := #[54] }, type := 4, pos := "l5_replay.go:57", after := #[{ on := 0, ground := Ground.data }], guard := none } : Oper)) rfl (fun K hK => ?_) AllReadyH.nil
        go_simp
        refine (sTab _ _ _ _ _ _ _ ar cr _ (hC.later (bstep B3 hHeld)) (hO.later (bstep B3 hHeld)) hs).mono ?_
        rw [show okTab (T (p + 1)).s (T (p + 1)).n (T (p + 1)).C (T (p + 1)).r (T (p + 1)).m (T (p + 1)).R = _ from hv]; rintro e w3 ⟨rfl, hb3⟩
        refine hK.out _ _ (bstep hHeld hb3) (fun hHeld => ?_)
        clear hK K
        try simp only [Act.put, List.setIfInBounds_toArray, List.set_cons_zero, List.set_cons_succ]
        refine' wpAnyH_take (i := 2) (oi := ({ dst := some 19, op := Op.unOp UnOp.not 4 (Operand.tmp 18), type := 4, pos := "l5_replay.go:57", after := #[{ on := 1, ground := Ground.data }], guard := none } : Oper)) (v := _) rfl (by kernel_rfl) (by kernel_rfl) (by kernel_rfl) (fun _ _ _ h => h) (Or.inl ⟨by rfl, fun x hSw => ?hyz3_2⟩) hHeld ?restz3_2
        case hyz3_2 =>
          have k0 := keepB hSw y0; have k1 := keepB hSw y1; have k2 := keepB hSw y2; have k3 := keepB hSw x0; have k4 := keepB hSw p0
          go_simp
          try with_reducible rfl
        try simp only [Act.put, List.setIfInBounds_toArray, List.set_cons_zero, List.set_cons_succ]
        refine' wpAnyH_take (i := 3) (oi := ({ dst := some 20, op := Op.move (Operand.tmp 19), type := 4, pos := "l5_replay.go:57", after := #[{ on := 2, ground := Ground.data }, { on := 1, ground := Ground.chain }], guard := none } : Oper)) (v := _) rfl (by kernel_rfl) (by kernel_rfl) (by kernel_rfl) (fun _ _ _ h => h) (Or.inl ⟨by rfl, fun x hSw => ?hyz3_3⟩) hHeld ?restz3_3
        case hyz3_3 =>
          have k0 := keepB hSw y0; have k1 := keepB hSw y1; have k2 := keepB hSw y2; have k3 := keepB hSw x0; have k4 := keepB hSw p0
          go_simp
          try with_reducible rfl
        try simp only [Act.put, List.setIfInBounds_toArray, List.set_cons_zero, List.set_cons_succ]
        refine' wpAnyH_take (i := 4) (oi := ({ dst := some 21, op := Op.move (Operand.tmp 3), type := 3, pos := "l5_replay.go:57", after := #[{ on := 3, ground := Ground.guard }], guard := some (3, false) } : Oper)) (v := _) rfl (by kernel_rfl) (by kernel_rfl) (by kernel_rfl) (fun _ _ _ h => h) (Or.inl ⟨by rfl, fun x hSw => ?hyz3_4⟩) hHeld ?restz3_4
        case hyz3_4 =>
          have k0 := keepB hSw y0; have k1 := keepB hSw y1; have k2 := keepB hSw y2; have k3 := keepB hSw x0; have k4 := keepB hSw p0
          go_simp
          try with_reducible rfl
        try simp only [Act.put, List.setIfInBounds_toArray, List.set_cons_zero, List.set_cons_succ]
        refine' wpAnyH_take (i := 5) (oi := ({ dst := some 22, op := Op.binOp BinOp.gtr 3 (Operand.tmp 21) (Operand.const (Value.int IntKind.i64 0)) 3, type := 4, pos := "l5_replay.go:57", after := #[{ on := 4, ground := Ground.data }, { on := 3, ground := Ground.guard }], guard := some (3, false) } : Oper)) (v := _) rfl (by kernel_rfl) (by kernel_rfl) (by kernel_rfl) (fun _ _ _ h => h) (Or.inl ⟨by rfl, fun x hSw => ?hyz3_5⟩) hHeld ?restz3_5
        case hyz3_5 =>
          have k0 := keepB hSw y0; have k1 := keepB hSw y1; have k2 := keepB hSw y2; have k3 := keepB hSw x0; have k4 := keepB hSw p0
          go_simp
          try with_reducible rfl
        try simp only [Act.put, List.setIfInBounds_toArray, List.set_cons_zero, List.set_cons_succ]
        refine' wpAnyH_take (i := 6) (oi := ({ dst := some 23, op := Op.move (Operand.tmp 22), type := 4, pos := "l5_replay.go:57", after := #[{ on := 5, ground := Ground.data }, { on := 3, ground := Ground.chain }, { on := 3, ground := Ground.guard }], guard := some (3, false) } : Oper)) (v := _) rfl (by kernel_rfl) (by kernel_rfl) (by kernel_rfl) (fun _ _ _ h => h) (Or.inl ⟨by rfl, fun x hSw => ?hyz3_6⟩) hHeld ?restz3_6
        case hyz3_6 =>
          have k0 := keepB hSw y0; have k1 := keepB hSw y1; have k2 := keepB hSw y2; have k3 := keepB hSw x0; have k4 := keepB hSw p0
          go_simp
          try with_reducible rfl
        try simp only [Act.put, List.setIfInBounds_toArray, List.set_cons_zero, List.set_cons_succ]
        refine' wpAnyH_take (i := 7) (oi := ({ dst := some 24, op := Op.fieldAddr 29 (Operand.tmp 1) 0, type := 0, pos := "l5_replay.go:57", after := #[{ on := 6, ground := Ground.guard }], guard := some (6, true) } : Oper)) (v := _) rfl (by kernel_rfl) (by kernel_rfl) (by kernel_rfl) (fun _ _ _ h => h) (Or.inl ⟨by rfl, fun x hSw => ?hyz3_7⟩) hHeld ?restz3_7
        case hyz3_7 =>
          have k0 := keepB hSw y0; have k1 := keepB hSw y1; have k2 := keepB hSw y2; have k3 := keepB hSw x0; have k4 := keepB hSw p0
          go_simp
          try with_reducible rfl
        try simp only [Act.put, List.setIfInBounds_toArray, List.set_cons_zero, List.set_cons_succ]
        refine' wpAnyH_take (i := 8) (oi := ({ dst := some 25, op := Op.load 27 (Operand.tmp 24), type := 27, pos := "l5_replay.go:57", after := #[{ on := 7, ground := Ground.data }, { on := 6, ground := Ground.guard }], guard := some (6, true) } : Oper)) (v := _) rfl (by kernel_rfl) (by kernel_rfl) (by kernel_rfl) (fun _ _ _ h => h) (Or.inl ⟨by rfl, fun x hSw => ?hyz3_8⟩) hHeld ?restz3_8
        case hyz3_8 =>
          have k0 := keepB hSw y0; have k1 := keepB hSw y1; have k2 := keepB hSw y2; have k3 := keepB hSw x0; have k4 := keepB hSw p0
          go_simp
          try with_reducible rfl
        try simp only [Act.put, List.setIfInBounds_toArray, List.set_cons_zero, List.set_cons_succ]
        refine' wpAnyH_take (i := 9) (oi := ({ dst := some 26, op := Op.move (Operand.tmp 3), type := 3, pos := "l5_replay.go:57", after := #[{ on := 6, ground := Ground.guard }], guard := some (6, true) } : Oper)) (v := _) rfl (by kernel_rfl) (by kernel_rfl) (by kernel_rfl) (fun _ _ _ h => h) (Or.inl ⟨by rfl, fun x hSw => ?hyz3_9⟩) hHeld ?restz3_9
        case hyz3_9 =>
          have k0 := keepB hSw y0; have k1 := keepB hSw y1; have k2 := keepB hSw y2; have k3 := keepB hSw x0; have k4 := keepB hSw p0
          go_simp
          try with_reducible rfl
        try simp only [Act.put, List.setIfInBounds_toArray, List.set_cons_zero, List.set_cons_succ]
        refine' wpAnyH_take (i := 10) (oi := ({ dst := some 27, op := Op.binOp BinOp.sub 3 (Operand.tmp 26) (Operand.const (Value.int IntKind.i64 1)) 3, type := 3, pos := "l5_replay.go:57", after := #[{ on := 9, ground := Ground.data }, { on := 6, ground := Ground.guard }], guard := some (6, true) } : Oper)) (v := .int .i64 (p : Int)) rfl (by kernel_rfl) (by kernel_rfl) (by kernel_rfl) (fun _ _ _ h => h) (Or.inl ⟨by rfl, fun x hSw => ?hyz3_10⟩) hHeld ?restz3_10
        case hyz3_10 =>
          have k0 := keepB hSw y0; have k1 := keepB hSw y1; have k2 := keepB hSw y2; have k3 := keepB hSw x0; have k4 := keepB hSw p0
          go_simp
          try with_reducible rfl
        try simp only [Act.put, List.setIfInBounds_toArray, List.set_cons_zero, List.set_cons_succ]
        refine' wpAnyH_take (i := 11) (oi := ({ dst := some 28, op := Op.indexAddr 27 (Operand.tmp 25) (Operand.tmp 27), type := 0, pos := "l5_replay.go:57", after := #[{ on := 8, ground := Ground.data }, { on := 10, ground := Ground.data }, { on := 6, ground := Ground.guard }], guard := some (6, true) } : Oper)) (v := .pointer (some ⟨g, p * 3, none⟩)) rfl (by kernel_rfl) (by kernel_rfl) (by kernel_rfl) (fun _ _ _ h => h) (Or.inl ⟨by rfl, fun x hSw => ?hyz3_11⟩) hHeld ?restz3_11
        case hyz3_11 =>
          have k0 := keepB hSw y0; have k1 := keepB hSw y1; have k2 := keepB hSw y2; have k3 := keepB hSw x0; have k4 := keepB hSw p0
          go_simp
          try with_reducible rfl
        try simp only [Act.put, List.setIfInBounds_toArray, List.set_cons_zero, List.set_cons_succ]
        refine' wpAnyH_take (i := 12) (oi := ({ dst := some 29, op := Op.fieldAddr 54 (Operand.tmp 28) 0, type := 0, pos := "l5_replay.go:57", after := #[{ on := 11, ground := Ground.data }, { on := 6, ground := Ground.guard }], guard := some (6, true) } : Oper)) (v := .pointer (some ⟨g, p * 3, none⟩)) rfl (by kernel_rfl) (by kernel_rfl) (by kernel_rfl) (fun _ _ _ h => h) (Or.inl ⟨by rfl, fun x hSw => ?hyz3_12⟩) hHeld ?restz3_12
        case hyz3_12 =>
          have k0 := keepB hSw y0; have k1 := keepB hSw y1; have k2 := keepB hSw y2; have k3 := keepB hSw x0; have k4 := keepB hSw p0
          go_simp
          try with_reducible rfl
        try simp only [Act.put, List.setIfInBounds_toArray, List.set_cons_zero, List.set_cons_succ]
        refine' wpAnyH_take (i := 13) (oi := ({ dst := some 30, op := Op.load 9 (Operand.tmp 29), type := 9, pos := "l5_replay.go:57", after := #[{ on := 12, ground := Ground.data }, { on := 6, ground := Ground.guard }], guard := some (6, true) } : Oper)) (v := _) rfl (by kernel_rfl) (by kernel_rfl) (by kernel_rfl) (fun _ _ _ h => h) (Or.inl ⟨by rfl, fun x hSw => ?hyz3_13⟩) hHeld ?restz3_13
        case hyz3_13 =>
          have k0 := keepB hSw y0; have k1 := keepB hSw y1; have k2 := keepB hSw y2; have k3 := keepB hSw x0; have k4 := keepB hSw p0
          go_simp
          try with_reducible rfl
        try simp only [Act.put, List.setIfInBounds_toArray, List.set_cons_zero, List.set_cons_succ]
        refine' wpAnyH_take (i := 14) (oi := ({ dst := some 31, op := Op.fieldAddr 54 (Operand.tmp 4) 0, type := 0, pos := "l5_replay.go:57", after := #[{ on := 6, ground := Ground.guard }], guard := some (6, true) } : Oper)) (v := _) rfl (by kernel_rfl) (by kernel_rfl) (by kernel_rfl) (fun _ _ _ h => h) (Or.inl ⟨by rfl, fun x hSw => ?hyz3_14⟩) hHeld ?restz3_14
        case hyz3_14 =>
          have k0 := keepB hSw y0; have k1 := keepB hSw y1; have k2 := keepB hSw y2; have k3 := keepB hSw x0; have k4 := keepB hSw p0
          go_simp
          try with_reducible rfl
        try simp only [Act.put, List.setIfInBounds_toArray, List.set_cons_zero, List.set_cons_succ]
        refine' wpAnyH_take (i := 15) (oi := ({ dst := some 32, op := Op.load 9 (Operand.tmp 31), type := 9, pos := "l5_replay.go:57", after := #[{ on := 14, ground := Ground.data }, { on := 6, ground := Ground.guard }], guard := some (6, true) } : Oper)) (v := _) rfl (by kernel_rfl) (by kernel_rfl) (by kernel_rfl) (fun _ _ _ h => h) (Or.inl ⟨by rfl, fun x hSw => ?hyz3_15⟩) hHeld ?restz3_15
        case hyz3_15 =>
          have k0 := keepB hSw y0; have k1 := keepB hSw y1; have k2 := keepB hSw y2; have k3 := keepB hSw x0; have k4 := keepB hSw p0
          go_simp
          try with_reducible rfl
        try simp only [Act.put, List.setIfInBounds_toArray, List.set_cons_zero, List.set_cons_succ]
        refine' wpAnyH_take (i := 16) (oi := ({ dst := some 33, op := Op.binOp BinOp.geq 9 (Operand.tmp 30) (Operand.tmp 32) 9, type := 4, pos := "l5_replay.go:57", after := #[{ on := 13, ground := Ground.data }, { on := 15, ground := Ground.data }, { on := 6, ground := Ground.guard }], guard := some (6, true) } : Oper)) (v := _) rfl (by kernel_rfl) (by kernel_rfl) (by kernel_rfl) (fun _ _ _ h => h) (Or.inl ⟨by rfl, fun x hSw => ?hyz3_16⟩) hHeld ?restz3_16
        case hyz3_16 =>
          have k0 := keepB hSw y0; have k1 := keepB hSw y1; have k2 := keepB hSw y2; have k3 := keepB hSw x0; have k4 := keepB hSw p0
          go_simp
          try with_reducible rfl
        try simp only [Act.put, List.setIfInBounds_toArray, List.set_cons_zero, List.set_cons_succ]
        refine' wpAnyH_take (i := 17) (oi := ({ dst := some 34, op := Op.pick (Operand.tmp 23) (Operand.tmp 33) (Operand.const (Value.bool false)), type := 4, pos := "l5_replay.go:57", after := #[{ on := 6, ground := Ground.data }, { on := 16, ground := Ground.data }, { on := 3, ground := Ground.guard }], guard := some (3, false) } : Oper)) (v := _) rfl (by kernel_rfl) (by kernel_rfl) (by kernel_rfl) (fun _ _ _ h => h) (Or.inl ⟨by rfl, fun x hSw => ?hyz3_17⟩) hHeld ?restz3_17
        case hyz3_17 =>
          have k0 := keepB hSw y0; have k1 := keepB hSw y1; have k2 := keepB hSw y2; have k3 := keepB hSw x0; have k4 := keepB hSw p0
          go_simp
          try with_reducible rfl
        try simp only [Act.put, List.setIfInBounds_toArray, List.set_cons_zero, List.set_cons_succ]
        refine' wpAnyH_take (i := 18) (oi := ({ dst := some 35, op := Op.pick (Operand.tmp 20) (Operand.const (Value.bool true)) (Operand.tmp 34), type := 4, pos := "l5_replay.go:57", after := #[{ on := 3, ground := Ground.data }, { on := 17, ground := Ground.data }], guard := none } : Oper)) (v := _) rfl (by kernel_rfl) (by kernel_rfl) (by kernel_rfl) (fun _ _ _ h => h) (Or.inl ⟨by rfl, fun x hSw => ?hyz3_18⟩) hHeld ?restz3_18
        case hyz3_18 =>
          have k0 := keepB hSw y0; have k1 := keepB hSw y1; have k2 := keepB hSw y2; have k3 := keepB hSw x0; have k4 := keepB hSw p0
          go_simp
          try with_reducible rfl
        try simp only [Act.put, List.setIfInBounds_toArray, List.set_cons_zero, List.set_cons_succ]
        refine wpAnyH_done (by kernel_rfl) ?_ _
        go_wp2
        go_ret
        exact ⟨retB (okDb_no hlt (Or.inr (by unfold ltD; rw [Nat.add_sub_cancel, h7]; simp))).symm, bstep B2 (bstep B3 hHeld)⟩
      · go_wp2
        refine wp_region_held_drew (S := fun x => Below (wr.alloc (.cells #[.string (T (p + 1)).s, .slice (some ⟨g1, 0, none⟩) (T (p + 1)).n (T (p + 1)).n, .slice ar (T (p + 1)).r cr] 54)).heap.size (wr.alloc (.cells #[.string (T (p + 1)).s, .slice (some ⟨g1, 0, none⟩) (T (p + 1)).n (T (p + 1)).n, .slice ar (T (p + 1)).r cr] 54)) x) (by kernel_rfl) (bdrew _) (fun hHeld => ?_)
        refine' wpAnyH_take (i := 0) (oi := ({ dst := some 17, op := Op.load 54 (Operand.tmp 4), type := 54, pos := "l5_replay.go:57", after := #[], guard := none } : Oper)) (v := _) rfl (by kernel_rfl) (by kernel_rfl) (by kernel_rfl) (fun _ _ _ h => h) (Or.inl ⟨by rfl, fun x hSw => ?hyz4_0⟩) hHeld ?restz4_0
        case hyz4_0 =>
          have k0 := keepB hSw y0; have k1 := keepB hSw y1; have k2 := keepB hSw y2; have k3 := keepB hSw x0; have k4 := keepB hSw p0
          go_simp
          try with_reducible rfl
        try simp only [Act.put, List.setIfInBounds_toArray, List.set_cons_zero, List.set_cons_succ]
        refine wpAnyH_ready (rs := [1]) (by kernel_rfl) (by simp) ?_
        refine AllReadyH.cons (o := ({ dst := some 18, op := Op.call { callee := Callee.value (Operand.func 19), args := #[Operand.tmp 17], argTypes := #[54] }, type := 4, pos := "l5_replay.go:57", after := #[{ on := 0, ground := Ground.data }], guard := none } : Oper)) rfl (fun K hK => ?_) AllReadyH.nil
        go_simp
        refine (sTab _ _ _ _ _ _ _ ar cr _ (hC.later (bstep B3 hHeld)) (hO.later (bstep B3 hHeld)) hs).mono ?_
        rw [show okTab (T (p + 1)).s (T (p + 1)).n (T (p + 1)).C (T (p + 1)).r (T (p + 1)).m (T (p + 1)).R = _ from hv]; rintro e w3 ⟨rfl, hb3⟩
        refine hK.out _ _ (bstep hHeld hb3) (fun hHeld => ?_)
        clear hK K
        try simp only [Act.put, List.setIfInBounds_toArray, List.set_cons_zero, List.set_cons_succ]
        refine' wpAnyH_take (i := 2) (oi := ({ dst := some 19, op := Op.unOp UnOp.not 4 (Operand.tmp 18), type := 4, pos := "l5_replay.go:57", after := #[{ on := 1, ground := Ground.data }], guard := none } : Oper)) (v := _) rfl (by kernel_rfl) (by kernel_rfl) (by kernel_rfl) (fun _ _ _ h => h) (Or.inl ⟨by rfl, fun x hSw => ?hyz4_2⟩) hHeld ?restz4_2
        case hyz4_2 =>
          have k0 := keepB hSw y0; have k1 := keepB hSw y1; have k2 := keepB hSw y2; have k3 := keepB hSw x0; have k4 := keepB hSw p0
          go_simp
          try with_reducible rfl
        try simp only [Act.put, List.setIfInBounds_toArray, List.set_cons_zero, List.set_cons_succ]
        refine' wpAnyH_take (i := 3) (oi := ({ dst := some 20, op := Op.move (Operand.tmp 19), type := 4, pos := "l5_replay.go:57", after := #[{ on := 2, ground := Ground.data }, { on := 1, ground := Ground.chain }], guard := none } : Oper)) (v := _) rfl (by kernel_rfl) (by kernel_rfl) (by kernel_rfl) (fun _ _ _ h => h) (Or.inl ⟨by rfl, fun x hSw => ?hyz4_3⟩) hHeld ?restz4_3
        case hyz4_3 =>
          have k0 := keepB hSw y0; have k1 := keepB hSw y1; have k2 := keepB hSw y2; have k3 := keepB hSw x0; have k4 := keepB hSw p0
          go_simp
          try with_reducible rfl
        try simp only [Act.put, List.setIfInBounds_toArray, List.set_cons_zero, List.set_cons_succ]
        refine' wpAnyH_take (i := 4) (oi := ({ dst := some 21, op := Op.move (Operand.tmp 3), type := 3, pos := "l5_replay.go:57", after := #[{ on := 3, ground := Ground.guard }], guard := some (3, false) } : Oper)) (v := _) rfl (by kernel_rfl) (by kernel_rfl) (by kernel_rfl) (fun _ _ _ h => h) (Or.inl ⟨by rfl, fun x hSw => ?hyz4_4⟩) hHeld ?restz4_4
        case hyz4_4 =>
          have k0 := keepB hSw y0; have k1 := keepB hSw y1; have k2 := keepB hSw y2; have k3 := keepB hSw x0; have k4 := keepB hSw p0
          go_simp
          try with_reducible rfl
        try simp only [Act.put, List.setIfInBounds_toArray, List.set_cons_zero, List.set_cons_succ]
        refine' wpAnyH_take (i := 5) (oi := ({ dst := some 22, op := Op.binOp BinOp.gtr 3 (Operand.tmp 21) (Operand.const (Value.int IntKind.i64 0)) 3, type := 4, pos := "l5_replay.go:57", after := #[{ on := 4, ground := Ground.data }, { on := 3, ground := Ground.guard }], guard := some (3, false) } : Oper)) (v := _) rfl (by kernel_rfl) (by kernel_rfl) (by kernel_rfl) (fun _ _ _ h => h) (Or.inl ⟨by rfl, fun x hSw => ?hyz4_5⟩) hHeld ?restz4_5
        case hyz4_5 =>
          have k0 := keepB hSw y0; have k1 := keepB hSw y1; have k2 := keepB hSw y2; have k3 := keepB hSw x0; have k4 := keepB hSw p0
          go_simp
          try with_reducible rfl
        try simp only [Act.put, List.setIfInBounds_toArray, List.set_cons_zero, List.set_cons_succ]
        refine' wpAnyH_take (i := 6) (oi := ({ dst := some 23, op := Op.move (Operand.tmp 22), type := 4, pos := "l5_replay.go:57", after := #[{ on := 5, ground := Ground.data }, { on := 3, ground := Ground.chain }, { on := 3, ground := Ground.guard }], guard := some (3, false) } : Oper)) (v := _) rfl (by kernel_rfl) (by kernel_rfl) (by kernel_rfl) (fun _ _ _ h => h) (Or.inl ⟨by rfl, fun x hSw => ?hyz4_6⟩) hHeld ?restz4_6
        case hyz4_6 =>
          have k0 := keepB hSw y0; have k1 := keepB hSw y1; have k2 := keepB hSw y2; have k3 := keepB hSw x0; have k4 := keepB hSw p0
          go_simp
          try with_reducible rfl
        try simp only [Act.put, List.setIfInBounds_toArray, List.set_cons_zero, List.set_cons_succ]
        refine' wpAnyH_take (i := 7) (oi := ({ dst := some 24, op := Op.fieldAddr 29 (Operand.tmp 1) 0, type := 0, pos := "l5_replay.go:57", after := #[{ on := 6, ground := Ground.guard }], guard := some (6, true) } : Oper)) (v := _) rfl (by kernel_rfl) (by kernel_rfl) (by kernel_rfl) (fun _ _ _ h => h) (Or.inl ⟨by rfl, fun x hSw => ?hyz4_7⟩) hHeld ?restz4_7
        case hyz4_7 =>
          have k0 := keepB hSw y0; have k1 := keepB hSw y1; have k2 := keepB hSw y2; have k3 := keepB hSw x0; have k4 := keepB hSw p0
          go_simp
          try with_reducible rfl
        try simp only [Act.put, List.setIfInBounds_toArray, List.set_cons_zero, List.set_cons_succ]
        refine' wpAnyH_take (i := 8) (oi := ({ dst := some 25, op := Op.load 27 (Operand.tmp 24), type := 27, pos := "l5_replay.go:57", after := #[{ on := 7, ground := Ground.data }, { on := 6, ground := Ground.guard }], guard := some (6, true) } : Oper)) (v := _) rfl (by kernel_rfl) (by kernel_rfl) (by kernel_rfl) (fun _ _ _ h => h) (Or.inl ⟨by rfl, fun x hSw => ?hyz4_8⟩) hHeld ?restz4_8
        case hyz4_8 =>
          have k0 := keepB hSw y0; have k1 := keepB hSw y1; have k2 := keepB hSw y2; have k3 := keepB hSw x0; have k4 := keepB hSw p0
          go_simp
          try with_reducible rfl
        try simp only [Act.put, List.setIfInBounds_toArray, List.set_cons_zero, List.set_cons_succ]
        refine' wpAnyH_take (i := 9) (oi := ({ dst := some 26, op := Op.move (Operand.tmp 3), type := 3, pos := "l5_replay.go:57", after := #[{ on := 6, ground := Ground.guard }], guard := some (6, true) } : Oper)) (v := _) rfl (by kernel_rfl) (by kernel_rfl) (by kernel_rfl) (fun _ _ _ h => h) (Or.inl ⟨by rfl, fun x hSw => ?hyz4_9⟩) hHeld ?restz4_9
        case hyz4_9 =>
          have k0 := keepB hSw y0; have k1 := keepB hSw y1; have k2 := keepB hSw y2; have k3 := keepB hSw x0; have k4 := keepB hSw p0
          go_simp
          try with_reducible rfl
        try simp only [Act.put, List.setIfInBounds_toArray, List.set_cons_zero, List.set_cons_succ]
        refine' wpAnyH_take (i := 10) (oi := ({ dst := some 27, op := Op.binOp BinOp.sub 3 (Operand.tmp 26) (Operand.const (Value.int IntKind.i64 1)) 3, type := 3, pos := "l5_replay.go:57", after := #[{ on := 9, ground := Ground.data }, { on := 6, ground := Ground.guard }], guard := some (6, true) } : Oper)) (v := .int .i64 (p : Int)) rfl (by kernel_rfl) (by kernel_rfl) (by kernel_rfl) (fun _ _ _ h => h) (Or.inl ⟨by rfl, fun x hSw => ?hyz4_10⟩) hHeld ?restz4_10
        case hyz4_10 =>
          have k0 := keepB hSw y0; have k1 := keepB hSw y1; have k2 := keepB hSw y2; have k3 := keepB hSw x0; have k4 := keepB hSw p0
          go_simp
          try with_reducible rfl
        try simp only [Act.put, List.setIfInBounds_toArray, List.set_cons_zero, List.set_cons_succ]
        refine' wpAnyH_take (i := 11) (oi := ({ dst := some 28, op := Op.indexAddr 27 (Operand.tmp 25) (Operand.tmp 27), type := 0, pos := "l5_replay.go:57", after := #[{ on := 8, ground := Ground.data }, { on := 10, ground := Ground.data }, { on := 6, ground := Ground.guard }], guard := some (6, true) } : Oper)) (v := .pointer (some ⟨g, p * 3, none⟩)) rfl (by kernel_rfl) (by kernel_rfl) (by kernel_rfl) (fun _ _ _ h => h) (Or.inl ⟨by rfl, fun x hSw => ?hyz4_11⟩) hHeld ?restz4_11
        case hyz4_11 =>
          have k0 := keepB hSw y0; have k1 := keepB hSw y1; have k2 := keepB hSw y2; have k3 := keepB hSw x0; have k4 := keepB hSw p0
          go_simp
          try with_reducible rfl
        try simp only [Act.put, List.setIfInBounds_toArray, List.set_cons_zero, List.set_cons_succ]
        refine' wpAnyH_take (i := 12) (oi := ({ dst := some 29, op := Op.fieldAddr 54 (Operand.tmp 28) 0, type := 0, pos := "l5_replay.go:57", after := #[{ on := 11, ground := Ground.data }, { on := 6, ground := Ground.guard }], guard := some (6, true) } : Oper)) (v := .pointer (some ⟨g, p * 3, none⟩)) rfl (by kernel_rfl) (by kernel_rfl) (by kernel_rfl) (fun _ _ _ h => h) (Or.inl ⟨by rfl, fun x hSw => ?hyz4_12⟩) hHeld ?restz4_12
        case hyz4_12 =>
          have k0 := keepB hSw y0; have k1 := keepB hSw y1; have k2 := keepB hSw y2; have k3 := keepB hSw x0; have k4 := keepB hSw p0
          go_simp
          try with_reducible rfl
        try simp only [Act.put, List.setIfInBounds_toArray, List.set_cons_zero, List.set_cons_succ]
        refine' wpAnyH_take (i := 13) (oi := ({ dst := some 30, op := Op.load 9 (Operand.tmp 29), type := 9, pos := "l5_replay.go:57", after := #[{ on := 12, ground := Ground.data }, { on := 6, ground := Ground.guard }], guard := some (6, true) } : Oper)) (v := _) rfl (by kernel_rfl) (by kernel_rfl) (by kernel_rfl) (fun _ _ _ h => h) (Or.inl ⟨by rfl, fun x hSw => ?hyz4_13⟩) hHeld ?restz4_13
        case hyz4_13 =>
          have k0 := keepB hSw y0; have k1 := keepB hSw y1; have k2 := keepB hSw y2; have k3 := keepB hSw x0; have k4 := keepB hSw p0
          go_simp
          try with_reducible rfl
        try simp only [Act.put, List.setIfInBounds_toArray, List.set_cons_zero, List.set_cons_succ]
        refine' wpAnyH_take (i := 14) (oi := ({ dst := some 31, op := Op.fieldAddr 54 (Operand.tmp 4) 0, type := 0, pos := "l5_replay.go:57", after := #[{ on := 6, ground := Ground.guard }], guard := some (6, true) } : Oper)) (v := _) rfl (by kernel_rfl) (by kernel_rfl) (by kernel_rfl) (fun _ _ _ h => h) (Or.inl ⟨by rfl, fun x hSw => ?hyz4_14⟩) hHeld ?restz4_14
        case hyz4_14 =>
          have k0 := keepB hSw y0; have k1 := keepB hSw y1; have k2 := keepB hSw y2; have k3 := keepB hSw x0; have k4 := keepB hSw p0
          go_simp
          try with_reducible rfl
        try simp only [Act.put, List.setIfInBounds_toArray, List.set_cons_zero, List.set_cons_succ]
        refine' wpAnyH_take (i := 15) (oi := ({ dst := some 32, op := Op.load 9 (Operand.tmp 31), type := 9, pos := "l5_replay.go:57", after := #[{ on := 14, ground := Ground.data }, { on := 6, ground := Ground.guard }], guard := some (6, true) } : Oper)) (v := _) rfl (by kernel_rfl) (by kernel_rfl) (by kernel_rfl) (fun _ _ _ h => h) (Or.inl ⟨by rfl, fun x hSw => ?hyz4_15⟩) hHeld ?restz4_15
        case hyz4_15 =>
          have k0 := keepB hSw y0; have k1 := keepB hSw y1; have k2 := keepB hSw y2; have k3 := keepB hSw x0; have k4 := keepB hSw p0
          go_simp
          try with_reducible rfl
        try simp only [Act.put, List.setIfInBounds_toArray, List.set_cons_zero, List.set_cons_succ]
        refine' wpAnyH_take (i := 16) (oi := ({ dst := some 33, op := Op.binOp BinOp.geq 9 (Operand.tmp 30) (Operand.tmp 32) 9, type := 4, pos := "l5_replay.go:57", after := #[{ on := 13, ground := Ground.data }, { on := 15, ground := Ground.data }, { on := 6, ground := Ground.guard }], guard := some (6, true) } : Oper)) (v := _) rfl (by kernel_rfl) (by kernel_rfl) (by kernel_rfl) (fun _ _ _ h => h) (Or.inl ⟨by rfl, fun x hSw => ?hyz4_16⟩) hHeld ?restz4_16
        case hyz4_16 =>
          have k0 := keepB hSw y0; have k1 := keepB hSw y1; have k2 := keepB hSw y2; have k3 := keepB hSw x0; have k4 := keepB hSw p0
          go_simp
          try with_reducible rfl
        try simp only [Act.put, List.setIfInBounds_toArray, List.set_cons_zero, List.set_cons_succ]
        refine' wpAnyH_take (i := 17) (oi := ({ dst := some 34, op := Op.pick (Operand.tmp 23) (Operand.tmp 33) (Operand.const (Value.bool false)), type := 4, pos := "l5_replay.go:57", after := #[{ on := 6, ground := Ground.data }, { on := 16, ground := Ground.data }, { on := 3, ground := Ground.guard }], guard := some (3, false) } : Oper)) (v := _) rfl (by kernel_rfl) (by kernel_rfl) (by kernel_rfl) (fun _ _ _ h => h) (Or.inl ⟨by rfl, fun x hSw => ?hyz4_17⟩) hHeld ?restz4_17
        case hyz4_17 =>
          have k0 := keepB hSw y0; have k1 := keepB hSw y1; have k2 := keepB hSw y2; have k3 := keepB hSw x0; have k4 := keepB hSw p0
          go_simp
          try with_reducible rfl
        try simp only [Act.put, List.setIfInBounds_toArray, List.set_cons_zero, List.set_cons_succ]
        refine' wpAnyH_take (i := 18) (oi := ({ dst := some 35, op := Op.pick (Operand.tmp 20) (Operand.const (Value.bool true)) (Operand.tmp 34), type := 4, pos := "l5_replay.go:57", after := #[{ on := 3, ground := Ground.data }, { on := 17, ground := Ground.data }], guard := none } : Oper)) (v := _) rfl (by kernel_rfl) (by kernel_rfl) (by kernel_rfl) (fun _ _ _ h => h) (Or.inl ⟨by rfl, fun x hSw => ?hyz4_18⟩) hHeld ?restz4_18
        case hyz4_18 =>
          have k0 := keepB hSw y0; have k1 := keepB hSw y1; have k2 := keepB hSw y2; have k3 := keepB hSw x0; have k4 := keepB hSw p0
          go_simp
          try with_reducible rfl
        try simp only [Act.put, List.setIfInBounds_toArray, List.set_cons_zero, List.set_cons_succ]
        refine wpAnyH_done (by kernel_rfl) ?_ _
        go_wp2
        go_roundw
        case rel => exact ⟨p + 1 + 1, by omega, by go_num, fun j hj => by
          by_cases e : j = p + 1
          · subst e; exact ⟨hv, by unfold ltD; rw [Nat.add_sub_cancel, h7]; simp⟩
          · exact hall j (by omega), bstep hb (bstep B3 hHeld)⟩
        case measure => simp [intOf]; omega
    · obtain rfl : k = n := by omega
      go_wp2
      go_ret
      exact ⟨retB (by unfold okDb; rw [allT_yes (by omega) fun j hj => (hall j hj).1, allN_true fun j hj => (hall j hj).2]; rfl), B2⟩
end Go.Proofs.YtfodndnkhgijmaaDoor
