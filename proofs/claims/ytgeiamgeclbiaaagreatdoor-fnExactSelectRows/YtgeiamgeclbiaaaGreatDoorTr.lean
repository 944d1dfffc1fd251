/-
  Tables: DbOK, the specification's way.
-/
import Derived.Test.YtgeiamgeclbiaaaGreatDoorTi
import Derived.Test.YtgeiamgeclbiaaaGreatDoorTq
namespace Go.Proofs.YtgeiamgeclbiaaaGreatDoor
open Go.RowKit Go.Maps Go.WideMaps
abbrev qTr0 : Oper := { dst := some 17, op := Op.load 62 (Operand.tmp 4), type := 62, pos := "l5_replay.go:57", after := #[], guard := none }
abbrev qTr1 : Oper := { dst := some 18, op := Op.call { callee := Callee.value (Operand.func 97), args := #[Operand.tmp 17], argTypes := #[62] }, type := 4, pos := "l5_replay.go:57", after := #[{ on := 0, ground := Ground.data }], guard := none }
abbrev qTr2 : Oper := { dst := some 19, op := Op.unOp UnOp.not 4 (Operand.tmp 18), type := 4, pos := "l5_replay.go:57", after := #[{ on := 1, ground := Ground.data }], guard := none }
abbrev qTr3 : Oper := { dst := some 20, op := Op.move (Operand.tmp 19), type := 4, pos := "l5_replay.go:57", after := #[{ on := 2, ground := Ground.data }, { on := 1, ground := Ground.chain }], guard := none }
abbrev qTr4 : Oper := { dst := some 21, op := Op.move (Operand.tmp 3), type := 3, pos := "l5_replay.go:57", after := #[{ on := 3, ground := Ground.guard }], guard := some (3, false) }
abbrev qTr5 : Oper := { dst := some 22, op := Op.binOp BinOp.gtr 3 (Operand.tmp 21) (Operand.const (Value.int IntKind.i64 0)) 3, type := 4, pos := "l5_replay.go:57", after := #[{ on := 4, ground := Ground.data }, { on := 3, ground := Ground.guard }], guard := some (3, false) }
abbrev qTr6 : Oper := { dst := some 23, op := Op.move (Operand.tmp 22), type := 4, pos := "l5_replay.go:57", after := #[{ on := 5, ground := Ground.data }, { on := 3, ground := Ground.chain }, { on := 3, ground := Ground.guard }], guard := some (3, false) }
abbrev qTr7 : Oper := { dst := some 24, op := Op.fieldAddr 38 (Operand.tmp 1) 0, type := 0, pos := "l5_replay.go:57", after := #[{ on := 6, ground := Ground.guard }], guard := some (6, true) }
abbrev qTr8 : Oper := { dst := some 25, op := Op.load 36 (Operand.tmp 24), type := 36, pos := "l5_replay.go:57", after := #[{ on := 7, ground := Ground.data }, { on := 6, ground := Ground.guard }], guard := some (6, true) }
abbrev qTr9 : Oper := { dst := some 26, op := Op.move (Operand.tmp 3), type := 3, pos := "l5_replay.go:57", after := #[{ on := 6, ground := Ground.guard }], guard := some (6, true) }
abbrev qTr10 : Oper := { dst := some 27, op := Op.binOp BinOp.sub 3 (Operand.tmp 26) (Operand.const (Value.int IntKind.i64 1)) 3, type := 3, pos := "l5_replay.go:57", after := #[{ on := 9, ground := Ground.data }, { on := 6, ground := Ground.guard }], guard := some (6, true) }
abbrev qTr11 : Oper := { dst := some 28, op := Op.indexAddr 36 (Operand.tmp 25) (Operand.tmp 27), type := 0, pos := "l5_replay.go:57", after := #[{ on := 8, ground := Ground.data }, { on := 10, ground := Ground.data }, { on := 6, ground := Ground.guard }], guard := some (6, true) }
abbrev qTr12 : Oper := { dst := some 29, op := Op.fieldAddr 62 (Operand.tmp 28) 0, type := 0, pos := "l5_replay.go:57", after := #[{ on := 11, ground := Ground.data }, { on := 6, ground := Ground.guard }], guard := some (6, true) }
abbrev qTr13 : Oper := { dst := some 30, op := Op.load 9 (Operand.tmp 29), type := 9, pos := "l5_replay.go:57", after := #[{ on := 12, ground := Ground.data }, { on := 6, ground := Ground.guard }], guard := some (6, true) }
abbrev qTr14 : Oper := { dst := some 31, op := Op.fieldAddr 62 (Operand.tmp 4) 0, type := 0, pos := "l5_replay.go:57", after := #[{ on := 6, ground := Ground.guard }], guard := some (6, true) }
abbrev qTr15 : Oper := { dst := some 32, op := Op.load 9 (Operand.tmp 31), type := 9, pos := "l5_replay.go:57", after := #[{ on := 14, ground := Ground.data }, { on := 6, ground := Ground.guard }], guard := some (6, true) }
abbrev qTr16 : Oper := { dst := some 33, op := Op.binOp BinOp.geq 9 (Operand.tmp 30) (Operand.tmp 32) 9, type := 4, pos := "l5_replay.go:57", after := #[{ on := 13, ground := Ground.data }, { on := 15, ground := Ground.data }, { on := 6, ground := Ground.guard }], guard := some (6, true) }
abbrev qTr17 : Oper := { dst := some 34, op := Op.pick (Operand.tmp 23) (Operand.tmp 33) (Operand.const (Value.bool false)), type := 4, pos := "l5_replay.go:57", after := #[{ on := 6, ground := Ground.data }, { on := 16, ground := Ground.data }, { on := 3, ground := Ground.guard }], guard := some (3, false) }
abbrev qTr18 : Oper := { dst := some 35, op := Op.pick (Operand.tmp 20) (Operand.const (Value.bool true)) (Operand.tmp 34), type := 4, pos := "l5_replay.go:57", after := #[{ on := 3, ground := Ground.data }, { on := 17, ground := Ground.data }], guard := none }
theorem okDb_no {n k : Nat} {T : Nat → Td} (hk : k < n) (h : okTd (T k) = false ∨ ltD T k = false) : okDb n T = false := by
  unfold okDb
  rcases h with h | h
  · rw [allT_no hk h]; rfl
  · rw [allN_false hk h]; simp
set_option maxRecDepth 20000 in
set_option maxHeartbeats 8000000 in
theorem sDb (g n c : Nat) (T : Nat → Td) (w : World) (h : TC w g n T) (hn : n ≤ 1048576) :
    Calls Tryz.prog 50 #[.agg #[.slice (some ⟨g, 0, none⟩) n c]] w fun e w' => e = .returned (.bool (okDb n T)) ∧ Below w.heap.size w w' := by
  have hb0 := bal w (.cells #[.slice (some ⟨g, 0, none⟩) n c] 38)
  have hX0 := heap_alloc_new w (.cells #[.slice (some ⟨g, 0, none⟩) n c] 38)
  have c0 : (w.alloc (.cells #[.slice (some ⟨g, 0, none⟩) n c] 38)).cell? ⟨w.heap.size, 0, none⟩ = some (.slice (some ⟨g, 0, none⟩) n c) := (cell_of_row _ _ 0 _ _ _ hX0).trans rfl
  clear hX0
  by_cases h1 : 100 < n
  · have h2 : (100 : Int) < n := by omega
    have HF : Hid (okDb n T = false) := by show _ = _; unfold okDb; rw [allT_out h1]; rfl
    go_enter Tryz.func50, Tryz.ntmps50
    go_wp2
    go_ret
    exact ⟨retB HF.out.symm, hb0⟩
  have h2 : ¬ (100 : Int) < n := by omega
  go_enter Tryz.func50, Tryz.ntmps50
  go_wp2
  go_loopw [3, 4, 12] (fun _ _ i wr => ∃ k : Nat, k ≤ n ∧ i = .int .i64 k ∧ (∀ j, j < k → okTd (T j) = true ∧ ltD T j = true) ∧ Below (w.alloc (.cells #[.slice (some ⟨g, 0, none⟩) n c] 38)).heap.size (w.alloc (.cells #[.slice (some ⟨g, 0, none⟩) n c] 38)) wr) (fun _ _ i _ => n - (intOf i).toNat)
  case atStart => exact ⟨0, by omega, rfl, fun j hj => by omega, Below.refl _ _⟩
  case round =>
    obtain ⟨k, hk, rfl, hall, hb⟩ := hrel
    have B2 := bstep hb0 hb
    by_cases hlt : k < n
    · obtain ⟨g1, ar, cr, e0, e1, e2, hC, hO, hs⟩ := h.later B2 k hlt
      have hR2 := heap_alloc_new wr (.cells #[.string (T k).s, .slice (some ⟨g1, 0, none⟩) (T k).n (T k).n, .slice ar (T k).r cr] 62)
      have y0 : (wr.alloc (.cells #[.string (T k).s, .slice (some ⟨g1, 0, none⟩) (T k).n (T k).n, .slice ar (T k).r cr] 62)).cell? ⟨wr.heap.size, 0, none⟩ = some (.string (T k).s) := (cell_of_row _ _ 0 _ _ _ hR2).trans rfl
      have y1 : (wr.alloc (.cells #[.string (T k).s, .slice (some ⟨g1, 0, none⟩) (T k).n (T k).n, .slice ar (T k).r cr] 62)).cell? ⟨wr.heap.size, 1, none⟩ = some (.slice (some ⟨g1, 0, none⟩) (T k).n (T k).n) := (cell_of_row _ _ 1 _ _ _ hR2).trans rfl
      have y2 : (wr.alloc (.cells #[.string (T k).s, .slice (some ⟨g1, 0, none⟩) (T k).n (T k).n, .slice ar (T k).r cr] 62)).cell? ⟨wr.heap.size, 2, none⟩ = some (.slice ar (T k).r cr) := (cell_of_row _ _ 2 _ _ _ hR2).trans rfl
      clear hR2
      have B3 := bal wr (.cells #[.string (T k).s, .slice (some ⟨g1, 0, none⟩) (T k).n (T k).n, .slice ar (T k).r cr] 62)
      have x0 := keepB B3 (keepB hb c0)
      have i1 : (0 : Int) ≤ (k : Int) := by omega
      have i2 : (k : Int) < (n : Int) := by omega
      rcases hv : okTd (T k)
      · go_wp2
        refine wp_region_held_drew (S := fun x => Below (wr.alloc (.cells #[.string (T k).s, .slice (some ⟨g1, 0, none⟩) (T k).n (T k).n, .slice ar (T k).r cr] 62)).heap.size (wr.alloc (.cells #[.string (T k).s, .slice (some ⟨g1, 0, none⟩) (T k).n (T k).n, .slice ar (T k).r cr] 62)) x) (by kernel_rfl) (bdrew _) (fun hHeld => ?_)
        refine' takeF (i := 0) (oi := qTr0) rfl ⟨by rfl, fun x hSw => ?h1⟩ hHeld ?r1
        case h1 =>
          have k0 := keepB hSw y0; have k1 := keepB hSw y1; have k2 := keepB hSw y2; have k3 := keepB hSw x0
          go_simp
          try with_reducible rfl
        try simp only [Act.put, List.setIfInBounds_toArray, List.set_cons_zero, List.set_cons_succ]
        refine wpAnyH_ready (rs := [1]) (by kernel_rfl) (by simp) ?_
        refine AllReadyH.cons (o := qTr1) rfl (fun K hK => ?_) AllReadyH.nil
        go_simp
        refine (sTab _ _ _ _ _ _ _ ar cr _ (hC.later (bstep B3 hHeld)) (hO.later (bstep B3 hHeld)) hs).mono ?_
        rw [show okTab (T k).s (T k).n (T k).C (T k).r (T k).m (T k).R = _ from hv]; rintro e w3 ⟨rfl, hb3⟩
        refine hK.out _ _ (bstep hHeld hb3) (fun hHeld => ?_)
        clear hK K
        try simp only [Act.put, List.setIfInBounds_toArray, List.set_cons_zero, List.set_cons_succ]
        refine' takeF (i := 2) (oi := qTr2) rfl ⟨by rfl, fun x hSw => ?h2⟩ hHeld ?r2
        case h2 =>
          go_simp
          try with_reducible rfl
        try simp only [Act.put, List.setIfInBounds_toArray, List.set_cons_zero, List.set_cons_succ]
        refine' takeF (i := 3) (oi := qTr3) rfl ⟨by rfl, fun x hSw => ?h3⟩ hHeld ?r3
        case h3 =>
          go_simp
          try with_reducible rfl
        try simp only [Act.put, List.setIfInBounds_toArray, List.set_cons_zero, List.set_cons_succ]
        refine wpAnyH_take (i := 4) (oi := qTr4) (v := undef) rfl (by kernel_rfl) (by kernel_rfl) (by kernel_rfl) (fun _ _ _ h => h) (Or.inr ⟨by rfl, rfl⟩) hHeld ?_
        try simp only [Act.put, List.setIfInBounds_toArray, List.set_cons_zero, List.set_cons_succ]
        refine wpAnyH_take (i := 5) (oi := qTr5) (v := undef) rfl (by kernel_rfl) (by kernel_rfl) (by kernel_rfl) (fun _ _ _ h => h) (Or.inr ⟨by rfl, rfl⟩) hHeld ?_
        try simp only [Act.put, List.setIfInBounds_toArray, List.set_cons_zero, List.set_cons_succ]
        refine wpAnyH_take (i := 6) (oi := qTr6) (v := undef) rfl (by kernel_rfl) (by kernel_rfl) (by kernel_rfl) (fun _ _ _ h => h) (Or.inr ⟨by rfl, rfl⟩) hHeld ?_
        try simp only [Act.put, List.setIfInBounds_toArray, List.set_cons_zero, List.set_cons_succ]
        refine wpAnyH_take (i := 7) (oi := qTr7) (v := undef) rfl (by kernel_rfl) (by kernel_rfl) (by kernel_rfl) (fun _ _ _ h => h) (Or.inr ⟨by rfl, rfl⟩) hHeld ?_
        try simp only [Act.put, List.setIfInBounds_toArray, List.set_cons_zero, List.set_cons_succ]
        refine wpAnyH_take (i := 8) (oi := qTr8) (v := undef) rfl (by kernel_rfl) (by kernel_rfl) (by kernel_rfl) (fun _ _ _ h => h) (Or.inr ⟨by rfl, rfl⟩) hHeld ?_
        try simp only [Act.put, List.setIfInBounds_toArray, List.set_cons_zero, List.set_cons_succ]
        refine wpAnyH_take (i := 9) (oi := qTr9) (v := undef) rfl (by kernel_rfl) (by kernel_rfl) (by kernel_rfl) (fun _ _ _ h => h) (Or.inr ⟨by rfl, rfl⟩) hHeld ?_
        try simp only [Act.put, List.setIfInBounds_toArray, List.set_cons_zero, List.set_cons_succ]
        refine wpAnyH_take (i := 10) (oi := qTr10) (v := undef) rfl (by kernel_rfl) (by kernel_rfl) (by kernel_rfl) (fun _ _ _ h => h) (Or.inr ⟨by rfl, rfl⟩) hHeld ?_
        try simp only [Act.put, List.setIfInBounds_toArray, List.set_cons_zero, List.set_cons_succ]
        refine wpAnyH_take (i := 11) (oi := qTr11) (v := undef) rfl (by kernel_rfl) (by kernel_rfl) (by kernel_rfl) (fun _ _ _ h => h) (Or.inr ⟨by rfl, rfl⟩) hHeld ?_
        try simp only [Act.put, List.setIfInBounds_toArray, List.set_cons_zero, List.set_cons_succ]
        refine wpAnyH_take (i := 12) (oi := qTr12) (v := undef) rfl (by kernel_rfl) (by kernel_rfl) (by kernel_rfl) (fun _ _ _ h => h) (Or.inr ⟨by rfl, rfl⟩) hHeld ?_
        try simp only [Act.put, List.setIfInBounds_toArray, List.set_cons_zero, List.set_cons_succ]
        refine wpAnyH_take (i := 13) (oi := qTr13) (v := undef) rfl (by kernel_rfl) (by kernel_rfl) (by kernel_rfl) (fun _ _ _ h => h) (Or.inr ⟨by rfl, rfl⟩) hHeld ?_
        try simp only [Act.put, List.setIfInBounds_toArray, List.set_cons_zero, List.set_cons_succ]
        refine wpAnyH_take (i := 14) (oi := qTr14) (v := undef) rfl (by kernel_rfl) (by kernel_rfl) (by kernel_rfl) (fun _ _ _ h => h) (Or.inr ⟨by rfl, rfl⟩) hHeld ?_
        try simp only [Act.put, List.setIfInBounds_toArray, List.set_cons_zero, List.set_cons_succ]
        refine wpAnyH_take (i := 15) (oi := qTr15) (v := undef) rfl (by kernel_rfl) (by kernel_rfl) (by kernel_rfl) (fun _ _ _ h => h) (Or.inr ⟨by rfl, rfl⟩) hHeld ?_
        try simp only [Act.put, List.setIfInBounds_toArray, List.set_cons_zero, List.set_cons_succ]
        refine wpAnyH_take (i := 16) (oi := qTr16) (v := undef) rfl (by kernel_rfl) (by kernel_rfl) (by kernel_rfl) (fun _ _ _ h => h) (Or.inr ⟨by rfl, rfl⟩) hHeld ?_
        try simp only [Act.put, List.setIfInBounds_toArray, List.set_cons_zero, List.set_cons_succ]
        refine wpAnyH_take (i := 17) (oi := qTr17) (v := undef) rfl (by kernel_rfl) (by kernel_rfl) (by kernel_rfl) (fun _ _ _ h => h) (Or.inr ⟨by rfl, rfl⟩) hHeld ?_
        try simp only [Act.put, List.setIfInBounds_toArray, List.set_cons_zero, List.set_cons_succ]
        refine' takeF (i := 18) (oi := qTr18) rfl ⟨by rfl, fun x hSw => ?h4⟩ hHeld ?r4
        case h4 =>
          go_simp
          try with_reducible rfl
        try simp only [Act.put, List.setIfInBounds_toArray, List.set_cons_zero, List.set_cons_succ]
        refine wpAnyH_done (by kernel_rfl) ?_ _
        go_wp2
        go_ret
        exact ⟨retB (okDb_no hlt (Or.inl hv)).symm, bstep B2 (bstep B3 hHeld)⟩
      by_cases hk0 : k = 0
      · subst hk0
        go_wp2
        refine wp_region_held_drew (S := fun x => Below (wr.alloc (.cells #[.string (T 0).s, .slice (some ⟨g1, 0, none⟩) (T 0).n (T 0).n, .slice ar (T 0).r cr] 62)).heap.size (wr.alloc (.cells #[.string (T 0).s, .slice (some ⟨g1, 0, none⟩) (T 0).n (T 0).n, .slice ar (T 0).r cr] 62)) x) (by kernel_rfl) (bdrew _) (fun hHeld => ?_)
        refine' takeF (i := 0) (oi := qTr0) rfl ⟨by rfl, fun x hSw => ?h5⟩ hHeld ?r5
        case h5 =>
          have k0 := keepB hSw y0; have k1 := keepB hSw y1; have k2 := keepB hSw y2; have k3 := keepB hSw x0
          go_simp
          try with_reducible rfl
        try simp only [Act.put, List.setIfInBounds_toArray, List.set_cons_zero, List.set_cons_succ]
        refine wpAnyH_ready (rs := [1]) (by kernel_rfl) (by simp) ?_
        refine AllReadyH.cons (o := qTr1) rfl (fun K hK => ?_) AllReadyH.nil
        go_simp
        refine (sTab _ _ _ _ _ _ _ ar cr _ (hC.later (bstep B3 hHeld)) (hO.later (bstep B3 hHeld)) hs).mono ?_
        rw [show okTab (T 0).s (T 0).n (T 0).C (T 0).r (T 0).m (T 0).R = _ from hv]; rintro e w3 ⟨rfl, hb3⟩
        refine hK.out _ _ (bstep hHeld hb3) (fun hHeld => ?_)
        clear hK K
        try simp only [Act.put, List.setIfInBounds_toArray, List.set_cons_zero, List.set_cons_succ]
        refine' takeF (i := 2) (oi := qTr2) rfl ⟨by rfl, fun x hSw => ?h6⟩ hHeld ?r6
        case h6 =>
          go_simp
          try with_reducible rfl
        try simp only [Act.put, List.setIfInBounds_toArray, List.set_cons_zero, List.set_cons_succ]
        refine' takeF (i := 3) (oi := qTr3) rfl ⟨by rfl, fun x hSw => ?h7⟩ hHeld ?r7
        case h7 =>
          go_simp
          try with_reducible rfl
        try simp only [Act.put, List.setIfInBounds_toArray, List.set_cons_zero, List.set_cons_succ]
        refine' takeF (i := 4) (oi := qTr4) rfl ⟨by rfl, fun x hSw => ?h8⟩ hHeld ?r8
        case h8 =>
          go_simp
          try with_reducible rfl
        try simp only [Act.put, List.setIfInBounds_toArray, List.set_cons_zero, List.set_cons_succ]
        refine' takeF (i := 5) (oi := qTr5) rfl ⟨by rfl, fun x hSw => ?h9⟩ hHeld ?r9
        case h9 =>
          go_simp
          try with_reducible rfl
        try simp only [Act.put, List.setIfInBounds_toArray, List.set_cons_zero, List.set_cons_succ]
        refine' takeF (i := 6) (oi := qTr6) rfl ⟨by rfl, fun x hSw => ?h10⟩ hHeld ?r10
        case h10 =>
          go_simp
          try with_reducible rfl
        try simp only [Act.put, List.setIfInBounds_toArray, List.set_cons_zero, List.set_cons_succ]
        refine wpAnyH_take (i := 7) (oi := qTr7) (v := undef) rfl (by kernel_rfl) (by kernel_rfl) (by kernel_rfl) (fun _ _ _ h => h) (Or.inr ⟨by rfl, rfl⟩) hHeld ?_
        try simp only [Act.put, List.setIfInBounds_toArray, List.set_cons_zero, List.set_cons_succ]
        refine wpAnyH_take (i := 8) (oi := qTr8) (v := undef) rfl (by kernel_rfl) (by kernel_rfl) (by kernel_rfl) (fun _ _ _ h => h) (Or.inr ⟨by rfl, rfl⟩) hHeld ?_
        try simp only [Act.put, List.setIfInBounds_toArray, List.set_cons_zero, List.set_cons_succ]
        refine wpAnyH_take (i := 9) (oi := qTr9) (v := undef) rfl (by kernel_rfl) (by kernel_rfl) (by kernel_rfl) (fun _ _ _ h => h) (Or.inr ⟨by rfl, rfl⟩) hHeld ?_
        try simp only [Act.put, List.setIfInBounds_toArray, List.set_cons_zero, List.set_cons_succ]
        refine wpAnyH_take (i := 10) (oi := qTr10) (v := undef) rfl (by kernel_rfl) (by kernel_rfl) (by kernel_rfl) (fun _ _ _ h => h) (Or.inr ⟨by rfl, rfl⟩) hHeld ?_
        try simp only [Act.put, List.setIfInBounds_toArray, List.set_cons_zero, List.set_cons_succ]
        refine wpAnyH_take (i := 11) (oi := qTr11) (v := undef) rfl (by kernel_rfl) (by kernel_rfl) (by kernel_rfl) (fun _ _ _ h => h) (Or.inr ⟨by rfl, rfl⟩) hHeld ?_
        try simp only [Act.put, List.setIfInBounds_toArray, List.set_cons_zero, List.set_cons_succ]
        refine wpAnyH_take (i := 12) (oi := qTr12) (v := undef) rfl (by kernel_rfl) (by kernel_rfl) (by kernel_rfl) (fun _ _ _ h => h) (Or.inr ⟨by rfl, rfl⟩) hHeld ?_
        try simp only [Act.put, List.setIfInBounds_toArray, List.set_cons_zero, List.set_cons_succ]
        refine wpAnyH_take (i := 13) (oi := qTr13) (v := undef) rfl (by kernel_rfl) (by kernel_rfl) (by kernel_rfl) (fun _ _ _ h => h) (Or.inr ⟨by rfl, rfl⟩) hHeld ?_
        try simp only [Act.put, List.setIfInBounds_toArray, List.set_cons_zero, List.set_cons_succ]
        refine wpAnyH_take (i := 14) (oi := qTr14) (v := undef) rfl (by kernel_rfl) (by kernel_rfl) (by kernel_rfl) (fun _ _ _ h => h) (Or.inr ⟨by rfl, rfl⟩) hHeld ?_
        try simp only [Act.put, List.setIfInBounds_toArray, List.set_cons_zero, List.set_cons_succ]
        refine wpAnyH_take (i := 15) (oi := qTr15) (v := undef) rfl (by kernel_rfl) (by kernel_rfl) (by kernel_rfl) (fun _ _ _ h => h) (Or.inr ⟨by rfl, rfl⟩) hHeld ?_
        try simp only [Act.put, List.setIfInBounds_toArray, List.set_cons_zero, List.set_cons_succ]
        refine wpAnyH_take (i := 16) (oi := qTr16) (v := undef) rfl (by kernel_rfl) (by kernel_rfl) (by kernel_rfl) (fun _ _ _ h => h) (Or.inr ⟨by rfl, rfl⟩) hHeld ?_
        try simp only [Act.put, List.setIfInBounds_toArray, List.set_cons_zero, List.set_cons_succ]
        refine' takeF (i := 17) (oi := qTr17) rfl ⟨by rfl, fun x hSw => ?h11⟩ hHeld ?r11
        case h11 =>
          go_simp
          try with_reducible rfl
        try simp only [Act.put, List.setIfInBounds_toArray, List.set_cons_zero, List.set_cons_succ]
        refine' takeF (i := 18) (oi := qTr18) rfl ⟨by rfl, fun x hSw => ?h12⟩ hHeld ?r12
        case h12 =>
          go_simp
          try with_reducible rfl
        try simp only [Act.put, List.setIfInBounds_toArray, List.set_cons_zero, List.set_cons_succ]
        refine wpAnyH_done (by kernel_rfl) ?_ _
        go_wp2
        go_roundw
        case rel => exact ⟨0 + 1, by omega, by go_num, fun j hj => by
          obtain rfl : j = 0 := by omega
          exact ⟨hv, rfl⟩, bstep hb (bstep B3 hHeld)⟩
        case measure => simp [intOf]; omega
      obtain ⟨p, rfl⟩ : ∃ p, k = p + 1 := ⟨k - 1, by omega⟩
      obtain ⟨-, -, -, q0, -, -, -, -, -⟩ := h.later B2 p (by omega)
      have p0 := keepB B3 q0
      have i0 : (0 : Int) ≤ (p : Int) := by omega
      have i4 : (p : Int) < (n : Int) := by omega
      have i3 : IntKind.i64.wrap (p : Int) = (p : Int) := by rw [IntKind.wrap_i64]; omega
      have i5 : (0 : Int) < (p : Int) + 1 := by omega
      rcases h7 : Op.bytesLess (T p).s.toList (T (p + 1)).s.toList
      · go_wp2
        refine wp_region_held_drew (S := fun x => Below (wr.alloc (.cells #[.string (T (p + 1)).s, .slice (some ⟨g1, 0, none⟩) (T (p + 1)).n (T (p + 1)).n, .slice ar (T (p + 1)).r cr] 62)).heap.size (wr.alloc (.cells #[.string (T (p + 1)).s, .slice (some ⟨g1, 0, none⟩) (T (p + 1)).n (T (p + 1)).n, .slice ar (T (p + 1)).r cr] 62)) x) (by kernel_rfl) (bdrew _) (fun hHeld => ?_)
        refine' takeF (i := 0) (oi := qTr0) rfl ⟨by rfl, fun x hSw => ?h13⟩ hHeld ?r13
        case h13 =>
          have k0 := keepB hSw y0; have k1 := keepB hSw y1; have k2 := keepB hSw y2; have k3 := keepB hSw x0; have k4 := keepB hSw p0
          go_simp
          try with_reducible rfl
        try simp only [Act.put, List.setIfInBounds_toArray, List.set_cons_zero, List.set_cons_succ]
        refine wpAnyH_ready (rs := [1]) (by kernel_rfl) (by simp) ?_
        refine AllReadyH.cons (o := qTr1) rfl (fun K hK => ?_) AllReadyH.nil
        go_simp
        refine (sTab _ _ _ _ _ _ _ ar cr _ (hC.later (bstep B3 hHeld)) (hO.later (bstep B3 hHeld)) hs).mono ?_
        rw [show okTab (T (p + 1)).s (T (p + 1)).n (T (p + 1)).C (T (p + 1)).r (T (p + 1)).m (T (p + 1)).R = _ from hv]; rintro e w3 ⟨rfl, hb3⟩
        refine hK.out _ _ (bstep hHeld hb3) (fun hHeld => ?_)
        clear hK K
        try simp only [Act.put, List.setIfInBounds_toArray, List.set_cons_zero, List.set_cons_succ]
        refine' takeF (i := 2) (oi := qTr2) rfl ⟨by rfl, fun x hSw => ?h14⟩ hHeld ?r14
        case h14 =>
          go_simp
          try with_reducible rfl
        try simp only [Act.put, List.setIfInBounds_toArray, List.set_cons_zero, List.set_cons_succ]
        refine' takeF (i := 3) (oi := qTr3) rfl ⟨by rfl, fun x hSw => ?h15⟩ hHeld ?r15
        case h15 =>
          go_simp
          try with_reducible rfl
        try simp only [Act.put, List.setIfInBounds_toArray, List.set_cons_zero, List.set_cons_succ]
        refine' takeF (i := 4) (oi := qTr4) rfl ⟨by rfl, fun x hSw => ?h16⟩ hHeld ?r16
        case h16 =>
          go_simp
          try with_reducible rfl
        try simp only [Act.put, List.setIfInBounds_toArray, List.set_cons_zero, List.set_cons_succ]
        refine' takeF (i := 5) (oi := qTr5) rfl ⟨by rfl, fun x hSw => ?h17⟩ hHeld ?r17
        case h17 =>
          go_simp
          try with_reducible rfl
        try simp only [Act.put, List.setIfInBounds_toArray, List.set_cons_zero, List.set_cons_succ]
        refine' takeF (i := 6) (oi := qTr6) rfl ⟨by rfl, fun x hSw => ?h18⟩ hHeld ?r18
        case h18 =>
          go_simp
          try with_reducible rfl
        try simp only [Act.put, List.setIfInBounds_toArray, List.set_cons_zero, List.set_cons_succ]
        refine' takeF (i := 7) (oi := qTr7) rfl ⟨by rfl, fun x hSw => ?h19⟩ hHeld ?r19
        case h19 =>
          go_simp
          try with_reducible rfl
        try simp only [Act.put, List.setIfInBounds_toArray, List.set_cons_zero, List.set_cons_succ]
        refine' takeF (i := 8) (oi := qTr8) rfl ⟨by rfl, fun x hSw => ?h20⟩ hHeld ?r20
        case h20 =>
          have k0 := keepB hSw y0; have k1 := keepB hSw y1; have k2 := keepB hSw y2; have k3 := keepB hSw x0; have k4 := keepB hSw p0
          go_simp
          try with_reducible rfl
        try simp only [Act.put, List.setIfInBounds_toArray, List.set_cons_zero, List.set_cons_succ]
        refine' takeF (i := 9) (oi := qTr9) rfl ⟨by rfl, fun x hSw => ?h21⟩ hHeld ?r21
        case h21 =>
          go_simp
          try with_reducible rfl
        try simp only [Act.put, List.setIfInBounds_toArray, List.set_cons_zero, List.set_cons_succ]
        refine' takeF (i := 10) (oi := qTr10) (v := .int .i64 (p : Int)) rfl ⟨by rfl, fun x hSw => ?h22⟩ hHeld ?r22
        case h22 =>
          go_simp
          try with_reducible rfl
        try simp only [Act.put, List.setIfInBounds_toArray, List.set_cons_zero, List.set_cons_succ]
        refine' takeF (i := 11) (oi := qTr11) (v := .pointer (some ⟨g, p * 3, none⟩)) rfl ⟨by rfl, fun x hSw => ?h23⟩ hHeld ?r23
        case h23 =>
          go_simp
          try with_reducible rfl
        try simp only [Act.put, List.setIfInBounds_toArray, List.set_cons_zero, List.set_cons_succ]
        refine' takeF (i := 12) (oi := qTr12) (v := .pointer (some ⟨g, p * 3, none⟩)) rfl ⟨by rfl, fun x hSw => ?h24⟩ hHeld ?r24
        case h24 =>
          go_simp
          try with_reducible rfl
        try simp only [Act.put, List.setIfInBounds_toArray, List.set_cons_zero, List.set_cons_succ]
        refine' takeF (i := 13) (oi := qTr13) rfl ⟨by rfl, fun x hSw => ?h25⟩ hHeld ?r25
        case h25 =>
          have k0 := keepB hSw y0; have k1 := keepB hSw y1; have k2 := keepB hSw y2; have k3 := keepB hSw x0; have k4 := keepB hSw p0
          go_simp
          try with_reducible rfl
        try simp only [Act.put, List.setIfInBounds_toArray, List.set_cons_zero, List.set_cons_succ]
        refine' takeF (i := 14) (oi := qTr14) rfl ⟨by rfl, fun x hSw => ?h26⟩ hHeld ?r26
        case h26 =>
          go_simp
          try with_reducible rfl
        try simp only [Act.put, List.setIfInBounds_toArray, List.set_cons_zero, List.set_cons_succ]
        refine' takeF (i := 15) (oi := qTr15) rfl ⟨by rfl, fun x hSw => ?h27⟩ hHeld ?r27
        case h27 =>
          have k0 := keepB hSw y0; have k1 := keepB hSw y1; have k2 := keepB hSw y2; have k3 := keepB hSw x0; have k4 := keepB hSw p0
          go_simp
          try with_reducible rfl
        try simp only [Act.put, List.setIfInBounds_toArray, List.set_cons_zero, List.set_cons_succ]
        refine' takeF (i := 16) (oi := qTr16) rfl ⟨by rfl, fun x hSw => ?h28⟩ hHeld ?r28
        case h28 =>
          go_simp
          try with_reducible rfl
        try simp only [Act.put, List.setIfInBounds_toArray, List.set_cons_zero, List.set_cons_succ]
        refine' takeF (i := 17) (oi := qTr17) rfl ⟨by rfl, fun x hSw => ?h29⟩ hHeld ?r29
        case h29 =>
          go_simp
          try with_reducible rfl
        try simp only [Act.put, List.setIfInBounds_toArray, List.set_cons_zero, List.set_cons_succ]
        refine' takeF (i := 18) (oi := qTr18) rfl ⟨by rfl, fun x hSw => ?h30⟩ hHeld ?r30
        case h30 =>
          go_simp
          try with_reducible rfl
        try simp only [Act.put, List.setIfInBounds_toArray, List.set_cons_zero, List.set_cons_succ]
        refine wpAnyH_done (by kernel_rfl) ?_ _
        go_wp2
        go_ret
        exact ⟨retB (okDb_no hlt (Or.inr (by unfold ltD; rw [Nat.add_sub_cancel, h7]; simp))).symm, bstep B2 (bstep B3 hHeld)⟩
      · go_wp2
        refine wp_region_held_drew (S := fun x => Below (wr.alloc (.cells #[.string (T (p + 1)).s, .slice (some ⟨g1, 0, none⟩) (T (p + 1)).n (T (p + 1)).n, .slice ar (T (p + 1)).r cr] 62)).heap.size (wr.alloc (.cells #[.string (T (p + 1)).s, .slice (some ⟨g1, 0, none⟩) (T (p + 1)).n (T (p + 1)).n, .slice ar (T (p + 1)).r cr] 62)) x) (by kernel_rfl) (bdrew _) (fun hHeld => ?_)
        refine' takeF (i := 0) (oi := qTr0) rfl ⟨by rfl, fun x hSw => ?h31⟩ hHeld ?r31
        case h31 =>
          have k0 := keepB hSw y0; have k1 := keepB hSw y1; have k2 := keepB hSw y2; have k3 := keepB hSw x0; have k4 := keepB hSw p0
          go_simp
          try with_reducible rfl
        try simp only [Act.put, List.setIfInBounds_toArray, List.set_cons_zero, List.set_cons_succ]
        refine wpAnyH_ready (rs := [1]) (by kernel_rfl) (by simp) ?_
        refine AllReadyH.cons (o := qTr1) rfl (fun K hK => ?_) AllReadyH.nil
        go_simp
        refine (sTab _ _ _ _ _ _ _ ar cr _ (hC.later (bstep B3 hHeld)) (hO.later (bstep B3 hHeld)) hs).mono ?_
        rw [show okTab (T (p + 1)).s (T (p + 1)).n (T (p + 1)).C (T (p + 1)).r (T (p + 1)).m (T (p + 1)).R = _ from hv]; rintro e w3 ⟨rfl, hb3⟩
        refine hK.out _ _ (bstep hHeld hb3) (fun hHeld => ?_)
        clear hK K
        try simp only [Act.put, List.setIfInBounds_toArray, List.set_cons_zero, List.set_cons_succ]
        refine' takeF (i := 2) (oi := qTr2) rfl ⟨by rfl, fun x hSw => ?h32⟩ hHeld ?r32
        case h32 =>
          go_simp
          try with_reducible rfl
        try simp only [Act.put, List.setIfInBounds_toArray, List.set_cons_zero, List.set_cons_succ]
        refine' takeF (i := 3) (oi := qTr3) rfl ⟨by rfl, fun x hSw => ?h33⟩ hHeld ?r33
        case h33 =>
          go_simp
          try with_reducible rfl
        try simp only [Act.put, List.setIfInBounds_toArray, List.set_cons_zero, List.set_cons_succ]
        refine' takeF (i := 4) (oi := qTr4) rfl ⟨by rfl, fun x hSw => ?h34⟩ hHeld ?r34
        case h34 =>
          go_simp
          try with_reducible rfl
        try simp only [Act.put, List.setIfInBounds_toArray, List.set_cons_zero, List.set_cons_succ]
        refine' takeF (i := 5) (oi := qTr5) rfl ⟨by rfl, fun x hSw => ?h35⟩ hHeld ?r35
        case h35 =>
          go_simp
          try with_reducible rfl
        try simp only [Act.put, List.setIfInBounds_toArray, List.set_cons_zero, List.set_cons_succ]
        refine' takeF (i := 6) (oi := qTr6) rfl ⟨by rfl, fun x hSw => ?h36⟩ hHeld ?r36
        case h36 =>
          go_simp
          try with_reducible rfl
        try simp only [Act.put, List.setIfInBounds_toArray, List.set_cons_zero, List.set_cons_succ]
        refine' takeF (i := 7) (oi := qTr7) rfl ⟨by rfl, fun x hSw => ?h37⟩ hHeld ?r37
        case h37 =>
          go_simp
          try with_reducible rfl
        try simp only [Act.put, List.setIfInBounds_toArray, List.set_cons_zero, List.set_cons_succ]
        refine' takeF (i := 8) (oi := qTr8) rfl ⟨by rfl, fun x hSw => ?h38⟩ hHeld ?r38
        case h38 =>
          have k0 := keepB hSw y0; have k1 := keepB hSw y1; have k2 := keepB hSw y2; have k3 := keepB hSw x0; have k4 := keepB hSw p0
          go_simp
          try with_reducible rfl
        try simp only [Act.put, List.setIfInBounds_toArray, List.set_cons_zero, List.set_cons_succ]
        refine' takeF (i := 9) (oi := qTr9) rfl ⟨by rfl, fun x hSw => ?h39⟩ hHeld ?r39
        case h39 =>
          go_simp
          try with_reducible rfl
        try simp only [Act.put, List.setIfInBounds_toArray, List.set_cons_zero, List.set_cons_succ]
        refine' takeF (i := 10) (oi := qTr10) (v := .int .i64 (p : Int)) rfl ⟨by rfl, fun x hSw => ?h40⟩ hHeld ?r40
        case h40 =>
          go_simp
          try with_reducible rfl
        try simp only [Act.put, List.setIfInBounds_toArray, List.set_cons_zero, List.set_cons_succ]
        refine' takeF (i := 11) (oi := qTr11) (v := .pointer (some ⟨g, p * 3, none⟩)) rfl ⟨by rfl, fun x hSw => ?h41⟩ hHeld ?r41
        case h41 =>
          go_simp
          try with_reducible rfl
        try simp only [Act.put, List.setIfInBounds_toArray, List.set_cons_zero, List.set_cons_succ]
        refine' takeF (i := 12) (oi := qTr12) (v := .pointer (some ⟨g, p * 3, none⟩)) rfl ⟨by rfl, fun x hSw => ?h42⟩ hHeld ?r42
        case h42 =>
          go_simp
          try with_reducible rfl
        try simp only [Act.put, List.setIfInBounds_toArray, List.set_cons_zero, List.set_cons_succ]
        refine' takeF (i := 13) (oi := qTr13) rfl ⟨by rfl, fun x hSw => ?h43⟩ hHeld ?r43
        case h43 =>
          have k0 := keepB hSw y0; have k1 := keepB hSw y1; have k2 := keepB hSw y2; have k3 := keepB hSw x0; have k4 := keepB hSw p0
          go_simp
          try with_reducible rfl
        try simp only [Act.put, List.setIfInBounds_toArray, List.set_cons_zero, List.set_cons_succ]
        refine' takeF (i := 14) (oi := qTr14) rfl ⟨by rfl, fun x hSw => ?h44⟩ hHeld ?r44
        case h44 =>
          go_simp
          try with_reducible rfl
        try simp only [Act.put, List.setIfInBounds_toArray, List.set_cons_zero, List.set_cons_succ]
        refine' takeF (i := 15) (oi := qTr15) rfl ⟨by rfl, fun x hSw => ?h45⟩ hHeld ?r45
        case h45 =>
          have k0 := keepB hSw y0; have k1 := keepB hSw y1; have k2 := keepB hSw y2; have k3 := keepB hSw x0; have k4 := keepB hSw p0
          go_simp
          try with_reducible rfl
        try simp only [Act.put, List.setIfInBounds_toArray, List.set_cons_zero, List.set_cons_succ]
        refine' takeF (i := 16) (oi := qTr16) rfl ⟨by rfl, fun x hSw => ?h46⟩ hHeld ?r46
        case h46 =>
          go_simp
          try with_reducible rfl
        try simp only [Act.put, List.setIfInBounds_toArray, List.set_cons_zero, List.set_cons_succ]
        refine' takeF (i := 17) (oi := qTr17) rfl ⟨by rfl, fun x hSw => ?h47⟩ hHeld ?r47
        case h47 =>
          go_simp
          try with_reducible rfl
        try simp only [Act.put, List.setIfInBounds_toArray, List.set_cons_zero, List.set_cons_succ]
        refine' takeF (i := 18) (oi := qTr18) rfl ⟨by rfl, fun x hSw => ?h48⟩ hHeld ?r48
        case h48 =>
          go_simp
          try with_reducible rfl
        try simp only [Act.put, List.setIfInBounds_toArray, List.set_cons_zero, List.set_cons_succ]
        refine wpAnyH_done (by kernel_rfl) ?_ _
        go_wp2
        go_roundw
        case rel => exact ⟨p + 1 + 1, by omega, by go_num, fun j hj => by
          by_cases e : j = p + 1
          · subst e; exact ⟨hv, by unfold ltD; rw [Nat.add_sub_cancel, h7]; simp⟩
          · exact hall j (by omega), bstep hb (bstep B3 hHeld)⟩
        case measure => simp [intOf]; omega
    · obtain rfl : k = n := by omega
      go_wp2
      go_ret
      exact ⟨retB (by unfold okDb; rw [allT_yes (by omega) fun j hj => (hall j hj).1, allN_true fun j hj => (hall j hj).2]; rfl), B2⟩
end Go.Proofs.YtgeiamgeclbiaaaGreatDoor
