/-
  Tables: the specification's test of a table, walked.
-/
import Derived.Test.YtfodndnkhgijmaaDoorTk
namespace Go.Proofs.YtfodndnkhgijmaaDoor
open Go.RowKit Go.Maps Go.WideMaps
set_option maxRecDepth 20000 in
set_option maxHeartbeats 8000000 in
theorem sTab (s : ByteArray) (n : Nat) (C : Nat → Clm) (r : Nat) (m : Nat → Nat) (R : Nat → Nat → Itm) (ac ar : Option Addr) (cr : Nat) (w : World) (hC : CL w ac n C) (hR : OL w ar r m R) (hsm : Sm3 ⟨s, n, C, r, m, R⟩) :
    Calls Tryd.prog 19 #[.agg #[.string s, .slice ac n n, .slice ar r cr]] w fun e w' => e = .returned (.bool (okTab s n C r m R)) ∧ Below w.heap.size w w' := by
  have hb0 := bal w (.cells #[.string s, .slice ac n n, .slice ar r cr] 54)
  have hX0 := heap_alloc_new w (.cells #[.string s, .slice ac n n, .slice ar r cr] 54)
  have hss := hsm.s
  have hn := hsm.co.1
  have hrr := hsm.ro.1
  dsimp only at hss hn hrr
  have c0 : (w.alloc (.cells #[.string s, .slice ac n n, .slice ar r cr] 54)).cell? ⟨w.heap.size, 0, none⟩ = some (.string s) := (cell_of_row _ _ 0 _ _ _ hX0).trans rfl
  have c1 : (w.alloc (.cells #[.string s, .slice ac n n, .slice ar r cr] 54)).cell? ⟨w.heap.size, 1, none⟩ = some (.slice ac n n) := (cell_of_row _ _ 1 _ _ _ hX0).trans rfl
  have c2 : (w.alloc (.cells #[.string s, .slice ac n n, .slice ar r cr] 54)).cell? ⟨w.heap.size, 2, none⟩ = some (.slice ar r cr) := (cell_of_row _ _ 2 _ _ _ hX0).trans rfl
  clear hX0
  rcases hq1 : okName s
  · have HF : Hid (okTab s n C r m R = false) := by show _ = _; unfold okTab; rw [hq1]; rfl
    go_enter Tryd.func19, Tryd.ntmps19
    go_wp2_with (go_at_call 31; refine (sName s _ hss).mono ?_; rw [hq1]; rintro e w1 ⟨rfl, hb1⟩; have d1 := keepB hb1 c1; have d2 := keepB hb1 c2)
    go_ret
    exact ⟨retB HF.out.symm, bstep hb0 hb1⟩
  rcases hq2 : btw (n : Int) 1 20
  · have HF : Hid (okTab s n C r m R = false) := by show _ = _; unfold okTab; rw [hq1, hq2]; rfl
    go_enter Tryd.func19, Tryd.ntmps19
    go_wp2_with (first | (go_at_call 31; refine (sName s _ hss).mono ?_; rw [hq1]; rintro e w1 ⟨rfl, hb1⟩; have d1 := keepB hb1 c1; have d2 := keepB hb1 c2) | (go_at_call 66; refine (sBetween _ _ _ _).mono ?_; rw [hq2]; rintro e w2 ⟨rfl, rfl⟩))
    go_ret
    exact ⟨retB HF.out.symm, bstep hb0 hb1⟩
  by_cases hq3 : r ≤ 1000
  rotate_left
  · have HF : Hid (okTab s n C r m R = false) := by show _ = _; unfold okTab; rw [decide_eq_false hq3]; simp
    have hq4 : (1000 : Int) < r := by omega
    go_enter Tryd.func19, Tryd.ntmps19
    go_wp2_with (first | (go_at_call 31; refine (sName s _ hss).mono ?_; rw [hq1]; rintro e w1 ⟨rfl, hb1⟩; have d1 := keepB hb1 c1; have d2 := keepB hb1 c2) | (go_at_call 66; refine (sBetween _ _ _ _).mono ?_; rw [hq2]; rintro e w2 ⟨rfl, rfl⟩))
    go_ret
    exact ⟨retB HF.out.symm, bstep hb0 hb1⟩
  have hq4 : ¬ (1000 : Int) < r := by omega
  have h0 : 0 < n := by
    unfold btw at hq2
    simp at hq2
    omega
  have HT : Hid (okTab s n C r m R = (allN n (okColAt C) && allN r (okRowAt n C m R))) := by
    show _ = _
    unfold okTab
    rw [hq1, hq2, decide_eq_true hq3]
    rfl
  go_enter Tryd.func19, Tryd.ntmps19
  go_wp2_with (first | (go_at_call 31; refine (sName s _ hss).mono ?_; rw [hq1]; rintro e w1 ⟨rfl, hb1⟩; have d1 := keepB hb1 c1; have d2 := keepB hb1 c2) | (go_at_call 66; refine (sBetween _ _ _ _).mono ?_; rw [hq2]; rintro e w2 ⟨rfl, rfl⟩))
  have B1 := bstep hb0 hb1
  clear c0 c1 c2
  go_loopw [3, 4, 29] (fun _ _ i wr => ∃ k : Nat, k ≤ n ∧ i = .int .i64 k ∧ (∀ j, j < k → okColAt C j = true) ∧ Below w2.heap.size w2 wr) (fun _ _ i _ => n - (intOf i).toNat)
  case atStart => exact ⟨0, by omega, rfl, fun j hj => by omega, Below.refl _ _⟩
  case round =>
    obtain ⟨k, hk, rfl, hall, hb⟩ := hrel
    have B2 := bstep B1 hb
    by_cases hlt : k < n
    · obtain ⟨b, off, rfl, e0, e1, hs⟩ := hC.later B2 k hlt
      have hR2 := heap_alloc_new wr (.cells #[.string (C k).s, .int .i64 (C k).t] 70)
      have y0 : (wr.alloc (.cells #[.string (C k).s, .int .i64 (C k).t] 70)).cell? ⟨wr.heap.size, 0, none⟩ = some (.string (C k).s) := (cell_of_row _ _ 0 _ _ _ hR2).trans rfl
      have y1 : (wr.alloc (.cells #[.string (C k).s, .int .i64 (C k).t] 70)).cell? ⟨wr.heap.size, 1, none⟩ = some (.int .i64 (C k).t) := (cell_of_row _ _ 1 _ _ _ hR2).trans rfl
      clear hR2
      have B3 := bal wr (.cells #[.string (C k).s, .int .i64 (C k).t] 70)
      have x1 := keepB B3 (keepB hb d1)
      have hCr := hC.later (bstep B2 B3)
      have i1 : (0 : Int) ≤ (k : Int) := by omega
      have i2 : (k : Int) ≤ (n : Int) := by omega
      rcases hv : okName (C k).s
      · go_wp2
        refine wp_region_held_drew (S := fun x => Below (wr.alloc (.cells #[.string (C k).s, .int .i64 (C k).t] 70)).heap.size (wr.alloc (.cells #[.string (C k).s, .int .i64 (C k).t] 70)) x) (by kernel_rfl) (bdrew _) (fun hHeld => ?_)
        refine' wpAnyH_take (i := 0) (oi := ({ dst := some 34, op := Op.fieldAddr 70 (Operand.tmp 4) 0, type := 0, pos := "l5_replay.go:32", after := #[], guard := none } : Oper)) (v := _) rfl (by kernel_rfl) (by kernel_rfl) (by kernel_rfl) (fun _ _ _ h => h) (Or.inl ⟨by rfl, fun x hSw => ?hyz1_0⟩) hHeld ?restz1_0
        case hyz1_0 =>
          have k0 := keepB hSw y0; have k1 := keepB hSw y1; have k2 := keepB hSw x1
          go_simp
          try with_reducible rfl
        try simp only [Act.put, List.setIfInBounds_toArray, List.set_cons_zero, List.set_cons_succ]
        refine' wpAnyH_take (i := 1) (oi := ({ dst := some 35, op := Op.load 9 (Operand.tmp 34), type := 9, pos := "l5_replay.go:32", after := #[{ on := 0, ground := Ground.data }], guard := none } : Oper)) (v := _) rfl (by kernel_rfl) (by kernel_rfl) (by kernel_rfl) (fun _ _ _ h => h) (Or.inl ⟨by rfl, fun x hSw => ?hyz1_1⟩) hHeld ?restz1_1
        case hyz1_1 =>
          have k0 := keepB hSw y0; have k1 := keepB hSw y1; have k2 := keepB hSw x1
          go_simp
          try with_reducible rfl
        try simp only [Act.put, List.setIfInBounds_toArray, List.set_cons_zero, List.set_cons_succ]
        refine wpAnyH_ready (rs := [2]) (by kernel_rfl) (by simp) ?_
        refine AllReadyH.cons (o := ({ dst := some 36, op := Op.call { callee := Callee.value (Operand.func 31), args := #[Operand.tmp 35], argTypes := #[9] }, type := 4, pos := "l5_replay.go:32", after := #[{ on := 1, ground := Ground.data }], guard := none } : Oper)) rfl (fun K hK => ?_) AllReadyH.nil
        go_simp
        refine (sName _ _ hs).mono ?_
        rw [hv]; rintro e w3 ⟨rfl, hb3⟩
        refine hK.out _ _ (bstep hHeld hb3) (fun hHeld => ?_)
        clear hK K
        try simp only [Act.put, List.setIfInBounds_toArray, List.set_cons_zero, List.set_cons_succ]
        refine' wpAnyH_take (i := 3) (oi := ({ dst := some 37, op := Op.unOp UnOp.not 4 (Operand.tmp 36), type := 4, pos := "l5_replay.go:32", after := #[{ on := 2, ground := Ground.data }], guard := none } : Oper)) (v := _) rfl (by kernel_rfl) (by kernel_rfl) (by kernel_rfl) (fun _ _ _ h => h) (Or.inl ⟨by rfl, fun x hSw => ?hyz1_3⟩) hHeld ?restz1_3
        case hyz1_3 =>
          have k0 := keepB hSw y0; have k1 := keepB hSw y1; have k2 := keepB hSw x1
          go_simp
          try with_reducible rfl
        try simp only [Act.put, List.setIfInBounds_toArray, List.set_cons_zero, List.set_cons_succ]
        refine' wpAnyH_take (i := 4) (oi := ({ dst := some 38, op := Op.move (Operand.tmp 37), type := 4, pos := "l5_replay.go:32", after := #[{ on := 3, ground := Ground.data }, { on := 2, ground := Ground.chain }], guard := none } : Oper)) (v := _) rfl (by kernel_rfl) (by kernel_rfl) (by kernel_rfl) (fun _ _ _ h => h) (Or.inl ⟨by rfl, fun x hSw => ?hyz1_4⟩) hHeld ?restz1_4
        case hyz1_4 =>
          have k0 := keepB hSw y0; have k1 := keepB hSw y1; have k2 := keepB hSw x1
          go_simp
          try with_reducible rfl
        try simp only [Act.put, List.setIfInBounds_toArray, List.set_cons_zero, List.set_cons_succ]
        refine wpAnyH_take (i := 5) (oi := ({ dst := some 39, op := Op.fieldAddr 70 (Operand.tmp 4) 1, type := 0, pos := "l5_replay.go:32", after := #[{ on := 4, ground := Ground.guard }], guard := some (4, false) } : Oper)) (v := undef) rfl (by kernel_rfl) (by kernel_rfl) (by kernel_rfl) (fun _ _ _ h => h) (Or.inr ⟨by rfl, rfl⟩) hHeld ?_
        try simp only [Act.put, List.setIfInBounds_toArray, List.set_cons_zero, List.set_cons_succ]
        refine wpAnyH_take (i := 6) (oi := ({ dst := some 40, op := Op.load 3 (Operand.tmp 39), type := 3, pos := "l5_replay.go:32", after := #[{ on := 5, ground := Ground.data }, { on := 4, ground := Ground.guard }], guard := some (4, false) } : Oper)) (v := undef) rfl (by kernel_rfl) (by kernel_rfl) (by kernel_rfl) (fun _ _ _ h => h) (Or.inr ⟨by rfl, rfl⟩) hHeld ?_
        try simp only [Act.put, List.setIfInBounds_toArray, List.set_cons_zero, List.set_cons_succ]
        refine wpAnyH_take (i := 7) (oi := ({ dst := some 41, op := Op.call { callee := Callee.value (Operand.func 32), args := #[Operand.tmp 40], argTypes := #[3] }, type := 4, pos := "l5_replay.go:32", after := #[{ on := 6, ground := Ground.data }, { on := 4, ground := Ground.chain }, { on := 4, ground := Ground.guard }], guard := some (4, false) } : Oper)) (v := undef) rfl (by kernel_rfl) (by kernel_rfl) (by kernel_rfl) (fun _ _ _ h => h) (Or.inr ⟨by rfl, rfl⟩) hHeld ?_
        try simp only [Act.put, List.setIfInBounds_toArray, List.set_cons_zero, List.set_cons_succ]
        refine wpAnyH_take (i := 8) (oi := ({ dst := some 42, op := Op.unOp UnOp.not 4 (Operand.tmp 41), type := 4, pos := "l5_replay.go:32", after := #[{ on := 7, ground := Ground.data }, { on := 4, ground := Ground.guard }], guard := some (4, false) } : Oper)) (v := undef) rfl (by kernel_rfl) (by kernel_rfl) (by kernel_rfl) (fun _ _ _ h => h) (Or.inr ⟨by rfl, rfl⟩) hHeld ?_
        try simp only [Act.put, List.setIfInBounds_toArray, List.set_cons_zero, List.set_cons_succ]
        refine' wpAnyH_take (i := 9) (oi := ({ dst := some 43, op := Op.pick (Operand.tmp 38) (Operand.const (Value.bool true)) (Operand.tmp 42), type := 4, pos := "l5_replay.go:32", after := #[{ on := 4, ground := Ground.data }, { on := 8, ground := Ground.data }], guard := none } : Oper)) (v := _) rfl (by kernel_rfl) (by kernel_rfl) (by kernel_rfl) (fun _ _ _ h => h) (Or.inl ⟨by rfl, fun x hSw => ?hyz1_9⟩) hHeld ?restz1_9
        case hyz1_9 =>
          have k0 := keepB hSw y0; have k1 := keepB hSw y1; have k2 := keepB hSw x1
          go_simp
          try with_reducible rfl
        try simp only [Act.put, List.setIfInBounds_toArray, List.set_cons_zero, List.set_cons_succ]
        refine' wpAnyH_take (i := 10) (oi := ({ dst := some 44, op := Op.move (Operand.tmp 43), type := 4, pos := "l5_replay.go:32", after := #[{ on := 9, ground := Ground.data }, { on := 7, ground := Ground.chain }], guard := none } : Oper)) (v := _) rfl (by kernel_rfl) (by kernel_rfl) (by kernel_rfl) (fun _ _ _ h => h) (Or.inl ⟨by rfl, fun x hSw => ?hyz1_10⟩) hHeld ?restz1_10
        case hyz1_10 =>
          have k0 := keepB hSw y0; have k1 := keepB hSw y1; have k2 := keepB hSw x1
          go_simp
          try with_reducible rfl
        try simp only [Act.put, List.setIfInBounds_toArray, List.set_cons_zero, List.set_cons_succ]
        refine wpAnyH_take (i := 11) (oi := ({ dst := some 45, op := Op.fieldAddr 54 (Operand.tmp 1) 1, type := 0, pos := "l5_replay.go:32", after := #[{ on := 10, ground := Ground.guard }], guard := some (10, false) } : Oper)) (v := undef) rfl (by kernel_rfl) (by kernel_rfl) (by kernel_rfl) (fun _ _ _ h => h) (Or.inr ⟨by rfl, rfl⟩) hHeld ?_
        try simp only [Act.put, List.setIfInBounds_toArray, List.set_cons_zero, List.set_cons_succ]
        refine wpAnyH_take (i := 12) (oi := ({ dst := some 46, op := Op.load 41 (Operand.tmp 45), type := 41, pos := "l5_replay.go:32", after := #[{ on := 11, ground := Ground.data }, { on := 10, ground := Ground.guard }], guard := some (10, false) } : Oper)) (v := undef) rfl (by kernel_rfl) (by kernel_rfl) (by kernel_rfl) (fun _ _ _ h => h) (Or.inr ⟨by rfl, rfl⟩) hHeld ?_
        try simp only [Act.put, List.setIfInBounds_toArray, List.set_cons_zero, List.set_cons_succ]
        refine wpAnyH_take (i := 13) (oi := ({ dst := some 47, op := Op.move (Operand.tmp 3), type := 3, pos := "l5_replay.go:32", after := #[{ on := 10, ground := Ground.guard }], guard := some (10, false) } : Oper)) (v := undef) rfl (by kernel_rfl) (by kernel_rfl) (by kernel_rfl) (fun _ _ _ h => h) (Or.inr ⟨by rfl, rfl⟩) hHeld ?_
        try simp only [Act.put, List.setIfInBounds_toArray, List.set_cons_zero, List.set_cons_succ]
        refine wpAnyH_take (i := 14) (oi := ({ dst := some 48, op := Op.slice 41 (Operand.tmp 46) none (some (Operand.tmp 47)) none, type := 41, pos := "l5_replay.go:32", after := #[{ on := 12, ground := Ground.data }, { on := 13, ground := Ground.data }, { on := 10, ground := Ground.guard }], guard := some (10, false) } : Oper)) (v := undef) rfl (by kernel_rfl) (by kernel_rfl) (by kernel_rfl) (fun _ _ _ h => h) (Or.inr ⟨by rfl, rfl⟩) hHeld ?_
        try simp only [Act.put, List.setIfInBounds_toArray, List.set_cons_zero, List.set_cons_succ]
        refine wpAnyH_take (i := 15) (oi := ({ dst := some 49, op := Op.fieldAddr 70 (Operand.tmp 4) 0, type := 0, pos := "l5_replay.go:32", after := #[{ on := 10, ground := Ground.guard }], guard := some (10, false) } : Oper)) (v := undef) rfl (by kernel_rfl) (by kernel_rfl) (by kernel_rfl) (fun _ _ _ h => h) (Or.inr ⟨by rfl, rfl⟩) hHeld ?_
        try simp only [Act.put, List.setIfInBounds_toArray, List.set_cons_zero, List.set_cons_succ]
        refine wpAnyH_take (i := 16) (oi := ({ dst := some 50, op := Op.load 9 (Operand.tmp 49), type := 9, pos := "l5_replay.go:32", after := #[{ on := 15, ground := Ground.data }, { on := 10, ground := Ground.guard }], guard := some (10, false) } : Oper)) (v := undef) rfl (by kernel_rfl) (by kernel_rfl) (by kernel_rfl) (fun _ _ _ h => h) (Or.inr ⟨by rfl, rfl⟩) hHeld ?_
        try simp only [Act.put, List.setIfInBounds_toArray, List.set_cons_zero, List.set_cons_succ]
        refine wpAnyH_take (i := 17) (oi := ({ dst := some 51, op := Op.call { callee := Callee.value (Operand.func 67), args := #[Operand.tmp 48, Operand.tmp 50], argTypes := #[41, 9] }, type := 3, pos := "l5_replay.go:32", after := #[{ on := 14, ground := Ground.data }, { on := 16, ground := Ground.data }, { on := 10, ground := Ground.chain }, { on := 10, ground := Ground.guard }], guard := some (10, false) } : Oper)) (v := undef) rfl (by kernel_rfl) (by kernel_rfl) (by kernel_rfl) (fun _ _ _ h => h) (Or.inr ⟨by rfl, rfl⟩) hHeld ?_
        try simp only [Act.put, List.setIfInBounds_toArray, List.set_cons_zero, List.set_cons_succ]
        refine wpAnyH_take (i := 18) (oi := ({ dst := some 52, op := Op.binOp BinOp.geq 3 (Operand.tmp 51) (Operand.const (Value.int IntKind.i64 0)) 3, type := 4, pos := "l5_replay.go:32", after := #[{ on := 17, ground := Ground.data }, { on := 10, ground := Ground.guard }], guard := some (10, false) } : Oper)) (v := undef) rfl (by kernel_rfl) (by kernel_rfl) (by kernel_rfl) (fun _ _ _ h => h) (Or.inr ⟨by rfl, rfl⟩) hHeld ?_
        try simp only [Act.put, List.setIfInBounds_toArray, List.set_cons_zero, List.set_cons_succ]
        refine' wpAnyH_take (i := 19) (oi := ({ dst := some 53, op := Op.pick (Operand.tmp 44) (Operand.const (Value.bool true)) (Operand.tmp 52), type := 4, pos := "l5_replay.go:32", after := #[{ on := 10, ground := Ground.data }, { on := 18, ground := Ground.data }], guard := none } : Oper)) (v := _) rfl (by kernel_rfl) (by kernel_rfl) (by kernel_rfl) (fun _ _ _ h => h) (Or.inl ⟨by rfl, fun x hSw => ?hyz1_19⟩) hHeld ?restz1_19
        case hyz1_19 =>
          have k0 := keepB hSw y0; have k1 := keepB hSw y1; have k2 := keepB hSw x1
          go_simp
          try with_reducible rfl
        try simp only [Act.put, List.setIfInBounds_toArray, List.set_cons_zero, List.set_cons_succ]
        refine wpAnyH_done (by kernel_rfl) ?_ _
        go_wp2
        go_ret
        exact ⟨retB (by rw [HT.out, allN_false (p := okColAt C) hlt (by unfold okColAt; rw [hv]; rfl)]; rfl), bstep B2 (bstep B3 hHeld)⟩
      rcases ht : isTyp (C k).t
      · go_wp2
        refine wp_region_held_drew (S := fun x => Below (wr.alloc (.cells #[.string (C k).s, .int .i64 (C k).t] 70)).heap.size (wr.alloc (.cells #[.string (C k).s, .int .i64 (C k).t] 70)) x) (by kernel_rfl) (bdrew _) (fun hHeld => ?_)
        refine' wpAnyH_take (i := 0) (oi := ({ dst := some 34, op := Op.fieldAddr 70 (Operand.tmp 4) 0, type := 0, pos := "l5_replay.go:32", after := #[], guard := none } : Oper)) (v := _) rfl (by kernel_rfl) (by kernel_rfl) (by kernel_rfl) (fun _ _ _ h => h) (Or.inl ⟨by rfl, fun x hSw => ?hyz2_0⟩) hHeld ?restz2_0
        case hyz2_0 =>
          have k0 := keepB hSw y0; have k1 := keepB hSw y1; have k2 := keepB hSw x1
          go_simp
          try with_reducible rfl
        try simp only [Act.put, List.setIfInBounds_toArray, List.set_cons_zero, List.set_cons_succ]
        refine' wpAnyH_take (i := 1) (oi := ({ dst := some 35, op := Op.load 9 (Operand.tmp 34), type := 9, pos := "l5_replay.go:32", after := #[{ on := 0, ground := Ground.data }], guard := none } : Oper)) (v := _) rfl (by kernel_rfl) (by kernel_rfl) (by kernel_rfl) (fun _ _ _ h => h) (Or.inl ⟨by rfl, fun x hSw => ?hyz2_1⟩) hHeld ?restz2_1
        case hyz2_1 =>
          have k0 := keepB hSw y0; have k1 := keepB hSw y1; have k2 := keepB hSw x1
          go_simp
          try with_reducible rfl
        try simp only [Act.put, List.setIfInBounds_toArray, List.set_cons_zero, List.set_cons_succ]
        refine wpAnyH_ready (rs := [2]) (by kernel_rfl) (by simp) ?_
        refine AllReadyH.cons (o := ({ dst := some 36, op := Op.call { callee := Callee.value (Operand.func 31), args := #[Operand.tmp 35], argTypes := #[9] }, type := 4, pos := "l5_replay.go:32", after := #[{ on := 1, ground := Ground.data }], guard := none } : Oper)) rfl (fun K hK => ?_) AllReadyH.nil
        go_simp
        refine (sName _ _ hs).mono ?_
        rw [hv]; rintro e w3 ⟨rfl, hb3⟩
        refine hK.out _ _ (bstep hHeld hb3) (fun hHeld => ?_)
        clear hK K
        try simp only [Act.put, List.setIfInBounds_toArray, List.set_cons_zero, List.set_cons_succ]
        refine' wpAnyH_take (i := 3) (oi := ({ dst := some 37, op := Op.unOp UnOp.not 4 (Operand.tmp 36), type := 4, pos := "l5_replay.go:32", after := #[{ on := 2, ground := Ground.data }], guard := none } : Oper)) (v := _) rfl (by kernel_rfl) (by kernel_rfl) (by kernel_rfl) (fun _ _ _ h => h) (Or.inl ⟨by rfl, fun x hSw => ?hyz2_3⟩) hHeld ?restz2_3
        case hyz2_3 =>
          have k0 := keepB hSw y0; have k1 := keepB hSw y1; have k2 := keepB hSw x1
          go_simp
          try with_reducible rfl
        try simp only [Act.put, List.setIfInBounds_toArray, List.set_cons_zero, List.set_cons_succ]
        refine' wpAnyH_take (i := 4) (oi := ({ dst := some 38, op := Op.move (Operand.tmp 37), type := 4, pos := "l5_replay.go:32", after := #[{ on := 3, ground := Ground.data }, { on := 2, ground := Ground.chain }], guard := none } : Oper)) (v := _) rfl (by kernel_rfl) (by kernel_rfl) (by kernel_rfl) (fun _ _ _ h => h) (Or.inl ⟨by rfl, fun x hSw => ?hyz2_4⟩) hHeld ?restz2_4
        case hyz2_4 =>
          have k0 := keepB hSw y0; have k1 := keepB hSw y1; have k2 := keepB hSw x1
          go_simp
          try with_reducible rfl
        try simp only [Act.put, List.setIfInBounds_toArray, List.set_cons_zero, List.set_cons_succ]
        refine' wpAnyH_take (i := 5) (oi := ({ dst := some 39, op := Op.fieldAddr 70 (Operand.tmp 4) 1, type := 0, pos := "l5_replay.go:32", after := #[{ on := 4, ground := Ground.guard }], guard := some (4, false) } : Oper)) (v := _) rfl (by kernel_rfl) (by kernel_rfl) (by kernel_rfl) (fun _ _ _ h => h) (Or.inl ⟨by rfl, fun x hSw => ?hyz2_5⟩) hHeld ?restz2_5
        case hyz2_5 =>
          have k0 := keepB hSw y0; have k1 := keepB hSw y1; have k2 := keepB hSw x1
          go_simp
          try with_reducible rfl
        try simp only [Act.put, List.setIfInBounds_toArray, List.set_cons_zero, List.set_cons_succ]
        refine' wpAnyH_take (i := 6) (oi := ({ dst := some 40, op := Op.load 3 (Operand.tmp 39), type := 3, pos := "l5_replay.go:32", after := #[{ on := 5, ground := Ground.data }, { on := 4, ground := Ground.guard }], guard := some (4, false) } : Oper)) (v := _) rfl (by kernel_rfl) (by kernel_rfl) (by kernel_rfl) (fun _ _ _ h => h) (Or.inl ⟨by rfl, fun x hSw => ?hyz2_6⟩) hHeld ?restz2_6
        case hyz2_6 =>
          have k0 := keepB hSw y0; have k1 := keepB hSw y1; have k2 := keepB hSw x1
          go_simp
          try with_reducible rfl
        try simp only [Act.put, List.setIfInBounds_toArray, List.set_cons_zero, List.set_cons_succ]
        refine wpAnyH_ready (rs := [7]) (by kernel_rfl) (by simp) ?_
        refine AllReadyH.cons (o := ({ dst := some 41, op := Op.call { callee := Callee.value (Operand.func 32), args := #[Operand.tmp 40], argTypes := #[3] }, type := 4, pos := "l5_replay.go:32", after := #[{ on := 6, ground := Ground.data }, { on := 4, ground := Ground.chain }, { on := 4, ground := Ground.guard }], guard := some (4, false) } : Oper)) rfl (fun K hK => ?_) AllReadyH.nil
        go_simp
        refine (sType _ _).mono ?_
        rw [ht]; rintro e w4 ⟨rfl, rfl⟩
        refine hK.out _ _ (hHeld) (fun hHeld => ?_)
        clear hK K
        try simp only [Act.put, List.setIfInBounds_toArray, List.set_cons_zero, List.set_cons_succ]
        refine' wpAnyH_take (i := 8) (oi := ({ dst := some 42, op := Op.unOp UnOp.not 4 (Operand.tmp 41), type := 4, pos := "l5_replay.go:32", after := #[{ on := 7, ground := Ground.data }, { on := 4, ground := Ground.guard }], guard := some (4, false) } : Oper)) (v := _) rfl (by kernel_rfl) (by kernel_rfl) (by kernel_rfl) (fun _ _ _ h => h) (Or.inl ⟨by rfl, fun x hSw => ?hyz2_8⟩) hHeld ?restz2_8
        case hyz2_8 =>
          have k0 := keepB hSw y0; have k1 := keepB hSw y1; have k2 := keepB hSw x1
          go_simp
          try with_reducible rfl
        try simp only [Act.put, List.setIfInBounds_toArray, List.set_cons_zero, List.set_cons_succ]
        refine' wpAnyH_take (i := 9) (oi := ({ dst := some 43, op := Op.pick (Operand.tmp 38) (Operand.const (Value.bool true)) (Operand.tmp 42), type := 4, pos := "l5_replay.go:32", after := #[{ on := 4, ground := Ground.data }, { on := 8, ground := Ground.data }], guard := none } : Oper)) (v := _) rfl (by kernel_rfl) (by kernel_rfl) (by kernel_rfl) (fun _ _ _ h => h) (Or.inl ⟨by rfl, fun x hSw => ?hyz2_9⟩) hHeld ?restz2_9
        case hyz2_9 =>
          have k0 := keepB hSw y0; have k1 := keepB hSw y1; have k2 := keepB hSw x1
          go_simp
          try with_reducible rfl
        try simp only [Act.put, List.setIfInBounds_toArray, List.set_cons_zero, List.set_cons_succ]
        refine' wpAnyH_take (i := 10) (oi := ({ dst := some 44, op := Op.move (Operand.tmp 43), type := 4, pos := "l5_replay.go:32", after := #[{ on := 9, ground := Ground.data }, { on := 7, ground := Ground.chain }], guard := none } : Oper)) (v := _) rfl (by kernel_rfl) (by kernel_rfl) (by kernel_rfl) (fun _ _ _ h => h) (Or.inl ⟨by rfl, fun x hSw => ?hyz2_10⟩) hHeld ?restz2_10
        case hyz2_10 =>
          have k0 := keepB hSw y0; have k1 := keepB hSw y1; have k2 := keepB hSw x1
          go_simp
          try with_reducible rfl
        try simp only [Act.put, List.setIfInBounds_toArray, List.set_cons_zero, List.set_cons_succ]
        refine wpAnyH_take (i := 11) (oi := ({ dst := some 45, op := Op.fieldAddr 54 (Operand.tmp 1) 1, type := 0, pos := "l5_replay.go:32", after := #[{ on := 10, ground := Ground.guard }], guard := some (10, false) } : Oper)) (v := undef) rfl (by kernel_rfl) (by kernel_rfl) (by kernel_rfl) (fun _ _ _ h => h) (Or.inr ⟨by rfl, rfl⟩) hHeld ?_
        try simp only [Act.put, List.setIfInBounds_toArray, List.set_cons_zero, List.set_cons_succ]
        refine wpAnyH_take (i := 12) (oi := ({ dst := some 46, op := Op.load 41 (Operand.tmp 45), type := 41, pos := "l5_replay.go:32", after := #[{ on := 11, ground := Ground.data }, { on := 10, ground := Ground.guard }], guard := some (10, false) } : Oper)) (v := undef) rfl (by kernel_rfl) (by kernel_rfl) (by kernel_rfl) (fun _ _ _ h => h) (Or.inr ⟨by rfl, rfl⟩) hHeld ?_
        try simp only [Act.put, List.setIfInBounds_toArray, List.set_cons_zero, List.set_cons_succ]
        refine wpAnyH_take (i := 13) (oi := ({ dst := some 47, op := Op.move (Operand.tmp 3), type := 3, pos := "l5_replay.go:32", after := #[{ on := 10, ground := Ground.guard }], guard := some (10, false) } : Oper)) (v := undef) rfl (by kernel_rfl) (by kernel_rfl) (by kernel_rfl) (fun _ _ _ h => h) (Or.inr ⟨by rfl, rfl⟩) hHeld ?_
        try simp only [Act.put, List.setIfInBounds_toArray, List.set_cons_zero, List.set_cons_succ]
        refine wpAnyH_take (i := 14) (oi := ({ dst := some 48, op := Op.slice 41 (Operand.tmp 46) none (some (Operand.tmp 47)) none, type := 41, pos := "l5_replay.go:32", after := #[{ on := 12, ground := Ground.data }, { on := 13, ground := Ground.data }, { on := 10, ground := Ground.guard }], guard := some (10, false) } : Oper)) (v := undef) rfl (by kernel_rfl) (by kernel_rfl) (by kernel_rfl) (fun _ _ _ h => h) (Or.inr ⟨by rfl, rfl⟩) hHeld ?_
        try simp only [Act.put, List.setIfInBounds_toArray, List.set_cons_zero, List.set_cons_succ]
        refine wpAnyH_take (i := 15) (oi := ({ dst := some 49, op := Op.fieldAddr 70 (Operand.tmp 4) 0, type := 0, pos := "l5_replay.go:32", after := #[{ on := 10, ground := Ground.guard }], guard := some (10, false) } : Oper)) (v := undef) rfl (by kernel_rfl) (by kernel_rfl) (by kernel_rfl) (fun _ _ _ h => h) (Or.inr ⟨by rfl, rfl⟩) hHeld ?_
        try simp only [Act.put, List.setIfInBounds_toArray, List.set_cons_zero, List.set_cons_succ]
        refine wpAnyH_take (i := 16) (oi := ({ dst := some 50, op := Op.load 9 (Operand.tmp 49), type := 9, pos := "l5_replay.go:32", after := #[{ on := 15, ground := Ground.data }, { on := 10, ground := Ground.guard }], guard := some (10, false) } : Oper)) (v := undef) rfl (by kernel_rfl) (by kernel_rfl) (by kernel_rfl) (fun _ _ _ h => h) (Or.inr ⟨by rfl, rfl⟩) hHeld ?_
        try simp only [Act.put, List.setIfInBounds_toArray, List.set_cons_zero, List.set_cons_succ]
        refine wpAnyH_take (i := 17) (oi := ({ dst := some 51, op := Op.call { callee := Callee.value (Operand.func 67), args := #[Operand.tmp 48, Operand.tmp 50], argTypes := #[41, 9] }, type := 3, pos := "l5_replay.go:32", after := #[{ on := 14, ground := Ground.data }, { on := 16, ground := Ground.data }, { on := 10, ground := Ground.chain }, { on := 10, ground := Ground.guard }], guard := some (10, false) } : Oper)) (v := undef) rfl (by kernel_rfl) (by kernel_rfl) (by kernel_rfl) (fun _ _ _ h => h) (Or.inr ⟨by rfl, rfl⟩) hHeld ?_
        try simp only [Act.put, List.setIfInBounds_toArray, List.set_cons_zero, List.set_cons_succ]
        refine wpAnyH_take (i := 18) (oi := ({ dst := some 52, op := Op.binOp BinOp.geq 3 (Operand.tmp 51) (Operand.const (Value.int IntKind.i64 0)) 3, type := 4, pos := "l5_replay.go:32", after := #[{ on := 17, ground := Ground.data }, { on := 10, ground := Ground.guard }], guard := some (10, false) } : Oper)) (v := undef) rfl (by kernel_rfl) (by kernel_rfl) (by kernel_rfl) (fun _ _ _ h => h) (Or.inr ⟨by rfl, rfl⟩) hHeld ?_
        try simp only [Act.put, List.setIfInBounds_toArray, List.set_cons_zero, List.set_cons_succ]
        refine' wpAnyH_take (i := 19) (oi := ({ dst := some 53, op := Op.pick (Operand.tmp 44) (Operand.const (Value.bool true)) (Operand.tmp 52), type := 4, pos := "l5_replay.go:32", after := #[{ on := 10, ground := Ground.data }, { on := 18, ground := Ground.data }], guard := none } : Oper)) (v := _) rfl (by kernel_rfl) (by kernel_rfl) (by kernel_rfl) (fun _ _ _ h => h) (Or.inl ⟨by rfl, fun x hSw => ?hyz2_19⟩) hHeld ?restz2_19
        case hyz2_19 =>
          have k0 := keepB hSw y0; have k1 := keepB hSw y1; have k2 := keepB hSw x1
          go_simp
          try with_reducible rfl
        try simp only [Act.put, List.setIfInBounds_toArray, List.set_cons_zero, List.set_cons_succ]
        refine wpAnyH_done (by kernel_rfl) ?_ _
        go_wp2
        go_ret
        exact ⟨retB (by rw [HT.out, allN_false (p := okColAt C) hlt (by unfold okColAt; rw [hv, ht]; rfl)]; rfl), bstep B2 (bstep B3 hHeld)⟩
      rcases hc : hasCol C (C k).s k
      · go_wp2
        refine wp_region_held_drew (S := fun x => Below (wr.alloc (.cells #[.string (C k).s, .int .i64 (C k).t] 70)).heap.size (wr.alloc (.cells #[.string (C k).s, .int .i64 (C k).t] 70)) x) (by kernel_rfl) (bdrew _) (fun hHeld => ?_)
        refine' wpAnyH_take (i := 0) (oi := ({ dst := some 34, op := Op.fieldAddr 70 (Operand.tmp 4) 0, type := 0, pos := "l5_replay.go:32", after := #[], guard := none } : Oper)) (v := _) rfl (by kernel_rfl) (by kernel_rfl) (by kernel_rfl) (fun _ _ _ h => h) (Or.inl ⟨by rfl, fun x hSw => ?hyz3_0⟩) hHeld ?restz3_0
        case hyz3_0 =>
          have k0 := keepB hSw y0; have k1 := keepB hSw y1; have k2 := keepB hSw x1
          go_simp
          try with_reducible rfl
        try simp only [Act.put, List.setIfInBounds_toArray, List.set_cons_zero, List.set_cons_succ]
        refine' wpAnyH_take (i := 1) (oi := ({ dst := some 35, op := Op.load 9 (Operand.tmp 34), type := 9, pos := "l5_replay.go:32", after := #[{ on := 0, ground := Ground.data }], guard := none } : Oper)) (v := _) rfl (by kernel_rfl) (by kernel_rfl) (by kernel_rfl) (fun _ _ _ h => h) (Or.inl ⟨by rfl, fun x hSw => ?hyz3_1⟩) hHeld ?restz3_1
        case hyz3_1 =>
          have k0 := keepB hSw y0; have k1 := keepB hSw y1; have k2 := keepB hSw x1
          go_simp
          try with_reducible rfl
        try simp only [Act.put, List.setIfInBounds_toArray, List.set_cons_zero, List.set_cons_succ]
        refine wpAnyH_ready (rs := [2]) (by kernel_rfl) (by simp) ?_
        refine AllReadyH.cons (o := ({ dst := some 36, op := Op.call { callee := Callee.value (Operand.func 31), args := #[Operand.tmp 35], argTypes := #[9] }, type := 4, pos := "l5_replay.go:32", after := #[{ on := 1, ground := Ground.data }], guard := none } : Oper)) rfl (fun K hK => ?_) AllReadyH.nil
        go_simp
        refine (sName _ _ hs).mono ?_
        rw [hv]; rintro e w3 ⟨rfl, hb3⟩
        refine hK.out _ _ (bstep hHeld hb3) (fun hHeld => ?_)
        clear hK K
        try simp only [Act.put, List.setIfInBounds_toArray, List.set_cons_zero, List.set_cons_succ]
        refine' wpAnyH_take (i := 3) (oi := ({ dst := some 37, op := Op.unOp UnOp.not 4 (Operand.tmp 36), type := 4, pos := "l5_replay.go:32", after := #[{ on := 2, ground := Ground.data }], guard := none } : Oper)) (v := _) rfl (by kernel_rfl) (by kernel_rfl) (by kernel_rfl) (fun _ _ _ h => h) (Or.inl ⟨by rfl, fun x hSw => ?hyz3_3⟩) hHeld ?restz3_3
        case hyz3_3 =>
          have k0 := keepB hSw y0; have k1 := keepB hSw y1; have k2 := keepB hSw x1
          go_simp
          try with_reducible rfl
        try simp only [Act.put, List.setIfInBounds_toArray, List.set_cons_zero, List.set_cons_succ]
        refine' wpAnyH_take (i := 4) (oi := ({ dst := some 38, op := Op.move (Operand.tmp 37), type := 4, pos := "l5_replay.go:32", after := #[{ on := 3, ground := Ground.data }, { on := 2, ground := Ground.chain }], guard := none } : Oper)) (v := _) rfl (by kernel_rfl) (by kernel_rfl) (by kernel_rfl) (fun _ _ _ h => h) (Or.inl ⟨by rfl, fun x hSw => ?hyz3_4⟩) hHeld ?restz3_4
        case hyz3_4 =>
          have k0 := keepB hSw y0; have k1 := keepB hSw y1; have k2 := keepB hSw x1
          go_simp
          try with_reducible rfl
        try simp only [Act.put, List.setIfInBounds_toArray, List.set_cons_zero, List.set_cons_succ]
        refine' wpAnyH_take (i := 5) (oi := ({ dst := some 39, op := Op.fieldAddr 70 (Operand.tmp 4) 1, type := 0, pos := "l5_replay.go:32", after := #[{ on := 4, ground := Ground.guard }], guard := some (4, false) } : Oper)) (v := _) rfl (by kernel_rfl) (by kernel_rfl) (by kernel_rfl) (fun _ _ _ h => h) (Or.inl ⟨by rfl, fun x hSw => ?hyz3_5⟩) hHeld ?restz3_5
        case hyz3_5 =>
          have k0 := keepB hSw y0; have k1 := keepB hSw y1; have k2 := keepB hSw x1
          go_simp
          try with_reducible rfl
        try simp only [Act.put, List.setIfInBounds_toArray, List.set_cons_zero, List.set_cons_succ]
        refine' wpAnyH_take (i := 6) (oi := ({ dst := some 40, op := Op.load 3 (Operand.tmp 39), type := 3, pos := "l5_replay.go:32", after := #[{ on := 5, ground := Ground.data }, { on := 4, ground := Ground.guard }], guard := some (4, false) } : Oper)) (v := _) rfl (by kernel_rfl) (by kernel_rfl) (by kernel_rfl) (fun _ _ _ h => h) (Or.inl ⟨by rfl, fun x hSw => ?hyz3_6⟩) hHeld ?restz3_6
        case hyz3_6 =>
          have k0 := keepB hSw y0; have k1 := keepB hSw y1; have k2 := keepB hSw x1
          go_simp
          try with_reducible rfl
        try simp only [Act.put, List.setIfInBounds_toArray, List.set_cons_zero, List.set_cons_succ]
        refine wpAnyH_ready (rs := [7]) (by kernel_rfl) (by simp) ?_
        refine AllReadyH.cons (o := ({ dst := some 41, op := Op.call { callee := Callee.value (Operand.func 32), args := #[Operand.tmp 40], argTypes := #[3] }, type := 4, pos := "l5_replay.go:32", after := #[{ on := 6, ground := Ground.data }, { on := 4, ground := Ground.chain }, { on := 4, ground := Ground.guard }], guard := some (4, false) } : Oper)) rfl (fun K hK => ?_) AllReadyH.nil
        go_simp
        refine (sType _ _).mono ?_
        rw [ht]; rintro e w4 ⟨rfl, rfl⟩
        refine hK.out _ _ (hHeld) (fun hHeld => ?_)
        clear hK K
        try simp only [Act.put, List.setIfInBounds_toArray, List.set_cons_zero, List.set_cons_succ]
        refine' wpAnyH_take (i := 8) (oi := ({ dst := some 42, op := Op.unOp UnOp.not 4 (Operand.tmp 41), type := 4, pos := "l5_replay.go:32", after := #[{ on := 7, ground := Ground.data }, { on := 4, ground := Ground.guard }], guard := some (4, false) } : Oper)) (v := _) rfl (by kernel_rfl) (by kernel_rfl) (by kernel_rfl) (fun _ _ _ h => h) (Or.inl ⟨by rfl, fun x hSw => ?hyz3_8⟩) hHeld ?restz3_8
        case hyz3_8 =>
          have k0 := keepB hSw y0; have k1 := keepB hSw y1; have k2 := keepB hSw x1
          go_simp
          try with_reducible rfl
        try simp only [Act.put, List.setIfInBounds_toArray, List.set_cons_zero, List.set_cons_succ]
        refine' wpAnyH_take (i := 9) (oi := ({ dst := some 43, op := Op.pick (Operand.tmp 38) (Operand.const (Value.bool true)) (Operand.tmp 42), type := 4, pos := "l5_replay.go:32", after := #[{ on := 4, ground := Ground.data }, { on := 8, ground := Ground.data }], guard := none } : Oper)) (v := _) rfl (by kernel_rfl) (by kernel_rfl) (by kernel_rfl) (fun _ _ _ h => h) (Or.inl ⟨by rfl, fun x hSw => ?hyz3_9⟩) hHeld ?restz3_9
        case hyz3_9 =>
          have k0 := keepB hSw y0; have k1 := keepB hSw y1; have k2 := keepB hSw x1
          go_simp
          try with_reducible rfl
        try simp only [Act.put, List.setIfInBounds_toArray, List.set_cons_zero, List.set_cons_succ]
        refine' wpAnyH_take (i := 10) (oi := ({ dst := some 44, op := Op.move (Operand.tmp 43), type := 4, pos := "l5_replay.go:32", after := #[{ on := 9, ground := Ground.data }, { on := 7, ground := Ground.chain }], guard := none } : Oper)) (v := _) rfl (by kernel_rfl) (by kernel_rfl) (by kernel_rfl) (fun _ _ _ h => h) (Or.inl ⟨by rfl, fun x hSw => ?hyz3_10⟩) hHeld ?restz3_10
        case hyz3_10 =>
          have k0 := keepB hSw y0; have k1 := keepB hSw y1; have k2 := keepB hSw x1
          go_simp
          try with_reducible rfl
        try simp only [Act.put, List.setIfInBounds_toArray, List.set_cons_zero, List.set_cons_succ]
        refine' wpAnyH_take (i := 11) (oi := ({ dst := some 45, op := Op.fieldAddr 54 (Operand.tmp 1) 1, type := 0, pos := "l5_replay.go:32", after := #[{ on := 10, ground := Ground.guard }], guard := some (10, false) } : Oper)) (v := _) rfl (by kernel_rfl) (by kernel_rfl) (by kernel_rfl) (fun _ _ _ h => h) (Or.inl ⟨by rfl, fun x hSw => ?hyz3_11⟩) hHeld ?restz3_11
        case hyz3_11 =>
          have k0 := keepB hSw y0; have k1 := keepB hSw y1; have k2 := keepB hSw x1
          go_simp
          try with_reducible rfl
        try simp only [Act.put, List.setIfInBounds_toArray, List.set_cons_zero, List.set_cons_succ]
        refine' wpAnyH_take (i := 12) (oi := ({ dst := some 46, op := Op.load 41 (Operand.tmp 45), type := 41, pos := "l5_replay.go:32", after := #[{ on := 11, ground := Ground.data }, { on := 10, ground := Ground.guard }], guard := some (10, false) } : Oper)) (v := _) rfl (by kernel_rfl) (by kernel_rfl) (by kernel_rfl) (fun _ _ _ h => h) (Or.inl ⟨by rfl, fun x hSw => ?hyz3_12⟩) hHeld ?restz3_12
        case hyz3_12 =>
          have k0 := keepB hSw y0; have k1 := keepB hSw y1; have k2 := keepB hSw x1
          go_simp
          try with_reducible rfl
        try simp only [Act.put, List.setIfInBounds_toArray, List.set_cons_zero, List.set_cons_succ]
        refine' wpAnyH_take (i := 13) (oi := ({ dst := some 47, op := Op.move (Operand.tmp 3), type := 3, pos := "l5_replay.go:32", after := #[{ on := 10, ground := Ground.guard }], guard := some (10, false) } : Oper)) (v := _) rfl (by kernel_rfl) (by kernel_rfl) (by kernel_rfl) (fun _ _ _ h => h) (Or.inl ⟨by rfl, fun x hSw => ?hyz3_13⟩) hHeld ?restz3_13
        case hyz3_13 =>
          have k0 := keepB hSw y0; have k1 := keepB hSw y1; have k2 := keepB hSw x1
          go_simp
          try with_reducible rfl
        try simp only [Act.put, List.setIfInBounds_toArray, List.set_cons_zero, List.set_cons_succ]
        refine' wpAnyH_take (i := 14) (oi := ({ dst := some 48, op := Op.slice 41 (Operand.tmp 46) none (some (Operand.tmp 47)) none, type := 41, pos := "l5_replay.go:32", after := #[{ on := 12, ground := Ground.data }, { on := 13, ground := Ground.data }, { on := 10, ground := Ground.guard }], guard := some (10, false) } : Oper)) (v := .slice (some ⟨b, off, none⟩) k n) rfl (by kernel_rfl) (by kernel_rfl) (by kernel_rfl) (fun _ _ _ h => h) (Or.inl ⟨by rfl, fun x hSw => ?hyz3_14⟩) hHeld ?restz3_14
        case hyz3_14 =>
          have k0 := keepB hSw y0; have k1 := keepB hSw y1; have k2 := keepB hSw x1
          go_simp
          try with_reducible rfl
        try simp only [Act.put, List.setIfInBounds_toArray, List.set_cons_zero, List.set_cons_succ]
        refine' wpAnyH_take (i := 15) (oi := ({ dst := some 49, op := Op.fieldAddr 70 (Operand.tmp 4) 0, type := 0, pos := "l5_replay.go:32", after := #[{ on := 10, ground := Ground.guard }], guard := some (10, false) } : Oper)) (v := _) rfl (by kernel_rfl) (by kernel_rfl) (by kernel_rfl) (fun _ _ _ h => h) (Or.inl ⟨by rfl, fun x hSw => ?hyz3_15⟩) hHeld ?restz3_15
        case hyz3_15 =>
          have k0 := keepB hSw y0; have k1 := keepB hSw y1; have k2 := keepB hSw x1
          go_simp
          try with_reducible rfl
        try simp only [Act.put, List.setIfInBounds_toArray, List.set_cons_zero, List.set_cons_succ]
        refine' wpAnyH_take (i := 16) (oi := ({ dst := some 50, op := Op.load 9 (Operand.tmp 49), type := 9, pos := "l5_replay.go:32", after := #[{ on := 15, ground := Ground.data }, { on := 10, ground := Ground.guard }], guard := some (10, false) } : Oper)) (v := _) rfl (by kernel_rfl) (by kernel_rfl) (by kernel_rfl) (fun _ _ _ h => h) (Or.inl ⟨by rfl, fun x hSw => ?hyz3_16⟩) hHeld ?restz3_16
        case hyz3_16 =>
          have k0 := keepB hSw y0; have k1 := keepB hSw y1; have k2 := keepB hSw x1
          go_simp
          try with_reducible rfl
        try simp only [Act.put, List.setIfInBounds_toArray, List.set_cons_zero, List.set_cons_succ]
        refine wpAnyH_ready (rs := [17]) (by kernel_rfl) (by simp) ?_
        refine AllReadyH.cons (o := ({ dst := some 51, op := Op.call { callee := Callee.value (Operand.func 67), args := #[Operand.tmp 48, Operand.tmp 50], argTypes := #[41, 9] }, type := 3, pos := "l5_replay.go:32", after := #[{ on := 14, ground := Ground.data }, { on := 16, ground := Ground.data }, { on := 10, ground := Ground.chain }, { on := 10, ground := Ground.guard }], guard := some (10, false) } : Oper)) rfl (fun K hK => ?_) AllReadyH.nil
        go_simp
        refine (sCol _ _ _ C _ _ ((hCr.take (Nat.le_of_lt hlt)).later hHeld) (by omega)).mono ?_
        rintro e w5 ⟨q, rfl, hqq, hb5⟩; rw [hc] at hqq; replace hqq := show ¬ (0 : Int) ≤ q from fun hh => (by cases hqq.1 hh)
        refine hK.out _ _ (bstep hHeld hb5) (fun hHeld => ?_)
        clear hK K
        try simp only [Act.put, List.setIfInBounds_toArray, List.set_cons_zero, List.set_cons_succ]
        refine' wpAnyH_take (i := 18) (oi := ({ dst := some 52, op := Op.binOp BinOp.geq 3 (Operand.tmp 51) (Operand.const (Value.int IntKind.i64 0)) 3, type := 4, pos := "l5_replay.go:32", after := #[{ on := 17, ground := Ground.data }, { on := 10, ground := Ground.guard }], guard := some (10, false) } : Oper)) (v := _) rfl (by kernel_rfl) (by kernel_rfl) (by kernel_rfl) (fun _ _ _ h => h) (Or.inl ⟨by rfl, fun x hSw => ?hyz3_18⟩) hHeld ?restz3_18
        case hyz3_18 =>
          have k0 := keepB hSw y0; have k1 := keepB hSw y1; have k2 := keepB hSw x1
          go_simp
          try with_reducible rfl
        try simp only [Act.put, List.setIfInBounds_toArray, List.set_cons_zero, List.set_cons_succ]
        refine' wpAnyH_take (i := 19) (oi := ({ dst := some 53, op := Op.pick (Operand.tmp 44) (Operand.const (Value.bool true)) (Operand.tmp 52), type := 4, pos := "l5_replay.go:32", after := #[{ on := 10, ground := Ground.data }, { on := 18, ground := Ground.data }], guard := none } : Oper)) (v := _) rfl (by kernel_rfl) (by kernel_rfl) (by kernel_rfl) (fun _ _ _ h => h) (Or.inl ⟨by rfl, fun x hSw => ?hyz3_19⟩) hHeld ?restz3_19
        case hyz3_19 =>
          have k0 := keepB hSw y0; have k1 := keepB hSw y1; have k2 := keepB hSw x1
          go_simp
          try with_reducible rfl
        try simp only [Act.put, List.setIfInBounds_toArray, List.set_cons_zero, List.set_cons_succ]
        refine wpAnyH_done (by kernel_rfl) ?_ _
        go_wp2
        go_roundw
        case rel => exact ⟨k + 1, by omega, by go_num, fun j hj => by
          by_cases e : j = k
          · subst e; unfold okColAt; rw [hv, ht, hc]; rfl
          · exact hall j (by omega), bstep hb (bstep B3 hHeld)⟩
        case measure => simp [intOf]; omega
      · go_wp2
        refine wp_region_held_drew (S := fun x => Below (wr.alloc (.cells #[.string (C k).s, .int .i64 (C k).t] 70)).heap.size (wr.alloc (.cells #[.string (C k).s, .int .i64 (C k).t] 70)) x) (by kernel_rfl) (bdrew _) (fun hHeld => ?_)
        refine' wpAnyH_take (i := 0) (oi := ({ dst := some 34, op := Op.fieldAddr 70 (Operand.tmp 4) 0, type := 0, pos := "l5_replay.go:32", after := #[], guard := none } : Oper)) (v := _) rfl (by kernel_rfl) (by kernel_rfl) (by kernel_rfl) (fun _ _ _ h => h) (Or.inl ⟨by rfl, fun x hSw => ?hyz4_0⟩) hHeld ?restz4_0
        case hyz4_0 =>
          have k0 := keepB hSw y0; have k1 := keepB hSw y1; have k2 := keepB hSw x1
          go_simp
          try with_reducible rfl
        try simp only [Act.put, List.setIfInBounds_toArray, List.set_cons_zero, List.set_cons_succ]
        refine' wpAnyH_take (i := 1) (oi := ({ dst := some 35, op := Op.load 9 (Operand.tmp 34), type := 9, pos := "l5_replay.go:32", after := #[{ on := 0, ground := Ground.data }], guard := none } : Oper)) (v := _) rfl (by kernel_rfl) (by kernel_rfl) (by kernel_rfl) (fun _ _ _ h => h) (Or.inl ⟨by rfl, fun x hSw => ?hyz4_1⟩) hHeld ?restz4_1
        case hyz4_1 =>
          have k0 := keepB hSw y0; have k1 := keepB hSw y1; have k2 := keepB hSw x1
          go_simp
          try with_reducible rfl
        try simp only [Act.put, List.setIfInBounds_toArray, List.set_cons_zero, List.set_cons_succ]
        refine wpAnyH_ready (rs := [2]) (by kernel_rfl) (by simp) ?_
        refine AllReadyH.cons (o := ({ dst := some 36, op := Op.call { callee := Callee.value (Operand.func 31), args := #[Operand.tmp 35], argTypes := #[9] }, type := 4, pos := "l5_replay.go:32", after := #[{ on := 1, ground := Ground.data }], guard := none } : Oper)) rfl (fun K hK => ?_) AllReadyH.nil
        go_simp
        refine (sName _ _ hs).mono ?_
        rw [hv]; rintro e w3 ⟨rfl, hb3⟩
        refine hK.out _ _ (bstep hHeld hb3) (fun hHeld => ?_)
        clear hK K
        try simp only [Act.put, List.setIfInBounds_toArray, List.set_cons_zero, List.set_cons_succ]
        refine' wpAnyH_take (i := 3) (oi := ({ dst := some 37, op := Op.unOp UnOp.not 4 (Operand.tmp 36), type := 4, pos := "l5_replay.go:32", after := #[{ on := 2, ground := Ground.data }], guard := none } : Oper)) (v := _) rfl (by kernel_rfl) (by kernel_rfl) (by kernel_rfl) (fun _ _ _ h => h) (Or.inl ⟨by rfl, fun x hSw => ?hyz4_3⟩) hHeld ?restz4_3
        case hyz4_3 =>
          have k0 := keepB hSw y0; have k1 := keepB hSw y1; have k2 := keepB hSw x1
          go_simp
          try with_reducible rfl
        try simp only [Act.put, List.setIfInBounds_toArray, List.set_cons_zero, List.set_cons_succ]
        refine' wpAnyH_take (i := 4) (oi := ({ dst := some 38, op := Op.move (Operand.tmp 37), type := 4, pos := "l5_replay.go:32", after := #[{ on := 3, ground := Ground.data }, { on := 2, ground := Ground.chain }], guard := none } : Oper)) (v := _) rfl (by kernel_rfl) (by kernel_rfl) (by kernel_rfl) (fun _ _ _ h => h) (Or.inl ⟨by rfl, fun x hSw => ?hyz4_4⟩) hHeld ?restz4_4
        case hyz4_4 =>
          have k0 := keepB hSw y0; have k1 := keepB hSw y1; have k2 := keepB hSw x1
          go_simp
          try with_reducible rfl
        try simp only [Act.put, List.setIfInBounds_toArray, List.set_cons_zero, List.set_cons_succ]
        refine' wpAnyH_take (i := 5) (oi := ({ dst := some 39, op := Op.fieldAddr 70 (Operand.tmp 4) 1, type := 0, pos := "l5_replay.go:32", after := #[{ on := 4, ground := Ground.guard }], guard := some (4, false) } : Oper)) (v := _) rfl (by kernel_rfl) (by kernel_rfl) (by kernel_rfl) (fun _ _ _ h => h) (Or.inl ⟨by rfl, fun x hSw => ?hyz4_5⟩) hHeld ?restz4_5
        case hyz4_5 =>
          have k0 := keepB hSw y0; have k1 := keepB hSw y1; have k2 := keepB hSw x1
          go_simp
          try with_reducible rfl
        try simp only [Act.put, List.setIfInBounds_toArray, List.set_cons_zero, List.set_cons_succ]
        refine' wpAnyH_take (i := 6) (oi := ({ dst := some 40, op := Op.load 3 (Operand.tmp 39), type := 3, pos := "l5_replay.go:32", after := #[{ on := 5, ground := Ground.data }, { on := 4, ground := Ground.guard }], guard := some (4, false) } : Oper)) (v := _) rfl (by kernel_rfl) (by kernel_rfl) (by kernel_rfl) (fun _ _ _ h => h) (Or.inl ⟨by rfl, fun x hSw => ?hyz4_6⟩) hHeld ?restz4_6
        case hyz4_6 =>
          have k0 := keepB hSw y0; have k1 := keepB hSw y1; have k2 := keepB hSw x1
          go_simp
          try with_reducible rfl
        try simp only [Act.put, List.setIfInBounds_toArray, List.set_cons_zero, List.set_cons_succ]
        refine wpAnyH_ready (rs := [7]) (by kernel_rfl) (by simp) ?_
        refine AllReadyH.cons (o := ({ dst := some 41, op := Op.call { callee := Callee.value (Operand.func 32), args := #[Operand.tmp 40], argTypes := #[3] }, type := 4, pos := "l5_replay.go:32", after := #[{ on := 6, ground := Ground.data }, { on := 4, ground := Ground.chain }, { on := 4, ground := Ground.guard }], guard := some (4, false) } : Oper)) rfl (fun K hK => ?_) AllReadyH.nil
        go_simp
        refine (sType _ _).mono ?_
        rw [ht]; rintro e w4 ⟨rfl, rfl⟩
        refine hK.out _ _ (hHeld) (fun hHeld => ?_)
        clear hK K
        try simp only [Act.put, List.setIfInBounds_toArray, List.set_cons_zero, List.set_cons_succ]
        refine' wpAnyH_take (i := 8) (oi := ({ dst := some 42, op := Op.unOp UnOp.not 4 (Operand.tmp 41), type := 4, pos := "l5_replay.go:32", after := #[{ on := 7, ground := Ground.data }, { on := 4, ground := Ground.guard }], guard := some (4, false) } : Oper)) (v := _) rfl (by kernel_rfl) (by kernel_rfl) (by kernel_rfl) (fun _ _ _ h => h) (Or.inl ⟨by rfl, fun x hSw => ?hyz4_8⟩) hHeld ?restz4_8
        case hyz4_8 =>
          have k0 := keepB hSw y0; have k1 := keepB hSw y1; have k2 := keepB hSw x1
          go_simp
          try with_reducible rfl
        try simp only [Act.put, List.setIfInBounds_toArray, List.set_cons_zero, List.set_cons_succ]
        refine' wpAnyH_take (i := 9) (oi := ({ dst := some 43, op := Op.pick (Operand.tmp 38) (Operand.const (Value.bool true)) (Operand.tmp 42), type := 4, pos := "l5_replay.go:32", after := #[{ on := 4, ground := Ground.data }, { on := 8, ground := Ground.data }], guard := none } : Oper)) (v := _) rfl (by kernel_rfl) (by kernel_rfl) (by kernel_rfl) (fun _ _ _ h => h) (Or.inl ⟨by rfl, fun x hSw => ?hyz4_9⟩) hHeld ?restz4_9
        case hyz4_9 =>
          have k0 := keepB hSw y0; have k1 := keepB hSw y1; have k2 := keepB hSw x1
          go_simp
          try with_reducible rfl
        try simp only [Act.put, List.setIfInBounds_toArray, List.set_cons_zero, List.set_cons_succ]
        refine' wpAnyH_take (i := 10) (oi := ({ dst := some 44, op := Op.move (Operand.tmp 43), type := 4, pos := "l5_replay.go:32", after := #[{ on := 9, ground := Ground.data }, { on := 7, ground := Ground.chain }], guard := none } : Oper)) (v := _) rfl (by kernel_rfl) (by kernel_rfl) (by kernel_rfl) (fun _ _ _ h => h) (Or.inl ⟨by rfl, fun x hSw => ?hyz4_10⟩) hHeld ?restz4_10
        case hyz4_10 =>
          have k0 := keepB hSw y0; have k1 := keepB hSw y1; have k2 := keepB hSw x1
          go_simp
          try with_reducible rfl
        try simp only [Act.put, List.setIfInBounds_toArray, List.set_cons_zero, List.set_cons_succ]
        refine' wpAnyH_take (i := 11) (oi := ({ dst := some 45, op := Op.fieldAddr 54 (Operand.tmp 1) 1, type := 0, pos := "l5_replay.go:32", after := #[{ on := 10, ground := Ground.guard }], guard := some (10, false) } : Oper)) (v := _) rfl (by kernel_rfl) (by kernel_rfl) (by kernel_rfl) (fun _ _ _ h => h) (Or.inl ⟨by rfl, fun x hSw => ?hyz4_11⟩) hHeld ?restz4_11
        case hyz4_11 =>
          have k0 := keepB hSw y0; have k1 := keepB hSw y1; have k2 := keepB hSw x1
          go_simp
          try with_reducible rfl
        try simp only [Act.put, List.setIfInBounds_toArray, List.set_cons_zero, List.set_cons_succ]
        refine' wpAnyH_take (i := 12) (oi := ({ dst := some 46, op := Op.load 41 (Operand.tmp 45), type := 41, pos := "l5_replay.go:32", after := #[{ on := 11, ground := Ground.data }, { on := 10, ground := Ground.guard }], guard := some (10, false) } : Oper)) (v := _) rfl (by kernel_rfl) (by kernel_rfl) (by kernel_rfl) (fun _ _ _ h => h) (Or.inl ⟨by rfl, fun x hSw => ?hyz4_12⟩) hHeld ?restz4_12
        case hyz4_12 =>
          have k0 := keepB hSw y0; have k1 := keepB hSw y1; have k2 := keepB hSw x1
          go_simp
          try with_reducible rfl
        try simp only [Act.put, List.setIfInBounds_toArray, List.set_cons_zero, List.set_cons_succ]
        refine' wpAnyH_take (i := 13) (oi := ({ dst := some 47, op := Op.move (Operand.tmp 3), type := 3, pos := "l5_replay.go:32", after := #[{ on := 10, ground := Ground.guard }], guard := some (10, false) } : Oper)) (v := _) rfl (by kernel_rfl) (by kernel_rfl) (by kernel_rfl) (fun _ _ _ h => h) (Or.inl ⟨by rfl, fun x hSw => ?hyz4_13⟩) hHeld ?restz4_13
        case hyz4_13 =>
          have k0 := keepB hSw y0; have k1 := keepB hSw y1; have k2 := keepB hSw x1
          go_simp
          try with_reducible rfl
        try simp only [Act.put, List.setIfInBounds_toArray, List.set_cons_zero, List.set_cons_succ]
        refine' wpAnyH_take (i := 14) (oi := ({ dst := some 48, op := Op.slice 41 (Operand.tmp 46) none (some (Operand.tmp 47)) none, type := 41, pos := "l5_replay.go:32", after := #[{ on := 12, ground := Ground.data }, { on := 13, ground := Ground.data }, { on := 10, ground := Ground.guard }], guard := some (10, false) } : Oper)) (v := .slice (some ⟨b, off, none⟩) k n) rfl (by kernel_rfl) (by kernel_rfl) (by kernel_rfl) (fun _ _ _ h => h) (Or.inl ⟨by rfl, fun x hSw => ?hyz4_14⟩) hHeld ?restz4_14
        case hyz4_14 =>
          have k0 := keepB hSw y0; have k1 := keepB hSw y1; have k2 := keepB hSw x1
          go_simp
          try with_reducible rfl
        try simp only [Act.put, List.setIfInBounds_toArray, List.set_cons_zero, List.set_cons_succ]
        refine' wpAnyH_take (i := 15) (oi := ({ dst := some 49, op := Op.fieldAddr 70 (Operand.tmp 4) 0, type := 0, pos := "l5_replay.go:32", after := #[{ on := 10, ground := Ground.guard }], guard := some (10, false) } : Oper)) (v := _) rfl (by kernel_rfl) (by kernel_rfl) (by kernel_rfl) (fun _ _ _ h => h) (Or.inl ⟨by rfl, fun x hSw => ?hyz4_15⟩) hHeld ?restz4_15
        case hyz4_15 =>
          have k0 := keepB hSw y0; have k1 := keepB hSw y1; have k2 := keepB hSw x1
          go_simp
          try with_reducible rfl
        try simp only [Act.put, List.setIfInBounds_toArray, List.set_cons_zero, List.set_cons_succ]
        refine' wpAnyH_take (i := 16) (oi := ({ dst := some 50, op := Op.load 9 (Operand.tmp 49), type := 9, pos := "l5_replay.go:32", after := #[{ on := 15, ground := Ground.data }, { on := 10, ground := Ground.guard }], guard := some (10, false) } : Oper)) (v := _) rfl (by kernel_rfl) (by kernel_rfl) (by kernel_rfl) (fun _ _ _ h => h) (Or.inl ⟨by rfl, fun x hSw => ?hyz4_16⟩) hHeld ?restz4_16
        case hyz4_16 =>
          have k0 := keepB hSw y0; have k1 := keepB hSw y1; have k2 := keepB hSw x1
          go_simp
          try with_reducible rfl
        try simp only [Act.put, List.setIfInBounds_toArray, List.set_cons_zero, List.set_cons_succ]
        refine wpAnyH_ready (rs := [17]) (by kernel_rfl) (by simp) ?_
        refine AllReadyH.cons (o := ({ dst := some 51, op := Op.call { callee := Callee.value (Operand.func 67), args := #[Operand.tmp 48, Operand.tmp 50], argTypes := #[41, 9] }, type := 3, pos := "l5_replay.go:32", after := #[{ on := 14, ground := Ground.data }, { on := 16, ground := Ground.data }, { on := 10, ground := Ground.chain }, { on := 10, ground := Ground.guard }], guard := some (10, false) } : Oper)) rfl (fun K hK => ?_) AllReadyH.nil
        go_simp
        refine (sCol _ _ _ C _ _ ((hCr.take (Nat.le_of_lt hlt)).later hHeld) (by omega)).mono ?_
        rintro e w5 ⟨q, rfl, hqq, hb5⟩; rw [hc] at hqq; replace hqq := hqq.2 rfl
        refine hK.out _ _ (bstep hHeld hb5) (fun hHeld => ?_)
        clear hK K
        try simp only [Act.put, List.setIfInBounds_toArray, List.set_cons_zero, List.set_cons_succ]
        refine' wpAnyH_take (i := 18) (oi := ({ dst := some 52, op := Op.binOp BinOp.geq 3 (Operand.tmp 51) (Operand.const (Value.int IntKind.i64 0)) 3, type := 4, pos := "l5_replay.go:32", after := #[{ on := 17, ground := Ground.data }, { on := 10, ground := Ground.guard }], guard := some (10, false) } : Oper)) (v := _) rfl (by kernel_rfl) (by kernel_rfl) (by kernel_rfl) (fun _ _ _ h => h) (Or.inl ⟨by rfl, fun x hSw => ?hyz4_18⟩) hHeld ?restz4_18
        case hyz4_18 =>
          have k0 := keepB hSw y0; have k1 := keepB hSw y1; have k2 := keepB hSw x1
          go_simp
          try with_reducible rfl
        try simp only [Act.put, List.setIfInBounds_toArray, List.set_cons_zero, List.set_cons_succ]
        refine' wpAnyH_take (i := 19) (oi := ({ dst := some 53, op := Op.pick (Operand.tmp 44) (Operand.const (Value.bool true)) (Operand.tmp 52), type := 4, pos := "l5_replay.go:32", after := #[{ on := 10, ground := Ground.data }, { on := 18, ground := Ground.data }], guard := none } : Oper)) (v := _) rfl (by kernel_rfl) (by kernel_rfl) (by kernel_rfl) (fun _ _ _ h => h) (Or.inl ⟨by rfl, fun x hSw => ?hyz4_19⟩) hHeld ?restz4_19
        case hyz4_19 =>
          have k0 := keepB hSw y0; have k1 := keepB hSw y1; have k2 := keepB hSw x1
          go_simp
          try with_reducible rfl
        try simp only [Act.put, List.setIfInBounds_toArray, List.set_cons_zero, List.set_cons_succ]
        refine wpAnyH_done (by kernel_rfl) ?_ _
        go_wp2
        go_ret
        exact ⟨retB (by rw [HT.out, allN_false (p := okColAt C) hlt (by unfold okColAt; rw [hc]; simp)]; rfl), bstep B2 (bstep B3 hHeld)⟩
    · obtain rfl : n = k := by omega
      replace HT : Hid (okTab s n C r m R = allN r (okRowAt n C m R)) := by
        show _ = _
        rw [HT.out, allN_true hall]
        rfl
      have a1 := keepB hb d1
      have a2 := keepB hb d2
      clear d1 d2
      go_wp2
      obtain ⟨wo, rfl⟩ : ∃ wo : World, wo = wr := ⟨_, rfl⟩
      go_loopw [58] (fun i wr => ∃ k : Nat, k ≤ r ∧ i = .int .i64 k ∧ (∀ j, j < k → okRowAt n C m R j = true) ∧ Below wo.heap.size wo wr) (fun i _ => r - (intOf i).toNat)
      case atStart => exact ⟨0, by omega, rfl, fun j hj => by omega, Below.refl _ _⟩
      case round =>
        obtain ⟨k, hk2, rfl, hall2, hb2⟩ := hrel
        have B4 := bstep B2 hb2
        by_cases hlt : k < r
        · obtain ⟨b1, o1, i1, k1, ea, f0, di, dm⟩ := hR.later B4 k hlt
          subst ea
          have a3 := keepB hb2 a1
          by_cases hmn : m k = n
          rotate_left
          · have hmn' : ((m k : Int) == (n : Int)) = false := by simp; omega
            go_wp2
            go_ret
            exact ⟨retB (by rw [HT.out, allN_false (p := okRowAt n C m R) hlt (by unfold okRowAt; rw [decide_eq_false hmn]; rfl)]), B4⟩
          have hmn' : ((m k : Int) == (n : Int)) = true := by simp; omega
          go_wp2
          obtain ⟨wp, rfl⟩ : ∃ wp : World, wp = wr := ⟨_, rfl⟩
          go_loopw [71] (fun i wr => ∃ j : Nat, j ≤ m k ∧ i = .int .i64 j ∧ (∀ q, q < j → rightB (R k q).o (R k q).m (R k q).s (C q).t = true) ∧ Below wp.heap.size wp wr) (fun i _ => m k - (intOf i).toNat)
          case atStart => exact ⟨0, by omega, rfl, fun j hj => by omega, Below.refl _ _⟩
          case round =>
            obtain ⟨j, hj, rfl, hall3, hb3⟩ := hrel
            have B5 := bstep B4 hb3
            by_cases hlj : j < m k
            · obtain ⟨bv, ov, ei, v0, v1, v2, hs⟩ := di.later hb3 j hlj
              subst ei
              obtain ⟨b, off, ec, e0, e1, -⟩ := hC.later B5 j (by omega)
              subst ec
              have hR2 := heap_alloc_new wr (.cells #[.int .i64 (R k j).o, .int .i64 (R k j).m, .string (R k j).s] 73)
              have y0 : (wr.alloc (.cells #[.int .i64 (R k j).o, .int .i64 (R k j).m, .string (R k j).s] 73)).cell? ⟨wr.heap.size, 0, none⟩ = some (.int .i64 (R k j).o) := (cell_of_row _ _ 0 _ _ _ hR2).trans rfl
              have y1 : (wr.alloc (.cells #[.int .i64 (R k j).o, .int .i64 (R k j).m, .string (R k j).s] 73)).cell? ⟨wr.heap.size, 1, none⟩ = some (.int .i64 (R k j).m) := (cell_of_row _ _ 1 _ _ _ hR2).trans rfl
              have y2 : (wr.alloc (.cells #[.int .i64 (R k j).o, .int .i64 (R k j).m, .string (R k j).s] 73)).cell? ⟨wr.heap.size, 2, none⟩ = some (.string (R k j).s) := (cell_of_row _ _ 2 _ _ _ hR2).trans rfl
              clear hR2
              have B6 := bal wr (.cells #[.int .i64 (R k j).o, .int .i64 (R k j).m, .string (R k j).s] 73)
              have x1 := keepB B6 (keepB hb3 a3)
              have z1 := keepB B6 e1
              have i1 : (0 : Int) ≤ (j : Int) := by omega
              have i2 : (j : Int) < (n : Int) := by omega
              rcases hv : rightB (R k j).o (R k j).m (R k j).s (C j).t
              · go_wp2
                refine wp_region_held_drew (S := fun x => Below (wr.alloc (.cells #[.int .i64 (R k j).o, .int .i64 (R k j).m, .string (R k j).s] 73)).heap.size (wr.alloc (.cells #[.int .i64 (R k j).o, .int .i64 (R k j).m, .string (R k j).s] 73)) x) (by kernel_rfl) (bdrew _) (fun hHeld => ?_)
                refine' wpAnyH_take (i := 0) (oi := ({ dst := some 76, op := Op.load 73 (Operand.tmp 8), type := 73, pos := "l5_replay.go:41", after := #[], guard := none } : Oper)) (v := _) rfl (by kernel_rfl) (by kernel_rfl) (by kernel_rfl) (fun _ _ _ h => h) (Or.inl ⟨by rfl, fun x hSw => ?hyz5_0⟩) hHeld ?restz5_0
                case hyz5_0 =>
                  have k0 := keepB hSw y0; have k1 := keepB hSw y1; have k2 := keepB hSw y2; have k3 := keepB hSw x1; have k4 := keepB hSw z1
                  go_simp
                  try with_reducible rfl
                try simp only [Act.put, List.setIfInBounds_toArray, List.set_cons_zero, List.set_cons_succ]
                refine' wpAnyH_take (i := 1) (oi := ({ dst := some 77, op := Op.fieldAddr 54 (Operand.tmp 1) 1, type := 0, pos := "l5_replay.go:41", after := #[], guard := none } : Oper)) (v := _) rfl (by kernel_rfl) (by kernel_rfl) (by kernel_rfl) (fun _ _ _ h => h) (Or.inl ⟨by rfl, fun x hSw => ?hyz5_1⟩) hHeld ?restz5_1
                case hyz5_1 =>
                  have k0 := keepB hSw y0; have k1 := keepB hSw y1; have k2 := keepB hSw y2; have k3 := keepB hSw x1; have k4 := keepB hSw z1
                  go_simp
                  try with_reducible rfl
                try simp only [Act.put, List.setIfInBounds_toArray, List.set_cons_zero, List.set_cons_succ]
                refine' wpAnyH_take (i := 2) (oi := ({ dst := some 78, op := Op.load 41 (Operand.tmp 77), type := 41, pos := "l5_replay.go:41", after := #[{ on := 1, ground := Ground.data }], guard := none } : Oper)) (v := _) rfl (by kernel_rfl) (by kernel_rfl) (by kernel_rfl) (fun _ _ _ h => h) (Or.inl ⟨by rfl, fun x hSw => ?hyz5_2⟩) hHeld ?restz5_2
                case hyz5_2 =>
                  have k0 := keepB hSw y0; have k1 := keepB hSw y1; have k2 := keepB hSw y2; have k3 := keepB hSw x1; have k4 := keepB hSw z1
                  go_simp
                  try with_reducible rfl
                try simp only [Act.put, List.setIfInBounds_toArray, List.set_cons_zero, List.set_cons_succ]
                refine' wpAnyH_take (i := 3) (oi := ({ dst := some 79, op := Op.move (Operand.tmp 7), type := 3, pos := "l5_replay.go:41", after := #[], guard := none } : Oper)) (v := _) rfl (by kernel_rfl) (by kernel_rfl) (by kernel_rfl) (fun _ _ _ h => h) (Or.inl ⟨by rfl, fun x hSw => ?hyz5_3⟩) hHeld ?restz5_3
                case hyz5_3 =>
                  have k0 := keepB hSw y0; have k1 := keepB hSw y1; have k2 := keepB hSw y2; have k3 := keepB hSw x1; have k4 := keepB hSw z1
                  go_simp
                  try with_reducible rfl
                try simp only [Act.put, List.setIfInBounds_toArray, List.set_cons_zero, List.set_cons_succ]
                refine' wpAnyH_take (i := 4) (oi := ({ dst := some 80, op := Op.indexAddr 41 (Operand.tmp 78) (Operand.tmp 79), type := 0, pos := "l5_replay.go:41", after := #[{ on := 2, ground := Ground.data }, { on := 3, ground := Ground.data }], guard := none } : Oper)) (v := .pointer (some ⟨b, off + j * 2, none⟩)) rfl (by kernel_rfl) (by kernel_rfl) (by kernel_rfl) (fun _ _ _ h => h) (Or.inl ⟨by rfl, fun x hSw => ?hyz5_4⟩) hHeld ?restz5_4
                case hyz5_4 =>
                  have k0 := keepB hSw y0; have k1 := keepB hSw y1; have k2 := keepB hSw y2; have k3 := keepB hSw x1; have k4 := keepB hSw z1
                  go_simp
                  try with_reducible rfl
                try simp only [Act.put, List.setIfInBounds_toArray, List.set_cons_zero, List.set_cons_succ]
                refine' wpAnyH_take (i := 5) (oi := ({ dst := some 81, op := Op.fieldAddr 70 (Operand.tmp 80) 1, type := 0, pos := "l5_replay.go:41", after := #[{ on := 4, ground := Ground.data }], guard := none } : Oper)) (v := .pointer (some ⟨b, off + j * 2 + 1, none⟩)) rfl (by kernel_rfl) (by kernel_rfl) (by kernel_rfl) (fun _ _ _ h => h) (Or.inl ⟨by rfl, fun x hSw => ?hyz5_5⟩) hHeld ?restz5_5
                case hyz5_5 =>
                  have k0 := keepB hSw y0; have k1 := keepB hSw y1; have k2 := keepB hSw y2; have k3 := keepB hSw x1; have k4 := keepB hSw z1
                  go_simp
                  try with_reducible rfl
                try simp only [Act.put, List.setIfInBounds_toArray, List.set_cons_zero, List.set_cons_succ]
                refine' wpAnyH_take (i := 6) (oi := ({ dst := some 82, op := Op.load 3 (Operand.tmp 81), type := 3, pos := "l5_replay.go:41", after := #[{ on := 5, ground := Ground.data }], guard := none } : Oper)) (v := _) rfl (by kernel_rfl) (by kernel_rfl) (by kernel_rfl) (fun _ _ _ h => h) (Or.inl ⟨by rfl, fun x hSw => ?hyz5_6⟩) hHeld ?restz5_6
                case hyz5_6 =>
                  have k0 := keepB hSw y0; have k1 := keepB hSw y1; have k2 := keepB hSw y2; have k3 := keepB hSw x1; have k4 := keepB hSw z1
                  go_simp
                  try with_reducible rfl
                try simp only [Act.put, List.setIfInBounds_toArray, List.set_cons_zero, List.set_cons_succ]
                refine wpAnyH_ready (rs := [7]) (by kernel_rfl) (by simp) ?_
                refine AllReadyH.cons (o := ({ dst := some 83, op := Op.call { callee := Callee.value (Operand.func 68), args := #[Operand.tmp 76, Operand.tmp 82], argTypes := #[73, 3] }, type := 4, pos := "l5_replay.go:41", after := #[{ on := 0, ground := Ground.data }, { on := 6, ground := Ground.data }], guard := none } : Oper)) rfl (fun K hK => ?_) AllReadyH.nil
                go_simp
                refine (sRight _ _ _ _ _ hs).mono ?_
                rw [hv]; rintro e w6 ⟨rfl, hb6⟩
                refine hK.out _ _ (bstep hHeld hb6) (fun hHeld => ?_)
                clear hK K
                try simp only [Act.put, List.setIfInBounds_toArray, List.set_cons_zero, List.set_cons_succ]
                refine' wpAnyH_take (i := 8) (oi := ({ dst := some 84, op := Op.unOp UnOp.not 4 (Operand.tmp 83), type := 4, pos := "l5_replay.go:41", after := #[{ on := 7, ground := Ground.data }], guard := none } : Oper)) (v := _) rfl (by kernel_rfl) (by kernel_rfl) (by kernel_rfl) (fun _ _ _ h => h) (Or.inl ⟨by rfl, fun x hSw => ?hyz5_8⟩) hHeld ?restz5_8
                case hyz5_8 =>
                  have k0 := keepB hSw y0; have k1 := keepB hSw y1; have k2 := keepB hSw y2; have k3 := keepB hSw x1; have k4 := keepB hSw z1
                  go_simp
                  try with_reducible rfl
                try simp only [Act.put, List.setIfInBounds_toArray, List.set_cons_zero, List.set_cons_succ]
                refine wpAnyH_done (by kernel_rfl) ?_ _
                go_wp2
                go_ret
                exact ⟨retB (by rw [HT.out, allN_false (p := okRowAt n C m R) hlt (by unfold okRowAt; rw [allN_false (p := fun j => rightB (R k j).o (R k j).m (R k j).s (C j).t) hlj hv]; simp)]), bstep B5 (bstep B6 hHeld)⟩
              · go_wp2
                refine wp_region_held_drew (S := fun x => Below (wr.alloc (.cells #[.int .i64 (R k j).o, .int .i64 (R k j).m, .string (R k j).s] 73)).heap.size (wr.alloc (.cells #[.int .i64 (R k j).o, .int .i64 (R k j).m, .string (R k j).s] 73)) x) (by kernel_rfl) (bdrew _) (fun hHeld => ?_)
                refine' wpAnyH_take (i := 0) (oi := ({ dst := some 76, op := Op.load 73 (Operand.tmp 8), type := 73, pos := "l5_replay.go:41", after := #[], guard := none } : Oper)) (v := _) rfl (by kernel_rfl) (by kernel_rfl) (by kernel_rfl) (fun _ _ _ h => h) (Or.inl ⟨by rfl, fun x hSw => ?hyz6_0⟩) hHeld ?restz6_0
                case hyz6_0 =>
                  have k0 := keepB hSw y0; have k1 := keepB hSw y1; have k2 := keepB hSw y2; have k3 := keepB hSw x1; have k4 := keepB hSw z1
                  go_simp
                  try with_reducible rfl
                try simp only [Act.put, List.setIfInBounds_toArray, List.set_cons_zero, List.set_cons_succ]
                refine' wpAnyH_take (i := 1) (oi := ({ dst := some 77, op := Op.fieldAddr 54 (Operand.tmp 1) 1, type := 0, pos := "l5_replay.go:41", after := #[], guard := none } : Oper)) (v := _) rfl (by kernel_rfl) (by kernel_rfl) (by kernel_rfl) (fun _ _ _ h => h) (Or.inl ⟨by rfl, fun x hSw => ?hyz6_1⟩) hHeld ?restz6_1
                case hyz6_1 =>
                  have k0 := keepB hSw y0; have k1 := keepB hSw y1; have k2 := keepB hSw y2; have k3 := keepB hSw x1; have k4 := keepB hSw z1
                  go_simp
                  try with_reducible rfl
                try simp only [Act.put, List.setIfInBounds_toArray, List.set_cons_zero, List.set_cons_succ]
                refine' wpAnyH_take (i := 2) (oi := ({ dst := some 78, op := Op.load 41 (Operand.tmp 77), type := 41, pos := "l5_replay.go:41", after := #[{ on := 1, ground := Ground.data }], guard := none } : Oper)) (v := _) rfl (by kernel_rfl) (by kernel_rfl) (by kernel_rfl) (fun _ _ _ h => h) (Or.inl ⟨by rfl, fun x hSw => ?hyz6_2⟩) hHeld ?restz6_2
                case hyz6_2 =>
                  have k0 := keepB hSw y0; have k1 := keepB hSw y1; have k2 := keepB hSw y2; have k3 := keepB hSw x1; have k4 := keepB hSw z1
                  go_simp
                  try with_reducible rfl
                try simp only [Act.put, List.setIfInBounds_toArray, List.set_cons_zero, List.set_cons_succ]
                refine' wpAnyH_take (i := 3) (oi := ({ dst := some 79, op := Op.move (Operand.tmp 7), type := 3, pos := "l5_replay.go:41", after := #[], guard := none } : Oper)) (v := _) rfl (by kernel_rfl) (by kernel_rfl) (by kernel_rfl) (fun _ _ _ h => h) (Or.inl ⟨by rfl, fun x hSw => ?hyz6_3⟩) hHeld ?restz6_3
                case hyz6_3 =>
                  have k0 := keepB hSw y0; have k1 := keepB hSw y1; have k2 := keepB hSw y2; have k3 := keepB hSw x1; have k4 := keepB hSw z1
                  go_simp
                  try with_reducible rfl
                try simp only [Act.put, List.setIfInBounds_toArray, List.set_cons_zero, List.set_cons_succ]
                refine' wpAnyH_take (i := 4) (oi := ({ dst := some 80, op := Op.indexAddr 41 (Operand.tmp 78) (Operand.tmp 79), type := 0, pos := "l5_replay.go:41", after := #[{ on := 2, ground := Ground.data }, { on := 3, ground := Ground.data }], guard := none } : Oper)) (v := .pointer (some ⟨b, off + j * 2, none⟩)) rfl (by kernel_rfl) (by kernel_rfl) (by kernel_rfl) (fun _ _ _ h => h) (Or.inl ⟨by rfl, fun x hSw => ?hyz6_4⟩) hHeld ?restz6_4
                case hyz6_4 =>
                  have k0 := keepB hSw y0; have k1 := keepB hSw y1; have k2 := keepB hSw y2; have k3 := keepB hSw x1; have k4 := keepB hSw z1
                  go_simp
                  try with_reducible rfl
                try simp only [Act.put, List.setIfInBounds_toArray, List.set_cons_zero, List.set_cons_succ]
                refine' wpAnyH_take (i := 5) (oi := ({ dst := some 81, op := Op.fieldAddr 70 (Operand.tmp 80) 1, type := 0, pos := "l5_replay.go:41", after := #[{ on := 4, ground := Ground.data }], guard := none } : Oper)) (v := .pointer (some ⟨b, off + j * 2 + 1, none⟩)) rfl (by kernel_rfl) (by kernel_rfl) (by kernel_rfl) (fun _ _ _ h => h) (Or.inl ⟨by rfl, fun x hSw => ?hyz6_5⟩) hHeld ?restz6_5
                case hyz6_5 =>
                  have k0 := keepB hSw y0; have k1 := keepB hSw y1; have k2 := keepB hSw y2; have k3 := keepB hSw x1; have k4 := keepB hSw z1
                  go_simp
                  try with_reducible rfl
                try simp only [Act.put, List.setIfInBounds_toArray, List.set_cons_zero, List.set_cons_succ]
                refine' wpAnyH_take (i := 6) (oi := ({ dst := some 82, op := Op.load 3 (Operand.tmp 81), type := 3, pos := "l5_replay.go:41", after := #[{ on := 5, ground := Ground.data }], guard := none } : Oper)) (v := _) rfl (by kernel_rfl) (by kernel_rfl) (by kernel_rfl) (fun _ _ _ h => h) (Or.inl ⟨by rfl, fun x hSw => ?hyz6_6⟩) hHeld ?restz6_6
                case hyz6_6 =>
                  have k0 := keepB hSw y0; have k1 := keepB hSw y1; have k2 := keepB hSw y2; have k3 := keepB hSw x1; have k4 := keepB hSw z1
                  go_simp
                  try with_reducible rfl
                try simp only [Act.put, List.setIfInBounds_toArray, List.set_cons_zero, List.set_cons_succ]
                refine wpAnyH_ready (rs := [7]) (by kernel_rfl) (by simp) ?_
                refine AllReadyH.cons (o := ({ dst := some 83, op := Op.call { callee := Callee.value (Operand.func 68), args := #[Operand.tmp 76, Operand.tmp 82], argTypes := #[73, 3] }, type := 4, pos := "l5_replay.go:41", after := #[{ on := 0, ground := Ground.data }, { on := 6, ground := Ground.data }], guard := none } : Oper)) rfl (fun K hK => ?_) AllReadyH.nil
                go_simp
                refine (sRight _ _ _ _ _ hs).mono ?_
                rw [hv]; rintro e w6 ⟨rfl, hb6⟩
                refine hK.out _ _ (bstep hHeld hb6) (fun hHeld => ?_)
                clear hK K
                try simp only [Act.put, List.setIfInBounds_toArray, List.set_cons_zero, List.set_cons_succ]
                refine' wpAnyH_take (i := 8) (oi := ({ dst := some 84, op := Op.unOp UnOp.not 4 (Operand.tmp 83), type := 4, pos := "l5_replay.go:41", after := #[{ on := 7, ground := Ground.data }], guard := none } : Oper)) (v := _) rfl (by kernel_rfl) (by kernel_rfl) (by kernel_rfl) (fun _ _ _ h => h) (Or.inl ⟨by rfl, fun x hSw => ?hyz6_8⟩) hHeld ?restz6_8
                case hyz6_8 =>
                  have k0 := keepB hSw y0; have k1 := keepB hSw y1; have k2 := keepB hSw y2; have k3 := keepB hSw x1; have k4 := keepB hSw z1
                  go_simp
                  try with_reducible rfl
                try simp only [Act.put, List.setIfInBounds_toArray, List.set_cons_zero, List.set_cons_succ]
                refine wpAnyH_done (by kernel_rfl) ?_ _
                go_wp2
                go_roundw
                case rel => exact ⟨j + 1, by omega, by go_num, fun q hq => by
                  by_cases e : q = j
                  · subst e; exact hv
                  · exact hall3 q (by omega), bstep hb3 (bstep B6 hHeld)⟩
                case measure => simp [intOf]; omega
            · obtain rfl : j = m k := by omega
              have HR3 : okRowAt n C m R k = (decide (k = 0) || befV (R (k - 1) 0).m (R (k - 1) 0).s (R k 0).m (R k 0).s) := by
                unfold okRowAt
                rw [allN_true hall3, decide_eq_true hmn]
                rfl
              have HR4 : Hid (okRowAt n C m R k = (decide (k = 0) || befV (R (k - 1) 0).m (R (k - 1) 0).s (R k 0).m (R k 0).s)) := HR3
              clear HR3
              have x2 := keepB hb3 (keepB hb2 a2)
              by_cases hk0 : k = 0
              · subst hk0
                go_wp2
                refine wp_region_held_drew (S := fun x => Below wr.heap.size wr x) (by kernel_rfl) (bdrew _) (fun hHeld => ?_)
                refine' wpAnyH_take (i := 0) (oi := ({ dst := some 86, op := Op.move (Operand.tmp 5), type := 3, pos := "l5_replay.go:45", after := #[], guard := none } : Oper)) (v := _) rfl (by kernel_rfl) (by kernel_rfl) (by kernel_rfl) (fun _ _ _ h => h) (Or.inl ⟨by rfl, fun x hSw => ?hyz7_0⟩) hHeld ?restz7_0
                case hyz7_0 =>
                  have k1 := keepB hSw x2
                  go_simp
                  try with_reducible rfl
                try simp only [Act.put, List.setIfInBounds_toArray, List.set_cons_zero, List.set_cons_succ]
                refine' wpAnyH_take (i := 1) (oi := ({ dst := some 87, op := Op.binOp BinOp.gtr 3 (Operand.tmp 86) (Operand.const (Value.int IntKind.i64 0)) 3, type := 4, pos := "l5_replay.go:45", after := #[{ on := 0, ground := Ground.data }], guard := none } : Oper)) (v := _) rfl (by kernel_rfl) (by kernel_rfl) (by kernel_rfl) (fun _ _ _ h => h) (Or.inl ⟨by rfl, fun x hSw => ?hyz7_1⟩) hHeld ?restz7_1
                case hyz7_1 =>
                  have k1 := keepB hSw x2
                  go_simp
                  try with_reducible rfl
                try simp only [Act.put, List.setIfInBounds_toArray, List.set_cons_zero, List.set_cons_succ]
                refine' wpAnyH_take (i := 2) (oi := ({ dst := some 88, op := Op.move (Operand.tmp 87), type := 4, pos := "l5_replay.go:45", after := #[{ on := 1, ground := Ground.data }], guard := none } : Oper)) (v := _) rfl (by kernel_rfl) (by kernel_rfl) (by kernel_rfl) (fun _ _ _ h => h) (Or.inl ⟨by rfl, fun x hSw => ?hyz7_2⟩) hHeld ?restz7_2
                case hyz7_2 =>
                  have k1 := keepB hSw x2
                  go_simp
                  try with_reducible rfl
                try simp only [Act.put, List.setIfInBounds_toArray, List.set_cons_zero, List.set_cons_succ]
                refine wpAnyH_take (i := 3) (oi := ({ dst := some 89, op := Op.fieldAddr 54 (Operand.tmp 1) 2, type := 0, pos := "l5_replay.go:45", after := #[{ on := 2, ground := Ground.guard }], guard := some (2, true) } : Oper)) (v := undef) rfl (by kernel_rfl) (by kernel_rfl) (by kernel_rfl) (fun _ _ _ h => h) (Or.inr ⟨by rfl, rfl⟩) hHeld ?_
                try simp only [Act.put, List.setIfInBounds_toArray, List.set_cons_zero, List.set_cons_succ]
                refine wpAnyH_take (i := 4) (oi := ({ dst := some 90, op := Op.load 52 (Operand.tmp 89), type := 52, pos := "l5_replay.go:45", after := #[{ on := 3, ground := Ground.data }, { on := 2, ground := Ground.guard }], guard := some (2, true) } : Oper)) (v := undef) rfl (by kernel_rfl) (by kernel_rfl) (by kernel_rfl) (fun _ _ _ h => h) (Or.inr ⟨by rfl, rfl⟩) hHeld ?_
                try simp only [Act.put, List.setIfInBounds_toArray, List.set_cons_zero, List.set_cons_succ]
                refine wpAnyH_take (i := 5) (oi := ({ dst := some 91, op := Op.move (Operand.tmp 5), type := 3, pos := "l5_replay.go:45", after := #[{ on := 2, ground := Ground.guard }], guard := some (2, true) } : Oper)) (v := undef) rfl (by kernel_rfl) (by kernel_rfl) (by kernel_rfl) (fun _ _ _ h => h) (Or.inr ⟨by rfl, rfl⟩) hHeld ?_
                try simp only [Act.put, List.setIfInBounds_toArray, List.set_cons_zero, List.set_cons_succ]
                refine wpAnyH_take (i := 6) (oi := ({ dst := some 92, op := Op.binOp BinOp.sub 3 (Operand.tmp 91) (Operand.const (Value.int IntKind.i64 1)) 3, type := 3, pos := "l5_replay.go:45", after := #[{ on := 5, ground := Ground.data }, { on := 2, ground := Ground.guard }], guard := some (2, true) } : Oper)) (v := undef) rfl (by kernel_rfl) (by kernel_rfl) (by kernel_rfl) (fun _ _ _ h => h) (Or.inr ⟨by rfl, rfl⟩) hHeld ?_
                try simp only [Act.put, List.setIfInBounds_toArray, List.set_cons_zero, List.set_cons_succ]
                refine wpAnyH_take (i := 7) (oi := ({ dst := some 93, op := Op.indexAddr 52 (Operand.tmp 90) (Operand.tmp 92), type := 0, pos := "l5_replay.go:45", after := #[{ on := 4, ground := Ground.data }, { on := 6, ground := Ground.data }, { on := 2, ground := Ground.guard }], guard := some (2, true) } : Oper)) (v := undef) rfl (by kernel_rfl) (by kernel_rfl) (by kernel_rfl) (fun _ _ _ h => h) (Or.inr ⟨by rfl, rfl⟩) hHeld ?_
                try simp only [Act.put, List.setIfInBounds_toArray, List.set_cons_zero, List.set_cons_succ]
                refine wpAnyH_take (i := 8) (oi := ({ dst := some 94, op := Op.load 42 (Operand.tmp 93), type := 42, pos := "l5_replay.go:45", after := #[{ on := 7, ground := Ground.data }, { on := 2, ground := Ground.guard }], guard := some (2, true) } : Oper)) (v := undef) rfl (by kernel_rfl) (by kernel_rfl) (by kernel_rfl) (fun _ _ _ h => h) (Or.inr ⟨by rfl, rfl⟩) hHeld ?_
                try simp only [Act.put, List.setIfInBounds_toArray, List.set_cons_zero, List.set_cons_succ]
                refine wpAnyH_take (i := 9) (oi := ({ dst := some 95, op := Op.indexAddr 42 (Operand.tmp 94) (Operand.const (Value.int IntKind.i64 0)), type := 0, pos := "l5_replay.go:45", after := #[{ on := 8, ground := Ground.data }, { on := 2, ground := Ground.guard }], guard := some (2, true) } : Oper)) (v := undef) rfl (by kernel_rfl) (by kernel_rfl) (by kernel_rfl) (fun _ _ _ h => h) (Or.inr ⟨by rfl, rfl⟩) hHeld ?_
                try simp only [Act.put, List.setIfInBounds_toArray, List.set_cons_zero, List.set_cons_succ]
                refine wpAnyH_take (i := 10) (oi := ({ dst := some 96, op := Op.load 73 (Operand.tmp 95), type := 73, pos := "l5_replay.go:45", after := #[{ on := 9, ground := Ground.data }, { on := 2, ground := Ground.guard }], guard := some (2, true) } : Oper)) (v := undef) rfl (by kernel_rfl) (by kernel_rfl) (by kernel_rfl) (fun _ _ _ h => h) (Or.inr ⟨by rfl, rfl⟩) hHeld ?_
                try simp only [Act.put, List.setIfInBounds_toArray, List.set_cons_zero, List.set_cons_succ]
                refine wpAnyH_take (i := 11) (oi := ({ dst := some 97, op := Op.move (Operand.tmp 6), type := 42, pos := "l5_replay.go:45", after := #[{ on := 2, ground := Ground.guard }], guard := some (2, true) } : Oper)) (v := undef) rfl (by kernel_rfl) (by kernel_rfl) (by kernel_rfl) (fun _ _ _ h => h) (Or.inr ⟨by rfl, rfl⟩) hHeld ?_
                try simp only [Act.put, List.setIfInBounds_toArray, List.set_cons_zero, List.set_cons_succ]
                refine wpAnyH_take (i := 12) (oi := ({ dst := some 98, op := Op.indexAddr 42 (Operand.tmp 97) (Operand.const (Value.int IntKind.i64 0)), type := 0, pos := "l5_replay.go:45", after := #[{ on := 11, ground := Ground.data }, { on := 2, ground := Ground.guard }], guard := some (2, true) } : Oper)) (v := undef) rfl (by kernel_rfl) (by kernel_rfl) (by kernel_rfl) (fun _ _ _ h => h) (Or.inr ⟨by rfl, rfl⟩) hHeld ?_
                try simp only [Act.put, List.setIfInBounds_toArray, List.set_cons_zero, List.set_cons_succ]
                refine wpAnyH_take (i := 13) (oi := ({ dst := some 99, op := Op.load 73 (Operand.tmp 98), type := 73, pos := "l5_replay.go:45", after := #[{ on := 12, ground := Ground.data }, { on := 2, ground := Ground.guard }], guard := some (2, true) } : Oper)) (v := undef) rfl (by kernel_rfl) (by kernel_rfl) (by kernel_rfl) (fun _ _ _ h => h) (Or.inr ⟨by rfl, rfl⟩) hHeld ?_
                try simp only [Act.put, List.setIfInBounds_toArray, List.set_cons_zero, List.set_cons_succ]
                refine wpAnyH_take (i := 14) (oi := ({ dst := some 100, op := Op.call { callee := Callee.value (Operand.func 69), args := #[Operand.tmp 96, Operand.tmp 99], argTypes := #[73, 73] }, type := 3, pos := "l5_replay.go:45", after := #[{ on := 10, ground := Ground.data }, { on := 13, ground := Ground.data }, { on := 2, ground := Ground.chain }, { on := 2, ground := Ground.guard }], guard := some (2, true) } : Oper)) (v := undef) rfl (by kernel_rfl) (by kernel_rfl) (by kernel_rfl) (fun _ _ _ h => h) (Or.inr ⟨by rfl, rfl⟩) hHeld ?_
                try simp only [Act.put, List.setIfInBounds_toArray, List.set_cons_zero, List.set_cons_succ]
                refine wpAnyH_take (i := 15) (oi := ({ dst := some 101, op := Op.binOp BinOp.geq 3 (Operand.tmp 100) (Operand.const (Value.int IntKind.i64 0)) 3, type := 4, pos := "l5_replay.go:45", after := #[{ on := 14, ground := Ground.data }, { on := 2, ground := Ground.guard }], guard := some (2, true) } : Oper)) (v := undef) rfl (by kernel_rfl) (by kernel_rfl) (by kernel_rfl) (fun _ _ _ h => h) (Or.inr ⟨by rfl, rfl⟩) hHeld ?_
                try simp only [Act.put, List.setIfInBounds_toArray, List.set_cons_zero, List.set_cons_succ]
                refine' wpAnyH_take (i := 16) (oi := ({ dst := some 102, op := Op.pick (Operand.tmp 88) (Operand.tmp 101) (Operand.const (Value.bool false)), type := 4, pos := "l5_replay.go:45", after := #[{ on := 2, ground := Ground.data }, { on := 15, ground := Ground.data }], guard := none } : Oper)) (v := _) rfl (by kernel_rfl) (by kernel_rfl) (by kernel_rfl) (fun _ _ _ h => h) (Or.inl ⟨by rfl, fun x hSw => ?hyz7_16⟩) hHeld ?restz7_16
                case hyz7_16 =>
                  have k1 := keepB hSw x2
                  go_simp
                  try with_reducible rfl
                try simp only [Act.put, List.setIfInBounds_toArray, List.set_cons_zero, List.set_cons_succ]
                refine wpAnyH_done (by kernel_rfl) ?_ _
                go_wp2
                go_roundw
                case rel => exact ⟨0 + 1, by omega, by go_num, fun j hj => by
                  obtain rfl : j = 0 := by omega
                  rw [HR4.out]; rfl, bstep hb2 (bstep hb3 hHeld)⟩
                case measure => simp [intOf]; omega
              obtain ⟨p, rfl⟩ : ∃ p, k = p + 1 := ⟨k - 1, by omega⟩
              obtain ⟨b', o', ip, kp, e', g0, dp, -⟩ := hR.later B5 p (by omega)
              obtain ⟨rfl, rfl⟩ : b1 = b' ∧ o1 = o' := by simpa using e'
              have hmp : m p = n := by
                have := hall2 p (by omega)
                unfold okRowAt at this
                rw [Bool.and_eq_true, Bool.and_eq_true, decide_eq_true_eq] at this
                exact this.1.1
              obtain ⟨b2, o2, ep, p0, p1, p2, -⟩ := dp 0 (by omega)
              subst ep
              obtain ⟨b3, o3, eq, q0, q1, q2, -⟩ := di.later hb3 0 (by omega)
              subst eq
              have i0 : (0 : Int) ≤ (p : Int) := by omega
              have i1 : (p : Int) < (r : Int) := by omega
              have i2 : IntKind.i64.wrap (p : Int) = (p : Int) := by rw [IntKind.wrap_i64]; omega
              have i3 : (0 : Int) < (m p : Int) := by omega
              have i4 : (0 : Int) < (m (p + 1) : Int) := by omega
              have i5 : (0 : Int) < (p : Int) + 1 := by omega
              simp only [Nat.zero_mul, Nat.add_zero] at p0 p1 p2 q0 q1 q2
              rcases hv : befV (R p 0).m (R p 0).s (R (p + 1) 0).m (R (p + 1) 0).s
              · go_wp2
                refine wp_region_held_drew (S := fun x => Below wr.heap.size wr x) (by kernel_rfl) (bdrew _) (fun hHeld => ?_)
                refine' wpAnyH_take (i := 0) (oi := ({ dst := some 86, op := Op.move (Operand.tmp 5), type := 3, pos := "l5_replay.go:45", after := #[], guard := none } : Oper)) (v := _) rfl (by kernel_rfl) (by kernel_rfl) (by kernel_rfl) (fun _ _ _ h => h) (Or.inl ⟨by rfl, fun x hSw => ?hyz8_0⟩) hHeld ?restz8_0
                case hyz8_0 =>
                  have k1 := keepB hSw x2; have k2 := keepB hSw g0; have k3 := keepB hSw p0; have k4 := keepB hSw p1; have k5 := keepB hSw p2; have k6 := keepB hSw q0; have k7 := keepB hSw q1; have k8 := keepB hSw q2
                  go_simp
                  try with_reducible rfl
                try simp only [Act.put, List.setIfInBounds_toArray, List.set_cons_zero, List.set_cons_succ]
                refine' wpAnyH_take (i := 1) (oi := ({ dst := some 87, op := Op.binOp BinOp.gtr 3 (Operand.tmp 86) (Operand.const (Value.int IntKind.i64 0)) 3, type := 4, pos := "l5_replay.go:45", after := #[{ on := 0, ground := Ground.data }], guard := none } : Oper)) (v := _) rfl (by kernel_rfl) (by kernel_rfl) (by kernel_rfl) (fun _ _ _ h => h) (Or.inl ⟨by rfl, fun x hSw => ?hyz8_1⟩) hHeld ?restz8_1
                case hyz8_1 =>
                  have k1 := keepB hSw x2; have k2 := keepB hSw g0; have k3 := keepB hSw p0; have k4 := keepB hSw p1; have k5 := keepB hSw p2; have k6 := keepB hSw q0; have k7 := keepB hSw q1; have k8 := keepB hSw q2
                  go_simp
                  try with_reducible rfl
                try simp only [Act.put, List.setIfInBounds_toArray, List.set_cons_zero, List.set_cons_succ]
                refine' wpAnyH_take (i := 2) (oi := ({ dst := some 88, op := Op.move (Operand.tmp 87), type := 4, pos := "l5_replay.go:45", after := #[{ on := 1, ground := Ground.data }], guard := none } : Oper)) (v := _) rfl (by kernel_rfl) (by kernel_rfl) (by kernel_rfl) (fun _ _ _ h => h) (Or.inl ⟨by rfl, fun x hSw => ?hyz8_2⟩) hHeld ?restz8_2
                case hyz8_2 =>
                  have k1 := keepB hSw x2; have k2 := keepB hSw g0; have k3 := keepB hSw p0; have k4 := keepB hSw p1; have k5 := keepB hSw p2; have k6 := keepB hSw q0; have k7 := keepB hSw q1; have k8 := keepB hSw q2
                  go_simp
                  try with_reducible rfl
                try simp only [Act.put, List.setIfInBounds_toArray, List.set_cons_zero, List.set_cons_succ]
                refine' wpAnyH_take (i := 3) (oi := ({ dst := some 89, op := Op.fieldAddr 54 (Operand.tmp 1) 2, type := 0, pos := "l5_replay.go:45", after := #[{ on := 2, ground := Ground.guard }], guard := some (2, true) } : Oper)) (v := _) rfl (by kernel_rfl) (by kernel_rfl) (by kernel_rfl) (fun _ _ _ h => h) (Or.inl ⟨by rfl, fun x hSw => ?hyz8_3⟩) hHeld ?restz8_3
                case hyz8_3 =>
                  have k1 := keepB hSw x2; have k2 := keepB hSw g0; have k3 := keepB hSw p0; have k4 := keepB hSw p1; have k5 := keepB hSw p2; have k6 := keepB hSw q0; have k7 := keepB hSw q1; have k8 := keepB hSw q2
                  go_simp
                  try with_reducible rfl
                try simp only [Act.put, List.setIfInBounds_toArray, List.set_cons_zero, List.set_cons_succ]
                refine' wpAnyH_take (i := 4) (oi := ({ dst := some 90, op := Op.load 52 (Operand.tmp 89), type := 52, pos := "l5_replay.go:45", after := #[{ on := 3, ground := Ground.data }, { on := 2, ground := Ground.guard }], guard := some (2, true) } : Oper)) (v := _) rfl (by kernel_rfl) (by kernel_rfl) (by kernel_rfl) (fun _ _ _ h => h) (Or.inl ⟨by rfl, fun x hSw => ?hyz8_4⟩) hHeld ?restz8_4
                case hyz8_4 =>
                  have k1 := keepB hSw x2; have k2 := keepB hSw g0; have k3 := keepB hSw p0; have k4 := keepB hSw p1; have k5 := keepB hSw p2; have k6 := keepB hSw q0; have k7 := keepB hSw q1; have k8 := keepB hSw q2
                  go_simp
                  try with_reducible rfl
                try simp only [Act.put, List.setIfInBounds_toArray, List.set_cons_zero, List.set_cons_succ]
                refine' wpAnyH_take (i := 5) (oi := ({ dst := some 91, op := Op.move (Operand.tmp 5), type := 3, pos := "l5_replay.go:45", after := #[{ on := 2, ground := Ground.guard }], guard := some (2, true) } : Oper)) (v := _) rfl (by kernel_rfl) (by kernel_rfl) (by kernel_rfl) (fun _ _ _ h => h) (Or.inl ⟨by rfl, fun x hSw => ?hyz8_5⟩) hHeld ?restz8_5
                case hyz8_5 =>
                  have k1 := keepB hSw x2; have k2 := keepB hSw g0; have k3 := keepB hSw p0; have k4 := keepB hSw p1; have k5 := keepB hSw p2; have k6 := keepB hSw q0; have k7 := keepB hSw q1; have k8 := keepB hSw q2
                  go_simp
                  try with_reducible rfl
                try simp only [Act.put, List.setIfInBounds_toArray, List.set_cons_zero, List.set_cons_succ]
                refine' wpAnyH_take (i := 6) (oi := ({ dst := some 92, op := Op.binOp BinOp.sub 3 (Operand.tmp 91) (Operand.const (Value.int IntKind.i64 1)) 3, type := 3, pos := "l5_replay.go:45", after := #[{ on := 5, ground := Ground.data }, { on := 2, ground := Ground.guard }], guard := some (2, true) } : Oper)) (v := .int .i64 (p : Int)) rfl (by kernel_rfl) (by kernel_rfl) (by kernel_rfl) (fun _ _ _ h => h) (Or.inl ⟨by rfl, fun x hSw => ?hyz8_6⟩) hHeld ?restz8_6
                case hyz8_6 =>
                  have k1 := keepB hSw x2; have k2 := keepB hSw g0; have k3 := keepB hSw p0; have k4 := keepB hSw p1; have k5 := keepB hSw p2; have k6 := keepB hSw q0; have k7 := keepB hSw q1; have k8 := keepB hSw q2
                  go_simp
                  try with_reducible rfl
                try simp only [Act.put, List.setIfInBounds_toArray, List.set_cons_zero, List.set_cons_succ]
                refine' wpAnyH_take (i := 7) (oi := ({ dst := some 93, op := Op.indexAddr 52 (Operand.tmp 90) (Operand.tmp 92), type := 0, pos := "l5_replay.go:45", after := #[{ on := 4, ground := Ground.data }, { on := 6, ground := Ground.data }, { on := 2, ground := Ground.guard }], guard := some (2, true) } : Oper)) (v := .pointer (some ⟨b1, o1 + p, none⟩)) rfl (by kernel_rfl) (by kernel_rfl) (by kernel_rfl) (fun _ _ _ h => h) (Or.inl ⟨by rfl, fun x hSw => ?hyz8_7⟩) hHeld ?restz8_7
                case hyz8_7 =>
                  have k1 := keepB hSw x2; have k2 := keepB hSw g0; have k3 := keepB hSw p0; have k4 := keepB hSw p1; have k5 := keepB hSw p2; have k6 := keepB hSw q0; have k7 := keepB hSw q1; have k8 := keepB hSw q2
                  go_simp
                  try with_reducible rfl
                try simp only [Act.put, List.setIfInBounds_toArray, List.set_cons_zero, List.set_cons_succ]
                refine' wpAnyH_take (i := 8) (oi := ({ dst := some 94, op := Op.load 42 (Operand.tmp 93), type := 42, pos := "l5_replay.go:45", after := #[{ on := 7, ground := Ground.data }, { on := 2, ground := Ground.guard }], guard := some (2, true) } : Oper)) (v := _) rfl (by kernel_rfl) (by kernel_rfl) (by kernel_rfl) (fun _ _ _ h => h) (Or.inl ⟨by rfl, fun x hSw => ?hyz8_8⟩) hHeld ?restz8_8
                case hyz8_8 =>
                  have k1 := keepB hSw x2; have k2 := keepB hSw g0; have k3 := keepB hSw p0; have k4 := keepB hSw p1; have k5 := keepB hSw p2; have k6 := keepB hSw q0; have k7 := keepB hSw q1; have k8 := keepB hSw q2
                  go_simp
                  try with_reducible rfl
                try simp only [Act.put, List.setIfInBounds_toArray, List.set_cons_zero, List.set_cons_succ]
                refine' wpAnyH_take (i := 9) (oi := ({ dst := some 95, op := Op.indexAddr 42 (Operand.tmp 94) (Operand.const (Value.int IntKind.i64 0)), type := 0, pos := "l5_replay.go:45", after := #[{ on := 8, ground := Ground.data }, { on := 2, ground := Ground.guard }], guard := some (2, true) } : Oper)) (v := .pointer (some ⟨b2, o2, none⟩)) rfl (by kernel_rfl) (by kernel_rfl) (by kernel_rfl) (fun _ _ _ h => h) (Or.inl ⟨by rfl, fun x hSw => ?hyz8_9⟩) hHeld ?restz8_9
                case hyz8_9 =>
                  have k1 := keepB hSw x2; have k2 := keepB hSw g0; have k3 := keepB hSw p0; have k4 := keepB hSw p1; have k5 := keepB hSw p2; have k6 := keepB hSw q0; have k7 := keepB hSw q1; have k8 := keepB hSw q2
                  go_simp
                  try with_reducible rfl
                try simp only [Act.put, List.setIfInBounds_toArray, List.set_cons_zero, List.set_cons_succ]
                refine' wpAnyH_take (i := 10) (oi := ({ dst := some 96, op := Op.load 73 (Operand.tmp 95), type := 73, pos := "l5_replay.go:45", after := #[{ on := 9, ground := Ground.data }, { on := 2, ground := Ground.guard }], guard := some (2, true) } : Oper)) (v := _) rfl (by kernel_rfl) (by kernel_rfl) (by kernel_rfl) (fun _ _ _ h => h) (Or.inl ⟨by rfl, fun x hSw => ?hyz8_10⟩) hHeld ?restz8_10
                case hyz8_10 =>
                  have k1 := keepB hSw x2; have k2 := keepB hSw g0; have k3 := keepB hSw p0; have k4 := keepB hSw p1; have k5 := keepB hSw p2; have k6 := keepB hSw q0; have k7 := keepB hSw q1; have k8 := keepB hSw q2
                  go_simp
                  try with_reducible rfl
                try simp only [Act.put, List.setIfInBounds_toArray, List.set_cons_zero, List.set_cons_succ]
                refine' wpAnyH_take (i := 11) (oi := ({ dst := some 97, op := Op.move (Operand.tmp 6), type := 42, pos := "l5_replay.go:45", after := #[{ on := 2, ground := Ground.guard }], guard := some (2, true) } : Oper)) (v := _) rfl (by kernel_rfl) (by kernel_rfl) (by kernel_rfl) (fun _ _ _ h => h) (Or.inl ⟨by rfl, fun x hSw => ?hyz8_11⟩) hHeld ?restz8_11
                case hyz8_11 =>
                  have k1 := keepB hSw x2; have k2 := keepB hSw g0; have k3 := keepB hSw p0; have k4 := keepB hSw p1; have k5 := keepB hSw p2; have k6 := keepB hSw q0; have k7 := keepB hSw q1; have k8 := keepB hSw q2
                  go_simp
                  try with_reducible rfl
                try simp only [Act.put, List.setIfInBounds_toArray, List.set_cons_zero, List.set_cons_succ]
                refine' wpAnyH_take (i := 12) (oi := ({ dst := some 98, op := Op.indexAddr 42 (Operand.tmp 97) (Operand.const (Value.int IntKind.i64 0)), type := 0, pos := "l5_replay.go:45", after := #[{ on := 11, ground := Ground.data }, { on := 2, ground := Ground.guard }], guard := some (2, true) } : Oper)) (v := .pointer (some ⟨b3, o3, none⟩)) rfl (by kernel_rfl) (by kernel_rfl) (by kernel_rfl) (fun _ _ _ h => h) (Or.inl ⟨by rfl, fun x hSw => ?hyz8_12⟩) hHeld ?restz8_12
                case hyz8_12 =>
                  have k1 := keepB hSw x2; have k2 := keepB hSw g0; have k3 := keepB hSw p0; have k4 := keepB hSw p1; have k5 := keepB hSw p2; have k6 := keepB hSw q0; have k7 := keepB hSw q1; have k8 := keepB hSw q2
                  go_simp
                  try with_reducible rfl
                try simp only [Act.put, List.setIfInBounds_toArray, List.set_cons_zero, List.set_cons_succ]
                refine' wpAnyH_take (i := 13) (oi := ({ dst := some 99, op := Op.load 73 (Operand.tmp 98), type := 73, pos := "l5_replay.go:45", after := #[{ on := 12, ground := Ground.data }, { on := 2, ground := Ground.guard }], guard := some (2, true) } : Oper)) (v := _) rfl (by kernel_rfl) (by kernel_rfl) (by kernel_rfl) (fun _ _ _ h => h) (Or.inl ⟨by rfl, fun x hSw => ?hyz8_13⟩) hHeld ?restz8_13
                case hyz8_13 =>
                  have k1 := keepB hSw x2; have k2 := keepB hSw g0; have k3 := keepB hSw p0; have k4 := keepB hSw p1; have k5 := keepB hSw p2; have k6 := keepB hSw q0; have k7 := keepB hSw q1; have k8 := keepB hSw q2
                  go_simp
                  try with_reducible rfl
                try simp only [Act.put, List.setIfInBounds_toArray, List.set_cons_zero, List.set_cons_succ]
                refine wpAnyH_ready (rs := [14]) (by kernel_rfl) (by simp) ?_
                refine AllReadyH.cons (o := ({ dst := some 100, op := Op.call { callee := Callee.value (Operand.func 69), args := #[Operand.tmp 96, Operand.tmp 99], argTypes := #[73, 73] }, type := 3, pos := "l5_replay.go:45", after := #[{ on := 10, ground := Ground.data }, { on := 13, ground := Ground.data }, { on := 2, ground := Ground.chain }, { on := 2, ground := Ground.guard }], guard := some (2, true) } : Oper)) rfl (fun K hK => ?_) AllReadyH.nil
                go_simp
                refine (sCompare _ _ _ _ _ _ _).mono ?_
                rintro e w7 ⟨y, rfl, hqq, hb7⟩; rw [hv] at hqq; replace hqq := hqq.2 rfl
                refine hK.out _ _ (bstep hHeld hb7) (fun hHeld => ?_)
                clear hK K
                try simp only [Act.put, List.setIfInBounds_toArray, List.set_cons_zero, List.set_cons_succ]
                refine' wpAnyH_take (i := 15) (oi := ({ dst := some 101, op := Op.binOp BinOp.geq 3 (Operand.tmp 100) (Operand.const (Value.int IntKind.i64 0)) 3, type := 4, pos := "l5_replay.go:45", after := #[{ on := 14, ground := Ground.data }, { on := 2, ground := Ground.guard }], guard := some (2, true) } : Oper)) (v := _) rfl (by kernel_rfl) (by kernel_rfl) (by kernel_rfl) (fun _ _ _ h => h) (Or.inl ⟨by rfl, fun x hSw => ?hyz8_15⟩) hHeld ?restz8_15
                case hyz8_15 =>
                  have k1 := keepB hSw x2; have k2 := keepB hSw g0; have k3 := keepB hSw p0; have k4 := keepB hSw p1; have k5 := keepB hSw p2; have k6 := keepB hSw q0; have k7 := keepB hSw q1; have k8 := keepB hSw q2
                  go_simp
                  try with_reducible rfl
                try simp only [Act.put, List.setIfInBounds_toArray, List.set_cons_zero, List.set_cons_succ]
                refine' wpAnyH_take (i := 16) (oi := ({ dst := some 102, op := Op.pick (Operand.tmp 88) (Operand.tmp 101) (Operand.const (Value.bool false)), type := 4, pos := "l5_replay.go:45", after := #[{ on := 2, ground := Ground.data }, { on := 15, ground := Ground.data }], guard := none } : Oper)) (v := _) rfl (by kernel_rfl) (by kernel_rfl) (by kernel_rfl) (fun _ _ _ h => h) (Or.inl ⟨by rfl, fun x hSw => ?hyz8_16⟩) hHeld ?restz8_16
                case hyz8_16 =>
                  have k1 := keepB hSw x2; have k2 := keepB hSw g0; have k3 := keepB hSw p0; have k4 := keepB hSw p1; have k5 := keepB hSw p2; have k6 := keepB hSw q0; have k7 := keepB hSw q1; have k8 := keepB hSw q2
                  go_simp
                  try with_reducible rfl
                try simp only [Act.put, List.setIfInBounds_toArray, List.set_cons_zero, List.set_cons_succ]
                refine wpAnyH_done (by kernel_rfl) ?_ _
                go_wp2
                go_ret
                exact ⟨retB (by rw [HT.out, allN_false (p := okRowAt n C m R) hlt (by rw [HR4.out, Nat.add_sub_cancel, hv]; simp)]), bstep B5 hHeld⟩
              · go_wp2
                refine wp_region_held_drew (S := fun x => Below wr.heap.size wr x) (by kernel_rfl) (bdrew _) (fun hHeld => ?_)
                refine' wpAnyH_take (i := 0) (oi := ({ dst := some 86, op := Op.move (Operand.tmp 5), type := 3, pos := "l5_replay.go:45", after := #[], guard := none } : Oper)) (v := _) rfl (by kernel_rfl) (by kernel_rfl) (by kernel_rfl) (fun _ _ _ h => h) (Or.inl ⟨by rfl, fun x hSw => ?hyz9_0⟩) hHeld ?restz9_0
                case hyz9_0 =>
                  have k1 := keepB hSw x2; have k2 := keepB hSw g0; have k3 := keepB hSw p0; have k4 := keepB hSw p1; have k5 := keepB hSw p2; have k6 := keepB hSw q0; have k7 := keepB hSw q1; have k8 := keepB hSw q2
                  go_simp
                  try with_reducible rfl
                try simp only [Act.put, List.setIfInBounds_toArray, List.set_cons_zero, List.set_cons_succ]
                refine' wpAnyH_take (i := 1) (oi := ({ dst := some 87, op := Op.binOp BinOp.gtr 3 (Operand.tmp 86) (Operand.const (Value.int IntKind.i64 0)) 3, type := 4, pos := "l5_replay.go:45", after := #[{ on := 0, ground := Ground.data }], guard := none } : Oper)) (v := _) rfl (by kernel_rfl) (by kernel_rfl) (by kernel_rfl) (fun _ _ _ h => h) (Or.inl ⟨by rfl, fun x hSw => ?hyz9_1⟩) hHeld ?restz9_1
                case hyz9_1 =>
                  have k1 := keepB hSw x2; have k2 := keepB hSw g0; have k3 := keepB hSw p0; have k4 := keepB hSw p1; have k5 := keepB hSw p2; have k6 := keepB hSw q0; have k7 := keepB hSw q1; have k8 := keepB hSw q2
                  go_simp
                  try with_reducible rfl
                try simp only [Act.put, List.setIfInBounds_toArray, List.set_cons_zero, List.set_cons_succ]
                refine' wpAnyH_take (i := 2) (oi := ({ dst := some 88, op := Op.move (Operand.tmp 87), type := 4, pos := "l5_replay.go:45", after := #[{ on := 1, ground := Ground.data }], guard := none } : Oper)) (v := _) rfl (by kernel_rfl) (by kernel_rfl) (by kernel_rfl) (fun _ _ _ h => h) (Or.inl ⟨by rfl, fun x hSw => ?hyz9_2⟩) hHeld ?restz9_2
                case hyz9_2 =>
                  have k1 := keepB hSw x2; have k2 := keepB hSw g0; have k3 := keepB hSw p0; have k4 := keepB hSw p1; have k5 := keepB hSw p2; have k6 := keepB hSw q0; have k7 := keepB hSw q1; have k8 := keepB hSw q2
                  go_simp
                  try with_reducible rfl
                try simp only [Act.put, List.setIfInBounds_toArray, List.set_cons_zero, List.set_cons_succ]
                refine' wpAnyH_take (i := 3) (oi := ({ dst := some 89, op := Op.fieldAddr 54 (Operand.tmp 1) 2, type := 0, pos := "l5_replay.go:45", after := #[{ on := 2, ground := Ground.guard }], guard := some (2, true) } : Oper)) (v := _) rfl (by kernel_rfl) (by kernel_rfl) (by kernel_rfl) (fun _ _ _ h => h) (Or.inl ⟨by rfl, fun x hSw => ?hyz9_3⟩) hHeld ?restz9_3
                case hyz9_3 =>
                  have k1 := keepB hSw x2; have k2 := keepB hSw g0; have k3 := keepB hSw p0; have k4 := keepB hSw p1; have k5 := keepB hSw p2; have k6 := keepB hSw q0; have k7 := keepB hSw q1; have k8 := keepB hSw q2
                  go_simp
                  try with_reducible rfl
                try simp only [Act.put, List.setIfInBounds_toArray, List.set_cons_zero, List.set_cons_succ]
                refine' wpAnyH_take (i := 4) (oi := ({ dst := some 90, op := Op.load 52 (Operand.tmp 89), type := 52, pos := "l5_replay.go:45", after := #[{ on := 3, ground := Ground.data }, { on := 2, ground := Ground.guard }], guard := some (2, true) } : Oper)) (v := _) rfl (by kernel_rfl) (by kernel_rfl) (by kernel_rfl) (fun _ _ _ h => h) (Or.inl ⟨by rfl, fun x hSw => ?hyz9_4⟩) hHeld ?restz9_4
                case hyz9_4 =>
                  have k1 := keepB hSw x2; have k2 := keepB hSw g0; have k3 := keepB hSw p0; have k4 := keepB hSw p1; have k5 := keepB hSw p2; have k6 := keepB hSw q0; have k7 := keepB hSw q1; have k8 := keepB hSw q2
                  go_simp
                  try with_reducible rfl
                try simp only [Act.put, List.setIfInBounds_toArray, List.set_cons_zero, List.set_cons_succ]
                refine' wpAnyH_take (i := 5) (oi := ({ dst := some 91, op := Op.move (Operand.tmp 5), type := 3, pos := "l5_replay.go:45", after := #[{ on := 2, ground := Ground.guard }], guard := some (2, true) } : Oper)) (v := _) rfl (by kernel_rfl) (by kernel_rfl) (by kernel_rfl) (fun _ _ _ h => h) (Or.inl ⟨by rfl, fun x hSw => ?hyz9_5⟩) hHeld ?restz9_5
                case hyz9_5 =>
                  have k1 := keepB hSw x2; have k2 := keepB hSw g0; have k3 := keepB hSw p0; have k4 := keepB hSw p1; have k5 := keepB hSw p2; have k6 := keepB hSw q0; have k7 := keepB hSw q1; have k8 := keepB hSw q2
                  go_simp
                  try with_reducible rfl
                try simp only [Act.put, List.setIfInBounds_toArray, List.set_cons_zero, List.set_cons_succ]
                refine' wpAnyH_take (i := 6) (oi := ({ dst := some 92, op := Op.binOp BinOp.sub 3 (Operand.tmp 91) (Operand.const (Value.int IntKind.i64 1)) 3, type := 3, pos := "l5_replay.go:45", after := #[{ on := 5, ground := Ground.data }, { on := 2, ground := Ground.guard }], guard := some (2, true) } : Oper)) (v := .int .i64 (p : Int)) rfl (by kernel_rfl) (by kernel_rfl) (by kernel_rfl) (fun _ _ _ h => h) (Or.inl ⟨by rfl, fun x hSw => ?hyz9_6⟩) hHeld ?restz9_6
                case hyz9_6 =>
                  have k1 := keepB hSw x2; have k2 := keepB hSw g0; have k3 := keepB hSw p0; have k4 := keepB hSw p1; have k5 := keepB hSw p2; have k6 := keepB hSw q0; have k7 := keepB hSw q1; have k8 := keepB hSw q2
                  go_simp
                  try with_reducible rfl
                try simp only [Act.put, List.setIfInBounds_toArray, List.set_cons_zero, List.set_cons_succ]
                refine' wpAnyH_take (i := 7) (oi := ({ dst := some 93, op := Op.indexAddr 52 (Operand.tmp 90) (Operand.tmp 92), type := 0, pos := "l5_replay.go:45", after := #[{ on := 4, ground := Ground.data }, { on := 6, ground := Ground.data }, { on := 2, ground := Ground.guard }], guard := some (2, true) } : Oper)) (v := .pointer (some ⟨b1, o1 + p, none⟩)) rfl (by kernel_rfl) (by kernel_rfl) (by kernel_rfl) (fun _ _ _ h => h) (Or.inl ⟨by rfl, fun x hSw => ?hyz9_7⟩) hHeld ?restz9_7
                case hyz9_7 =>
                  have k1 := keepB hSw x2; have k2 := keepB hSw g0; have k3 := keepB hSw p0; have k4 := keepB hSw p1; have k5 := keepB hSw p2; have k6 := keepB hSw q0; have k7 := keepB hSw q1; have k8 := keepB hSw q2
                  go_simp
                  try with_reducible rfl
                try simp only [Act.put, List.setIfInBounds_toArray, List.set_cons_zero, List.set_cons_succ]
                refine' wpAnyH_take (i := 8) (oi := ({ dst := some 94, op := Op.load 42 (Operand.tmp 93), type := 42, pos := "l5_replay.go:45", after := #[{ on := 7, ground := Ground.data }, { on := 2, ground := Ground.guard }], guard := some (2, true) } : Oper)) (v := _) rfl (by kernel_rfl) (by kernel_rfl) (by kernel_rfl) (fun _ _ _ h => h) (Or.inl ⟨by rfl, fun x hSw => ?hyz9_8⟩) hHeld ?restz9_8
                case hyz9_8 =>
                  have k1 := keepB hSw x2; have k2 := keepB hSw g0; have k3 := keepB hSw p0; have k4 := keepB hSw p1; have k5 := keepB hSw p2; have k6 := keepB hSw q0; have k7 := keepB hSw q1; have k8 := keepB hSw q2
                  go_simp
                  try with_reducible rfl
                try simp only [Act.put, List.setIfInBounds_toArray, List.set_cons_zero, List.set_cons_succ]
                refine' wpAnyH_take (i := 9) (oi := ({ dst := some 95, op := Op.indexAddr 42 (Operand.tmp 94) (Operand.const (Value.int IntKind.i64 0)), type := 0, pos := "l5_replay.go:45", after := #[{ on := 8, ground := Ground.data }, { on := 2, ground := Ground.guard }], guard := some (2, true) } : Oper)) (v := .pointer (some ⟨b2, o2, none⟩)) rfl (by kernel_rfl) (by kernel_rfl) (by kernel_rfl) (fun _ _ _ h => h) (Or.inl ⟨by rfl, fun x hSw => ?hyz9_9⟩) hHeld ?restz9_9
                case hyz9_9 =>
                  have k1 := keepB hSw x2; have k2 := keepB hSw g0; have k3 := keepB hSw p0; have k4 := keepB hSw p1; have k5 := keepB hSw p2; have k6 := keepB hSw q0; have k7 := keepB hSw q1; have k8 := keepB hSw q2
                  go_simp
                  try with_reducible rfl
                try simp only [Act.put, List.setIfInBounds_toArray, List.set_cons_zero, List.set_cons_succ]
                refine' wpAnyH_take (i := 10) (oi := ({ dst := some 96, op := Op.load 73 (Operand.tmp 95), type := 73, pos := "l5_replay.go:45", after := #[{ on := 9, ground := Ground.data }, { on := 2, ground := Ground.guard }], guard := some (2, true) } : Oper)) (v := _) rfl (by kernel_rfl) (by kernel_rfl) (by kernel_rfl) (fun _ _ _ h => h) (Or.inl ⟨by rfl, fun x hSw => ?hyz9_10⟩) hHeld ?restz9_10
                case hyz9_10 =>
                  have k1 := keepB hSw x2; have k2 := keepB hSw g0; have k3 := keepB hSw p0; have k4 := keepB hSw p1; have k5 := keepB hSw p2; have k6 := keepB hSw q0; have k7 := keepB hSw q1; have k8 := keepB hSw q2
                  go_simp
                  try with_reducible rfl
                try simp only [Act.put, List.setIfInBounds_toArray, List.set_cons_zero, List.set_cons_succ]
                refine' wpAnyH_take (i := 11) (oi := ({ dst := some 97, op := Op.move (Operand.tmp 6), type := 42, pos := "l5_replay.go:45", after := #[{ on := 2, ground := Ground.guard }], guard := some (2, true) } : Oper)) (v := _) rfl (by kernel_rfl) (by kernel_rfl) (by kernel_rfl) (fun _ _ _ h => h) (Or.inl ⟨by rfl, fun x hSw => ?hyz9_11⟩) hHeld ?restz9_11
                case hyz9_11 =>
                  have k1 := keepB hSw x2; have k2 := keepB hSw g0; have k3 := keepB hSw p0; have k4 := keepB hSw p1; have k5 := keepB hSw p2; have k6 := keepB hSw q0; have k7 := keepB hSw q1; have k8 := keepB hSw q2
                  go_simp
                  try with_reducible rfl
                try simp only [Act.put, List.setIfInBounds_toArray, List.set_cons_zero, List.set_cons_succ]
                refine' wpAnyH_take (i := 12) (oi := ({ dst := some 98, op := Op.indexAddr 42 (Operand.tmp 97) (Operand.const (Value.int IntKind.i64 0)), type := 0, pos := "l5_replay.go:45", after := #[{ on := 11, ground := Ground.data }, { on := 2, ground := Ground.guard }], guard := some (2, true) } : Oper)) (v := .pointer (some ⟨b3, o3, none⟩)) rfl (by kernel_rfl) (by kernel_rfl) (by kernel_rfl) (fun _ _ _ h => h) (Or.inl ⟨by rfl, fun x hSw => ?hyz9_12⟩) hHeld ?restz9_12
                case hyz9_12 =>
                  have k1 := keepB hSw x2; have k2 := keepB hSw g0; have k3 := keepB hSw p0; have k4 := keepB hSw p1; have k5 := keepB hSw p2; have k6 := keepB hSw q0; have k7 := keepB hSw q1; have k8 := keepB hSw q2
                  go_simp
                  try with_reducible rfl
                try simp only [Act.put, List.setIfInBounds_toArray, List.set_cons_zero, List.set_cons_succ]
                refine' wpAnyH_take (i := 13) (oi := ({ dst := some 99, op := Op.load 73 (Operand.tmp 98), type := 73, pos := "l5_replay.go:45", after := #[{ on := 12, ground := Ground.data }, { on := 2, ground := Ground.guard }], guard := some (2, true) } : Oper)) (v := _) rfl (by kernel_rfl) (by kernel_rfl) (by kernel_rfl) (fun _ _ _ h => h) (Or.inl ⟨by rfl, fun x hSw => ?hyz9_13⟩) hHeld ?restz9_13
                case hyz9_13 =>
                  have k1 := keepB hSw x2; have k2 := keepB hSw g0; have k3 := keepB hSw p0; have k4 := keepB hSw p1; have k5 := keepB hSw p2; have k6 := keepB hSw q0; have k7 := keepB hSw q1; have k8 := keepB hSw q2
                  go_simp
                  try with_reducible rfl
                try simp only [Act.put, List.setIfInBounds_toArray, List.set_cons_zero, List.set_cons_succ]
                refine wpAnyH_ready (rs := [14]) (by kernel_rfl) (by simp) ?_
                refine AllReadyH.cons (o := ({ dst := some 100, op := Op.call { callee := Callee.value (Operand.func 69), args := #[Operand.tmp 96, Operand.tmp 99], argTypes := #[73, 73] }, type := 3, pos := "l5_replay.go:45", after := #[{ on := 10, ground := Ground.data }, { on := 13, ground := Ground.data }, { on := 2, ground := Ground.chain }, { on := 2, ground := Ground.guard }], guard := some (2, true) } : Oper)) rfl (fun K hK => ?_) AllReadyH.nil
                go_simp
                refine (sCompare _ _ _ _ _ _ _).mono ?_
                rintro e w7 ⟨y, rfl, hqq, hb7⟩; rw [hv] at hqq; replace hqq := show ¬ (0 : Int) ≤ y from fun hh => (by cases hqq.1 hh)
                refine hK.out _ _ (bstep hHeld hb7) (fun hHeld => ?_)
                clear hK K
                try simp only [Act.put, List.setIfInBounds_toArray, List.set_cons_zero, List.set_cons_succ]
                refine' wpAnyH_take (i := 15) (oi := ({ dst := some 101, op := Op.binOp BinOp.geq 3 (Operand.tmp 100) (Operand.const (Value.int IntKind.i64 0)) 3, type := 4, pos := "l5_replay.go:45", after := #[{ on := 14, ground := Ground.data }, { on := 2, ground := Ground.guard }], guard := some (2, true) } : Oper)) (v := _) rfl (by kernel_rfl) (by kernel_rfl) (by kernel_rfl) (fun _ _ _ h => h) (Or.inl ⟨by rfl, fun x hSw => ?hyz9_15⟩) hHeld ?restz9_15
                case hyz9_15 =>
                  have k1 := keepB hSw x2; have k2 := keepB hSw g0; have k3 := keepB hSw p0; have k4 := keepB hSw p1; have k5 := keepB hSw p2; have k6 := keepB hSw q0; have k7 := keepB hSw q1; have k8 := keepB hSw q2
                  go_simp
                  try with_reducible rfl
                try simp only [Act.put, List.setIfInBounds_toArray, List.set_cons_zero, List.set_cons_succ]
                refine' wpAnyH_take (i := 16) (oi := ({ dst := some 102, op := Op.pick (Operand.tmp 88) (Operand.tmp 101) (Operand.const (Value.bool false)), type := 4, pos := "l5_replay.go:45", after := #[{ on := 2, ground := Ground.data }, { on := 15, ground := Ground.data }], guard := none } : Oper)) (v := _) rfl (by kernel_rfl) (by kernel_rfl) (by kernel_rfl) (fun _ _ _ h => h) (Or.inl ⟨by rfl, fun x hSw => ?hyz9_16⟩) hHeld ?restz9_16
                case hyz9_16 =>
                  have k1 := keepB hSw x2; have k2 := keepB hSw g0; have k3 := keepB hSw p0; have k4 := keepB hSw p1; have k5 := keepB hSw p2; have k6 := keepB hSw q0; have k7 := keepB hSw q1; have k8 := keepB hSw q2
                  go_simp
                  try with_reducible rfl
                try simp only [Act.put, List.setIfInBounds_toArray, List.set_cons_zero, List.set_cons_succ]
                refine wpAnyH_done (by kernel_rfl) ?_ _
                go_wp2
                go_roundw
                case rel => exact ⟨p + 1 + 1, by omega, by go_num, fun j hj => by
                  by_cases e : j = p + 1
                  · subst e; rw [HR4.out, Nat.add_sub_cancel, hv]; simp
                  · exact hall2 j (by omega), bstep hb2 (bstep hb3 hHeld)⟩
                case measure => simp [intOf]; omega
        · obtain rfl : k = r := by omega
          go_wp2
          go_ret
          exact ⟨retB (by rw [HT.out, allN_true hall2]), B4⟩
end Go.Proofs.YtfodndnkhgijmaaDoor
