/-
  Tables: the specification's test of a table, walked.
-/
import Derived.Test.YtgeiamgeclbiaaaGreatDoorTk
namespace Go.Proofs.YtgeiamgeclbiaaaGreatDoor
open Go.RowKit Go.Maps Go.WideMaps
abbrev qTi0 : Oper := { dst := some 34, op := Op.fieldAddr 113 (Operand.tmp 4) 0, type := 0, pos := "l5_replay.go:32", after := #[], guard := none }
abbrev qTi1 : Oper := { dst := some 35, op := Op.load 9 (Operand.tmp 34), type := 9, pos := "l5_replay.go:32", after := #[{ on := 0, ground := Ground.data }], guard := none }
abbrev qTi2 : Oper := { dst := some 36, op := Op.call { callee := Callee.value (Operand.func 98), args := #[Operand.tmp 35], argTypes := #[9] }, type := 4, pos := "l5_replay.go:32", after := #[{ on := 1, ground := Ground.data }], guard := none }
abbrev qTi3 : Oper := { dst := some 37, op := Op.unOp UnOp.not 4 (Operand.tmp 36), type := 4, pos := "l5_replay.go:32", after := #[{ on := 2, ground := Ground.data }], guard := none }
abbrev qTi4 : Oper := { dst := some 38, op := Op.move (Operand.tmp 37), type := 4, pos := "l5_replay.go:32", after := #[{ on := 3, ground := Ground.data }, { on := 2, ground := Ground.chain }], guard := none }
abbrev qTi5 : Oper := { dst := some 39, op := Op.fieldAddr 113 (Operand.tmp 4) 1, type := 0, pos := "l5_replay.go:32", after := #[{ on := 4, ground := Ground.guard }], guard := some (4, false) }
abbrev qTi6 : Oper := { dst := some 40, op := Op.load 3 (Operand.tmp 39), type := 3, pos := "l5_replay.go:32", after := #[{ on := 5, ground := Ground.data }, { on := 4, ground := Ground.guard }], guard := some (4, false) }
abbrev qTi7 : Oper := { dst := some 41, op := Op.call { callee := Callee.value (Operand.func 99), args := #[Operand.tmp 40], argTypes := #[3] }, type := 4, pos := "l5_replay.go:32", after := #[{ on := 6, ground := Ground.data }, { on := 4, ground := Ground.chain }, { on := 4, ground := Ground.guard }], guard := some (4, false) }
abbrev qTi8 : Oper := { dst := some 42, op := Op.unOp UnOp.not 4 (Operand.tmp 41), type := 4, pos := "l5_replay.go:32", after := #[{ on := 7, ground := Ground.data }, { on := 4, ground := Ground.guard }], guard := some (4, false) }
abbrev qTi9 : Oper := { dst := some 43, op := Op.pick (Operand.tmp 38) (Operand.const (Value.bool true)) (Operand.tmp 42), type := 4, pos := "l5_replay.go:32", after := #[{ on := 4, ground := Ground.data }, { on := 8, ground := Ground.data }], guard := none }
abbrev qTi10 : Oper := { dst := some 44, op := Op.move (Operand.tmp 43), type := 4, pos := "l5_replay.go:32", after := #[{ on := 9, ground := Ground.data }, { on := 7, ground := Ground.chain }], guard := none }
abbrev qTi11 : Oper := { dst := some 45, op := Op.fieldAddr 62 (Operand.tmp 1) 1, type := 0, pos := "l5_replay.go:32", after := #[{ on := 10, ground := Ground.guard }], guard := some (10, false) }
abbrev qTi12 : Oper := { dst := some 46, op := Op.load 40 (Operand.tmp 45), type := 40, pos := "l5_replay.go:32", after := #[{ on := 11, ground := Ground.data }, { on := 10, ground := Ground.guard }], guard := some (10, false) }
abbrev qTi13 : Oper := { dst := some 47, op := Op.move (Operand.tmp 3), type := 3, pos := "l5_replay.go:32", after := #[{ on := 10, ground := Ground.guard }], guard := some (10, false) }
abbrev qTi14 : Oper := { dst := some 48, op := Op.slice 40 (Operand.tmp 46) none (some (Operand.tmp 47)) none, type := 40, pos := "l5_replay.go:32", after := #[{ on := 12, ground := Ground.data }, { on := 13, ground := Ground.data }, { on := 10, ground := Ground.guard }], guard := some (10, false) }
abbrev qTi15 : Oper := { dst := some 49, op := Op.fieldAddr 113 (Operand.tmp 4) 0, type := 0, pos := "l5_replay.go:32", after := #[{ on := 10, ground := Ground.guard }], guard := some (10, false) }
abbrev qTi16 : Oper := { dst := some 50, op := Op.load 9 (Operand.tmp 49), type := 9, pos := "l5_replay.go:32", after := #[{ on := 15, ground := Ground.data }, { on := 10, ground := Ground.guard }], guard := some (10, false) }
abbrev qTi17 : Oper := { dst := some 51, op := Op.call { callee := Callee.value (Operand.func 67), args := #[Operand.tmp 48, Operand.tmp 50], argTypes := #[40, 9] }, type := 3, pos := "l5_replay.go:32", after := #[{ on := 14, ground := Ground.data }, { on := 16, ground := Ground.data }, { on := 10, ground := Ground.chain }, { on := 10, ground := Ground.guard }], guard := some (10, false) }
abbrev qTi18 : Oper := { dst := some 52, op := Op.binOp BinOp.geq 3 (Operand.tmp 51) (Operand.const (Value.int IntKind.i64 0)) 3, type := 4, pos := "l5_replay.go:32", after := #[{ on := 17, ground := Ground.data }, { on := 10, ground := Ground.guard }], guard := some (10, false) }
abbrev qTi19 : Oper := { dst := some 53, op := Op.pick (Operand.tmp 44) (Operand.const (Value.bool true)) (Operand.tmp 52), type := 4, pos := "l5_replay.go:32", after := #[{ on := 10, ground := Ground.data }, { on := 18, ground := Ground.data }], guard := none }
abbrev qTi20 : Oper := { dst := some 76, op := Op.load 66 (Operand.tmp 8), type := 66, pos := "l5_replay.go:41", after := #[], guard := none }
abbrev qTi21 : Oper := { dst := some 77, op := Op.fieldAddr 62 (Operand.tmp 1) 1, type := 0, pos := "l5_replay.go:41", after := #[], guard := none }
abbrev qTi22 : Oper := { dst := some 78, op := Op.load 40 (Operand.tmp 77), type := 40, pos := "l5_replay.go:41", after := #[{ on := 1, ground := Ground.data }], guard := none }
abbrev qTi23 : Oper := { dst := some 79, op := Op.move (Operand.tmp 7), type := 3, pos := "l5_replay.go:41", after := #[], guard := none }
abbrev qTi24 : Oper := { dst := some 80, op := Op.indexAddr 40 (Operand.tmp 78) (Operand.tmp 79), type := 0, pos := "l5_replay.go:41", after := #[{ on := 2, ground := Ground.data }, { on := 3, ground := Ground.data }], guard := none }
abbrev qTi25 : Oper := { dst := some 81, op := Op.fieldAddr 113 (Operand.tmp 80) 1, type := 0, pos := "l5_replay.go:41", after := #[{ on := 4, ground := Ground.data }], guard := none }
abbrev qTi26 : Oper := { dst := some 82, op := Op.load 3 (Operand.tmp 81), type := 3, pos := "l5_replay.go:41", after := #[{ on := 5, ground := Ground.data }], guard := none }
abbrev qTi27 : Oper := { dst := some 83, op := Op.call { callee := Callee.value (Operand.func 138), args := #[Operand.tmp 76, Operand.tmp 82], argTypes := #[66, 3] }, type := 4, pos := "l5_replay.go:41", after := #[{ on := 0, ground := Ground.data }, { on := 6, ground := Ground.data }], guard := none }
abbrev qTi28 : Oper := { dst := some 84, op := Op.unOp UnOp.not 4 (Operand.tmp 83), type := 4, pos := "l5_replay.go:41", after := #[{ on := 7, ground := Ground.data }], guard := none }
abbrev qTi29 : Oper := { dst := some 86, op := Op.move (Operand.tmp 5), type := 3, pos := "l5_replay.go:45", after := #[], guard := none }
abbrev qTi30 : Oper := { dst := some 87, op := Op.binOp BinOp.gtr 3 (Operand.tmp 86) (Operand.const (Value.int IntKind.i64 0)) 3, type := 4, pos := "l5_replay.go:45", after := #[{ on := 0, ground := Ground.data }], guard := none }
abbrev qTi31 : Oper := { dst := some 88, op := Op.move (Operand.tmp 87), type := 4, pos := "l5_replay.go:45", after := #[{ on := 1, ground := Ground.data }], guard := none }
abbrev qTi32 : Oper := { dst := some 89, op := Op.fieldAddr 62 (Operand.tmp 1) 2, type := 0, pos := "l5_replay.go:45", after := #[{ on := 2, ground := Ground.guard }], guard := some (2, true) }
abbrev qTi33 : Oper := { dst := some 90, op := Op.load 33 (Operand.tmp 89), type := 33, pos := "l5_replay.go:45", after := #[{ on := 3, ground := Ground.data }, { on := 2, ground := Ground.guard }], guard := some (2, true) }
abbrev qTi34 : Oper := { dst := some 91, op := Op.move (Operand.tmp 5), type := 3, pos := "l5_replay.go:45", after := #[{ on := 2, ground := Ground.guard }], guard := some (2, true) }
abbrev qTi35 : Oper := { dst := some 92, op := Op.binOp BinOp.sub 3 (Operand.tmp 91) (Operand.const (Value.int IntKind.i64 1)) 3, type := 3, pos := "l5_replay.go:45", after := #[{ on := 5, ground := Ground.data }, { on := 2, ground := Ground.guard }], guard := some (2, true) }
abbrev qTi36 : Oper := { dst := some 93, op := Op.indexAddr 33 (Operand.tmp 90) (Operand.tmp 92), type := 0, pos := "l5_replay.go:45", after := #[{ on := 4, ground := Ground.data }, { on := 6, ground := Ground.data }, { on := 2, ground := Ground.guard }], guard := some (2, true) }
abbrev qTi37 : Oper := { dst := some 94, op := Op.load 41 (Operand.tmp 93), type := 41, pos := "l5_replay.go:45", after := #[{ on := 7, ground := Ground.data }, { on := 2, ground := Ground.guard }], guard := some (2, true) }
abbrev qTi38 : Oper := { dst := some 95, op := Op.indexAddr 41 (Operand.tmp 94) (Operand.const (Value.int IntKind.i64 0)), type := 0, pos := "l5_replay.go:45", after := #[{ on := 8, ground := Ground.data }, { on := 2, ground := Ground.guard }], guard := some (2, true) }
abbrev qTi39 : Oper := { dst := some 96, op := Op.load 66 (Operand.tmp 95), type := 66, pos := "l5_replay.go:45", after := #[{ on := 9, ground := Ground.data }, { on := 2, ground := Ground.guard }], guard := some (2, true) }
abbrev qTi40 : Oper := { dst := some 97, op := Op.move (Operand.tmp 6), type := 41, pos := "l5_replay.go:45", after := #[{ on := 2, ground := Ground.guard }], guard := some (2, true) }
abbrev qTi41 : Oper := { dst := some 98, op := Op.indexAddr 41 (Operand.tmp 97) (Operand.const (Value.int IntKind.i64 0)), type := 0, pos := "l5_replay.go:45", after := #[{ on := 11, ground := Ground.data }, { on := 2, ground := Ground.guard }], guard := some (2, true) }
abbrev qTi42 : Oper := { dst := some 99, op := Op.load 66 (Operand.tmp 98), type := 66, pos := "l5_replay.go:45", after := #[{ on := 12, ground := Ground.data }, { on := 2, ground := Ground.guard }], guard := some (2, true) }
abbrev qTi43 : Oper := { dst := some 100, op := Op.call { callee := Callee.value (Operand.func 106), args := #[Operand.tmp 96, Operand.tmp 99], argTypes := #[66, 66] }, type := 3, pos := "l5_replay.go:45", after := #[{ on := 10, ground := Ground.data }, { on := 13, ground := Ground.data }, { on := 2, ground := Ground.chain }, { on := 2, ground := Ground.guard }], guard := some (2, true) }
abbrev qTi44 : Oper := { dst := some 101, op := Op.binOp BinOp.geq 3 (Operand.tmp 100) (Operand.const (Value.int IntKind.i64 0)) 3, type := 4, pos := "l5_replay.go:45", after := #[{ on := 14, ground := Ground.data }, { on := 2, ground := Ground.guard }], guard := some (2, true) }
abbrev qTi45 : Oper := { dst := some 102, op := Op.pick (Operand.tmp 88) (Operand.tmp 101) (Operand.const (Value.bool false)), type := 4, pos := "l5_replay.go:45", after := #[{ on := 2, ground := Ground.data }, { on := 15, ground := Ground.data }], guard := none }
set_option maxRecDepth 20000 in
set_option maxHeartbeats 8000000 in
theorem sTab (s : ByteArray) (n : Nat) (C : Nat → Clm) (r : Nat) (m : Nat → Nat) (R : Nat → Nat → Itm) (ac ar : Option Addr) (cr : Nat) (w : World) (hC : CL w ac n C) (hR : OL w ar r m R) (hsm : Sm3 ⟨s, n, C, r, m, R⟩) :
    Calls Tryz.prog 97 #[.agg #[.string s, .slice ac n n, .slice ar r cr]] w fun e w' => e = .returned (.bool (okTab s n C r m R)) ∧ Below w.heap.size w w' := by
  have hb0 := bal w (.cells #[.string s, .slice ac n n, .slice ar r cr] 62)
  have hX0 := heap_alloc_new w (.cells #[.string s, .slice ac n n, .slice ar r cr] 62)
  have hss := hsm.s
  have hn := hsm.co.1
  have hrr := hsm.ro.1
  dsimp only at hss hn hrr
  have c0 : (w.alloc (.cells #[.string s, .slice ac n n, .slice ar r cr] 62)).cell? ⟨w.heap.size, 0, none⟩ = some (.string s) := (cell_of_row _ _ 0 _ _ _ hX0).trans rfl
  have c1 : (w.alloc (.cells #[.string s, .slice ac n n, .slice ar r cr] 62)).cell? ⟨w.heap.size, 1, none⟩ = some (.slice ac n n) := (cell_of_row _ _ 1 _ _ _ hX0).trans rfl
  have c2 : (w.alloc (.cells #[.string s, .slice ac n n, .slice ar r cr] 62)).cell? ⟨w.heap.size, 2, none⟩ = some (.slice ar r cr) := (cell_of_row _ _ 2 _ _ _ hX0).trans rfl
  clear hX0
  rcases hq1 : okName s
  · have HF : Hid (okTab s n C r m R = false) := by show _ = _; unfold okTab; rw [hq1]; rfl
    go_enter Tryz.func97, Tryz.ntmps97
    go_wp2_with (go_at_call 98; refine (sName s _ hss).mono ?_; rw [hq1]; rintro e w1 ⟨rfl, hb1⟩; have d1 := keepB hb1 c1; have d2 := keepB hb1 c2)
    go_ret
    exact ⟨retB HF.out.symm, bstep hb0 hb1⟩
  rcases hq2 : btw (n : Int) 1 20
  · have HF : Hid (okTab s n C r m R = false) := by show _ = _; unfold okTab; rw [hq1, hq2]; rfl
    go_enter Tryz.func97, Tryz.ntmps97
    go_wp2_with (first | (go_at_call 98; refine (sName s _ hss).mono ?_; rw [hq1]; rintro e w1 ⟨rfl, hb1⟩; have d1 := keepB hb1 c1; have d2 := keepB hb1 c2) | (go_at_call 137; refine (sBetween _ _ _ _).mono ?_; rw [hq2]; rintro e w2 ⟨rfl, rfl⟩))
    go_ret
    exact ⟨retB HF.out.symm, bstep hb0 hb1⟩
  by_cases hq3 : r ≤ 1000
  rotate_left
  · have HF : Hid (okTab s n C r m R = false) := by show _ = _; unfold okTab; rw [decide_eq_false hq3]; simp
    have hq4 : (1000 : Int) < r := by omega
    go_enter Tryz.func97, Tryz.ntmps97
    go_wp2_with (first | (go_at_call 98; refine (sName s _ hss).mono ?_; rw [hq1]; rintro e w1 ⟨rfl, hb1⟩; have d1 := keepB hb1 c1; have d2 := keepB hb1 c2) | (go_at_call 137; refine (sBetween _ _ _ _).mono ?_; rw [hq2]; rintro e w2 ⟨rfl, rfl⟩))
    go_ret
    exact ⟨retB HF.out.symm, bstep hb0 hb1⟩
  have hq4 : ¬ (1000 : Int) < r := by omega
  have h0 : 0 < n := by
    unfold btw at hq2
    simp at hq2
    omega
  have HT : Hid (okTab s n C r m R = (allN n (okColAt C) && allN r (okRowAt n C m R))) := by
    show _ = _
    unfold okTab
    rw [hq1, hq2, decide_eq_true hq3]
    rfl
  go_enter Tryz.func97, Tryz.ntmps97
  go_wp2_with (first | (go_at_call 98; refine (sName s _ hss).mono ?_; rw [hq1]; rintro e w1 ⟨rfl, hb1⟩; have d1 := keepB hb1 c1; have d2 := keepB hb1 c2) | (go_at_call 137; refine (sBetween _ _ _ _).mono ?_; rw [hq2]; rintro e w2 ⟨rfl, rfl⟩))
  have B1 := bstep hb0 hb1
  clear c0 c1 c2
  go_loopw [3, 4, 29] (fun _ _ i wr => ∃ k : Nat, k ≤ n ∧ i = .int .i64 k ∧ (∀ j, j < k → okColAt C j = true) ∧ Below w2.heap.size w2 wr) (fun _ _ i _ => n - (intOf i).toNat)
  case atStart => exact ⟨0, by omega, rfl, fun j hj => by omega, Below.refl _ _⟩
  case round =>
    obtain ⟨k, hk, rfl, hall, hb⟩ := hrel
    have B2 := bstep B1 hb
    by_cases hlt : k < n
    · obtain ⟨b, off, rfl, e0, e1, hs⟩ := hC.later B2 k hlt
      have hR2 := heap_alloc_new wr (.cells #[.string (C k).s, .int .i64 (C k).t] 113)
      have y0 : (wr.alloc (.cells #[.string (C k).s, .int .i64 (C k).t] 113)).cell? ⟨wr.heap.size, 0, none⟩ = some (.string (C k).s) := (cell_of_row _ _ 0 _ _ _ hR2).trans rfl
      have y1 : (wr.alloc (.cells #[.string (C k).s, .int .i64 (C k).t] 113)).cell? ⟨wr.heap.size, 1, none⟩ = some (.int .i64 (C k).t) := (cell_of_row _ _ 1 _ _ _ hR2).trans rfl
      clear hR2
      have B3 := bal wr (.cells #[.string (C k).s, .int .i64 (C k).t] 113)
      have x1 := keepB B3 (keepB hb d1)
      have hCr := hC.later (bstep B2 B3)
      have i1 : (0 : Int) ≤ (k : Int) := by omega
      have i2 : (k : Int) ≤ (n : Int) := by omega
      rcases hv : okName (C k).s
      · go_wp2
        refine wp_region_held_drew (S := fun x => Below (wr.alloc (.cells #[.string (C k).s, .int .i64 (C k).t] 113)).heap.size (wr.alloc (.cells #[.string (C k).s, .int .i64 (C k).t] 113)) x) (by kernel_rfl) (bdrew _) (fun hHeld => ?_)
        refine' takeF (i := 0) (oi := qTi0) rfl ⟨by rfl, fun x hSw => ?h1⟩ hHeld ?r1
        case h1 =>
          go_simp
          try with_reducible rfl
        try simp only [Act.put, List.setIfInBounds_toArray, List.set_cons_zero, List.set_cons_succ]
        refine' takeF (i := 1) (oi := qTi1) rfl ⟨by rfl, fun x hSw => ?h2⟩ hHeld ?r2
        case h2 =>
          have k0 := keepB hSw y0; have k1 := keepB hSw y1; have k2 := keepB hSw x1
          go_simp
          try with_reducible rfl
        try simp only [Act.put, List.setIfInBounds_toArray, List.set_cons_zero, List.set_cons_succ]
        refine wpAnyH_ready (rs := [2]) (by kernel_rfl) (by simp) ?_
        refine AllReadyH.cons (o := qTi2) rfl (fun K hK => ?_) AllReadyH.nil
        go_simp
        refine (sName _ _ hs).mono ?_
        rw [hv]; rintro e w3 ⟨rfl, hb3⟩
        refine hK.out _ _ (bstep hHeld hb3) (fun hHeld => ?_)
        clear hK K
        try simp only [Act.put, List.setIfInBounds_toArray, List.set_cons_zero, List.set_cons_succ]
        refine' takeF (i := 3) (oi := qTi3) rfl ⟨by rfl, fun x hSw => ?h3⟩ hHeld ?r3
        case h3 =>
          go_simp
          try with_reducible rfl
        try simp only [Act.put, List.setIfInBounds_toArray, List.set_cons_zero, List.set_cons_succ]
        refine' takeF (i := 4) (oi := qTi4) rfl ⟨by rfl, fun x hSw => ?h4⟩ hHeld ?r4
        case h4 =>
          go_simp
          try with_reducible rfl
        try simp only [Act.put, List.setIfInBounds_toArray, List.set_cons_zero, List.set_cons_succ]
        refine wpAnyH_take (i := 5) (oi := qTi5) (v := undef) rfl (by kernel_rfl) (by kernel_rfl) (by kernel_rfl) (fun _ _ _ h => h) (Or.inr ⟨by rfl, rfl⟩) hHeld ?_
        try simp only [Act.put, List.setIfInBounds_toArray, List.set_cons_zero, List.set_cons_succ]
        refine wpAnyH_take (i := 6) (oi := qTi6) (v := undef) rfl (by kernel_rfl) (by kernel_rfl) (by kernel_rfl) (fun _ _ _ h => h) (Or.inr ⟨by rfl, rfl⟩) hHeld ?_
        try simp only [Act.put, List.setIfInBounds_toArray, List.set_cons_zero, List.set_cons_succ]
        refine wpAnyH_take (i := 7) (oi := qTi7) (v := undef) rfl (by kernel_rfl) (by kernel_rfl) (by kernel_rfl) (fun _ _ _ h => h) (Or.inr ⟨by rfl, rfl⟩) hHeld ?_
        try simp only [Act.put, List.setIfInBounds_toArray, List.set_cons_zero, List.set_cons_succ]
        refine wpAnyH_take (i := 8) (oi := qTi8) (v := undef) rfl (by kernel_rfl) (by kernel_rfl) (by kernel_rfl) (fun _ _ _ h => h) (Or.inr ⟨by rfl, rfl⟩) hHeld ?_
        try simp only [Act.put, List.setIfInBounds_toArray, List.set_cons_zero, List.set_cons_succ]
        refine' takeF (i := 9) (oi := qTi9) rfl ⟨by rfl, fun x hSw => ?h5⟩ hHeld ?r5
        case h5 =>
          go_simp
          try with_reducible rfl
        try simp only [Act.put, List.setIfInBounds_toArray, List.set_cons_zero, List.set_cons_succ]
        refine' takeF (i := 10) (oi := qTi10) rfl ⟨by rfl, fun x hSw => ?h6⟩ hHeld ?r6
        case h6 =>
          go_simp
          try with_reducible rfl
        try simp only [Act.put, List.setIfInBounds_toArray, List.set_cons_zero, List.set_cons_succ]
        refine wpAnyH_take (i := 11) (oi := qTi11) (v := undef) rfl (by kernel_rfl) (by kernel_rfl) (by kernel_rfl) (fun _ _ _ h => h) (Or.inr ⟨by rfl, rfl⟩) hHeld ?_
        try simp only [Act.put, List.setIfInBounds_toArray, List.set_cons_zero, List.set_cons_succ]
        refine wpAnyH_take (i := 12) (oi := qTi12) (v := undef) rfl (by kernel_rfl) (by kernel_rfl) (by kernel_rfl) (fun _ _ _ h => h) (Or.inr ⟨by rfl, rfl⟩) hHeld ?_
        try simp only [Act.put, List.setIfInBounds_toArray, List.set_cons_zero, List.set_cons_succ]
        refine wpAnyH_take (i := 13) (oi := qTi13) (v := undef) rfl (by kernel_rfl) (by kernel_rfl) (by kernel_rfl) (fun _ _ _ h => h) (Or.inr ⟨by rfl, rfl⟩) hHeld ?_
        try simp only [Act.put, List.setIfInBounds_toArray, List.set_cons_zero, List.set_cons_succ]
        refine wpAnyH_take (i := 14) (oi := qTi14) (v := undef) rfl (by kernel_rfl) (by kernel_rfl) (by kernel_rfl) (fun _ _ _ h => h) (Or.inr ⟨by rfl, rfl⟩) hHeld ?_
        try simp only [Act.put, List.setIfInBounds_toArray, List.set_cons_zero, List.set_cons_succ]
        refine wpAnyH_take (i := 15) (oi := qTi15) (v := undef) rfl (by kernel_rfl) (by kernel_rfl) (by kernel_rfl) (fun _ _ _ h => h) (Or.inr ⟨by rfl, rfl⟩) hHeld ?_
        try simp only [Act.put, List.setIfInBounds_toArray, List.set_cons_zero, List.set_cons_succ]
        refine wpAnyH_take (i := 16) (oi := qTi16) (v := undef) rfl (by kernel_rfl) (by kernel_rfl) (by kernel_rfl) (fun _ _ _ h => h) (Or.inr ⟨by rfl, rfl⟩) hHeld ?_
        try simp only [Act.put, List.setIfInBounds_toArray, List.set_cons_zero, List.set_cons_succ]
        refine wpAnyH_take (i := 17) (oi := qTi17) (v := undef) rfl (by kernel_rfl) (by kernel_rfl) (by kernel_rfl) (fun _ _ _ h => h) (Or.inr ⟨by rfl, rfl⟩) hHeld ?_
        try simp only [Act.put, List.setIfInBounds_toArray, List.set_cons_zero, List.set_cons_succ]
        refine wpAnyH_take (i := 18) (oi := qTi18) (v := undef) rfl (by kernel_rfl) (by kernel_rfl) (by kernel_rfl) (fun _ _ _ h => h) (Or.inr ⟨by rfl, rfl⟩) hHeld ?_
        try simp only [Act.put, List.setIfInBounds_toArray, List.set_cons_zero, List.set_cons_succ]
        refine' takeF (i := 19) (oi := qTi19) rfl ⟨by rfl, fun x hSw => ?h7⟩ hHeld ?r7
        case h7 =>
          go_simp
          try with_reducible rfl
        try simp only [Act.put, List.setIfInBounds_toArray, List.set_cons_zero, List.set_cons_succ]
        refine wpAnyH_done (by kernel_rfl) ?_ _
        go_wp2
        go_ret
        exact ⟨retB (by rw [HT.out, allN_false (p := okColAt C) hlt (by unfold okColAt; rw [hv]; rfl)]; rfl), bstep B2 (bstep B3 hHeld)⟩
      rcases ht : isTyp (C k).t
      · go_wp2
        refine wp_region_held_drew (S := fun x => Below (wr.alloc (.cells #[.string (C k).s, .int .i64 (C k).t] 113)).heap.size (wr.alloc (.cells #[.string (C k).s, .int .i64 (C k).t] 113)) x) (by kernel_rfl) (bdrew _) (fun hHeld => ?_)
        refine' takeF (i := 0) (oi := qTi0) rfl ⟨by rfl, fun x hSw => ?h8⟩ hHeld ?r8
        case h8 =>
          go_simp
          try with_reducible rfl
        try simp only [Act.put, List.setIfInBounds_toArray, List.set_cons_zero, List.set_cons_succ]
        refine' takeF (i := 1) (oi := qTi1) rfl ⟨by rfl, fun x hSw => ?h9⟩ hHeld ?r9
        case h9 =>
          have k0 := keepB hSw y0; have k1 := keepB hSw y1; have k2 := keepB hSw x1
          go_simp
          try with_reducible rfl
        try simp only [Act.put, List.setIfInBounds_toArray, List.set_cons_zero, List.set_cons_succ]
        refine wpAnyH_ready (rs := [2]) (by kernel_rfl) (by simp) ?_
        refine AllReadyH.cons (o := qTi2) rfl (fun K hK => ?_) AllReadyH.nil
        go_simp
        refine (sName _ _ hs).mono ?_
        rw [hv]; rintro e w3 ⟨rfl, hb3⟩
        refine hK.out _ _ (bstep hHeld hb3) (fun hHeld => ?_)
        clear hK K
        try simp only [Act.put, List.setIfInBounds_toArray, List.set_cons_zero, List.set_cons_succ]
        refine' takeF (i := 3) (oi := qTi3) rfl ⟨by rfl, fun x hSw => ?h10⟩ hHeld ?r10
        case h10 =>
          go_simp
          try with_reducible rfl
        try simp only [Act.put, List.setIfInBounds_toArray, List.set_cons_zero, List.set_cons_succ]
        refine' takeF (i := 4) (oi := qTi4) rfl ⟨by rfl, fun x hSw => ?h11⟩ hHeld ?r11
        case h11 =>
          go_simp
          try with_reducible rfl
        try simp only [Act.put, List.setIfInBounds_toArray, List.set_cons_zero, List.set_cons_succ]
        refine' takeF (i := 5) (oi := qTi5) rfl ⟨by rfl, fun x hSw => ?h12⟩ hHeld ?r12
        case h12 =>
          go_simp
          try with_reducible rfl
        try simp only [Act.put, List.setIfInBounds_toArray, List.set_cons_zero, List.set_cons_succ]
        refine' takeF (i := 6) (oi := qTi6) rfl ⟨by rfl, fun x hSw => ?h13⟩ hHeld ?r13
        case h13 =>
          have k0 := keepB hSw y0; have k1 := keepB hSw y1; have k2 := keepB hSw x1
          go_simp
          try with_reducible rfl
        try simp only [Act.put, List.setIfInBounds_toArray, List.set_cons_zero, List.set_cons_succ]
        refine wpAnyH_ready (rs := [7]) (by kernel_rfl) (by simp) ?_
        refine AllReadyH.cons (o := qTi7) rfl (fun K hK => ?_) AllReadyH.nil
        go_simp
        refine (sType _ _).mono ?_
        rw [ht]; rintro e w4 ⟨rfl, rfl⟩
        refine hK.out _ _ (hHeld) (fun hHeld => ?_)
        clear hK K
        try simp only [Act.put, List.setIfInBounds_toArray, List.set_cons_zero, List.set_cons_succ]
        refine' takeF (i := 8) (oi := qTi8) rfl ⟨by rfl, fun x hSw => ?h14⟩ hHeld ?r14
        case h14 =>
          go_simp
          try with_reducible rfl
        try simp only [Act.put, List.setIfInBounds_toArray, List.set_cons_zero, List.set_cons_succ]
        refine' takeF (i := 9) (oi := qTi9) rfl ⟨by rfl, fun x hSw => ?h15⟩ hHeld ?r15
        case h15 =>
          go_simp
          try with_reducible rfl
        try simp only [Act.put, List.setIfInBounds_toArray, List.set_cons_zero, List.set_cons_succ]
        refine' takeF (i := 10) (oi := qTi10) rfl ⟨by rfl, fun x hSw => ?h16⟩ hHeld ?r16
        case h16 =>
          go_simp
          try with_reducible rfl
        try simp only [Act.put, List.setIfInBounds_toArray, List.set_cons_zero, List.set_cons_succ]
        refine wpAnyH_take (i := 11) (oi := qTi11) (v := undef) rfl (by kernel_rfl) (by kernel_rfl) (by kernel_rfl) (fun _ _ _ h => h) (Or.inr ⟨by rfl, rfl⟩) hHeld ?_
        try simp only [Act.put, List.setIfInBounds_toArray, List.set_cons_zero, List.set_cons_succ]
        refine wpAnyH_take (i := 12) (oi := qTi12) (v := undef) rfl (by kernel_rfl) (by kernel_rfl) (by kernel_rfl) (fun _ _ _ h => h) (Or.inr ⟨by rfl, rfl⟩) hHeld ?_
        try simp only [Act.put, List.setIfInBounds_toArray, List.set_cons_zero, List.set_cons_succ]
        refine wpAnyH_take (i := 13) (oi := qTi13) (v := undef) rfl (by kernel_rfl) (by kernel_rfl) (by kernel_rfl) (fun _ _ _ h => h) (Or.inr ⟨by rfl, rfl⟩) hHeld ?_
        try simp only [Act.put, List.setIfInBounds_toArray, List.set_cons_zero, List.set_cons_succ]
        refine wpAnyH_take (i := 14) (oi := qTi14) (v := undef) rfl (by kernel_rfl) (by kernel_rfl) (by kernel_rfl) (fun _ _ _ h => h) (Or.inr ⟨by rfl, rfl⟩) hHeld ?_
        try simp only [Act.put, List.setIfInBounds_toArray, List.set_cons_zero, List.set_cons_succ]
        refine wpAnyH_take (i := 15) (oi := qTi15) (v := undef) rfl (by kernel_rfl) (by kernel_rfl) (by kernel_rfl) (fun _ _ _ h => h) (Or.inr ⟨by rfl, rfl⟩) hHeld ?_
        try simp only [Act.put, List.setIfInBounds_toArray, List.set_cons_zero, List.set_cons_succ]
        refine wpAnyH_take (i := 16) (oi := qTi16) (v := undef) rfl (by kernel_rfl) (by kernel_rfl) (by kernel_rfl) (fun _ _ _ h => h) (Or.inr ⟨by rfl, rfl⟩) hHeld ?_
        try simp only [Act.put, List.setIfInBounds_toArray, List.set_cons_zero, List.set_cons_succ]
        refine wpAnyH_take (i := 17) (oi := qTi17) (v := undef) rfl (by kernel_rfl) (by kernel_rfl) (by kernel_rfl) (fun _ _ _ h => h) (Or.inr ⟨by rfl, rfl⟩) hHeld ?_
        try simp only [Act.put, List.setIfInBounds_toArray, List.set_cons_zero, List.set_cons_succ]
        refine wpAnyH_take (i := 18) (oi := qTi18) (v := undef) rfl (by kernel_rfl) (by kernel_rfl) (by kernel_rfl) (fun _ _ _ h => h) (Or.inr ⟨by rfl, rfl⟩) hHeld ?_
        try simp only [Act.put, List.setIfInBounds_toArray, List.set_cons_zero, List.set_cons_succ]
        refine' takeF (i := 19) (oi := qTi19) rfl ⟨by rfl, fun x hSw => ?h17⟩ hHeld ?r17
        case h17 =>
          go_simp
          try with_reducible rfl
        try simp only [Act.put, List.setIfInBounds_toArray, List.set_cons_zero, List.set_cons_succ]
        refine wpAnyH_done (by kernel_rfl) ?_ _
        go_wp2
        go_ret
        exact ⟨retB (by rw [HT.out, allN_false (p := okColAt C) hlt (by unfold okColAt; rw [hv, ht]; rfl)]; rfl), bstep B2 (bstep B3 hHeld)⟩
      rcases hc : hasCol C (C k).s k
      · go_wp2
        refine wp_region_held_drew (S := fun x => Below (wr.alloc (.cells #[.string (C k).s, .int .i64 (C k).t] 113)).heap.size (wr.alloc (.cells #[.string (C k).s, .int .i64 (C k).t] 113)) x) (by kernel_rfl) (bdrew _) (fun hHeld => ?_)
        refine' takeF (i := 0) (oi := qTi0) rfl ⟨by rfl, fun x hSw => ?h18⟩ hHeld ?r18
        case h18 =>
          go_simp
          try with_reducible rfl
        try simp only [Act.put, List.setIfInBounds_toArray, List.set_cons_zero, List.set_cons_succ]
        refine' takeF (i := 1) (oi := qTi1) rfl ⟨by rfl, fun x hSw => ?h19⟩ hHeld ?r19
        case h19 =>
          have k0 := keepB hSw y0; have k1 := keepB hSw y1; have k2 := keepB hSw x1
          go_simp
          try with_reducible rfl
        try simp only [Act.put, List.setIfInBounds_toArray, List.set_cons_zero, List.set_cons_succ]
        refine wpAnyH_ready (rs := [2]) (by kernel_rfl) (by simp) ?_
        refine AllReadyH.cons (o := qTi2) rfl (fun K hK => ?_) AllReadyH.nil
        go_simp
        refine (sName _ _ hs).mono ?_
        rw [hv]; rintro e w3 ⟨rfl, hb3⟩
        refine hK.out _ _ (bstep hHeld hb3) (fun hHeld => ?_)
        clear hK K
        try simp only [Act.put, List.setIfInBounds_toArray, List.set_cons_zero, List.set_cons_succ]
        refine' takeF (i := 3) (oi := qTi3) rfl ⟨by rfl, fun x hSw => ?h20⟩ hHeld ?r20
        case h20 =>
          go_simp
          try with_reducible rfl
        try simp only [Act.put, List.setIfInBounds_toArray, List.set_cons_zero, List.set_cons_succ]
        refine' takeF (i := 4) (oi := qTi4) rfl ⟨by rfl, fun x hSw => ?h21⟩ hHeld ?r21
        case h21 =>
          go_simp
          try with_reducible rfl
        try simp only [Act.put, List.setIfInBounds_toArray, List.set_cons_zero, List.set_cons_succ]
        refine' takeF (i := 5) (oi := qTi5) rfl ⟨by rfl, fun x hSw => ?h22⟩ hHeld ?r22
        case h22 =>
          go_simp
          try with_reducible rfl
        try simp only [Act.put, List.setIfInBounds_toArray, List.set_cons_zero, List.set_cons_succ]
        refine' takeF (i := 6) (oi := qTi6) rfl ⟨by rfl, fun x hSw => ?h23⟩ hHeld ?r23
        case h23 =>
          have k0 := keepB hSw y0; have k1 := keepB hSw y1; have k2 := keepB hSw x1
          go_simp
          try with_reducible rfl
        try simp only [Act.put, List.setIfInBounds_toArray, List.set_cons_zero, List.set_cons_succ]
        refine wpAnyH_ready (rs := [7]) (by kernel_rfl) (by simp) ?_
        refine AllReadyH.cons (o := qTi7) rfl (fun K hK => ?_) AllReadyH.nil
        go_simp
        refine (sType _ _).mono ?_
        rw [ht]; rintro e w4 ⟨rfl, rfl⟩
        refine hK.out _ _ (hHeld) (fun hHeld => ?_)
        clear hK K
        try simp only [Act.put, List.setIfInBounds_toArray, List.set_cons_zero, List.set_cons_succ]
        refine' takeF (i := 8) (oi := qTi8) rfl ⟨by rfl, fun x hSw => ?h24⟩ hHeld ?r24
        case h24 =>
          go_simp
          try with_reducible rfl
        try simp only [Act.put, List.setIfInBounds_toArray, List.set_cons_zero, List.set_cons_succ]
        refine' takeF (i := 9) (oi := qTi9) rfl ⟨by rfl, fun x hSw => ?h25⟩ hHeld ?r25
        case h25 =>
          go_simp
          try with_reducible rfl
        try simp only [Act.put, List.setIfInBounds_toArray, List.set_cons_zero, List.set_cons_succ]
        refine' takeF (i := 10) (oi := qTi10) rfl ⟨by rfl, fun x hSw => ?h26⟩ hHeld ?r26
        case h26 =>
          go_simp
          try with_reducible rfl
        try simp only [Act.put, List.setIfInBounds_toArray, List.set_cons_zero, List.set_cons_succ]
        refine' takeF (i := 11) (oi := qTi11) rfl ⟨by rfl, fun x hSw => ?h27⟩ hHeld ?r27
        case h27 =>
          go_simp
          try with_reducible rfl
        try simp only [Act.put, List.setIfInBounds_toArray, List.set_cons_zero, List.set_cons_succ]
        refine' takeF (i := 12) (oi := qTi12) rfl ⟨by rfl, fun x hSw => ?h28⟩ hHeld ?r28
        case h28 =>
          have k0 := keepB hSw y0; have k1 := keepB hSw y1; have k2 := keepB hSw x1
          go_simp
          try with_reducible rfl
        try simp only [Act.put, List.setIfInBounds_toArray, List.set_cons_zero, List.set_cons_succ]
        refine' takeF (i := 13) (oi := qTi13) rfl ⟨by rfl, fun x hSw => ?h29⟩ hHeld ?r29
        case h29 =>
          go_simp
          try with_reducible rfl
        try simp only [Act.put, List.setIfInBounds_toArray, List.set_cons_zero, List.set_cons_succ]
        refine' takeF (i := 14) (oi := qTi14) (v := .slice (some ⟨b, off, none⟩) k n) rfl ⟨by rfl, fun x hSw => ?h30⟩ hHeld ?r30
        case h30 =>
          go_simp
          try with_reducible rfl
        try simp only [Act.put, List.setIfInBounds_toArray, List.set_cons_zero, List.set_cons_succ]
        refine' takeF (i := 15) (oi := qTi15) rfl ⟨by rfl, fun x hSw => ?h31⟩ hHeld ?r31
        case h31 =>
          go_simp
          try with_reducible rfl
        try simp only [Act.put, List.setIfInBounds_toArray, List.set_cons_zero, List.set_cons_succ]
        refine' takeF (i := 16) (oi := qTi16) rfl ⟨by rfl, fun x hSw => ?h32⟩ hHeld ?r32
        case h32 =>
          have k0 := keepB hSw y0; have k1 := keepB hSw y1; have k2 := keepB hSw x1
          go_simp
          try with_reducible rfl
        try simp only [Act.put, List.setIfInBounds_toArray, List.set_cons_zero, List.set_cons_succ]
        refine wpAnyH_ready (rs := [17]) (by kernel_rfl) (by simp) ?_
        refine AllReadyH.cons (o := qTi17) rfl (fun K hK => ?_) AllReadyH.nil
        go_simp
        refine (sCol _ _ _ C _ _ ((hCr.take (Nat.le_of_lt hlt)).later hHeld) (by omega)).mono ?_
        rintro e w5 ⟨q, rfl, hqq, hb5⟩; rw [hc] at hqq; replace hqq := show ¬ (0 : Int) ≤ q from fun hh => (by cases hqq.1 hh)
        refine hK.out _ _ (bstep hHeld hb5) (fun hHeld => ?_)
        clear hK K
        try simp only [Act.put, List.setIfInBounds_toArray, List.set_cons_zero, List.set_cons_succ]
        refine' takeF (i := 18) (oi := qTi18) rfl ⟨by rfl, fun x hSw => ?h33⟩ hHeld ?r33
        case h33 =>
          go_simp
          try with_reducible rfl
        try simp only [Act.put, List.setIfInBounds_toArray, List.set_cons_zero, List.set_cons_succ]
        refine' takeF (i := 19) (oi := qTi19) rfl ⟨by rfl, fun x hSw => ?h34⟩ hHeld ?r34
        case h34 =>
          go_simp
          try with_reducible rfl
        try simp only [Act.put, List.setIfInBounds_toArray, List.set_cons_zero, List.set_cons_succ]
        refine wpAnyH_done (by kernel_rfl) ?_ _
        go_wp2
        go_roundw
        case rel => exact ⟨k + 1, by omega, by go_num, fun j hj => by
          by_cases e : j = k
          · subst e; unfold okColAt; rw [hv, ht, hc]; rfl
          · exact hall j (by omega), bstep hb (bstep B3 hHeld)⟩
        case measure => simp [intOf]; omega
      · go_wp2
        refine wp_region_held_drew (S := fun x => Below (wr.alloc (.cells #[.string (C k).s, .int .i64 (C k).t] 113)).heap.size (wr.alloc (.cells #[.string (C k).s, .int .i64 (C k).t] 113)) x) (by kernel_rfl) (bdrew _) (fun hHeld => ?_)
        refine' takeF (i := 0) (oi := qTi0) rfl ⟨by rfl, fun x hSw => ?h35⟩ hHeld ?r35
        case h35 =>
          go_simp
          try with_reducible rfl
        try simp only [Act.put, List.setIfInBounds_toArray, List.set_cons_zero, List.set_cons_succ]
        refine' takeF (i := 1) (oi := qTi1) rfl ⟨by rfl, fun x hSw => ?h36⟩ hHeld ?r36
        case h36 =>
          have k0 := keepB hSw y0; have k1 := keepB hSw y1; have k2 := keepB hSw x1
          go_simp
          try with_reducible rfl
        try simp only [Act.put, List.setIfInBounds_toArray, List.set_cons_zero, List.set_cons_succ]
        refine wpAnyH_ready (rs := [2]) (by kernel_rfl) (by simp) ?_
        refine AllReadyH.cons (o := qTi2) rfl (fun K hK => ?_) AllReadyH.nil
        go_simp
        refine (sName _ _ hs).mono ?_
        rw [hv]; rintro e w3 ⟨rfl, hb3⟩
        refine hK.out _ _ (bstep hHeld hb3) (fun hHeld => ?_)
        clear hK K
        try simp only [Act.put, List.setIfInBounds_toArray, List.set_cons_zero, List.set_cons_succ]
        refine' takeF (i := 3) (oi := qTi3) rfl ⟨by rfl, fun x hSw => ?h37⟩ hHeld ?r37
        case h37 =>
          go_simp
          try with_reducible rfl
        try simp only [Act.put, List.setIfInBounds_toArray, List.set_cons_zero, List.set_cons_succ]
        refine' takeF (i := 4) (oi := qTi4) rfl ⟨by rfl, fun x hSw => ?h38⟩ hHeld ?r38
        case h38 =>
          go_simp
          try with_reducible rfl
        try simp only [Act.put, List.setIfInBounds_toArray, List.set_cons_zero, List.set_cons_succ]
        refine' takeF (i := 5) (oi := qTi5) rfl ⟨by rfl, fun x hSw => ?h39⟩ hHeld ?r39
        case h39 =>
          go_simp
          try with_reducible rfl
        try simp only [Act.put, List.setIfInBounds_toArray, List.set_cons_zero, List.set_cons_succ]
        refine' takeF (i := 6) (oi := qTi6) rfl ⟨by rfl, fun x hSw => ?h40⟩ hHeld ?r40
        case h40 =>
          have k0 := keepB hSw y0; have k1 := keepB hSw y1; have k2 := keepB hSw x1
          go_simp
          try with_reducible rfl
        try simp only [Act.put, List.setIfInBounds_toArray, List.set_cons_zero, List.set_cons_succ]
        refine wpAnyH_ready (rs := [7]) (by kernel_rfl) (by simp) ?_
        refine AllReadyH.cons (o := qTi7) rfl (fun K hK => ?_) AllReadyH.nil
        go_simp
        refine (sType _ _).mono ?_
        rw [ht]; rintro e w4 ⟨rfl, rfl⟩
        refine hK.out _ _ (hHeld) (fun hHeld => ?_)
        clear hK K
        try simp only [Act.put, List.setIfInBounds_toArray, List.set_cons_zero, List.set_cons_succ]
        refine' takeF (i := 8) (oi := qTi8) rfl ⟨by rfl, fun x hSw => ?h41⟩ hHeld ?r41
        case h41 =>
          go_simp
          try with_reducible rfl
        try simp only [Act.put, List.setIfInBounds_toArray, List.set_cons_zero, List.set_cons_succ]
        refine' takeF (i := 9) (oi := qTi9) rfl ⟨by rfl, fun x hSw => ?h42⟩ hHeld ?r42
        case h42 =>
          go_simp
          try with_reducible rfl
        try simp only [Act.put, List.setIfInBounds_toArray, List.set_cons_zero, List.set_cons_succ]
        refine' takeF (i := 10) (oi := qTi10) rfl ⟨by rfl, fun x hSw => ?h43⟩ hHeld ?r43
        case h43 =>
          go_simp
          try with_reducible rfl
        try simp only [Act.put, List.setIfInBounds_toArray, List.set_cons_zero, List.set_cons_succ]
        refine' takeF (i := 11) (oi := qTi11) rfl ⟨by rfl, fun x hSw => ?h44⟩ hHeld ?r44
        case h44 =>
          go_simp
          try with_reducible rfl
        try simp only [Act.put, List.setIfInBounds_toArray, List.set_cons_zero, List.set_cons_succ]
        refine' takeF (i := 12) (oi := qTi12) rfl ⟨by rfl, fun x hSw => ?h45⟩ hHeld ?r45
        case h45 =>
          have k0 := keepB hSw y0; have k1 := keepB hSw y1; have k2 := keepB hSw x1
          go_simp
          try with_reducible rfl
        try simp only [Act.put, List.setIfInBounds_toArray, List.set_cons_zero, List.set_cons_succ]
        refine' takeF (i := 13) (oi := qTi13) rfl ⟨by rfl, fun x hSw => ?h46⟩ hHeld ?r46
        case h46 =>
          go_simp
          try with_reducible rfl
        try simp only [Act.put, List.setIfInBounds_toArray, List.set_cons_zero, List.set_cons_succ]
        refine' takeF (i := 14) (oi := qTi14) (v := .slice (some ⟨b, off, none⟩) k n) rfl ⟨by rfl, fun x hSw => ?h47⟩ hHeld ?r47
        case h47 =>
          go_simp
          try with_reducible rfl
        try simp only [Act.put, List.setIfInBounds_toArray, List.set_cons_zero, List.set_cons_succ]
        refine' takeF (i := 15) (oi := qTi15) rfl ⟨by rfl, fun x hSw => ?h48⟩ hHeld ?r48
        case h48 =>
          go_simp
          try with_reducible rfl
        try simp only [Act.put, List.setIfInBounds_toArray, List.set_cons_zero, List.set_cons_succ]
        refine' takeF (i := 16) (oi := qTi16) rfl ⟨by rfl, fun x hSw => ?h49⟩ hHeld ?r49
        case h49 =>
          have k0 := keepB hSw y0; have k1 := keepB hSw y1; have k2 := keepB hSw x1
          go_simp
          try with_reducible rfl
        try simp only [Act.put, List.setIfInBounds_toArray, List.set_cons_zero, List.set_cons_succ]
        refine wpAnyH_ready (rs := [17]) (by kernel_rfl) (by simp) ?_
        refine AllReadyH.cons (o := qTi17) rfl (fun K hK => ?_) AllReadyH.nil
        go_simp
        refine (sCol _ _ _ C _ _ ((hCr.take (Nat.le_of_lt hlt)).later hHeld) (by omega)).mono ?_
        rintro e w5 ⟨q, rfl, hqq, hb5⟩; rw [hc] at hqq; replace hqq := hqq.2 rfl
        refine hK.out _ _ (bstep hHeld hb5) (fun hHeld => ?_)
        clear hK K
        try simp only [Act.put, List.setIfInBounds_toArray, List.set_cons_zero, List.set_cons_succ]
        refine' takeF (i := 18) (oi := qTi18) rfl ⟨by rfl, fun x hSw => ?h50⟩ hHeld ?r50
        case h50 =>
          go_simp
          try with_reducible rfl
        try simp only [Act.put, List.setIfInBounds_toArray, List.set_cons_zero, List.set_cons_succ]
        refine' takeF (i := 19) (oi := qTi19) rfl ⟨by rfl, fun x hSw => ?h51⟩ hHeld ?r51
        case h51 =>
          go_simp
          try with_reducible rfl
        try simp only [Act.put, List.setIfInBounds_toArray, List.set_cons_zero, List.set_cons_succ]
        refine wpAnyH_done (by kernel_rfl) ?_ _
        go_wp2
        go_ret
        exact ⟨retB (by rw [HT.out, allN_false (p := okColAt C) hlt (by unfold okColAt; rw [hc]; simp)]; rfl), bstep B2 (bstep B3 hHeld)⟩
    · obtain rfl : n = k := by omega
      replace HT : Hid (okTab s n C r m R = allN r (okRowAt n C m R)) := by
        show _ = _
        rw [HT.out, allN_true hall]
        rfl
      have a1 := keepB hb d1
      have a2 := keepB hb d2
      clear d1 d2
      go_wp2
      obtain ⟨wo, rfl⟩ : ∃ wo : World, wo = wr := ⟨_, rfl⟩
      go_loopw [58] (fun i wr => ∃ k : Nat, k ≤ r ∧ i = .int .i64 k ∧ (∀ j, j < k → okRowAt n C m R j = true) ∧ Below wo.heap.size wo wr) (fun i _ => r - (intOf i).toNat)
      case atStart => exact ⟨0, by omega, rfl, fun j hj => by omega, Below.refl _ _⟩
      case round =>
        obtain ⟨k, hk2, rfl, hall2, hb2⟩ := hrel
        have B4 := bstep B2 hb2
        by_cases hlt : k < r
        · obtain ⟨b1, o1, i1, k1, ea, f0, di, dm⟩ := hR.later B4 k hlt
          subst ea
          have a3 := keepB hb2 a1
          by_cases hmn : m k = n
          rotate_left
          · have hmn' : ((m k : Int) == (n : Int)) = false := by simp; omega
            go_wp2
            go_ret
            exact ⟨retB (by rw [HT.out, allN_false (p := okRowAt n C m R) hlt (by unfold okRowAt; rw [decide_eq_false hmn]; rfl)]), B4⟩
          have hmn' : ((m k : Int) == (n : Int)) = true := by simp; omega
          go_wp2
          obtain ⟨wp, rfl⟩ : ∃ wp : World, wp = wr := ⟨_, rfl⟩
          go_loopw [71] (fun i wr => ∃ j : Nat, j ≤ m k ∧ i = .int .i64 j ∧ (∀ q, q < j → rightB (R k q).o (R k q).m (R k q).s (C q).t = true) ∧ Below wp.heap.size wp wr) (fun i _ => m k - (intOf i).toNat)
          case atStart => exact ⟨0, by omega, rfl, fun j hj => by omega, Below.refl _ _⟩
          case round =>
            obtain ⟨j, hj, rfl, hall3, hb3⟩ := hrel
            have B5 := bstep B4 hb3
            by_cases hlj : j < m k
            · obtain ⟨bv, ov, ei, v0, v1, v2, hs⟩ := di.later hb3 j hlj
              subst ei
              obtain ⟨b, off, ec, e0, e1, -⟩ := hC.later B5 j (by omega)
              subst ec
              have hR2 := heap_alloc_new wr (.cells #[.int .i64 (R k j).o, .int .i64 (R k j).m, .string (R k j).s] 66)
              have y0 : (wr.alloc (.cells #[.int .i64 (R k j).o, .int .i64 (R k j).m, .string (R k j).s] 66)).cell? ⟨wr.heap.size, 0, none⟩ = some (.int .i64 (R k j).o) := (cell_of_row _ _ 0 _ _ _ hR2).trans rfl
              have y1 : (wr.alloc (.cells #[.int .i64 (R k j).o, .int .i64 (R k j).m, .string (R k j).s] 66)).cell? ⟨wr.heap.size, 1, none⟩ = some (.int .i64 (R k j).m) := (cell_of_row _ _ 1 _ _ _ hR2).trans rfl
              have y2 : (wr.alloc (.cells #[.int .i64 (R k j).o, .int .i64 (R k j).m, .string (R k j).s] 66)).cell? ⟨wr.heap.size, 2, none⟩ = some (.string (R k j).s) := (cell_of_row _ _ 2 _ _ _ hR2).trans rfl
              clear hR2
              have B6 := bal wr (.cells #[.int .i64 (R k j).o, .int .i64 (R k j).m, .string (R k j).s] 66)
              have x1 := keepB B6 (keepB hb3 a3)
              have z1 := keepB B6 e1
              have i1 : (0 : Int) ≤ (j : Int) := by omega
              have i2 : (j : Int) < (n : Int) := by omega
              rcases hv : rightB (R k j).o (R k j).m (R k j).s (C j).t
              · go_wp2
                refine wp_region_held_drew (S := fun x => Below (wr.alloc (.cells #[.int .i64 (R k j).o, .int .i64 (R k j).m, .string (R k j).s] 66)).heap.size (wr.alloc (.cells #[.int .i64 (R k j).o, .int .i64 (R k j).m, .string (R k j).s] 66)) x) (by kernel_rfl) (bdrew _) (fun hHeld => ?_)
                refine' takeF (i := 0) (oi := qTi20) rfl ⟨by rfl, fun x hSw => ?h52⟩ hHeld ?r52
                case h52 =>
                  have k0 := keepB hSw y0; have k1 := keepB hSw y1; have k2 := keepB hSw y2; have k3 := keepB hSw x1; have k4 := keepB hSw z1
                  go_simp
                  try with_reducible rfl
                try simp only [Act.put, List.setIfInBounds_toArray, List.set_cons_zero, List.set_cons_succ]
                refine' takeF (i := 1) (oi := qTi21) rfl ⟨by rfl, fun x hSw => ?h53⟩ hHeld ?r53
                case h53 =>
                  go_simp
                  try with_reducible rfl
                try simp only [Act.put, List.setIfInBounds_toArray, List.set_cons_zero, List.set_cons_succ]
                refine' takeF (i := 2) (oi := qTi22) rfl ⟨by rfl, fun x hSw => ?h54⟩ hHeld ?r54
                case h54 =>
                  have k0 := keepB hSw y0; have k1 := keepB hSw y1; have k2 := keepB hSw y2; have k3 := keepB hSw x1; have k4 := keepB hSw z1
                  go_simp
                  try with_reducible rfl
                try simp only [Act.put, List.setIfInBounds_toArray, List.set_cons_zero, List.set_cons_succ]
                refine' takeF (i := 3) (oi := qTi23) rfl ⟨by rfl, fun x hSw => ?h55⟩ hHeld ?r55
                case h55 =>
                  go_simp
                  try with_reducible rfl
                try simp only [Act.put, List.setIfInBounds_toArray, List.set_cons_zero, List.set_cons_succ]
                refine' takeF (i := 4) (oi := qTi24) (v := .pointer (some ⟨b, off + j * 2, none⟩)) rfl ⟨by rfl, fun x hSw => ?h56⟩ hHeld ?r56
                case h56 =>
                  go_simp
                  try with_reducible rfl
                try simp only [Act.put, List.setIfInBounds_toArray, List.set_cons_zero, List.set_cons_succ]
                refine' takeF (i := 5) (oi := qTi25) (v := .pointer (some ⟨b, off + j * 2 + 1, none⟩)) rfl ⟨by rfl, fun x hSw => ?h57⟩ hHeld ?r57
                case h57 =>
                  go_simp
                  try with_reducible rfl
                try simp only [Act.put, List.setIfInBounds_toArray, List.set_cons_zero, List.set_cons_succ]
                refine' takeF (i := 6) (oi := qTi26) rfl ⟨by rfl, fun x hSw => ?h58⟩ hHeld ?r58
                case h58 =>
                  have k0 := keepB hSw y0; have k1 := keepB hSw y1; have k2 := keepB hSw y2; have k3 := keepB hSw x1; have k4 := keepB hSw z1
                  go_simp
                  try with_reducible rfl
                try simp only [Act.put, List.setIfInBounds_toArray, List.set_cons_zero, List.set_cons_succ]
                refine wpAnyH_ready (rs := [7]) (by kernel_rfl) (by simp) ?_
                refine AllReadyH.cons (o := qTi27) rfl (fun K hK => ?_) AllReadyH.nil
                go_simp
                refine (sRight _ _ _ _ _ hs).mono ?_
                rw [hv]; rintro e w6 ⟨rfl, hb6⟩
                refine hK.out _ _ (bstep hHeld hb6) (fun hHeld => ?_)
                clear hK K
                try simp only [Act.put, List.setIfInBounds_toArray, List.set_cons_zero, List.set_cons_succ]
                refine' takeF (i := 8) (oi := qTi28) rfl ⟨by rfl, fun x hSw => ?h59⟩ hHeld ?r59
                case h59 =>
                  go_simp
                  try with_reducible rfl
                try simp only [Act.put, List.setIfInBounds_toArray, List.set_cons_zero, List.set_cons_succ]
                refine wpAnyH_done (by kernel_rfl) ?_ _
                go_wp2
                go_ret
                exact ⟨retB (by rw [HT.out, allN_false (p := okRowAt n C m R) hlt (by unfold okRowAt; rw [allN_false (p := fun j => rightB (R k j).o (R k j).m (R k j).s (C j).t) hlj hv]; simp)]), bstep B5 (bstep B6 hHeld)⟩
              · go_wp2
                refine wp_region_held_drew (S := fun x => Below (wr.alloc (.cells #[.int .i64 (R k j).o, .int .i64 (R k j).m, .string (R k j).s] 66)).heap.size (wr.alloc (.cells #[.int .i64 (R k j).o, .int .i64 (R k j).m, .string (R k j).s] 66)) x) (by kernel_rfl) (bdrew _) (fun hHeld => ?_)
                refine' takeF (i := 0) (oi := qTi20) rfl ⟨by rfl, fun x hSw => ?h60⟩ hHeld ?r60
                case h60 =>
                  have k0 := keepB hSw y0; have k1 := keepB hSw y1; have k2 := keepB hSw y2; have k3 := keepB hSw x1; have k4 := keepB hSw z1
                  go_simp
                  try with_reducible rfl
                try simp only [Act.put, List.setIfInBounds_toArray, List.set_cons_zero, List.set_cons_succ]
                refine' takeF (i := 1) (oi := qTi21) rfl ⟨by rfl, fun x hSw => ?h61⟩ hHeld ?r61
                case h61 =>
                  go_simp
                  try with_reducible rfl
                try simp only [Act.put, List.setIfInBounds_toArray, List.set_cons_zero, List.set_cons_succ]
                refine' takeF (i := 2) (oi := qTi22) rfl ⟨by rfl, fun x hSw => ?h62⟩ hHeld ?r62
                case h62 =>
                  have k0 := keepB hSw y0; have k1 := keepB hSw y1; have k2 := keepB hSw y2; have k3 := keepB hSw x1; have k4 := keepB hSw z1
                  go_simp
                  try with_reducible rfl
                try simp only [Act.put, List.setIfInBounds_toArray, List.set_cons_zero, List.set_cons_succ]
                refine' takeF (i := 3) (oi := qTi23) rfl ⟨by rfl, fun x hSw => ?h63⟩ hHeld ?r63
                case h63 =>
                  go_simp
                  try with_reducible rfl
                try simp only [Act.put, List.setIfInBounds_toArray, List.set_cons_zero, List.set_cons_succ]
                refine' takeF (i := 4) (oi := qTi24) (v := .pointer (some ⟨b, off + j * 2, none⟩)) rfl ⟨by rfl, fun x hSw => ?h64⟩ hHeld ?r64
                case h64 =>
                  go_simp
                  try with_reducible rfl
                try simp only [Act.put, List.setIfInBounds_toArray, List.set_cons_zero, List.set_cons_succ]
                refine' takeF (i := 5) (oi := qTi25) (v := .pointer (some ⟨b, off + j * 2 + 1, none⟩)) rfl ⟨by rfl, fun x hSw => ?h65⟩ hHeld ?r65
                case h65 =>
                  go_simp
                  try with_reducible rfl
                try simp only [Act.put, List.setIfInBounds_toArray, List.set_cons_zero, List.set_cons_succ]
                refine' takeF (i := 6) (oi := qTi26) rfl ⟨by rfl, fun x hSw => ?h66⟩ hHeld ?r66
                case h66 =>
                  have k0 := keepB hSw y0; have k1 := keepB hSw y1; have k2 := keepB hSw y2; have k3 := keepB hSw x1; have k4 := keepB hSw z1
                  go_simp
                  try with_reducible rfl
                try simp only [Act.put, List.setIfInBounds_toArray, List.set_cons_zero, List.set_cons_succ]
                refine wpAnyH_ready (rs := [7]) (by kernel_rfl) (by simp) ?_
                refine AllReadyH.cons (o := qTi27) rfl (fun K hK => ?_) AllReadyH.nil
                go_simp
                refine (sRight _ _ _ _ _ hs).mono ?_
                rw [hv]; rintro e w6 ⟨rfl, hb6⟩
                refine hK.out _ _ (bstep hHeld hb6) (fun hHeld => ?_)
                clear hK K
                try simp only [Act.put, List.setIfInBounds_toArray, List.set_cons_zero, List.set_cons_succ]
                refine' takeF (i := 8) (oi := qTi28) rfl ⟨by rfl, fun x hSw => ?h67⟩ hHeld ?r67
                case h67 =>
                  go_simp
                  try with_reducible rfl
                try simp only [Act.put, List.setIfInBounds_toArray, List.set_cons_zero, List.set_cons_succ]
                refine wpAnyH_done (by kernel_rfl) ?_ _
                go_wp2
                go_roundw
                case rel => exact ⟨j + 1, by omega, by go_num, fun q hq => by
                  by_cases e : q = j
                  · subst e; exact hv
                  · exact hall3 q (by omega), bstep hb3 (bstep B6 hHeld)⟩
                case measure => simp [intOf]; omega
            · obtain rfl : j = m k := by omega
              have HR3 : okRowAt n C m R k = (decide (k = 0) || befV (R (k - 1) 0).m (R (k - 1) 0).s (R k 0).m (R k 0).s) := by
                unfold okRowAt
                rw [allN_true hall3, decide_eq_true hmn]
                rfl
              have HR4 : Hid (okRowAt n C m R k = (decide (k = 0) || befV (R (k - 1) 0).m (R (k - 1) 0).s (R k 0).m (R k 0).s)) := HR3
              clear HR3
              have x2 := keepB hb3 (keepB hb2 a2)
              by_cases hk0 : k = 0
              · subst hk0
                go_wp2
                refine wp_region_held_drew (S := fun x => Below wr.heap.size wr x) (by kernel_rfl) (bdrew _) (fun hHeld => ?_)
                refine' takeF (i := 0) (oi := qTi29) rfl ⟨by rfl, fun x hSw => ?h68⟩ hHeld ?r68
                case h68 =>
                  go_simp
                  try with_reducible rfl
                try simp only [Act.put, List.setIfInBounds_toArray, List.set_cons_zero, List.set_cons_succ]
                refine' takeF (i := 1) (oi := qTi30) rfl ⟨by rfl, fun x hSw => ?h69⟩ hHeld ?r69
                case h69 =>
                  go_simp
                  try with_reducible rfl
                try simp only [Act.put, List.setIfInBounds_toArray, List.set_cons_zero, List.set_cons_succ]
                refine' takeF (i := 2) (oi := qTi31) rfl ⟨by rfl, fun x hSw => ?h70⟩ hHeld ?r70
                case h70 =>
                  go_simp
                  try with_reducible rfl
                try simp only [Act.put, List.setIfInBounds_toArray, List.set_cons_zero, List.set_cons_succ]
                refine wpAnyH_take (i := 3) (oi := qTi32) (v := undef) rfl (by kernel_rfl) (by kernel_rfl) (by kernel_rfl) (fun _ _ _ h => h) (Or.inr ⟨by rfl, rfl⟩) hHeld ?_
                try simp only [Act.put, List.setIfInBounds_toArray, List.set_cons_zero, List.set_cons_succ]
                refine wpAnyH_take (i := 4) (oi := qTi33) (v := undef) rfl (by kernel_rfl) (by kernel_rfl) (by kernel_rfl) (fun _ _ _ h => h) (Or.inr ⟨by rfl, rfl⟩) hHeld ?_
                try simp only [Act.put, List.setIfInBounds_toArray, List.set_cons_zero, List.set_cons_succ]
                refine wpAnyH_take (i := 5) (oi := qTi34) (v := undef) rfl (by kernel_rfl) (by kernel_rfl) (by kernel_rfl) (fun _ _ _ h => h) (Or.inr ⟨by rfl, rfl⟩) hHeld ?_
                try simp only [Act.put, List.setIfInBounds_toArray, List.set_cons_zero, List.set_cons_succ]
                refine wpAnyH_take (i := 6) (oi := qTi35) (v := undef) rfl (by kernel_rfl) (by kernel_rfl) (by kernel_rfl) (fun _ _ _ h => h) (Or.inr ⟨by rfl, rfl⟩) hHeld ?_
                try simp only [Act.put, List.setIfInBounds_toArray, List.set_cons_zero, List.set_cons_succ]
                refine wpAnyH_take (i := 7) (oi := qTi36) (v := undef) rfl (by kernel_rfl) (by kernel_rfl) (by kernel_rfl) (fun _ _ _ h => h) (Or.inr ⟨by rfl, rfl⟩) hHeld ?_
                try simp only [Act.put, List.setIfInBounds_toArray, List.set_cons_zero, List.set_cons_succ]
                refine wpAnyH_take (i := 8) (oi := qTi37) (v := undef) rfl (by kernel_rfl) (by kernel_rfl) (by kernel_rfl) (fun _ _ _ h => h) (Or.inr ⟨by rfl, rfl⟩) hHeld ?_
                try simp only [Act.put, List.setIfInBounds_toArray, List.set_cons_zero, List.set_cons_succ]
                refine wpAnyH_take (i := 9) (oi := qTi38) (v := undef) rfl (by kernel_rfl) (by kernel_rfl) (by kernel_rfl) (fun _ _ _ h => h) (Or.inr ⟨by rfl, rfl⟩) hHeld ?_
                try simp only [Act.put, List.setIfInBounds_toArray, List.set_cons_zero, List.set_cons_succ]
                refine wpAnyH_take (i := 10) (oi := qTi39) (v := undef) rfl (by kernel_rfl) (by kernel_rfl) (by kernel_rfl) (fun _ _ _ h => h) (Or.inr ⟨by rfl, rfl⟩) hHeld ?_
                try simp only [Act.put, List.setIfInBounds_toArray, List.set_cons_zero, List.set_cons_succ]
                refine wpAnyH_take (i := 11) (oi := qTi40) (v := undef) rfl (by kernel_rfl) (by kernel_rfl) (by kernel_rfl) (fun _ _ _ h => h) (Or.inr ⟨by rfl, rfl⟩) hHeld ?_
                try simp only [Act.put, List.setIfInBounds_toArray, List.set_cons_zero, List.set_cons_succ]
                refine wpAnyH_take (i := 12) (oi := qTi41) (v := undef) rfl (by kernel_rfl) (by kernel_rfl) (by kernel_rfl) (fun _ _ _ h => h) (Or.inr ⟨by rfl, rfl⟩) hHeld ?_
                try simp only [Act.put, List.setIfInBounds_toArray, List.set_cons_zero, List.set_cons_succ]
                refine wpAnyH_take (i := 13) (oi := qTi42) (v := undef) rfl (by kernel_rfl) (by kernel_rfl) (by kernel_rfl) (fun _ _ _ h => h) (Or.inr ⟨by rfl, rfl⟩) hHeld ?_
                try simp only [Act.put, List.setIfInBounds_toArray, List.set_cons_zero, List.set_cons_succ]
                refine wpAnyH_take (i := 14) (oi := qTi43) (v := undef) rfl (by kernel_rfl) (by kernel_rfl) (by kernel_rfl) (fun _ _ _ h => h) (Or.inr ⟨by rfl, rfl⟩) hHeld ?_
                try simp only [Act.put, List.setIfInBounds_toArray, List.set_cons_zero, List.set_cons_succ]
                refine wpAnyH_take (i := 15) (oi := qTi44) (v := undef) rfl (by kernel_rfl) (by kernel_rfl) (by kernel_rfl) (fun _ _ _ h => h) (Or.inr ⟨by rfl, rfl⟩) hHeld ?_
                try simp only [Act.put, List.setIfInBounds_toArray, List.set_cons_zero, List.set_cons_succ]
                refine' takeF (i := 16) (oi := qTi45) rfl ⟨by rfl, fun x hSw => ?h71⟩ hHeld ?r71
                case h71 =>
                  go_simp
                  try with_reducible rfl
                try simp only [Act.put, List.setIfInBounds_toArray, List.set_cons_zero, List.set_cons_succ]
                refine wpAnyH_done (by kernel_rfl) ?_ _
                go_wp2
                go_roundw
                case rel => exact ⟨0 + 1, by omega, by go_num, fun j hj => by
                  obtain rfl : j = 0 := by omega
                  rw [HR4.out]; rfl, bstep hb2 (bstep hb3 hHeld)⟩
                case measure => simp [intOf]; omega
              obtain ⟨p, rfl⟩ : ∃ p, k = p + 1 := ⟨k - 1, by omega⟩
              obtain ⟨b', o', ip, kp, e', g0, dp, -⟩ := hR.later B5 p (by omega)
              obtain ⟨rfl, rfl⟩ : b1 = b' ∧ o1 = o' := by simpa using e'
              have hmp : m p = n := by
                have := hall2 p (by omega)
                unfold okRowAt at this
                rw [Bool.and_eq_true, Bool.and_eq_true, decide_eq_true_eq] at this
                exact this.1.1
              obtain ⟨b2, o2, ep, p0, p1, p2, -⟩ := dp 0 (by omega)
              subst ep
              obtain ⟨b3, o3, eq, q0, q1, q2, -⟩ := di.later hb3 0 (by omega)
              subst eq
              have i0 : (0 : Int) ≤ (p : Int) := by omega
              have i1 : (p : Int) < (r : Int) := by omega
              have i2 : IntKind.i64.wrap (p : Int) = (p : Int) := by rw [IntKind.wrap_i64]; omega
              have i3 : (0 : Int) < (m p : Int) := by omega
              have i4 : (0 : Int) < (m (p + 1) : Int) := by omega
              have i5 : (0 : Int) < (p : Int) + 1 := by omega
              simp only [Nat.zero_mul, Nat.add_zero] at p0 p1 p2 q0 q1 q2
              rcases hv : befV (R p 0).m (R p 0).s (R (p + 1) 0).m (R (p + 1) 0).s
              · go_wp2
                refine wp_region_held_drew (S := fun x => Below wr.heap.size wr x) (by kernel_rfl) (bdrew _) (fun hHeld => ?_)
                refine' takeF (i := 0) (oi := qTi29) rfl ⟨by rfl, fun x hSw => ?h72⟩ hHeld ?r72
                case h72 =>
                  go_simp
                  try with_reducible rfl
                try simp only [Act.put, List.setIfInBounds_toArray, List.set_cons_zero, List.set_cons_succ]
                refine' takeF (i := 1) (oi := qTi30) rfl ⟨by rfl, fun x hSw => ?h73⟩ hHeld ?r73
                case h73 =>
                  go_simp
                  try with_reducible rfl
                try simp only [Act.put, List.setIfInBounds_toArray, List.set_cons_zero, List.set_cons_succ]
                refine' takeF (i := 2) (oi := qTi31) rfl ⟨by rfl, fun x hSw => ?h74⟩ hHeld ?r74
                case h74 =>
                  go_simp
                  try with_reducible rfl
                try simp only [Act.put, List.setIfInBounds_toArray, List.set_cons_zero, List.set_cons_succ]
                refine' takeF (i := 3) (oi := qTi32) rfl ⟨by rfl, fun x hSw => ?h75⟩ hHeld ?r75
                case h75 =>
                  go_simp
                  try with_reducible rfl
                try simp only [Act.put, List.setIfInBounds_toArray, List.set_cons_zero, List.set_cons_succ]
                refine' takeF (i := 4) (oi := qTi33) rfl ⟨by rfl, fun x hSw => ?h76⟩ hHeld ?r76
                case h76 =>
                  have k1 := keepB hSw x2; have k2 := keepB hSw g0; have k3 := keepB hSw p0; have k4 := keepB hSw p1; have k5 := keepB hSw p2; have k6 := keepB hSw q0; have k7 := keepB hSw q1; have k8 := keepB hSw q2
                  go_simp
                  try with_reducible rfl
                try simp only [Act.put, List.setIfInBounds_toArray, List.set_cons_zero, List.set_cons_succ]
                refine' takeF (i := 5) (oi := qTi34) rfl ⟨by rfl, fun x hSw => ?h77⟩ hHeld ?r77
                case h77 =>
                  go_simp
                  try with_reducible rfl
                try simp only [Act.put, List.setIfInBounds_toArray, List.set_cons_zero, List.set_cons_succ]
                refine' takeF (i := 6) (oi := qTi35) (v := .int .i64 (p : Int)) rfl ⟨by rfl, fun x hSw => ?h78⟩ hHeld ?r78
                case h78 =>
                  go_simp
                  try with_reducible rfl
                try simp only [Act.put, List.setIfInBounds_toArray, List.set_cons_zero, List.set_cons_succ]
                refine' takeF (i := 7) (oi := qTi36) (v := .pointer (some ⟨b1, o1 + p, none⟩)) rfl ⟨by rfl, fun x hSw => ?h79⟩ hHeld ?r79
                case h79 =>
                  go_simp
                  try with_reducible rfl
                try simp only [Act.put, List.setIfInBounds_toArray, List.set_cons_zero, List.set_cons_succ]
                refine' takeF (i := 8) (oi := qTi37) rfl ⟨by rfl, fun x hSw => ?h80⟩ hHeld ?r80
                case h80 =>
                  have k1 := keepB hSw x2; have k2 := keepB hSw g0; have k3 := keepB hSw p0; have k4 := keepB hSw p1; have k5 := keepB hSw p2; have k6 := keepB hSw q0; have k7 := keepB hSw q1; have k8 := keepB hSw q2
                  go_simp
                  try with_reducible rfl
                try simp only [Act.put, List.setIfInBounds_toArray, List.set_cons_zero, List.set_cons_succ]
                refine' takeF (i := 9) (oi := qTi38) (v := .pointer (some ⟨b2, o2, none⟩)) rfl ⟨by rfl, fun x hSw => ?h81⟩ hHeld ?r81
                case h81 =>
                  go_simp
                  try with_reducible rfl
                try simp only [Act.put, List.setIfInBounds_toArray, List.set_cons_zero, List.set_cons_succ]
                refine' takeF (i := 10) (oi := qTi39) rfl ⟨by rfl, fun x hSw => ?h82⟩ hHeld ?r82
                case h82 =>
                  have k1 := keepB hSw x2; have k2 := keepB hSw g0; have k3 := keepB hSw p0; have k4 := keepB hSw p1; have k5 := keepB hSw p2; have k6 := keepB hSw q0; have k7 := keepB hSw q1; have k8 := keepB hSw q2
                  go_simp
                  try with_reducible rfl
                try simp only [Act.put, List.setIfInBounds_toArray, List.set_cons_zero, List.set_cons_succ]
                refine' takeF (i := 11) (oi := qTi40) rfl ⟨by rfl, fun x hSw => ?h83⟩ hHeld ?r83
                case h83 =>
                  go_simp
                  try with_reducible rfl
                try simp only [Act.put, List.setIfInBounds_toArray, List.set_cons_zero, List.set_cons_succ]
                refine' takeF (i := 12) (oi := qTi41) (v := .pointer (some ⟨b3, o3, none⟩)) rfl ⟨by rfl, fun x hSw => ?h84⟩ hHeld ?r84
                case h84 =>
                  go_simp
                  try with_reducible rfl
                try simp only [Act.put, List.setIfInBounds_toArray, List.set_cons_zero, List.set_cons_succ]
                refine' takeF (i := 13) (oi := qTi42) rfl ⟨by rfl, fun x hSw => ?h85⟩ hHeld ?r85
                case h85 =>
                  have k1 := keepB hSw x2; have k2 := keepB hSw g0; have k3 := keepB hSw p0; have k4 := keepB hSw p1; have k5 := keepB hSw p2; have k6 := keepB hSw q0; have k7 := keepB hSw q1; have k8 := keepB hSw q2
                  go_simp
                  try with_reducible rfl
                try simp only [Act.put, List.setIfInBounds_toArray, List.set_cons_zero, List.set_cons_succ]
                refine wpAnyH_ready (rs := [14]) (by kernel_rfl) (by simp) ?_
                refine AllReadyH.cons (o := qTi43) rfl (fun K hK => ?_) AllReadyH.nil
                go_simp
                refine (sCompare _ _ _ _ _ _ _).mono ?_
                rintro e w7 ⟨y, rfl, hqq, hb7⟩; rw [hv] at hqq; replace hqq := hqq.2 rfl
                refine hK.out _ _ (bstep hHeld hb7) (fun hHeld => ?_)
                clear hK K
                try simp only [Act.put, List.setIfInBounds_toArray, List.set_cons_zero, List.set_cons_succ]
                refine' takeF (i := 15) (oi := qTi44) rfl ⟨by rfl, fun x hSw => ?h86⟩ hHeld ?r86
                case h86 =>
                  go_simp
                  try with_reducible rfl
                try simp only [Act.put, List.setIfInBounds_toArray, List.set_cons_zero, List.set_cons_succ]
                refine' takeF (i := 16) (oi := qTi45) rfl ⟨by rfl, fun x hSw => ?h87⟩ hHeld ?r87
                case h87 =>
                  go_simp
                  try with_reducible rfl
                try simp only [Act.put, List.setIfInBounds_toArray, List.set_cons_zero, List.set_cons_succ]
                refine wpAnyH_done (by kernel_rfl) ?_ _
                go_wp2
                go_ret
                exact ⟨retB (by rw [HT.out, allN_false (p := okRowAt n C m R) hlt (by rw [HR4.out, Nat.add_sub_cancel, hv]; simp)]), bstep B5 hHeld⟩
              · go_wp2
                refine wp_region_held_drew (S := fun x => Below wr.heap.size wr x) (by kernel_rfl) (bdrew _) (fun hHeld => ?_)
                refine' takeF (i := 0) (oi := qTi29) rfl ⟨by rfl, fun x hSw => ?h88⟩ hHeld ?r88
                case h88 =>
                  go_simp
                  try with_reducible rfl
                try simp only [Act.put, List.setIfInBounds_toArray, List.set_cons_zero, List.set_cons_succ]
                refine' takeF (i := 1) (oi := qTi30) rfl ⟨by rfl, fun x hSw => ?h89⟩ hHeld ?r89
                case h89 =>
                  go_simp
                  try with_reducible rfl
                try simp only [Act.put, List.setIfInBounds_toArray, List.set_cons_zero, List.set_cons_succ]
                refine' takeF (i := 2) (oi := qTi31) rfl ⟨by rfl, fun x hSw => ?h90⟩ hHeld ?r90
                case h90 =>
                  go_simp
                  try with_reducible rfl
                try simp only [Act.put, List.setIfInBounds_toArray, List.set_cons_zero, List.set_cons_succ]
                refine' takeF (i := 3) (oi := qTi32) rfl ⟨by rfl, fun x hSw => ?h91⟩ hHeld ?r91
                case h91 =>
                  go_simp
                  try with_reducible rfl
                try simp only [Act.put, List.setIfInBounds_toArray, List.set_cons_zero, List.set_cons_succ]
                refine' takeF (i := 4) (oi := qTi33) rfl ⟨by rfl, fun x hSw => ?h92⟩ hHeld ?r92
                case h92 =>
                  have k1 := keepB hSw x2; have k2 := keepB hSw g0; have k3 := keepB hSw p0; have k4 := keepB hSw p1; have k5 := keepB hSw p2; have k6 := keepB hSw q0; have k7 := keepB hSw q1; have k8 := keepB hSw q2
                  go_simp
                  try with_reducible rfl
                try simp only [Act.put, List.setIfInBounds_toArray, List.set_cons_zero, List.set_cons_succ]
                refine' takeF (i := 5) (oi := qTi34) rfl ⟨by rfl, fun x hSw => ?h93⟩ hHeld ?r93
                case h93 =>
                  go_simp
                  try with_reducible rfl
                try simp only [Act.put, List.setIfInBounds_toArray, List.set_cons_zero, List.set_cons_succ]
                refine' takeF (i := 6) (oi := qTi35) (v := .int .i64 (p : Int)) rfl ⟨by rfl, fun x hSw => ?h94⟩ hHeld ?r94
                case h94 =>
                  go_simp
                  try with_reducible rfl
                try simp only [Act.put, List.setIfInBounds_toArray, List.set_cons_zero, List.set_cons_succ]
                refine' takeF (i := 7) (oi := qTi36) (v := .pointer (some ⟨b1, o1 + p, none⟩)) rfl ⟨by rfl, fun x hSw => ?h95⟩ hHeld ?r95
                case h95 =>
                  go_simp
                  try with_reducible rfl
                try simp only [Act.put, List.setIfInBounds_toArray, List.set_cons_zero, List.set_cons_succ]
                refine' takeF (i := 8) (oi := qTi37) rfl ⟨by rfl, fun x hSw => ?h96⟩ hHeld ?r96
                case h96 =>
                  have k1 := keepB hSw x2; have k2 := keepB hSw g0; have k3 := keepB hSw p0; have k4 := keepB hSw p1; have k5 := keepB hSw p2; have k6 := keepB hSw q0; have k7 := keepB hSw q1; have k8 := keepB hSw q2
                  go_simp
                  try with_reducible rfl
                try simp only [Act.put, List.setIfInBounds_toArray, List.set_cons_zero, List.set_cons_succ]
                refine' takeF (i := 9) (oi := qTi38) (v := .pointer (some ⟨b2, o2, none⟩)) rfl ⟨by rfl, fun x hSw => ?h97⟩ hHeld ?r97
                case h97 =>
                  go_simp
                  try with_reducible rfl
                try simp only [Act.put, List.setIfInBounds_toArray, List.set_cons_zero, List.set_cons_succ]
                refine' takeF (i := 10) (oi := qTi39) rfl ⟨by rfl, fun x hSw => ?h98⟩ hHeld ?r98
                case h98 =>
                  have k1 := keepB hSw x2; have k2 := keepB hSw g0; have k3 := keepB hSw p0; have k4 := keepB hSw p1; have k5 := keepB hSw p2; have k6 := keepB hSw q0; have k7 := keepB hSw q1; have k8 := keepB hSw q2
                  go_simp
                  try with_reducible rfl
                try simp only [Act.put, List.setIfInBounds_toArray, List.set_cons_zero, List.set_cons_succ]
                refine' takeF (i := 11) (oi := qTi40) rfl ⟨by rfl, fun x hSw => ?h99⟩ hHeld ?r99
                case h99 =>
                  go_simp
                  try with_reducible rfl
                try simp only [Act.put, List.setIfInBounds_toArray, List.set_cons_zero, List.set_cons_succ]
                refine' takeF (i := 12) (oi := qTi41) (v := .pointer (some ⟨b3, o3, none⟩)) rfl ⟨by rfl, fun x hSw => ?h100⟩ hHeld ?r100
                case h100 =>
                  go_simp
                  try with_reducible rfl
                try simp only [Act.put, List.setIfInBounds_toArray, List.set_cons_zero, List.set_cons_succ]
                refine' takeF (i := 13) (oi := qTi42) rfl ⟨by rfl, fun x hSw => ?h101⟩ hHeld ?r101
                case h101 =>
                  have k1 := keepB hSw x2; have k2 := keepB hSw g0; have k3 := keepB hSw p0; have k4 := keepB hSw p1; have k5 := keepB hSw p2; have k6 := keepB hSw q0; have k7 := keepB hSw q1; have k8 := keepB hSw q2
                  go_simp
                  try with_reducible rfl
                try simp only [Act.put, List.setIfInBounds_toArray, List.set_cons_zero, List.set_cons_succ]
                refine wpAnyH_ready (rs := [14]) (by kernel_rfl) (by simp) ?_
                refine AllReadyH.cons (o := qTi43) rfl (fun K hK => ?_) AllReadyH.nil
                go_simp
                refine (sCompare _ _ _ _ _ _ _).mono ?_
                rintro e w7 ⟨y, rfl, hqq, hb7⟩; rw [hv] at hqq; replace hqq := show ¬ (0 : Int) ≤ y from fun hh => (by cases hqq.1 hh)
                refine hK.out _ _ (bstep hHeld hb7) (fun hHeld => ?_)
                clear hK K
                try simp only [Act.put, List.setIfInBounds_toArray, List.set_cons_zero, List.set_cons_succ]
                refine' takeF (i := 15) (oi := qTi44) rfl ⟨by rfl, fun x hSw => ?h102⟩ hHeld ?r102
                case h102 =>
                  go_simp
                  try with_reducible rfl
                try simp only [Act.put, List.setIfInBounds_toArray, List.set_cons_zero, List.set_cons_succ]
                refine' takeF (i := 16) (oi := qTi45) rfl ⟨by rfl, fun x hSw => ?h103⟩ hHeld ?r103
                case h103 =>
                  go_simp
                  try with_reducible rfl
                try simp only [Act.put, List.setIfInBounds_toArray, List.set_cons_zero, List.set_cons_succ]
                refine wpAnyH_done (by kernel_rfl) ?_ _
                go_wp2
                go_roundw
                case rel => exact ⟨p + 1 + 1, by omega, by go_num, fun j hj => by
                  by_cases e : j = p + 1
                  · subst e; rw [HR4.out, Nat.add_sub_cancel, hv]; simp
                  · exact hall2 j (by omega), bstep hb2 (bstep hb3 hHeld)⟩
                case measure => simp [intOf]; omega
        · obtain rfl : k = r := by omega
          go_wp2
          go_ret
          exact ⟨retB (by rw [HT.out, allN_true hall2]), B4⟩
end Go.Proofs.YtgeiamgeclbiaaaGreatDoor
