/-
  FsValid: the program's side; the law's own functions over file systems; the law.
-/
import Derived.Test.YtdbcihebhgpblaaDoorFe
namespace Go.Proofs.YtdbcihebhgpblaaDoor
open Go.RowKit
abbrev qFf0 : Oper := { dst := some 12, op := Op.move (Operand.tmp 1), type := 99, pos := "l5_replay.go:108", after := #[], guard := none }
abbrev qFf1 : Oper := { dst := some 13, op := Op.move (Operand.tmp 0), type := 28, pos := "l5_replay.go:108", after := #[], guard := none }
abbrev qFf2 : Oper := { dst := some 14, op := Op.move (Operand.tmp 5), type := 3, pos := "l5_replay.go:108", after := #[], guard := none }
abbrev qFf3 : Oper := { dst := some 15, op := Op.binOp BinOp.sub 3 (Operand.tmp 14) (Operand.const (Value.int IntKind.i64 1)) 3, type := 3, pos := "l5_replay.go:108", after := #[{ on := 2, ground := Ground.data }], guard := none }
abbrev qFf4 : Oper := { dst := some 16, op := Op.indexAddr 28 (Operand.tmp 13) (Operand.tmp 15), type := 0, pos := "l5_replay.go:108", after := #[{ on := 1, ground := Ground.data }, { on := 3, ground := Ground.data }], guard := none }
abbrev qFf5 : Oper := { dst := some 17, op := Op.load 92 (Operand.tmp 16), type := 92, pos := "l5_replay.go:108", after := #[{ on := 4, ground := Ground.data }], guard := none }
abbrev qFf6 : Oper := { dst := some 19, op := Op.move (Operand.tmp 1), type := 99, pos := "l5_replay.go:108", after := #[], guard := none }
abbrev qFf7 : Oper := { dst := some 20, op := Op.move (Operand.tmp 0), type := 28, pos := "l5_replay.go:108", after := #[], guard := none }
abbrev qFf8 : Oper := { dst := some 21, op := Op.move (Operand.tmp 5), type := 3, pos := "l5_replay.go:108", after := #[], guard := none }
abbrev qFf9 : Oper := { dst := some 22, op := Op.indexAddr 28 (Operand.tmp 20) (Operand.tmp 21), type := 0, pos := "l5_replay.go:108", after := #[{ on := 8, ground := Ground.data }, { on := 9, ground := Ground.data }], guard := none }
abbrev qFf10 : Oper := { dst := some 23, op := Op.load 92 (Operand.tmp 22), type := 92, pos := "l5_replay.go:108", after := #[{ on := 10, ground := Ground.data }], guard := none }
abbrev qFf11 : Oper := { dst := some 18, op := Op.call { callee := Callee.value (Operand.tmp 12), args := #[Operand.tmp 17], argTypes := #[92] }, type := 9, pos := "l5_replay.go:108", after := #[{ on := 0, ground := Ground.data }, { on := 5, ground := Ground.data }], guard := none }
abbrev qFf12 : Oper := { dst := some 24, op := Op.call { callee := Callee.value (Operand.tmp 19), args := #[Operand.tmp 23], argTypes := #[92] }, type := 9, pos := "l5_replay.go:108", after := #[{ on := 7, ground := Ground.data }, { on := 11, ground := Ground.data }, { on := 6, ground := Ground.chain }], guard := none }
abbrev qFf13 : Oper := { dst := some 25, op := Op.call { callee := Callee.value (Operand.func 90), args := #[Operand.tmp 18, Operand.tmp 24], argTypes := #[9, 9] }, type := 4, pos := "l5_replay.go:108", after := #[{ on := 6, ground := Ground.data }, { on := 12, ground := Ground.data }, { on := 12, ground := Ground.chain }], guard := none }
abbrev qFf14 : Oper := { dst := some 26, op := Op.unOp UnOp.not 4 (Operand.tmp 25), type := 4, pos := "l5_replay.go:108", after := #[{ on := 13, ground := Ground.data }], guard := none }
abbrev qFf15 : Oper := { dst := some 36, op := Op.fieldAddr 30 (Operand.tmp 1) 1, type := 0, pos := "l6_journal.go:100", after := #[], guard := none }
abbrev qFf16 : Oper := { dst := some 37, op := Op.load 3 (Operand.tmp 36), type := 3, pos := "l6_journal.go:100", after := #[{ on := 0, ground := Ground.data }], guard := none }
abbrev qFf17 : Oper := { dst := some 38, op := Op.call { callee := Callee.value (Operand.func 57), args := #[Operand.tmp 37, Operand.const (Value.int IntKind.i64 1000000000)], argTypes := #[3, 3] }, type := 4, pos := "l6_journal.go:100", after := #[{ on := 1, ground := Ground.data }], guard := none }
abbrev qFf18 : Oper := { dst := some 39, op := Op.move (Operand.tmp 38), type := 4, pos := "l6_journal.go:100", after := #[{ on := 2, ground := Ground.data }, { on := 2, ground := Ground.chain }], guard := none }
abbrev qFf19 : Oper := { dst := some 40, op := Op.fieldAddr 30 (Operand.tmp 1) 0, type := 0, pos := "l6_journal.go:100", after := #[{ on := 3, ground := Ground.guard }], guard := some (3, true) }
abbrev qFf20 : Oper := { dst := some 41, op := Op.load 28 (Operand.tmp 40), type := 28, pos := "l6_journal.go:100", after := #[{ on := 4, ground := Ground.data }, { on := 3, ground := Ground.guard }], guard := some (3, true) }
abbrev qFf21 : Oper := { dst := some 42, op := Op.call { callee := Callee.value (Operand.func 62), args := #[Operand.tmp 41], argTypes := #[28] }, type := 3, pos := "l6_journal.go:100", after := #[{ on := 5, ground := Ground.data }, { on := 3, ground := Ground.chain }, { on := 3, ground := Ground.guard }], guard := some (3, true) }
abbrev qFf22 : Oper := { dst := some 43, op := Op.fieldAddr 30 (Operand.tmp 1) 1, type := 0, pos := "l6_journal.go:100", after := #[{ on := 3, ground := Ground.guard }], guard := some (3, true) }
abbrev qFf23 : Oper := { dst := some 44, op := Op.load 3 (Operand.tmp 43), type := 3, pos := "l6_journal.go:100", after := #[{ on := 7, ground := Ground.data }, { on := 3, ground := Ground.guard }], guard := some (3, true) }
abbrev qFf24 : Oper := { dst := some 45, op := Op.binOp BinOp.leq 3 (Operand.tmp 42) (Operand.tmp 44) 3, type := 4, pos := "l6_journal.go:100", after := #[{ on := 6, ground := Ground.data }, { on := 8, ground := Ground.data }, { on := 3, ground := Ground.guard }], guard := some (3, true) }
abbrev qFf25 : Oper := { dst := some 46, op := Op.pick (Operand.tmp 39) (Operand.tmp 45) (Operand.const (Value.bool false)), type := 4, pos := "l6_journal.go:100", after := #[{ on := 3, ground := Ground.data }, { on := 9, ground := Ground.data }], guard := none }
abbrev qFf26 : Oper := { dst := some 47, op := Op.move (Operand.tmp 46), type := 4, pos := "l6_journal.go:100", after := #[{ on := 10, ground := Ground.data }, { on := 6, ground := Ground.chain }], guard := none }
abbrev qFf27 : Oper := { dst := some 48, op := Op.fieldAddr 30 (Operand.tmp 1) 2, type := 0, pos := "l6_journal.go:100", after := #[{ on := 11, ground := Ground.guard }], guard := some (11, true) }
abbrev qFf28 : Oper := { dst := some 49, op := Op.load 3 (Operand.tmp 48), type := 3, pos := "l6_journal.go:100", after := #[{ on := 12, ground := Ground.data }, { on := 11, ground := Ground.guard }], guard := some (11, true) }
abbrev qFf29 : Oper := { dst := some 50, op := Op.call { callee := Callee.value (Operand.func 57), args := #[Operand.tmp 49, Operand.const (Value.int IntKind.i64 1000000000000000)], argTypes := #[3, 3] }, type := 4, pos := "l6_journal.go:101", after := #[{ on := 13, ground := Ground.data }, { on := 11, ground := Ground.chain }, { on := 11, ground := Ground.guard }], guard := some (11, true) }
abbrev qFf30 : Oper := { dst := some 51, op := Op.pick (Operand.tmp 47) (Operand.tmp 50) (Operand.const (Value.bool false)), type := 4, pos := "l6_journal.go:100", after := #[{ on := 11, ground := Ground.data }, { on := 14, ground := Ground.data }], guard := none }
abbrev qFf31 : Oper := { dst := some 52, op := Op.move (Operand.tmp 51), type := 4, pos := "l6_journal.go:100", after := #[{ on := 15, ground := Ground.data }, { on := 14, ground := Ground.chain }], guard := none }
abbrev qFf32 : Oper := { dst := some 53, op := Op.fieldAddr 30 (Operand.tmp 1) 3, type := 0, pos := "l6_journal.go:100", after := #[{ on := 16, ground := Ground.guard }], guard := some (16, true) }
abbrev qFf33 : Oper := { dst := some 54, op := Op.load 3 (Operand.tmp 53), type := 3, pos := "l6_journal.go:100", after := #[{ on := 17, ground := Ground.data }, { on := 16, ground := Ground.guard }], guard := some (16, true) }
abbrev qFf34 : Oper := { dst := some 55, op := Op.call { callee := Callee.value (Operand.func 57), args := #[Operand.tmp 54, Operand.const (Value.int IntKind.i64 1000000000000000)], argTypes := #[3, 3] }, type := 4, pos := "l6_journal.go:101", after := #[{ on := 18, ground := Ground.data }, { on := 16, ground := Ground.chain }, { on := 16, ground := Ground.guard }], guard := some (16, true) }
abbrev qFf35 : Oper := { dst := some 56, op := Op.pick (Operand.tmp 52) (Operand.tmp 55) (Operand.const (Value.bool false)), type := 4, pos := "l6_journal.go:100", after := #[{ on := 16, ground := Ground.data }, { on := 19, ground := Ground.data }], guard := none }
abbrev qFf36 : Oper := { dst := some 57, op := Op.move (Operand.tmp 56), type := 4, pos := "l6_journal.go:100", after := #[{ on := 20, ground := Ground.data }, { on := 19, ground := Ground.chain }], guard := none }
abbrev qFf37 : Oper := { dst := some 58, op := Op.fieldAddr 30 (Operand.tmp 1) 4, type := 0, pos := "l6_journal.go:100", after := #[{ on := 21, ground := Ground.guard }], guard := some (21, true) }
abbrev qFf38 : Oper := { dst := some 59, op := Op.load 3 (Operand.tmp 58), type := 3, pos := "l6_journal.go:100", after := #[{ on := 22, ground := Ground.data }, { on := 21, ground := Ground.guard }], guard := some (21, true) }
abbrev qFf39 : Oper := { dst := some 60, op := Op.call { callee := Callee.value (Operand.func 57), args := #[Operand.tmp 59, Operand.const (Value.int IntKind.i64 1000000000000000)], argTypes := #[3, 3] }, type := 4, pos := "l6_journal.go:101", after := #[{ on := 23, ground := Ground.data }, { on := 21, ground := Ground.chain }, { on := 21, ground := Ground.guard }], guard := some (21, true) }
abbrev qFf40 : Oper := { dst := some 61, op := Op.pick (Operand.tmp 57) (Operand.tmp 60) (Operand.const (Value.bool false)), type := 4, pos := "l6_journal.go:100", after := #[{ on := 21, ground := Ground.data }, { on := 24, ground := Ground.data }], guard := none }
abbrev qFf41 : Oper := { dst := some 2, op := Op.assign (Operand.tmp 61), type := 4, pos := "l6_journal.go:100", after := #[{ on := 25, ground := Ground.data }, { on := 24, ground := Ground.chain }, { on := 0, ground := Ground.phase }, { on := 1, ground := Ground.phase }, { on := 2, ground := Ground.phase }, { on := 3, ground := Ground.phase }, { on := 4, ground := Ground.phase }, { on := 5, ground := Ground.phase }, { on := 6, ground := Ground.phase }, { on := 7, ground := Ground.phase }, { on := 8, ground := Ground.phase }, { on := 9, ground := Ground.phase }, { on := 10, ground := Ground.phase }, { on := 11, ground := Ground.phase }, { on := 12, ground := Ground.phase }, { on := 13, ground := Ground.phase }, { on := 14, ground := Ground.phase }, { on := 15, ground := Ground.phase }, { on := 16, ground := Ground.phase }, { on := 17, ground := Ground.phase }, { on := 18, ground := Ground.phase }, { on := 19, ground := Ground.phase }, { on := 20, ground := Ground.phase }, { on := 21, ground := Ground.phase }, { on := 22, ground := Ground.phase }, { on := 23, ground := Ground.phase }, { on := 24, ground := Ground.phase }, { on := 25, ground := Ground.phase }], guard := none }
theorem allN_and {n : Nat} (p q : Nat → Bool) : allN n (fun k => p k && q k) = (allN n p && allN n q) := by
  rcases h : allN n p
  · rcases h' : allN n (fun k => p k && q k)
    · rfl
    · exfalso
      unfold allN at h h'
      rw [List.all_eq_true] at h'
      rw [List.all_eq_false] at h
      obtain ⟨k, hk, hp⟩ := h
      have := h' k hk
      simp at this
      exact hp this.1
  · rcases h2 : allN n q
    · rcases h' : allN n (fun k => p k && q k)
      · rfl
      · exfalso
        unfold allN at h2 h'
        rw [List.all_eq_true] at h'
        rw [List.all_eq_false] at h2
        obtain ⟨k, hk, hp⟩ := h2
        have := h' k hk
        simp at this
        exact hp this.2
    · refine allN_true fun j hj => ?_
      unfold allN at h h2
      rw [List.all_eq_true] at h h2
      rw [h j (by simpa using hj), h2 j (by simpa using hj)]
      rfl
set_option maxRecDepth 20000 in
set_option maxHeartbeats 4000000 in
theorem iSorted (a : Option Addr) (n c : Nat) (F : Nat → Fil) (w : World) (h : FL w a n F) (hS : Small n F) : Calls Tryd.prog 59 #[.slice a n c, .func (.func 60) #[] #[]] w fun e w' => e = .returned (.bool (allN n (ltN F))) ∧ Below w.heap.size w w' := by
  have hn := hS.n
  have hb0 := Below.refl w.heap.size w
  go_enter Tryd.func59, Tryd.ntmps59
  go_wp2
  go_loopw [5] (fun i wr => ∃ p : Nat, (p = 0 ∨ p < n) ∧ i = .int .i64 (p + 1 : Nat) ∧ (∀ j, j < p + 1 → ltN F j = true) ∧ Below w.heap.size w wr) (fun i _ => n - (intOf i).toNat)
  case atStart => exact ⟨0, Or.inl rfl, rfl, fun j hj => by obtain rfl : j = 0 := by omega
                                                            rfl, hb0⟩
  case round =>
    obtain ⟨p, hk, rfl, hall, hb⟩ := hrel
    by_cases hlt : p + 1 < n
    · obtain ⟨b, off, rfl, c0, c1, c2⟩ := h.later hb (p + 1) hlt
      obtain ⟨b', off', e', f0, f1, f2⟩ := h.later hb p (by omega)
      obtain ⟨rfl, rfl⟩ : b = b' ∧ off = off' := by simpa using e'
      have i0 : (0 : Int) ≤ (p : Int) := by omega
      have i1 : (p : Int) < (n : Int) := by omega
      have i3 : (0 : Int) ≤ (p : Int) + 1 := by omega
      have i4 : (p : Int) + 1 < (n : Int) := by omega
      have i2 : IntKind.i64.wrap (p : Int) = (p : Int) := by rw [IntKind.wrap_i64]; omega
      rcases h7 : Op.bytesLess (F p).s.toList (F (p + 1)).s.toList
      · go_wp2
        refine wp_region_held_drew (S := fun x => Below wr.heap.size wr x) (by kernel_rfl) (bdrew _) (fun hHeld => ?_)
        refine' takeF (i := 0) (oi := qFf0) rfl ⟨by rfl, fun x hSw => ?h1⟩ hHeld ?r1
        case h1 =>
          go_simp
          try with_reducible rfl
        try simp only [Act.put, List.setIfInBounds_toArray, List.set_cons_zero, List.set_cons_succ]
        refine' takeF (i := 1) (oi := qFf1) rfl ⟨by rfl, fun x hSw => ?h2⟩ hHeld ?r2
        case h2 =>
          go_simp
          try with_reducible rfl
        try simp only [Act.put, List.setIfInBounds_toArray, List.set_cons_zero, List.set_cons_succ]
        refine' takeF (i := 2) (oi := qFf2) rfl ⟨by rfl, fun x hSw => ?h3⟩ hHeld ?r3
        case h3 =>
          go_simp
          try with_reducible rfl
        try simp only [Act.put, List.setIfInBounds_toArray, List.set_cons_zero, List.set_cons_succ]
        refine' wpAnyH_take (i := 3) (oi := qFf3) (v := .int .i64 (p : Int)) rfl (by kernel_rfl) (by kernel_rfl) (by kernel_rfl) (fun _ _ _ h => h) (Or.inl ⟨by rfl, fun x hSw => ?hyz1_3⟩) hHeld ?restz1_3
        case hyz1_3 =>
          have k0 := keepB hSw c0; have k1 := keepB hSw c1; have k2 := keepB hSw c2; have k3 := keepB hSw f0; have k4 := keepB hSw f1; have k5 := keepB hSw f2
          go_simp
          try with_reducible rfl
        try simp only [Act.put, List.setIfInBounds_toArray, List.set_cons_zero, List.set_cons_succ]
        refine' wpAnyH_take (i := 4) (oi := qFf4) (v := .pointer (some ⟨b, off + p * 3, none⟩)) rfl (by kernel_rfl) (by kernel_rfl) (by kernel_rfl) (fun _ _ _ h => h) (Or.inl ⟨by rfl, fun x hSw => ?hyz1_4⟩) hHeld ?restz1_4
        case hyz1_4 =>
          have k0 := keepB hSw c0; have k1 := keepB hSw c1; have k2 := keepB hSw c2; have k3 := keepB hSw f0; have k4 := keepB hSw f1; have k5 := keepB hSw f2
          go_simp
          try with_reducible rfl
        try simp only [Act.put, List.setIfInBounds_toArray, List.set_cons_zero, List.set_cons_succ]
        refine' takeF (i := 5) (oi := qFf5) rfl ⟨by rfl, fun x hSw => ?h4⟩ hHeld ?r4
        case h4 =>
          have k0 := keepB hSw c0; have k1 := keepB hSw c1; have k2 := keepB hSw c2; have k3 := keepB hSw f0; have k4 := keepB hSw f1; have k5 := keepB hSw f2
          go_simp
          try with_reducible rfl
        try simp only [Act.put, List.setIfInBounds_toArray, List.set_cons_zero, List.set_cons_succ]
        refine' takeF (i := 7) (oi := qFf6) rfl ⟨by rfl, fun x hSw => ?h5⟩ hHeld ?r5
        case h5 =>
          go_simp
          try with_reducible rfl
        try simp only [Act.put, List.setIfInBounds_toArray, List.set_cons_zero, List.set_cons_succ]
        refine' takeF (i := 8) (oi := qFf7) rfl ⟨by rfl, fun x hSw => ?h6⟩ hHeld ?r6
        case h6 =>
          go_simp
          try with_reducible rfl
        try simp only [Act.put, List.setIfInBounds_toArray, List.set_cons_zero, List.set_cons_succ]
        refine' takeF (i := 9) (oi := qFf8) rfl ⟨by rfl, fun x hSw => ?h7⟩ hHeld ?r7
        case h7 =>
          go_simp
          try with_reducible rfl
        try simp only [Act.put, List.setIfInBounds_toArray, List.set_cons_zero, List.set_cons_succ]
        refine' takeF (i := 10) (oi := qFf9) rfl ⟨by rfl, fun x hSw => ?h8⟩ hHeld ?r8
        case h8 =>
          go_simp
          try with_reducible rfl
        try simp only [Act.put, List.setIfInBounds_toArray, List.set_cons_zero, List.set_cons_succ]
        refine' takeF (i := 11) (oi := qFf10) rfl ⟨by rfl, fun x hSw => ?h9⟩ hHeld ?r9
        case h9 =>
          have k0 := keepB hSw c0; have k1 := keepB hSw c1; have k2 := keepB hSw c2; have k3 := keepB hSw f0; have k4 := keepB hSw f1; have k5 := keepB hSw f2
          go_simp
          try with_reducible rfl
        try simp only [Act.put, List.setIfInBounds_toArray, List.set_cons_zero, List.set_cons_succ]
        refine wpAnyH_ready (rs := [6]) (by kernel_rfl) (by simp) ?_
        refine AllReadyH.cons (o := qFf11) rfl (fun K hK => ?_) AllReadyH.nil
        go_simp
        refine (iFileNm (F p).s (F p).d (F p).y _).mono ?_
        rintro e w1 ⟨rfl, hb1⟩
        refine hK.out _ _ (bstep hHeld hb1) (fun hHeld => ?_)
        clear hK K
        try simp only [Act.put, List.setIfInBounds_toArray, List.set_cons_zero, List.set_cons_succ]
        refine wpAnyH_ready (rs := [12]) (by kernel_rfl) (by simp) ?_
        refine AllReadyH.cons (o := qFf12) rfl (fun K hK => ?_) AllReadyH.nil
        go_simp
        refine (iFileNm (F (p + 1)).s (F (p + 1)).d (F (p + 1)).y _).mono ?_
        rintro e w2 ⟨rfl, hb2⟩
        refine hK.out _ _ (bstep hHeld hb2) (fun hHeld => ?_)
        clear hK K
        try simp only [Act.put, List.setIfInBounds_toArray, List.set_cons_zero, List.set_cons_succ]
        refine wpAnyH_ready (rs := [13]) (by kernel_rfl) (by simp) ?_
        refine AllReadyH.cons (o := qFf13) rfl (fun K hK => ?_) AllReadyH.nil
        go_simp
        refine (cmpLess (F p).s (F (p + 1)).s _).mono ?_
        rw [h7]; rintro e w3 ⟨rfl, rfl⟩
        refine hK.out _ _ (hHeld) (fun hHeld => ?_)
        clear hK K
        try simp only [Act.put, List.setIfInBounds_toArray, List.set_cons_zero, List.set_cons_succ]
        refine' takeF (i := 14) (oi := qFf14) rfl ⟨by rfl, fun x hSw => ?h10⟩ hHeld ?r10
        case h10 =>
          go_simp
          try with_reducible rfl
        try simp only [Act.put, List.setIfInBounds_toArray, List.set_cons_zero, List.set_cons_succ]
        refine wpAnyH_done (by kernel_rfl) ?_ _
        go_wp2
        go_ret
        exact ⟨retB (allN_false (p := ltN F) hlt (by simp [ltN, h7])).symm, bstep hb hHeld⟩
      · go_wp2
        refine wp_region_held_drew (S := fun x => Below wr.heap.size wr x) (by kernel_rfl) (bdrew _) (fun hHeld => ?_)
        refine' takeF (i := 0) (oi := qFf0) rfl ⟨by rfl, fun x hSw => ?h11⟩ hHeld ?r11
        case h11 =>
          go_simp
          try with_reducible rfl
        try simp only [Act.put, List.setIfInBounds_toArray, List.set_cons_zero, List.set_cons_succ]
        refine' takeF (i := 1) (oi := qFf1) rfl ⟨by rfl, fun x hSw => ?h12⟩ hHeld ?r12
        case h12 =>
          go_simp
          try with_reducible rfl
        try simp only [Act.put, List.setIfInBounds_toArray, List.set_cons_zero, List.set_cons_succ]
        refine' takeF (i := 2) (oi := qFf2) rfl ⟨by rfl, fun x hSw => ?h13⟩ hHeld ?r13
        case h13 =>
          go_simp
          try with_reducible rfl
        try simp only [Act.put, List.setIfInBounds_toArray, List.set_cons_zero, List.set_cons_succ]
        refine' wpAnyH_take (i := 3) (oi := qFf3) (v := .int .i64 (p : Int)) rfl (by kernel_rfl) (by kernel_rfl) (by kernel_rfl) (fun _ _ _ h => h) (Or.inl ⟨by rfl, fun x hSw => ?hyz2_3⟩) hHeld ?restz2_3
        case hyz2_3 =>
          have k0 := keepB hSw c0; have k1 := keepB hSw c1; have k2 := keepB hSw c2; have k3 := keepB hSw f0; have k4 := keepB hSw f1; have k5 := keepB hSw f2
          go_simp
          try with_reducible rfl
        try simp only [Act.put, List.setIfInBounds_toArray, List.set_cons_zero, List.set_cons_succ]
        refine' wpAnyH_take (i := 4) (oi := qFf4) (v := .pointer (some ⟨b, off + p * 3, none⟩)) rfl (by kernel_rfl) (by kernel_rfl) (by kernel_rfl) (fun _ _ _ h => h) (Or.inl ⟨by rfl, fun x hSw => ?hyz2_4⟩) hHeld ?restz2_4
        case hyz2_4 =>
          have k0 := keepB hSw c0; have k1 := keepB hSw c1; have k2 := keepB hSw c2; have k3 := keepB hSw f0; have k4 := keepB hSw f1; have k5 := keepB hSw f2
          go_simp
          try with_reducible rfl
        try simp only [Act.put, List.setIfInBounds_toArray, List.set_cons_zero, List.set_cons_succ]
        refine' takeF (i := 5) (oi := qFf5) rfl ⟨by rfl, fun x hSw => ?h14⟩ hHeld ?r14
        case h14 =>
          have k0 := keepB hSw c0; have k1 := keepB hSw c1; have k2 := keepB hSw c2; have k3 := keepB hSw f0; have k4 := keepB hSw f1; have k5 := keepB hSw f2
          go_simp
          try with_reducible rfl
        try simp only [Act.put, List.setIfInBounds_toArray, List.set_cons_zero, List.set_cons_succ]
        refine' takeF (i := 7) (oi := qFf6) rfl ⟨by rfl, fun x hSw => ?h15⟩ hHeld ?r15
        case h15 =>
          go_simp
          try with_reducible rfl
        try simp only [Act.put, List.setIfInBounds_toArray, List.set_cons_zero, List.set_cons_succ]
        refine' takeF (i := 8) (oi := qFf7) rfl ⟨by rfl, fun x hSw => ?h16⟩ hHeld ?r16
        case h16 =>
          go_simp
          try with_reducible rfl
        try simp only [Act.put, List.setIfInBounds_toArray, List.set_cons_zero, List.set_cons_succ]
        refine' takeF (i := 9) (oi := qFf8) rfl ⟨by rfl, fun x hSw => ?h17⟩ hHeld ?r17
        case h17 =>
          go_simp
          try with_reducible rfl
        try simp only [Act.put, List.setIfInBounds_toArray, List.set_cons_zero, List.set_cons_succ]
        refine' takeF (i := 10) (oi := qFf9) rfl ⟨by rfl, fun x hSw => ?h18⟩ hHeld ?r18
        case h18 =>
          go_simp
          try with_reducible rfl
        try simp only [Act.put, List.setIfInBounds_toArray, List.set_cons_zero, List.set_cons_succ]
        refine' takeF (i := 11) (oi := qFf10) rfl ⟨by rfl, fun x hSw => ?h19⟩ hHeld ?r19
        case h19 =>
          have k0 := keepB hSw c0; have k1 := keepB hSw c1; have k2 := keepB hSw c2; have k3 := keepB hSw f0; have k4 := keepB hSw f1; have k5 := keepB hSw f2
          go_simp
          try with_reducible rfl
        try simp only [Act.put, List.setIfInBounds_toArray, List.set_cons_zero, List.set_cons_succ]
        refine wpAnyH_ready (rs := [6]) (by kernel_rfl) (by simp) ?_
        refine AllReadyH.cons (o := qFf11) rfl (fun K hK => ?_) AllReadyH.nil
        go_simp
        refine (iFileNm (F p).s (F p).d (F p).y _).mono ?_
        rintro e w1 ⟨rfl, hb1⟩
        refine hK.out _ _ (bstep hHeld hb1) (fun hHeld => ?_)
        clear hK K
        try simp only [Act.put, List.setIfInBounds_toArray, List.set_cons_zero, List.set_cons_succ]
        refine wpAnyH_ready (rs := [12]) (by kernel_rfl) (by simp) ?_
        refine AllReadyH.cons (o := qFf12) rfl (fun K hK => ?_) AllReadyH.nil
        go_simp
        refine (iFileNm (F (p + 1)).s (F (p + 1)).d (F (p + 1)).y _).mono ?_
        rintro e w2 ⟨rfl, hb2⟩
        refine hK.out _ _ (bstep hHeld hb2) (fun hHeld => ?_)
        clear hK K
        try simp only [Act.put, List.setIfInBounds_toArray, List.set_cons_zero, List.set_cons_succ]
        refine wpAnyH_ready (rs := [13]) (by kernel_rfl) (by simp) ?_
        refine AllReadyH.cons (o := qFf13) rfl (fun K hK => ?_) AllReadyH.nil
        go_simp
        refine (cmpLess (F p).s (F (p + 1)).s _).mono ?_
        rw [h7]; rintro e w3 ⟨rfl, rfl⟩
        refine hK.out _ _ (hHeld) (fun hHeld => ?_)
        clear hK K
        try simp only [Act.put, List.setIfInBounds_toArray, List.set_cons_zero, List.set_cons_succ]
        refine' takeF (i := 14) (oi := qFf14) rfl ⟨by rfl, fun x hSw => ?h20⟩ hHeld ?r20
        case h20 =>
          go_simp
          try with_reducible rfl
        try simp only [Act.put, List.setIfInBounds_toArray, List.set_cons_zero, List.set_cons_succ]
        refine wpAnyH_done (by kernel_rfl) ?_ _
        go_wp2
        go_roundw
        case rel => exact ⟨p + 1, Or.inr hlt, by go_num, fun j hj => by
          by_cases e : j = p + 1
          · subst e; simp [ltN, h7]
          · exact hall j (by omega), bstep hb hHeld⟩
        case measure => simp [intOf]; omega
    · go_wp2
      go_ret
      exact ⟨retB (allN_true fun j hj => hall j (by omega)).symm, hb⟩
theorem okFs_split (n : Nat) (F : Nat → Fil) (x1 x2 x3 x4 : Int) : okFs n F x1 x2 x3 x4 = (decide (n ≤ 300) && allN n (ltN F) && allN n (okFl F) && (btw x1 0 1000000000 && decide ((sumD F n : Int) ≤ x1) && btw x2 0 1000000000000000 && btw x3 0 1000000000000000 && btw x4 0 1000000000000000)) := by
  unfold okFs
  rw [allN_and]
  rcases decide (n ≤ 300) <;> rcases allN n (ltN F) <;> rcases allN n (okFl F) <;> rcases btw x1 0 1000000000 <;> rcases decide ((sumD F n : Int) ≤ x1) <;> rfl
set_option maxRecDepth 20000 in
set_option maxHeartbeats 8000000 in
theorem iValid (a : Option Addr) (n c : Nat) (F : Nat → Fil) (x1 x2 x3 x4 : Int) (x5 : Bool) (w : World) (h : FL w a n F) (hS : Small n F) : Calls Tryd.prog 30 #[.agg #[.slice a n c, .int .i64 x1, .int .i64 x2, .int .i64 x3, .int .i64 x4, .bool x5]] w fun e w' => e = .returned (.bool (okFs n F x1 x2 x3 x4)) ∧ Below w.heap.size w w' := by
  have hn := hS.n
  have hsp := okFs_split n F x1 x2 x3 x4
  have HSP : Hid (okFs n F x1 x2 x3 x4 = (decide (n ≤ 300) && allN n (ltN F) && allN n (okFl F) && (btw x1 0 1000000000 && decide ((sumD F n : Int) ≤ x1) && btw x2 0 1000000000000000 && btw x3 0 1000000000000000 && btw x4 0 1000000000000000))) := hsp
  clear hsp
  have hb0 := bal w (.cells #[.slice a n c, .int .i64 x1, .int .i64 x2, .int .i64 x3, .int .i64 x4, .bool x5] 30)
  have B0 : (w.alloc (.cells #[.slice a n c, .int .i64 x1, .int .i64 x2, .int .i64 x3, .int .i64 x4, .bool x5] 30)).cell? ⟨w.heap.size, 0, none⟩ = some (.slice a n c) := cell_of_row _ _ 0 _ _ _ (heap_alloc_new w _)
  have B1 : (w.alloc (.cells #[.slice a n c, .int .i64 x1, .int .i64 x2, .int .i64 x3, .int .i64 x4, .bool x5] 30)).cell? ⟨w.heap.size, 1, none⟩ = some (.int .i64 x1) := cell_of_row _ _ 1 _ _ _ (heap_alloc_new w _)
  have B2 : (w.alloc (.cells #[.slice a n c, .int .i64 x1, .int .i64 x2, .int .i64 x3, .int .i64 x4, .bool x5] 30)).cell? ⟨w.heap.size, 2, none⟩ = some (.int .i64 x2) := cell_of_row _ _ 2 _ _ _ (heap_alloc_new w _)
  have B3 : (w.alloc (.cells #[.slice a n c, .int .i64 x1, .int .i64 x2, .int .i64 x3, .int .i64 x4, .bool x5] 30)).cell? ⟨w.heap.size, 3, none⟩ = some (.int .i64 x3) := cell_of_row _ _ 3 _ _ _ (heap_alloc_new w _)
  have B4 : (w.alloc (.cells #[.slice a n c, .int .i64 x1, .int .i64 x2, .int .i64 x3, .int .i64 x4, .bool x5] 30)).cell? ⟨w.heap.size, 4, none⟩ = some (.int .i64 x4) := cell_of_row _ _ 4 _ _ _ (heap_alloc_new w _)
  by_cases h1 : 300 < n
  · go_enter Tryd.func30, Tryd.ntmps30
    go_wp2
    go_ret
    exact ⟨retB (by rw [HSP.out]; simp; omega), hb0⟩
  have e1 : decide (n ≤ 300) = true := by simp; omega
  rcases h2 : allN n (ltN F)
  · go_enter Tryd.func30, Tryd.ntmps30
    go_wp2_with (go_at_call 59; refine (iSorted a n c F _ (h.later hb0) hS).mono ?_; rw [h2]; rintro e w1 ⟨rfl, hb1⟩)
    go_ret
    exact ⟨retB (by rw [HSP.out, h2]; simp), bstep hb0 hb1⟩
  go_enter Tryd.func30, Tryd.ntmps30
  go_wp2_with (go_at_call 59; refine (iSorted a n c F _ (h.later hb0) hS).mono ?_; rw [h2]; rintro e w1 ⟨rfl, hb1⟩; have k0 := keepB hb1 B0)
  go_loopw [4, 18] (fun _ i wr => ∃ k : Nat, k ≤ n ∧ i = .int .i64 k ∧ (∀ j, j < k → okFl F j = true) ∧ Below (w.alloc (.cells #[.slice a n c, .int .i64 x1, .int .i64 x2, .int .i64 x3, .int .i64 x4, .bool x5] 30)).heap.size (w.alloc (.cells #[.slice a n c, .int .i64 x1, .int .i64 x2, .int .i64 x3, .int .i64 x4, .bool x5] 30)) wr) (fun _ i _ => n - (intOf i).toNat)
  case atStart => exact ⟨0, by omega, rfl, fun j hj => by omega, hb1⟩
  case round =>
    obtain ⟨k, hk, rfl, hall, hb⟩ := hrel
    have hbw := bstep hb0 hb
    by_cases hlt : k < n
    · obtain ⟨b, off, rfl, c0, c1, c2⟩ := h.later hbw k hlt
      have z1 := hS.s k hlt
      have z2 := hS.d k hlt
      have hb6 := bal wr (.cells #[.string (F k).s, .string (F k).d, .int .i64 (F k).y] 92)
      clear B0 B1 B2 B3 B4 k0
      rcases h4 : okFn (F k).s
      all_goals rcases h5 : btw (F k).y 0 (F k).d.size
      all_goals
        go_wp2_with (first | (go_at_call 61; refine (iFileName _ _ z1).mono ?_; rw [h4]; rintro e w2 ⟨rfl, rfl⟩) | (go_at_call 57; refine (iUpTo _ _ _).mono ?_; rw [h5]; rintro e w2 ⟨rfl, rfl⟩))
        first
          | (go_roundw
             case rel => exact ⟨k + 1, by omega, by go_num, fun j hj => by
               by_cases e : j = k
               · subst e; simp [okFl, h4, h5]
               · exact hall j (by omega), bstep hb hb6⟩
             case measure => simp [intOf]; omega)
          | (go_ret
             exact ⟨retB (by rw [HSP.out, allN_false (p := okFl F) hlt (by simp [okFl, h4, h5])]; simp), bstep hbw hb6⟩)
    · obtain rfl : k = n := by omega
      have HA : allN k (okFl F) = true := allN_true hall
      replace HSP : Hid (okFs k F x1 x2 x3 x4 = (btw x1 0 1000000000 && decide ((sumD F k : Int) ≤ x1) && btw x2 0 1000000000000000 && btw x3 0 1000000000000000 && btw x4 0 1000000000000000)) := by
        show _ = _
        rw [HSP.out, e1, h2, HA]
        simp
      have k0 := keepB hb B0
      have k1 := keepB hb B1
      have k2 := keepB hb B2
      have k3 := keepB hb B3
      have k4 := keepB hb B4
      clear B0 B1 B2 B3 B4
      rcases g1 : btw x1 0 1000000000
      · go_wp2
        refine wp_region_held_drew (S := fun x => Below wr.heap.size wr x) (by kernel_rfl) (bdrew _) (fun hHeld => ?_)
        refine' takeF (i := 0) (oi := qFf15) rfl ⟨by rfl, fun x hSw => ?h21⟩ hHeld ?r21
        case h21 =>
          go_simp
          try with_reducible rfl
        try simp only [Act.put, List.setIfInBounds_toArray, List.set_cons_zero, List.set_cons_succ]
        refine' takeF (i := 1) (oi := qFf16) rfl ⟨by rfl, fun x hSw => ?h22⟩ hHeld ?r22
        case h22 =>
          have j0 := keepB hSw k0; have j1 := keepB hSw k1; have j2 := keepB hSw k2; have j3 := keepB hSw k3; have j4 := keepB hSw k4
          go_simp
          try with_reducible rfl
        try simp only [Act.put, List.setIfInBounds_toArray, List.set_cons_zero, List.set_cons_succ]
        refine wpAnyH_ready (rs := [2]) (by kernel_rfl) (by simp) ?_
        refine AllReadyH.cons (o := qFf17) rfl (fun K hK => ?_) AllReadyH.nil
        go_simp
        refine (iUpTo _ _ _).mono ?_
        rw [g1]; rintro e w2 ⟨rfl, rfl⟩
        refine hK.out _ _ (hHeld) (fun hHeld => ?_)
        clear hK K
        try simp only [Act.put, List.setIfInBounds_toArray, List.set_cons_zero, List.set_cons_succ]
        refine' takeF (i := 3) (oi := qFf18) rfl ⟨by rfl, fun x hSw => ?h23⟩ hHeld ?r23
        case h23 =>
          go_simp
          try with_reducible rfl
        try simp only [Act.put, List.setIfInBounds_toArray, List.set_cons_zero, List.set_cons_succ]
        refine wpAnyH_take (i := 4) (oi := qFf19) (v := undef) rfl (by kernel_rfl) (by kernel_rfl) (by kernel_rfl) (fun _ _ _ h => h) (Or.inr ⟨by rfl, rfl⟩) hHeld ?_
        try simp only [Act.put, List.setIfInBounds_toArray, List.set_cons_zero, List.set_cons_succ]
        refine wpAnyH_take (i := 5) (oi := qFf20) (v := undef) rfl (by kernel_rfl) (by kernel_rfl) (by kernel_rfl) (fun _ _ _ h => h) (Or.inr ⟨by rfl, rfl⟩) hHeld ?_
        try simp only [Act.put, List.setIfInBounds_toArray, List.set_cons_zero, List.set_cons_succ]
        refine wpAnyH_take (i := 6) (oi := qFf21) (v := undef) rfl (by kernel_rfl) (by kernel_rfl) (by kernel_rfl) (fun _ _ _ h => h) (Or.inr ⟨by rfl, rfl⟩) hHeld ?_
        try simp only [Act.put, List.setIfInBounds_toArray, List.set_cons_zero, List.set_cons_succ]
        refine wpAnyH_take (i := 7) (oi := qFf22) (v := undef) rfl (by kernel_rfl) (by kernel_rfl) (by kernel_rfl) (fun _ _ _ h => h) (Or.inr ⟨by rfl, rfl⟩) hHeld ?_
        try simp only [Act.put, List.setIfInBounds_toArray, List.set_cons_zero, List.set_cons_succ]
        refine wpAnyH_take (i := 8) (oi := qFf23) (v := undef) rfl (by kernel_rfl) (by kernel_rfl) (by kernel_rfl) (fun _ _ _ h => h) (Or.inr ⟨by rfl, rfl⟩) hHeld ?_
        try simp only [Act.put, List.setIfInBounds_toArray, List.set_cons_zero, List.set_cons_succ]
        refine wpAnyH_take (i := 9) (oi := qFf24) (v := undef) rfl (by kernel_rfl) (by kernel_rfl) (by kernel_rfl) (fun _ _ _ h => h) (Or.inr ⟨by rfl, rfl⟩) hHeld ?_
        try simp only [Act.put, List.setIfInBounds_toArray, List.set_cons_zero, List.set_cons_succ]
        refine' takeF (i := 10) (oi := qFf25) rfl ⟨by rfl, fun x hSw => ?h24⟩ hHeld ?r24
        case h24 =>
          go_simp
          try with_reducible rfl
        try simp only [Act.put, List.setIfInBounds_toArray, List.set_cons_zero, List.set_cons_succ]
        refine' takeF (i := 11) (oi := qFf26) rfl ⟨by rfl, fun x hSw => ?h25⟩ hHeld ?r25
        case h25 =>
          go_simp
          try with_reducible rfl
        try simp only [Act.put, List.setIfInBounds_toArray, List.set_cons_zero, List.set_cons_succ]
        refine wpAnyH_take (i := 12) (oi := qFf27) (v := undef) rfl (by kernel_rfl) (by kernel_rfl) (by kernel_rfl) (fun _ _ _ h => h) (Or.inr ⟨by rfl, rfl⟩) hHeld ?_
        try simp only [Act.put, List.setIfInBounds_toArray, List.set_cons_zero, List.set_cons_succ]
        refine wpAnyH_take (i := 13) (oi := qFf28) (v := undef) rfl (by kernel_rfl) (by kernel_rfl) (by kernel_rfl) (fun _ _ _ h => h) (Or.inr ⟨by rfl, rfl⟩) hHeld ?_
        try simp only [Act.put, List.setIfInBounds_toArray, List.set_cons_zero, List.set_cons_succ]
        refine wpAnyH_take (i := 14) (oi := qFf29) (v := undef) rfl (by kernel_rfl) (by kernel_rfl) (by kernel_rfl) (fun _ _ _ h => h) (Or.inr ⟨by rfl, rfl⟩) hHeld ?_
        try simp only [Act.put, List.setIfInBounds_toArray, List.set_cons_zero, List.set_cons_succ]
        refine' takeF (i := 15) (oi := qFf30) rfl ⟨by rfl, fun x hSw => ?h26⟩ hHeld ?r26
        case h26 =>
          go_simp
          try with_reducible rfl
        try simp only [Act.put, List.setIfInBounds_toArray, List.set_cons_zero, List.set_cons_succ]
        refine' takeF (i := 16) (oi := qFf31) rfl ⟨by rfl, fun x hSw => ?h27⟩ hHeld ?r27
        case h27 =>
          go_simp
          try with_reducible rfl
        try simp only [Act.put, List.setIfInBounds_toArray, List.set_cons_zero, List.set_cons_succ]
        refine wpAnyH_take (i := 17) (oi := qFf32) (v := undef) rfl (by kernel_rfl) (by kernel_rfl) (by kernel_rfl) (fun _ _ _ h => h) (Or.inr ⟨by rfl, rfl⟩) hHeld ?_
        try simp only [Act.put, List.setIfInBounds_toArray, List.set_cons_zero, List.set_cons_succ]
        refine wpAnyH_take (i := 18) (oi := qFf33) (v := undef) rfl (by kernel_rfl) (by kernel_rfl) (by kernel_rfl) (fun _ _ _ h => h) (Or.inr ⟨by rfl, rfl⟩) hHeld ?_
        try simp only [Act.put, List.setIfInBounds_toArray, List.set_cons_zero, List.set_cons_succ]
        refine wpAnyH_take (i := 19) (oi := qFf34) (v := undef) rfl (by kernel_rfl) (by kernel_rfl) (by kernel_rfl) (fun _ _ _ h => h) (Or.inr ⟨by rfl, rfl⟩) hHeld ?_
        try simp only [Act.put, List.setIfInBounds_toArray, List.set_cons_zero, List.set_cons_succ]
        refine' takeF (i := 20) (oi := qFf35) rfl ⟨by rfl, fun x hSw => ?h28⟩ hHeld ?r28
        case h28 =>
          go_simp
          try with_reducible rfl
        try simp only [Act.put, List.setIfInBounds_toArray, List.set_cons_zero, List.set_cons_succ]
        refine' takeF (i := 21) (oi := qFf36) rfl ⟨by rfl, fun x hSw => ?h29⟩ hHeld ?r29
        case h29 =>
          go_simp
          try with_reducible rfl
        try simp only [Act.put, List.setIfInBounds_toArray, List.set_cons_zero, List.set_cons_succ]
        refine wpAnyH_take (i := 22) (oi := qFf37) (v := undef) rfl (by kernel_rfl) (by kernel_rfl) (by kernel_rfl) (fun _ _ _ h => h) (Or.inr ⟨by rfl, rfl⟩) hHeld ?_
        try simp only [Act.put, List.setIfInBounds_toArray, List.set_cons_zero, List.set_cons_succ]
        refine wpAnyH_take (i := 23) (oi := qFf38) (v := undef) rfl (by kernel_rfl) (by kernel_rfl) (by kernel_rfl) (fun _ _ _ h => h) (Or.inr ⟨by rfl, rfl⟩) hHeld ?_
        try simp only [Act.put, List.setIfInBounds_toArray, List.set_cons_zero, List.set_cons_succ]
        refine wpAnyH_take (i := 24) (oi := qFf39) (v := undef) rfl (by kernel_rfl) (by kernel_rfl) (by kernel_rfl) (fun _ _ _ h => h) (Or.inr ⟨by rfl, rfl⟩) hHeld ?_
        try simp only [Act.put, List.setIfInBounds_toArray, List.set_cons_zero, List.set_cons_succ]
        refine' takeF (i := 25) (oi := qFf40) rfl ⟨by rfl, fun x hSw => ?h30⟩ hHeld ?r30
        case h30 =>
          go_simp
          try with_reducible rfl
        try simp only [Act.put, List.setIfInBounds_toArray, List.set_cons_zero, List.set_cons_succ]
        refine' takeF (i := 26) (oi := qFf41) rfl ⟨by rfl, fun x hSw => ?h31⟩ hHeld ?r31
        case h31 =>
          go_simp
          try with_reducible rfl
        try simp only [Act.put, List.setIfInBounds_toArray, List.set_cons_zero, List.set_cons_succ]
        refine wpAnyH_done (by kernel_rfl) ?_ _
        go_wp2
        go_ret
        exact ⟨retB (by rw [HSP.out, g1]; simp), bstep hbw hHeld⟩
      rcases d1 : decide ((sumD F k : Int) ≤ x1)
      · go_wp2
        refine wp_region_held_drew (S := fun x => Below wr.heap.size wr x) (by kernel_rfl) (bdrew _) (fun hHeld => ?_)
        refine' takeF (i := 0) (oi := qFf15) rfl ⟨by rfl, fun x hSw => ?h32⟩ hHeld ?r32
        case h32 =>
          go_simp
          try with_reducible rfl
        try simp only [Act.put, List.setIfInBounds_toArray, List.set_cons_zero, List.set_cons_succ]
        refine' takeF (i := 1) (oi := qFf16) rfl ⟨by rfl, fun x hSw => ?h33⟩ hHeld ?r33
        case h33 =>
          have j0 := keepB hSw k0; have j1 := keepB hSw k1; have j2 := keepB hSw k2; have j3 := keepB hSw k3; have j4 := keepB hSw k4
          go_simp
          try with_reducible rfl
        try simp only [Act.put, List.setIfInBounds_toArray, List.set_cons_zero, List.set_cons_succ]
        refine wpAnyH_ready (rs := [2]) (by kernel_rfl) (by simp) ?_
        refine AllReadyH.cons (o := qFf17) rfl (fun K hK => ?_) AllReadyH.nil
        go_simp
        refine (iUpTo _ _ _).mono ?_
        rw [g1]; rintro e w2 ⟨rfl, rfl⟩
        refine hK.out _ _ (hHeld) (fun hHeld => ?_)
        clear hK K
        try simp only [Act.put, List.setIfInBounds_toArray, List.set_cons_zero, List.set_cons_succ]
        refine' takeF (i := 3) (oi := qFf18) rfl ⟨by rfl, fun x hSw => ?h34⟩ hHeld ?r34
        case h34 =>
          go_simp
          try with_reducible rfl
        try simp only [Act.put, List.setIfInBounds_toArray, List.set_cons_zero, List.set_cons_succ]
        refine' takeF (i := 4) (oi := qFf19) rfl ⟨by rfl, fun x hSw => ?h35⟩ hHeld ?r35
        case h35 =>
          go_simp
          try with_reducible rfl
        try simp only [Act.put, List.setIfInBounds_toArray, List.set_cons_zero, List.set_cons_succ]
        refine' takeF (i := 5) (oi := qFf20) rfl ⟨by rfl, fun x hSw => ?h36⟩ hHeld ?r36
        case h36 =>
          have j0 := keepB hSw k0; have j1 := keepB hSw k1; have j2 := keepB hSw k2; have j3 := keepB hSw k3; have j4 := keepB hSw k4
          go_simp
          try with_reducible rfl
        try simp only [Act.put, List.setIfInBounds_toArray, List.set_cons_zero, List.set_cons_succ]
        refine' takeF (i := 7) (oi := qFf22) rfl ⟨by rfl, fun x hSw => ?h37⟩ hHeld ?r37
        case h37 =>
          go_simp
          try with_reducible rfl
        try simp only [Act.put, List.setIfInBounds_toArray, List.set_cons_zero, List.set_cons_succ]
        refine' takeF (i := 8) (oi := qFf23) rfl ⟨by rfl, fun x hSw => ?h38⟩ hHeld ?r38
        case h38 =>
          have j0 := keepB hSw k0; have j1 := keepB hSw k1; have j2 := keepB hSw k2; have j3 := keepB hSw k3; have j4 := keepB hSw k4
          go_simp
          try with_reducible rfl
        try simp only [Act.put, List.setIfInBounds_toArray, List.set_cons_zero, List.set_cons_succ]
        refine wpAnyH_ready (rs := [6]) (by kernel_rfl) (by simp) ?_
        refine AllReadyH.cons (o := qFf21) rfl (fun K hK => ?_) AllReadyH.nil
        go_simp
        refine (iBytes a k c F _ (h.later (bstep hbw hHeld)) hS).mono ?_
        rintro e w3 ⟨rfl, hb3⟩
        refine hK.out _ _ (bstep hHeld hb3) (fun hHeld => ?_)
        clear hK K
        try simp only [Act.put, List.setIfInBounds_toArray, List.set_cons_zero, List.set_cons_succ]
        refine' takeF (i := 9) (oi := qFf24) rfl ⟨by rfl, fun x hSw => ?h39⟩ hHeld ?r39
        case h39 =>
          go_simp
          try with_reducible rfl
        try simp only [Act.put, List.setIfInBounds_toArray, List.set_cons_zero, List.set_cons_succ]
        refine' takeF (i := 10) (oi := qFf25) rfl ⟨by rfl, fun x hSw => ?h40⟩ hHeld ?r40
        case h40 =>
          go_simp
          try with_reducible rfl
        try simp only [Act.put, List.setIfInBounds_toArray, List.set_cons_zero, List.set_cons_succ]
        refine' takeF (i := 11) (oi := qFf26) rfl ⟨by rfl, fun x hSw => ?h41⟩ hHeld ?r41
        case h41 =>
          go_simp
          try with_reducible rfl
        try simp only [Act.put, List.setIfInBounds_toArray, List.set_cons_zero, List.set_cons_succ]
        refine wpAnyH_take (i := 12) (oi := qFf27) (v := undef) rfl (by kernel_rfl) (by kernel_rfl) (by kernel_rfl) (fun _ _ _ h => h) (Or.inr ⟨by rfl, rfl⟩) hHeld ?_
        try simp only [Act.put, List.setIfInBounds_toArray, List.set_cons_zero, List.set_cons_succ]
        refine wpAnyH_take (i := 13) (oi := qFf28) (v := undef) rfl (by kernel_rfl) (by kernel_rfl) (by kernel_rfl) (fun _ _ _ h => h) (Or.inr ⟨by rfl, rfl⟩) hHeld ?_
        try simp only [Act.put, List.setIfInBounds_toArray, List.set_cons_zero, List.set_cons_succ]
        refine wpAnyH_take (i := 14) (oi := qFf29) (v := undef) rfl (by kernel_rfl) (by kernel_rfl) (by kernel_rfl) (fun _ _ _ h => h) (Or.inr ⟨by rfl, rfl⟩) hHeld ?_
        try simp only [Act.put, List.setIfInBounds_toArray, List.set_cons_zero, List.set_cons_succ]
        refine' takeF (i := 15) (oi := qFf30) rfl ⟨by rfl, fun x hSw => ?h42⟩ hHeld ?r42
        case h42 =>
          go_simp
          try with_reducible rfl
        try simp only [Act.put, List.setIfInBounds_toArray, List.set_cons_zero, List.set_cons_succ]
        refine' takeF (i := 16) (oi := qFf31) rfl ⟨by rfl, fun x hSw => ?h43⟩ hHeld ?r43
        case h43 =>
          go_simp
          try with_reducible rfl
        try simp only [Act.put, List.setIfInBounds_toArray, List.set_cons_zero, List.set_cons_succ]
        refine wpAnyH_take (i := 17) (oi := qFf32) (v := undef) rfl (by kernel_rfl) (by kernel_rfl) (by kernel_rfl) (fun _ _ _ h => h) (Or.inr ⟨by rfl, rfl⟩) hHeld ?_
        try simp only [Act.put, List.setIfInBounds_toArray, List.set_cons_zero, List.set_cons_succ]
        refine wpAnyH_take (i := 18) (oi := qFf33) (v := undef) rfl (by kernel_rfl) (by kernel_rfl) (by kernel_rfl) (fun _ _ _ h => h) (Or.inr ⟨by rfl, rfl⟩) hHeld ?_
        try simp only [Act.put, List.setIfInBounds_toArray, List.set_cons_zero, List.set_cons_succ]
        refine wpAnyH_take (i := 19) (oi := qFf34) (v := undef) rfl (by kernel_rfl) (by kernel_rfl) (by kernel_rfl) (fun _ _ _ h => h) (Or.inr ⟨by rfl, rfl⟩) hHeld ?_
        try simp only [Act.put, List.setIfInBounds_toArray, List.set_cons_zero, List.set_cons_succ]
        refine' takeF (i := 20) (oi := qFf35) rfl ⟨by rfl, fun x hSw => ?h44⟩ hHeld ?r44
        case h44 =>
          go_simp
          try with_reducible rfl
        try simp only [Act.put, List.setIfInBounds_toArray, List.set_cons_zero, List.set_cons_succ]
        refine' takeF (i := 21) (oi := qFf36) rfl ⟨by rfl, fun x hSw => ?h45⟩ hHeld ?r45
        case h45 =>
          go_simp
          try with_reducible rfl
        try simp only [Act.put, List.setIfInBounds_toArray, List.set_cons_zero, List.set_cons_succ]
        refine wpAnyH_take (i := 22) (oi := qFf37) (v := undef) rfl (by kernel_rfl) (by kernel_rfl) (by kernel_rfl) (fun _ _ _ h => h) (Or.inr ⟨by rfl, rfl⟩) hHeld ?_
        try simp only [Act.put, List.setIfInBounds_toArray, List.set_cons_zero, List.set_cons_succ]
        refine wpAnyH_take (i := 23) (oi := qFf38) (v := undef) rfl (by kernel_rfl) (by kernel_rfl) (by kernel_rfl) (fun _ _ _ h => h) (Or.inr ⟨by rfl, rfl⟩) hHeld ?_
        try simp only [Act.put, List.setIfInBounds_toArray, List.set_cons_zero, List.set_cons_succ]
        refine wpAnyH_take (i := 24) (oi := qFf39) (v := undef) rfl (by kernel_rfl) (by kernel_rfl) (by kernel_rfl) (fun _ _ _ h => h) (Or.inr ⟨by rfl, rfl⟩) hHeld ?_
        try simp only [Act.put, List.setIfInBounds_toArray, List.set_cons_zero, List.set_cons_succ]
        refine' takeF (i := 25) (oi := qFf40) rfl ⟨by rfl, fun x hSw => ?h46⟩ hHeld ?r46
        case h46 =>
          go_simp
          try with_reducible rfl
        try simp only [Act.put, List.setIfInBounds_toArray, List.set_cons_zero, List.set_cons_succ]
        refine' takeF (i := 26) (oi := qFf41) rfl ⟨by rfl, fun x hSw => ?h47⟩ hHeld ?r47
        case h47 =>
          go_simp
          try with_reducible rfl
        try simp only [Act.put, List.setIfInBounds_toArray, List.set_cons_zero, List.set_cons_succ]
        refine wpAnyH_done (by kernel_rfl) ?_ _
        go_wp2
        go_ret
        exact ⟨retB (by rw [HSP.out, d1]; simp), bstep hbw hHeld⟩
      rcases g2 : btw x2 0 1000000000000000
      · go_wp2
        refine wp_region_held_drew (S := fun x => Below wr.heap.size wr x) (by kernel_rfl) (bdrew _) (fun hHeld => ?_)
        refine' takeF (i := 0) (oi := qFf15) rfl ⟨by rfl, fun x hSw => ?h48⟩ hHeld ?r48
        case h48 =>
          go_simp
          try with_reducible rfl
        try simp only [Act.put, List.setIfInBounds_toArray, List.set_cons_zero, List.set_cons_succ]
        refine' takeF (i := 1) (oi := qFf16) rfl ⟨by rfl, fun x hSw => ?h49⟩ hHeld ?r49
        case h49 =>
          have j0 := keepB hSw k0; have j1 := keepB hSw k1; have j2 := keepB hSw k2; have j3 := keepB hSw k3; have j4 := keepB hSw k4
          go_simp
          try with_reducible rfl
        try simp only [Act.put, List.setIfInBounds_toArray, List.set_cons_zero, List.set_cons_succ]
        refine wpAnyH_ready (rs := [2]) (by kernel_rfl) (by simp) ?_
        refine AllReadyH.cons (o := qFf17) rfl (fun K hK => ?_) AllReadyH.nil
        go_simp
        refine (iUpTo _ _ _).mono ?_
        rw [g1]; rintro e w2 ⟨rfl, rfl⟩
        refine hK.out _ _ (hHeld) (fun hHeld => ?_)
        clear hK K
        try simp only [Act.put, List.setIfInBounds_toArray, List.set_cons_zero, List.set_cons_succ]
        refine' takeF (i := 3) (oi := qFf18) rfl ⟨by rfl, fun x hSw => ?h50⟩ hHeld ?r50
        case h50 =>
          go_simp
          try with_reducible rfl
        try simp only [Act.put, List.setIfInBounds_toArray, List.set_cons_zero, List.set_cons_succ]
        refine' takeF (i := 4) (oi := qFf19) rfl ⟨by rfl, fun x hSw => ?h51⟩ hHeld ?r51
        case h51 =>
          go_simp
          try with_reducible rfl
        try simp only [Act.put, List.setIfInBounds_toArray, List.set_cons_zero, List.set_cons_succ]
        refine' takeF (i := 5) (oi := qFf20) rfl ⟨by rfl, fun x hSw => ?h52⟩ hHeld ?r52
        case h52 =>
          have j0 := keepB hSw k0; have j1 := keepB hSw k1; have j2 := keepB hSw k2; have j3 := keepB hSw k3; have j4 := keepB hSw k4
          go_simp
          try with_reducible rfl
        try simp only [Act.put, List.setIfInBounds_toArray, List.set_cons_zero, List.set_cons_succ]
        refine' takeF (i := 7) (oi := qFf22) rfl ⟨by rfl, fun x hSw => ?h53⟩ hHeld ?r53
        case h53 =>
          go_simp
          try with_reducible rfl
        try simp only [Act.put, List.setIfInBounds_toArray, List.set_cons_zero, List.set_cons_succ]
        refine' takeF (i := 8) (oi := qFf23) rfl ⟨by rfl, fun x hSw => ?h54⟩ hHeld ?r54
        case h54 =>
          have j0 := keepB hSw k0; have j1 := keepB hSw k1; have j2 := keepB hSw k2; have j3 := keepB hSw k3; have j4 := keepB hSw k4
          go_simp
          try with_reducible rfl
        try simp only [Act.put, List.setIfInBounds_toArray, List.set_cons_zero, List.set_cons_succ]
        refine wpAnyH_ready (rs := [6]) (by kernel_rfl) (by simp) ?_
        refine AllReadyH.cons (o := qFf21) rfl (fun K hK => ?_) AllReadyH.nil
        go_simp
        refine (iBytes a k c F _ (h.later (bstep hbw hHeld)) hS).mono ?_
        rintro e w3 ⟨rfl, hb3⟩
        refine hK.out _ _ (bstep hHeld hb3) (fun hHeld => ?_)
        clear hK K
        try simp only [Act.put, List.setIfInBounds_toArray, List.set_cons_zero, List.set_cons_succ]
        refine' takeF (i := 9) (oi := qFf24) rfl ⟨by rfl, fun x hSw => ?h55⟩ hHeld ?r55
        case h55 =>
          go_simp
          try with_reducible rfl
        try simp only [Act.put, List.setIfInBounds_toArray, List.set_cons_zero, List.set_cons_succ]
        refine' takeF (i := 10) (oi := qFf25) rfl ⟨by rfl, fun x hSw => ?h56⟩ hHeld ?r56
        case h56 =>
          go_simp
          try with_reducible rfl
        try simp only [Act.put, List.setIfInBounds_toArray, List.set_cons_zero, List.set_cons_succ]
        refine' takeF (i := 11) (oi := qFf26) rfl ⟨by rfl, fun x hSw => ?h57⟩ hHeld ?r57
        case h57 =>
          go_simp
          try with_reducible rfl
        try simp only [Act.put, List.setIfInBounds_toArray, List.set_cons_zero, List.set_cons_succ]
        refine' takeF (i := 12) (oi := qFf27) rfl ⟨by rfl, fun x hSw => ?h58⟩ hHeld ?r58
        case h58 =>
          go_simp
          try with_reducible rfl
        try simp only [Act.put, List.setIfInBounds_toArray, List.set_cons_zero, List.set_cons_succ]
        refine' takeF (i := 13) (oi := qFf28) rfl ⟨by rfl, fun x hSw => ?h59⟩ hHeld ?r59
        case h59 =>
          have j0 := keepB hSw k0; have j1 := keepB hSw k1; have j2 := keepB hSw k2; have j3 := keepB hSw k3; have j4 := keepB hSw k4
          go_simp
          try with_reducible rfl
        try simp only [Act.put, List.setIfInBounds_toArray, List.set_cons_zero, List.set_cons_succ]
        refine wpAnyH_ready (rs := [14]) (by kernel_rfl) (by simp) ?_
        refine AllReadyH.cons (o := qFf29) rfl (fun K hK => ?_) AllReadyH.nil
        go_simp
        refine (iUpTo _ _ _).mono ?_
        rw [g2]; rintro e w2 ⟨rfl, rfl⟩
        refine hK.out _ _ (hHeld) (fun hHeld => ?_)
        clear hK K
        try simp only [Act.put, List.setIfInBounds_toArray, List.set_cons_zero, List.set_cons_succ]
        refine' takeF (i := 15) (oi := qFf30) rfl ⟨by rfl, fun x hSw => ?h60⟩ hHeld ?r60
        case h60 =>
          go_simp
          try with_reducible rfl
        try simp only [Act.put, List.setIfInBounds_toArray, List.set_cons_zero, List.set_cons_succ]
        refine' takeF (i := 16) (oi := qFf31) rfl ⟨by rfl, fun x hSw => ?h61⟩ hHeld ?r61
        case h61 =>
          go_simp
          try with_reducible rfl
        try simp only [Act.put, List.setIfInBounds_toArray, List.set_cons_zero, List.set_cons_succ]
        refine wpAnyH_take (i := 17) (oi := qFf32) (v := undef) rfl (by kernel_rfl) (by kernel_rfl) (by kernel_rfl) (fun _ _ _ h => h) (Or.inr ⟨by rfl, rfl⟩) hHeld ?_
        try simp only [Act.put, List.setIfInBounds_toArray, List.set_cons_zero, List.set_cons_succ]
        refine wpAnyH_take (i := 18) (oi := qFf33) (v := undef) rfl (by kernel_rfl) (by kernel_rfl) (by kernel_rfl) (fun _ _ _ h => h) (Or.inr ⟨by rfl, rfl⟩) hHeld ?_
        try simp only [Act.put, List.setIfInBounds_toArray, List.set_cons_zero, List.set_cons_succ]
        refine wpAnyH_take (i := 19) (oi := qFf34) (v := undef) rfl (by kernel_rfl) (by kernel_rfl) (by kernel_rfl) (fun _ _ _ h => h) (Or.inr ⟨by rfl, rfl⟩) hHeld ?_
        try simp only [Act.put, List.setIfInBounds_toArray, List.set_cons_zero, List.set_cons_succ]
        refine' takeF (i := 20) (oi := qFf35) rfl ⟨by rfl, fun x hSw => ?h62⟩ hHeld ?r62
        case h62 =>
          go_simp
          try with_reducible rfl
        try simp only [Act.put, List.setIfInBounds_toArray, List.set_cons_zero, List.set_cons_succ]
        refine' takeF (i := 21) (oi := qFf36) rfl ⟨by rfl, fun x hSw => ?h63⟩ hHeld ?r63
        case h63 =>
          go_simp
          try with_reducible rfl
        try simp only [Act.put, List.setIfInBounds_toArray, List.set_cons_zero, List.set_cons_succ]
        refine wpAnyH_take (i := 22) (oi := qFf37) (v := undef) rfl (by kernel_rfl) (by kernel_rfl) (by kernel_rfl) (fun _ _ _ h => h) (Or.inr ⟨by rfl, rfl⟩) hHeld ?_
        try simp only [Act.put, List.setIfInBounds_toArray, List.set_cons_zero, List.set_cons_succ]
        refine wpAnyH_take (i := 23) (oi := qFf38) (v := undef) rfl (by kernel_rfl) (by kernel_rfl) (by kernel_rfl) (fun _ _ _ h => h) (Or.inr ⟨by rfl, rfl⟩) hHeld ?_
        try simp only [Act.put, List.setIfInBounds_toArray, List.set_cons_zero, List.set_cons_succ]
        refine wpAnyH_take (i := 24) (oi := qFf39) (v := undef) rfl (by kernel_rfl) (by kernel_rfl) (by kernel_rfl) (fun _ _ _ h => h) (Or.inr ⟨by rfl, rfl⟩) hHeld ?_
        try simp only [Act.put, List.setIfInBounds_toArray, List.set_cons_zero, List.set_cons_succ]
        refine' takeF (i := 25) (oi := qFf40) rfl ⟨by rfl, fun x hSw => ?h64⟩ hHeld ?r64
        case h64 =>
          go_simp
          try with_reducible rfl
        try simp only [Act.put, List.setIfInBounds_toArray, List.set_cons_zero, List.set_cons_succ]
        refine' takeF (i := 26) (oi := qFf41) rfl ⟨by rfl, fun x hSw => ?h65⟩ hHeld ?r65
        case h65 =>
          go_simp
          try with_reducible rfl
        try simp only [Act.put, List.setIfInBounds_toArray, List.set_cons_zero, List.set_cons_succ]
        refine wpAnyH_done (by kernel_rfl) ?_ _
        go_wp2
        go_ret
        exact ⟨retB (by rw [HSP.out, g2]; simp), bstep hbw hHeld⟩
      rcases g3 : btw x3 0 1000000000000000
      · go_wp2
        refine wp_region_held_drew (S := fun x => Below wr.heap.size wr x) (by kernel_rfl) (bdrew _) (fun hHeld => ?_)
        refine' takeF (i := 0) (oi := qFf15) rfl ⟨by rfl, fun x hSw => ?h66⟩ hHeld ?r66
        case h66 =>
          go_simp
          try with_reducible rfl
        try simp only [Act.put, List.setIfInBounds_toArray, List.set_cons_zero, List.set_cons_succ]
        refine' takeF (i := 1) (oi := qFf16) rfl ⟨by rfl, fun x hSw => ?h67⟩ hHeld ?r67
        case h67 =>
          have j0 := keepB hSw k0; have j1 := keepB hSw k1; have j2 := keepB hSw k2; have j3 := keepB hSw k3; have j4 := keepB hSw k4
          go_simp
          try with_reducible rfl
        try simp only [Act.put, List.setIfInBounds_toArray, List.set_cons_zero, List.set_cons_succ]
        refine wpAnyH_ready (rs := [2]) (by kernel_rfl) (by simp) ?_
        refine AllReadyH.cons (o := qFf17) rfl (fun K hK => ?_) AllReadyH.nil
        go_simp
        refine (iUpTo _ _ _).mono ?_
        rw [g1]; rintro e w2 ⟨rfl, rfl⟩
        refine hK.out _ _ (hHeld) (fun hHeld => ?_)
        clear hK K
        try simp only [Act.put, List.setIfInBounds_toArray, List.set_cons_zero, List.set_cons_succ]
        refine' takeF (i := 3) (oi := qFf18) rfl ⟨by rfl, fun x hSw => ?h68⟩ hHeld ?r68
        case h68 =>
          go_simp
          try with_reducible rfl
        try simp only [Act.put, List.setIfInBounds_toArray, List.set_cons_zero, List.set_cons_succ]
        refine' takeF (i := 4) (oi := qFf19) rfl ⟨by rfl, fun x hSw => ?h69⟩ hHeld ?r69
        case h69 =>
          go_simp
          try with_reducible rfl
        try simp only [Act.put, List.setIfInBounds_toArray, List.set_cons_zero, List.set_cons_succ]
        refine' takeF (i := 5) (oi := qFf20) rfl ⟨by rfl, fun x hSw => ?h70⟩ hHeld ?r70
        case h70 =>
          have j0 := keepB hSw k0; have j1 := keepB hSw k1; have j2 := keepB hSw k2; have j3 := keepB hSw k3; have j4 := keepB hSw k4
          go_simp
          try with_reducible rfl
        try simp only [Act.put, List.setIfInBounds_toArray, List.set_cons_zero, List.set_cons_succ]
        refine' takeF (i := 7) (oi := qFf22) rfl ⟨by rfl, fun x hSw => ?h71⟩ hHeld ?r71
        case h71 =>
          go_simp
          try with_reducible rfl
        try simp only [Act.put, List.setIfInBounds_toArray, List.set_cons_zero, List.set_cons_succ]
        refine' takeF (i := 8) (oi := qFf23) rfl ⟨by rfl, fun x hSw => ?h72⟩ hHeld ?r72
        case h72 =>
          have j0 := keepB hSw k0; have j1 := keepB hSw k1; have j2 := keepB hSw k2; have j3 := keepB hSw k3; have j4 := keepB hSw k4
          go_simp
          try with_reducible rfl
        try simp only [Act.put, List.setIfInBounds_toArray, List.set_cons_zero, List.set_cons_succ]
        refine wpAnyH_ready (rs := [6]) (by kernel_rfl) (by simp) ?_
        refine AllReadyH.cons (o := qFf21) rfl (fun K hK => ?_) AllReadyH.nil
        go_simp
        refine (iBytes a k c F _ (h.later (bstep hbw hHeld)) hS).mono ?_
        rintro e w3 ⟨rfl, hb3⟩
        refine hK.out _ _ (bstep hHeld hb3) (fun hHeld => ?_)
        clear hK K
        try simp only [Act.put, List.setIfInBounds_toArray, List.set_cons_zero, List.set_cons_succ]
        refine' takeF (i := 9) (oi := qFf24) rfl ⟨by rfl, fun x hSw => ?h73⟩ hHeld ?r73
        case h73 =>
          go_simp
          try with_reducible rfl
        try simp only [Act.put, List.setIfInBounds_toArray, List.set_cons_zero, List.set_cons_succ]
        refine' takeF (i := 10) (oi := qFf25) rfl ⟨by rfl, fun x hSw => ?h74⟩ hHeld ?r74
        case h74 =>
          go_simp
          try with_reducible rfl
        try simp only [Act.put, List.setIfInBounds_toArray, List.set_cons_zero, List.set_cons_succ]
        refine' takeF (i := 11) (oi := qFf26) rfl ⟨by rfl, fun x hSw => ?h75⟩ hHeld ?r75
        case h75 =>
          go_simp
          try with_reducible rfl
        try simp only [Act.put, List.setIfInBounds_toArray, List.set_cons_zero, List.set_cons_succ]
        refine' takeF (i := 12) (oi := qFf27) rfl ⟨by rfl, fun x hSw => ?h76⟩ hHeld ?r76
        case h76 =>
          go_simp
          try with_reducible rfl
        try simp only [Act.put, List.setIfInBounds_toArray, List.set_cons_zero, List.set_cons_succ]
        refine' takeF (i := 13) (oi := qFf28) rfl ⟨by rfl, fun x hSw => ?h77⟩ hHeld ?r77
        case h77 =>
          have j0 := keepB hSw k0; have j1 := keepB hSw k1; have j2 := keepB hSw k2; have j3 := keepB hSw k3; have j4 := keepB hSw k4
          go_simp
          try with_reducible rfl
        try simp only [Act.put, List.setIfInBounds_toArray, List.set_cons_zero, List.set_cons_succ]
        refine wpAnyH_ready (rs := [14]) (by kernel_rfl) (by simp) ?_
        refine AllReadyH.cons (o := qFf29) rfl (fun K hK => ?_) AllReadyH.nil
        go_simp
        refine (iUpTo _ _ _).mono ?_
        rw [g2]; rintro e w2 ⟨rfl, rfl⟩
        refine hK.out _ _ (hHeld) (fun hHeld => ?_)
        clear hK K
        try simp only [Act.put, List.setIfInBounds_toArray, List.set_cons_zero, List.set_cons_succ]
        refine' takeF (i := 15) (oi := qFf30) rfl ⟨by rfl, fun x hSw => ?h78⟩ hHeld ?r78
        case h78 =>
          go_simp
          try with_reducible rfl
        try simp only [Act.put, List.setIfInBounds_toArray, List.set_cons_zero, List.set_cons_succ]
        refine' takeF (i := 16) (oi := qFf31) rfl ⟨by rfl, fun x hSw => ?h79⟩ hHeld ?r79
        case h79 =>
          go_simp
          try with_reducible rfl
        try simp only [Act.put, List.setIfInBounds_toArray, List.set_cons_zero, List.set_cons_succ]
        refine' takeF (i := 17) (oi := qFf32) rfl ⟨by rfl, fun x hSw => ?h80⟩ hHeld ?r80
        case h80 =>
          go_simp
          try with_reducible rfl
        try simp only [Act.put, List.setIfInBounds_toArray, List.set_cons_zero, List.set_cons_succ]
        refine' takeF (i := 18) (oi := qFf33) rfl ⟨by rfl, fun x hSw => ?h81⟩ hHeld ?r81
        case h81 =>
          have j0 := keepB hSw k0; have j1 := keepB hSw k1; have j2 := keepB hSw k2; have j3 := keepB hSw k3; have j4 := keepB hSw k4
          go_simp
          try with_reducible rfl
        try simp only [Act.put, List.setIfInBounds_toArray, List.set_cons_zero, List.set_cons_succ]
        refine wpAnyH_ready (rs := [19]) (by kernel_rfl) (by simp) ?_
        refine AllReadyH.cons (o := qFf34) rfl (fun K hK => ?_) AllReadyH.nil
        go_simp
        refine (iUpTo _ _ _).mono ?_
        rw [g3]; rintro e w2 ⟨rfl, rfl⟩
        refine hK.out _ _ (hHeld) (fun hHeld => ?_)
        clear hK K
        try simp only [Act.put, List.setIfInBounds_toArray, List.set_cons_zero, List.set_cons_succ]
        refine' takeF (i := 20) (oi := qFf35) rfl ⟨by rfl, fun x hSw => ?h82⟩ hHeld ?r82
        case h82 =>
          go_simp
          try with_reducible rfl
        try simp only [Act.put, List.setIfInBounds_toArray, List.set_cons_zero, List.set_cons_succ]
        refine' takeF (i := 21) (oi := qFf36) rfl ⟨by rfl, fun x hSw => ?h83⟩ hHeld ?r83
        case h83 =>
          go_simp
          try with_reducible rfl
        try simp only [Act.put, List.setIfInBounds_toArray, List.set_cons_zero, List.set_cons_succ]
        refine wpAnyH_take (i := 22) (oi := qFf37) (v := undef) rfl (by kernel_rfl) (by kernel_rfl) (by kernel_rfl) (fun _ _ _ h => h) (Or.inr ⟨by rfl, rfl⟩) hHeld ?_
        try simp only [Act.put, List.setIfInBounds_toArray, List.set_cons_zero, List.set_cons_succ]
        refine wpAnyH_take (i := 23) (oi := qFf38) (v := undef) rfl (by kernel_rfl) (by kernel_rfl) (by kernel_rfl) (fun _ _ _ h => h) (Or.inr ⟨by rfl, rfl⟩) hHeld ?_
        try simp only [Act.put, List.setIfInBounds_toArray, List.set_cons_zero, List.set_cons_succ]
        refine wpAnyH_take (i := 24) (oi := qFf39) (v := undef) rfl (by kernel_rfl) (by kernel_rfl) (by kernel_rfl) (fun _ _ _ h => h) (Or.inr ⟨by rfl, rfl⟩) hHeld ?_
        try simp only [Act.put, List.setIfInBounds_toArray, List.set_cons_zero, List.set_cons_succ]
        refine' takeF (i := 25) (oi := qFf40) rfl ⟨by rfl, fun x hSw => ?h84⟩ hHeld ?r84
        case h84 =>
          go_simp
          try with_reducible rfl
        try simp only [Act.put, List.setIfInBounds_toArray, List.set_cons_zero, List.set_cons_succ]
        refine' takeF (i := 26) (oi := qFf41) rfl ⟨by rfl, fun x hSw => ?h85⟩ hHeld ?r85
        case h85 =>
          go_simp
          try with_reducible rfl
        try simp only [Act.put, List.setIfInBounds_toArray, List.set_cons_zero, List.set_cons_succ]
        refine wpAnyH_done (by kernel_rfl) ?_ _
        go_wp2
        go_ret
        exact ⟨retB (by rw [HSP.out, g3]; simp), bstep hbw hHeld⟩
      rcases g4 : btw x4 0 1000000000000000
      · go_wp2
        refine wp_region_held_drew (S := fun x => Below wr.heap.size wr x) (by kernel_rfl) (bdrew _) (fun hHeld => ?_)
        refine' takeF (i := 0) (oi := qFf15) rfl ⟨by rfl, fun x hSw => ?h86⟩ hHeld ?r86
        case h86 =>
          go_simp
          try with_reducible rfl
        try simp only [Act.put, List.setIfInBounds_toArray, List.set_cons_zero, List.set_cons_succ]
        refine' takeF (i := 1) (oi := qFf16) rfl ⟨by rfl, fun x hSw => ?h87⟩ hHeld ?r87
        case h87 =>
          have j0 := keepB hSw k0; have j1 := keepB hSw k1; have j2 := keepB hSw k2; have j3 := keepB hSw k3; have j4 := keepB hSw k4
          go_simp
          try with_reducible rfl
        try simp only [Act.put, List.setIfInBounds_toArray, List.set_cons_zero, List.set_cons_succ]
        refine wpAnyH_ready (rs := [2]) (by kernel_rfl) (by simp) ?_
        refine AllReadyH.cons (o := qFf17) rfl (fun K hK => ?_) AllReadyH.nil
        go_simp
        refine (iUpTo _ _ _).mono ?_
        rw [g1]; rintro e w2 ⟨rfl, rfl⟩
        refine hK.out _ _ (hHeld) (fun hHeld => ?_)
        clear hK K
        try simp only [Act.put, List.setIfInBounds_toArray, List.set_cons_zero, List.set_cons_succ]
        refine' takeF (i := 3) (oi := qFf18) rfl ⟨by rfl, fun x hSw => ?h88⟩ hHeld ?r88
        case h88 =>
          go_simp
          try with_reducible rfl
        try simp only [Act.put, List.setIfInBounds_toArray, List.set_cons_zero, List.set_cons_succ]
        refine' takeF (i := 4) (oi := qFf19) rfl ⟨by rfl, fun x hSw => ?h89⟩ hHeld ?r89
        case h89 =>
          go_simp
          try with_reducible rfl
        try simp only [Act.put, List.setIfInBounds_toArray, List.set_cons_zero, List.set_cons_succ]
        refine' takeF (i := 5) (oi := qFf20) rfl ⟨by rfl, fun x hSw => ?h90⟩ hHeld ?r90
        case h90 =>
          have j0 := keepB hSw k0; have j1 := keepB hSw k1; have j2 := keepB hSw k2; have j3 := keepB hSw k3; have j4 := keepB hSw k4
          go_simp
          try with_reducible rfl
        try simp only [Act.put, List.setIfInBounds_toArray, List.set_cons_zero, List.set_cons_succ]
        refine' takeF (i := 7) (oi := qFf22) rfl ⟨by rfl, fun x hSw => ?h91⟩ hHeld ?r91
        case h91 =>
          go_simp
          try with_reducible rfl
        try simp only [Act.put, List.setIfInBounds_toArray, List.set_cons_zero, List.set_cons_succ]
        refine' takeF (i := 8) (oi := qFf23) rfl ⟨by rfl, fun x hSw => ?h92⟩ hHeld ?r92
        case h92 =>
          have j0 := keepB hSw k0; have j1 := keepB hSw k1; have j2 := keepB hSw k2; have j3 := keepB hSw k3; have j4 := keepB hSw k4
          go_simp
          try with_reducible rfl
        try simp only [Act.put, List.setIfInBounds_toArray, List.set_cons_zero, List.set_cons_succ]
        refine wpAnyH_ready (rs := [6]) (by kernel_rfl) (by simp) ?_
        refine AllReadyH.cons (o := qFf21) rfl (fun K hK => ?_) AllReadyH.nil
        go_simp
        refine (iBytes a k c F _ (h.later (bstep hbw hHeld)) hS).mono ?_
        rintro e w3 ⟨rfl, hb3⟩
        refine hK.out _ _ (bstep hHeld hb3) (fun hHeld => ?_)
        clear hK K
        try simp only [Act.put, List.setIfInBounds_toArray, List.set_cons_zero, List.set_cons_succ]
        refine' takeF (i := 9) (oi := qFf24) rfl ⟨by rfl, fun x hSw => ?h93⟩ hHeld ?r93
        case h93 =>
          go_simp
          try with_reducible rfl
        try simp only [Act.put, List.setIfInBounds_toArray, List.set_cons_zero, List.set_cons_succ]
        refine' takeF (i := 10) (oi := qFf25) rfl ⟨by rfl, fun x hSw => ?h94⟩ hHeld ?r94
        case h94 =>
          go_simp
          try with_reducible rfl
        try simp only [Act.put, List.setIfInBounds_toArray, List.set_cons_zero, List.set_cons_succ]
        refine' takeF (i := 11) (oi := qFf26) rfl ⟨by rfl, fun x hSw => ?h95⟩ hHeld ?r95
        case h95 =>
          go_simp
          try with_reducible rfl
        try simp only [Act.put, List.setIfInBounds_toArray, List.set_cons_zero, List.set_cons_succ]
        refine' takeF (i := 12) (oi := qFf27) rfl ⟨by rfl, fun x hSw => ?h96⟩ hHeld ?r96
        case h96 =>
          go_simp
          try with_reducible rfl
        try simp only [Act.put, List.setIfInBounds_toArray, List.set_cons_zero, List.set_cons_succ]
        refine' takeF (i := 13) (oi := qFf28) rfl ⟨by rfl, fun x hSw => ?h97⟩ hHeld ?r97
        case h97 =>
          have j0 := keepB hSw k0; have j1 := keepB hSw k1; have j2 := keepB hSw k2; have j3 := keepB hSw k3; have j4 := keepB hSw k4
          go_simp
          try with_reducible rfl
        try simp only [Act.put, List.setIfInBounds_toArray, List.set_cons_zero, List.set_cons_succ]
        refine wpAnyH_ready (rs := [14]) (by kernel_rfl) (by simp) ?_
        refine AllReadyH.cons (o := qFf29) rfl (fun K hK => ?_) AllReadyH.nil
        go_simp
        refine (iUpTo _ _ _).mono ?_
        rw [g2]; rintro e w2 ⟨rfl, rfl⟩
        refine hK.out _ _ (hHeld) (fun hHeld => ?_)
        clear hK K
        try simp only [Act.put, List.setIfInBounds_toArray, List.set_cons_zero, List.set_cons_succ]
        refine' takeF (i := 15) (oi := qFf30) rfl ⟨by rfl, fun x hSw => ?h98⟩ hHeld ?r98
        case h98 =>
          go_simp
          try with_reducible rfl
        try simp only [Act.put, List.setIfInBounds_toArray, List.set_cons_zero, List.set_cons_succ]
        refine' takeF (i := 16) (oi := qFf31) rfl ⟨by rfl, fun x hSw => ?h99⟩ hHeld ?r99
        case h99 =>
          go_simp
          try with_reducible rfl
        try simp only [Act.put, List.setIfInBounds_toArray, List.set_cons_zero, List.set_cons_succ]
        refine' takeF (i := 17) (oi := qFf32) rfl ⟨by rfl, fun x hSw => ?h100⟩ hHeld ?r100
        case h100 =>
          go_simp
          try with_reducible rfl
        try simp only [Act.put, List.setIfInBounds_toArray, List.set_cons_zero, List.set_cons_succ]
        refine' takeF (i := 18) (oi := qFf33) rfl ⟨by rfl, fun x hSw => ?h101⟩ hHeld ?r101
        case h101 =>
          have j0 := keepB hSw k0; have j1 := keepB hSw k1; have j2 := keepB hSw k2; have j3 := keepB hSw k3; have j4 := keepB hSw k4
          go_simp
          try with_reducible rfl
        try simp only [Act.put, List.setIfInBounds_toArray, List.set_cons_zero, List.set_cons_succ]
        refine wpAnyH_ready (rs := [19]) (by kernel_rfl) (by simp) ?_
        refine AllReadyH.cons (o := qFf34) rfl (fun K hK => ?_) AllReadyH.nil
        go_simp
        refine (iUpTo _ _ _).mono ?_
        rw [g3]; rintro e w2 ⟨rfl, rfl⟩
        refine hK.out _ _ (hHeld) (fun hHeld => ?_)
        clear hK K
        try simp only [Act.put, List.setIfInBounds_toArray, List.set_cons_zero, List.set_cons_succ]
        refine' takeF (i := 20) (oi := qFf35) rfl ⟨by rfl, fun x hSw => ?h102⟩ hHeld ?r102
        case h102 =>
          go_simp
          try with_reducible rfl
        try simp only [Act.put, List.setIfInBounds_toArray, List.set_cons_zero, List.set_cons_succ]
        refine' takeF (i := 21) (oi := qFf36) rfl ⟨by rfl, fun x hSw => ?h103⟩ hHeld ?r103
        case h103 =>
          go_simp
          try with_reducible rfl
        try simp only [Act.put, List.setIfInBounds_toArray, List.set_cons_zero, List.set_cons_succ]
        refine' takeF (i := 22) (oi := qFf37) rfl ⟨by rfl, fun x hSw => ?h104⟩ hHeld ?r104
        case h104 =>
          go_simp
          try with_reducible rfl
        try simp only [Act.put, List.setIfInBounds_toArray, List.set_cons_zero, List.set_cons_succ]
        refine' takeF (i := 23) (oi := qFf38) rfl ⟨by rfl, fun x hSw => ?h105⟩ hHeld ?r105
        case h105 =>
          have j0 := keepB hSw k0; have j1 := keepB hSw k1; have j2 := keepB hSw k2; have j3 := keepB hSw k3; have j4 := keepB hSw k4
          go_simp
          try with_reducible rfl
        try simp only [Act.put, List.setIfInBounds_toArray, List.set_cons_zero, List.set_cons_succ]
        refine wpAnyH_ready (rs := [24]) (by kernel_rfl) (by simp) ?_
        refine AllReadyH.cons (o := qFf39) rfl (fun K hK => ?_) AllReadyH.nil
        go_simp
        refine (iUpTo _ _ _).mono ?_
        rw [g4]; rintro e w2 ⟨rfl, rfl⟩
        refine hK.out _ _ (hHeld) (fun hHeld => ?_)
        clear hK K
        try simp only [Act.put, List.setIfInBounds_toArray, List.set_cons_zero, List.set_cons_succ]
        refine' takeF (i := 25) (oi := qFf40) rfl ⟨by rfl, fun x hSw => ?h106⟩ hHeld ?r106
        case h106 =>
          go_simp
          try with_reducible rfl
        try simp only [Act.put, List.setIfInBounds_toArray, List.set_cons_zero, List.set_cons_succ]
        refine' takeF (i := 26) (oi := qFf41) rfl ⟨by rfl, fun x hSw => ?h107⟩ hHeld ?r107
        case h107 =>
          go_simp
          try with_reducible rfl
        try simp only [Act.put, List.setIfInBounds_toArray, List.set_cons_zero, List.set_cons_succ]
        refine wpAnyH_done (by kernel_rfl) ?_ _
        go_wp2
        go_ret
        exact ⟨retB (by rw [HSP.out, g4]; simp), bstep hbw hHeld⟩
      · go_wp2
        refine wp_region_held_drew (S := fun x => Below wr.heap.size wr x) (by kernel_rfl) (bdrew _) (fun hHeld => ?_)
        refine' takeF (i := 0) (oi := qFf15) rfl ⟨by rfl, fun x hSw => ?h108⟩ hHeld ?r108
        case h108 =>
          go_simp
          try with_reducible rfl
        try simp only [Act.put, List.setIfInBounds_toArray, List.set_cons_zero, List.set_cons_succ]
        refine' takeF (i := 1) (oi := qFf16) rfl ⟨by rfl, fun x hSw => ?h109⟩ hHeld ?r109
        case h109 =>
          have j0 := keepB hSw k0; have j1 := keepB hSw k1; have j2 := keepB hSw k2; have j3 := keepB hSw k3; have j4 := keepB hSw k4
          go_simp
          try with_reducible rfl
        try simp only [Act.put, List.setIfInBounds_toArray, List.set_cons_zero, List.set_cons_succ]
        refine wpAnyH_ready (rs := [2]) (by kernel_rfl) (by simp) ?_
        refine AllReadyH.cons (o := qFf17) rfl (fun K hK => ?_) AllReadyH.nil
        go_simp
        refine (iUpTo _ _ _).mono ?_
        rw [g1]; rintro e w2 ⟨rfl, rfl⟩
        refine hK.out _ _ (hHeld) (fun hHeld => ?_)
        clear hK K
        try simp only [Act.put, List.setIfInBounds_toArray, List.set_cons_zero, List.set_cons_succ]
        refine' takeF (i := 3) (oi := qFf18) rfl ⟨by rfl, fun x hSw => ?h110⟩ hHeld ?r110
        case h110 =>
          go_simp
          try with_reducible rfl
        try simp only [Act.put, List.setIfInBounds_toArray, List.set_cons_zero, List.set_cons_succ]
        refine' takeF (i := 4) (oi := qFf19) rfl ⟨by rfl, fun x hSw => ?h111⟩ hHeld ?r111
        case h111 =>
          go_simp
          try with_reducible rfl
        try simp only [Act.put, List.setIfInBounds_toArray, List.set_cons_zero, List.set_cons_succ]
        refine' takeF (i := 5) (oi := qFf20) rfl ⟨by rfl, fun x hSw => ?h112⟩ hHeld ?r112
        case h112 =>
          have j0 := keepB hSw k0; have j1 := keepB hSw k1; have j2 := keepB hSw k2; have j3 := keepB hSw k3; have j4 := keepB hSw k4
          go_simp
          try with_reducible rfl
        try simp only [Act.put, List.setIfInBounds_toArray, List.set_cons_zero, List.set_cons_succ]
        refine' takeF (i := 7) (oi := qFf22) rfl ⟨by rfl, fun x hSw => ?h113⟩ hHeld ?r113
        case h113 =>
          go_simp
          try with_reducible rfl
        try simp only [Act.put, List.setIfInBounds_toArray, List.set_cons_zero, List.set_cons_succ]
        refine' takeF (i := 8) (oi := qFf23) rfl ⟨by rfl, fun x hSw => ?h114⟩ hHeld ?r114
        case h114 =>
          have j0 := keepB hSw k0; have j1 := keepB hSw k1; have j2 := keepB hSw k2; have j3 := keepB hSw k3; have j4 := keepB hSw k4
          go_simp
          try with_reducible rfl
        try simp only [Act.put, List.setIfInBounds_toArray, List.set_cons_zero, List.set_cons_succ]
        refine wpAnyH_ready (rs := [6]) (by kernel_rfl) (by simp) ?_
        refine AllReadyH.cons (o := qFf21) rfl (fun K hK => ?_) AllReadyH.nil
        go_simp
        refine (iBytes a k c F _ (h.later (bstep hbw hHeld)) hS).mono ?_
        rintro e w3 ⟨rfl, hb3⟩
        refine hK.out _ _ (bstep hHeld hb3) (fun hHeld => ?_)
        clear hK K
        try simp only [Act.put, List.setIfInBounds_toArray, List.set_cons_zero, List.set_cons_succ]
        refine' takeF (i := 9) (oi := qFf24) rfl ⟨by rfl, fun x hSw => ?h115⟩ hHeld ?r115
        case h115 =>
          go_simp
          try with_reducible rfl
        try simp only [Act.put, List.setIfInBounds_toArray, List.set_cons_zero, List.set_cons_succ]
        refine' takeF (i := 10) (oi := qFf25) rfl ⟨by rfl, fun x hSw => ?h116⟩ hHeld ?r116
        case h116 =>
          go_simp
          try with_reducible rfl
        try simp only [Act.put, List.setIfInBounds_toArray, List.set_cons_zero, List.set_cons_succ]
        refine' takeF (i := 11) (oi := qFf26) rfl ⟨by rfl, fun x hSw => ?h117⟩ hHeld ?r117
        case h117 =>
          go_simp
          try with_reducible rfl
        try simp only [Act.put, List.setIfInBounds_toArray, List.set_cons_zero, List.set_cons_succ]
        refine' takeF (i := 12) (oi := qFf27) rfl ⟨by rfl, fun x hSw => ?h118⟩ hHeld ?r118
        case h118 =>
          go_simp
          try with_reducible rfl
        try simp only [Act.put, List.setIfInBounds_toArray, List.set_cons_zero, List.set_cons_succ]
        refine' takeF (i := 13) (oi := qFf28) rfl ⟨by rfl, fun x hSw => ?h119⟩ hHeld ?r119
        case h119 =>
          have j0 := keepB hSw k0; have j1 := keepB hSw k1; have j2 := keepB hSw k2; have j3 := keepB hSw k3; have j4 := keepB hSw k4
          go_simp
          try with_reducible rfl
        try simp only [Act.put, List.setIfInBounds_toArray, List.set_cons_zero, List.set_cons_succ]
        refine wpAnyH_ready (rs := [14]) (by kernel_rfl) (by simp) ?_
        refine AllReadyH.cons (o := qFf29) rfl (fun K hK => ?_) AllReadyH.nil
        go_simp
        refine (iUpTo _ _ _).mono ?_
        rw [g2]; rintro e w2 ⟨rfl, rfl⟩
        refine hK.out _ _ (hHeld) (fun hHeld => ?_)
        clear hK K
        try simp only [Act.put, List.setIfInBounds_toArray, List.set_cons_zero, List.set_cons_succ]
        refine' takeF (i := 15) (oi := qFf30) rfl ⟨by rfl, fun x hSw => ?h120⟩ hHeld ?r120
        case h120 =>
          go_simp
          try with_reducible rfl
        try simp only [Act.put, List.setIfInBounds_toArray, List.set_cons_zero, List.set_cons_succ]
        refine' takeF (i := 16) (oi := qFf31) rfl ⟨by rfl, fun x hSw => ?h121⟩ hHeld ?r121
        case h121 =>
          go_simp
          try with_reducible rfl
        try simp only [Act.put, List.setIfInBounds_toArray, List.set_cons_zero, List.set_cons_succ]
        refine' takeF (i := 17) (oi := qFf32) rfl ⟨by rfl, fun x hSw => ?h122⟩ hHeld ?r122
        case h122 =>
          go_simp
          try with_reducible rfl
        try simp only [Act.put, List.setIfInBounds_toArray, List.set_cons_zero, List.set_cons_succ]
        refine' takeF (i := 18) (oi := qFf33) rfl ⟨by rfl, fun x hSw => ?h123⟩ hHeld ?r123
        case h123 =>
          have j0 := keepB hSw k0; have j1 := keepB hSw k1; have j2 := keepB hSw k2; have j3 := keepB hSw k3; have j4 := keepB hSw k4
          go_simp
          try with_reducible rfl
        try simp only [Act.put, List.setIfInBounds_toArray, List.set_cons_zero, List.set_cons_succ]
        refine wpAnyH_ready (rs := [19]) (by kernel_rfl) (by simp) ?_
        refine AllReadyH.cons (o := qFf34) rfl (fun K hK => ?_) AllReadyH.nil
        go_simp
        refine (iUpTo _ _ _).mono ?_
        rw [g3]; rintro e w2 ⟨rfl, rfl⟩
        refine hK.out _ _ (hHeld) (fun hHeld => ?_)
        clear hK K
        try simp only [Act.put, List.setIfInBounds_toArray, List.set_cons_zero, List.set_cons_succ]
        refine' takeF (i := 20) (oi := qFf35) rfl ⟨by rfl, fun x hSw => ?h124⟩ hHeld ?r124
        case h124 =>
          go_simp
          try with_reducible rfl
        try simp only [Act.put, List.setIfInBounds_toArray, List.set_cons_zero, List.set_cons_succ]
        refine' takeF (i := 21) (oi := qFf36) rfl ⟨by rfl, fun x hSw => ?h125⟩ hHeld ?r125
        case h125 =>
          go_simp
          try with_reducible rfl
        try simp only [Act.put, List.setIfInBounds_toArray, List.set_cons_zero, List.set_cons_succ]
        refine' takeF (i := 22) (oi := qFf37) rfl ⟨by rfl, fun x hSw => ?h126⟩ hHeld ?r126
        case h126 =>
          go_simp
          try with_reducible rfl
        try simp only [Act.put, List.setIfInBounds_toArray, List.set_cons_zero, List.set_cons_succ]
        refine' takeF (i := 23) (oi := qFf38) rfl ⟨by rfl, fun x hSw => ?h127⟩ hHeld ?r127
        case h127 =>
          have j0 := keepB hSw k0; have j1 := keepB hSw k1; have j2 := keepB hSw k2; have j3 := keepB hSw k3; have j4 := keepB hSw k4
          go_simp
          try with_reducible rfl
        try simp only [Act.put, List.setIfInBounds_toArray, List.set_cons_zero, List.set_cons_succ]
        refine wpAnyH_ready (rs := [24]) (by kernel_rfl) (by simp) ?_
        refine AllReadyH.cons (o := qFf39) rfl (fun K hK => ?_) AllReadyH.nil
        go_simp
        refine (iUpTo _ _ _).mono ?_
        rw [g4]; rintro e w2 ⟨rfl, rfl⟩
        refine hK.out _ _ (hHeld) (fun hHeld => ?_)
        clear hK K
        try simp only [Act.put, List.setIfInBounds_toArray, List.set_cons_zero, List.set_cons_succ]
        refine' takeF (i := 25) (oi := qFf40) rfl ⟨by rfl, fun x hSw => ?h128⟩ hHeld ?r128
        case h128 =>
          go_simp
          try with_reducible rfl
        try simp only [Act.put, List.setIfInBounds_toArray, List.set_cons_zero, List.set_cons_succ]
        refine' takeF (i := 26) (oi := qFf41) rfl ⟨by rfl, fun x hSw => ?h129⟩ hHeld ?r129
        case h129 =>
          go_simp
          try with_reducible rfl
        try simp only [Act.put, List.setIfInBounds_toArray, List.set_cons_zero, List.set_cons_succ]
        refine wpAnyH_done (by kernel_rfl) ?_ _
        go_wp2
        go_ret
        exact ⟨retB (by rw [HSP.out, g1, d1, g2, g3, g4]; simp), bstep hbw hHeld⟩
set_option maxRecDepth 20000 in
set_option maxHeartbeats 2000000 in
theorem szFs_any (a : Option Addr) (n c : Nat) (F : Nat → Fil) (x1 x2 x3 x4 : Int) (x5 : Bool) (w : World) (h : FX w a n F) (L : Int) (h0 : 0 ≤ L) (h1 : L ≤ 2097152) :
    Calls Tryd.prog 5 #[.agg #[.slice a n c, .int .i64 x1, .int .i64 x2, .int .i64 x3, .int .i64 x4, .bool x5], .int .i64 L] w fun e w' => Below w.heap.size w w' ∧ ∃ r : Int, e = .returned (.int .i64 r) ∧ (0 ≤ r → r + n + sumS F n + sumD F n = L) := by
  have hb0 := bal w (.cells #[.slice a n c, .int .i64 x1, .int .i64 x2, .int .i64 x3, .int .i64 x4, .bool x5] 24)
  go_enter Tryd.func5, Tryd.ntmps5
  go_wp2_with (go_at_call 19; refine (szFils a n c F _ (h.later hb0) L h0 h1).mono ?_; rintro e w1 ⟨hb1, r, rfl, hr⟩; by_cases hr0 : (0 : Int) ≤ r)
  · go_ret
    exact ⟨bstep hb0 hb1, r, rfl, hr⟩
  · go_ret
    exact ⟨bstep hb0 hb1, -1, rfl, fun hh => by omega⟩
theorem rowL {w w' : World} {B : Nat} {o : Obj} (h : w.heap[B]? = some o) (hb : Below w.heap.size w w') : w'.heap[B]? = some o := (hb.block B (Array.getElem?_eq_some_iff.1 h).1).trans h
theorem rowO {w : World} {B B' i : Nat} {o : Obj} {v : Value} (h : w.heap[B']? = some o) (hne : B' ≠ B) : (w.setCell ⟨B, i, none⟩ v).heap[B']? = some o := (heap_setCell_other _ _ _ _ hne).trans h
theorem bset {w V : World} {B i : Nat} {v : Value} (hb : Below w.heap.size w V) (hB : w.heap.size ≤ B) : Below w.heap.size w (V.setCell ⟨B, i, none⟩ v) := hb.setCell hB _
/-- The three boxes of a copying. -/
structure E3 (V : World) (B : Nat) (A Z X : Array Value) : Prop where
  a : V.heap[B]? = some (.cells A 24 (0, 0))
  z : V.heap[B + 1]? = some (.cells Z 30 (0, 0))
  x : V.heap[B + 1 + 1]? = some (.cells X 30 (0, 0))
theorem E3.later {V V' : World} {B : Nat} {A Z X : Array Value} (h : E3 V B A Z X) (hb : Below V.heap.size V V') : E3 V' B A Z X := ⟨rowL h.a hb, rowL h.z hb, rowL h.x hb⟩
theorem E3.new (w : World) (A Z X : Array Value) : E3 (((w.alloc (.cells A 24)).alloc (.cells Z 30)).alloc (.cells X 30)) w.heap.size A Z X := by
  have e1 : (w.alloc (.cells A 24)).heap.size = w.heap.size + 1 := by simp
  have e2 : ((w.alloc (.cells A 24)).alloc (.cells Z 30)).heap.size = w.heap.size + 1 + 1 := by simp
  have h1 := heap_alloc_new w (.cells A 24)
  have h2 := heap_alloc_new (w.alloc (.cells A 24)) (.cells Z 30)
  have h3 := heap_alloc_new ((w.alloc (.cells A 24)).alloc (.cells Z 30)) (.cells X 30)
  rw [e1] at h2
  rw [e2] at h3
  exact ⟨rowL (rowL h1 (bal _ _)) (bal _ _), rowL h2 (bal _ _), h3⟩
set_option maxRecDepth 20000 in
set_option maxHeartbeats 4000000 in
theorem toFs_any (a : Option Addr) (n c : Nat) (F : Nat → Fil) (x1 x2 x3 x4 : Int) (x5 : Bool) (w : World) (h : FL w a n F) (hn : n ≤ 2097152) :
    Calls Tryd.prog 7 #[.agg #[.slice a n c, .int .i64 x1, .int .i64 x2, .int .i64 x3, .int .i64 x4, .bool x5]] w fun e w' => ∃ g, w.heap.size ≤ g ∧ e = .returned (.agg #[.slice (some ⟨g, 0, none⟩) n n, .int .i64 x1, .int .i64 x2, .int .i64 x3, .int .i64 x4, .bool x5]) ∧ FR w' g n F ∧ Below w.heap.size w w' := by
  have hR0 := E3.new w #[.slice a n c, .int .i64 x1, .int .i64 x2, .int .i64 x3, .int .i64 x4, .bool x5] #[.slice none 0 0, .int .i64 0, .int .i64 0, .int .i64 0, .int .i64 0, .bool false] #[.slice none 0 0, .int .i64 0, .int .i64 0, .int .i64 0, .int .i64 0, .bool false]
  have hbW : Below w.heap.size w (((w.alloc (.cells #[.slice a n c, .int .i64 x1, .int .i64 x2, .int .i64 x3, .int .i64 x4, .bool x5] 24)).alloc (.cells #[.slice none 0 0, .int .i64 0, .int .i64 0, .int .i64 0, .int .i64 0, .bool false] 30)).alloc (.cells #[.slice none 0 0, .int .i64 0, .int .i64 0, .int .i64 0, .int .i64 0, .bool false] 30)) := below3 _ _ _ _
  go_enter Tryd.func7, Tryd.ntmps7
  go_wp2_with (go_at_call 25; refine (toFils _ _ _ F _ (h.later hbW) hn).mono ?_; rintro e w1 ⟨g1, hg1, rfl, hR1, hb1⟩; have r1 := hR0.later hb1; have B1 : Below w.heap.size w w1 := bstep hbW hb1; have m0 : w1.cell? ⟨w.heap.size + 1 + 1, 0, none⟩ = some (.slice none 0 0) := (cell_of_row _ _ 0 _ _ _ r1.x).trans rfl; have f0 : w1.frozen? ⟨w.heap.size + 1 + 1, 0, none⟩ = false := frozen_of_row _ _ 0 _ _ r1.x; have z0 : w1.cell? ⟨w.heap.size + 1, 0, none⟩ = some (.slice none 0 0) := (cell_of_row _ _ 0 _ _ _ r1.z).trans rfl; have y0 : w1.frozen? ⟨w.heap.size + 1, 0, none⟩ = false := frozen_of_row _ _ 0 _ _ r1.z; have a1 : w1.cell? ⟨w.heap.size, 1, none⟩ = some (.int .i64 x1) := (cell_of_row _ _ 1 _ _ _ r1.a).trans rfl; have m1 : w1.cell? ⟨w.heap.size + 1 + 1, 1, none⟩ = some (.int .i64 0) := (cell_of_row _ _ 1 _ _ _ r1.x).trans rfl; have f1 : w1.frozen? ⟨w.heap.size + 1 + 1, 1, none⟩ = false := frozen_of_row _ _ 1 _ _ r1.x; have z1 : w1.cell? ⟨w.heap.size + 1, 1, none⟩ = some (.int .i64 0) := (cell_of_row _ _ 1 _ _ _ r1.z).trans rfl; have y1 : w1.frozen? ⟨w.heap.size + 1, 1, none⟩ = false := frozen_of_row _ _ 1 _ _ r1.z; have a2 : w1.cell? ⟨w.heap.size, 2, none⟩ = some (.int .i64 x2) := (cell_of_row _ _ 2 _ _ _ r1.a).trans rfl; have m2 : w1.cell? ⟨w.heap.size + 1 + 1, 2, none⟩ = some (.int .i64 0) := (cell_of_row _ _ 2 _ _ _ r1.x).trans rfl; have f2 : w1.frozen? ⟨w.heap.size + 1 + 1, 2, none⟩ = false := frozen_of_row _ _ 2 _ _ r1.x; have z2 : w1.cell? ⟨w.heap.size + 1, 2, none⟩ = some (.int .i64 0) := (cell_of_row _ _ 2 _ _ _ r1.z).trans rfl; have y2 : w1.frozen? ⟨w.heap.size + 1, 2, none⟩ = false := frozen_of_row _ _ 2 _ _ r1.z; have a3 : w1.cell? ⟨w.heap.size, 3, none⟩ = some (.int .i64 x3) := (cell_of_row _ _ 3 _ _ _ r1.a).trans rfl; have m3 : w1.cell? ⟨w.heap.size + 1 + 1, 3, none⟩ = some (.int .i64 0) := (cell_of_row _ _ 3 _ _ _ r1.x).trans rfl; have f3 : w1.frozen? ⟨w.heap.size + 1 + 1, 3, none⟩ = false := frozen_of_row _ _ 3 _ _ r1.x; have z3 : w1.cell? ⟨w.heap.size + 1, 3, none⟩ = some (.int .i64 0) := (cell_of_row _ _ 3 _ _ _ r1.z).trans rfl; have y3 : w1.frozen? ⟨w.heap.size + 1, 3, none⟩ = false := frozen_of_row _ _ 3 _ _ r1.z; have a4 : w1.cell? ⟨w.heap.size, 4, none⟩ = some (.int .i64 x4) := (cell_of_row _ _ 4 _ _ _ r1.a).trans rfl; have m4 : w1.cell? ⟨w.heap.size + 1 + 1, 4, none⟩ = some (.int .i64 0) := (cell_of_row _ _ 4 _ _ _ r1.x).trans rfl; have f4 : w1.frozen? ⟨w.heap.size + 1 + 1, 4, none⟩ = false := frozen_of_row _ _ 4 _ _ r1.x; have z4 : w1.cell? ⟨w.heap.size + 1, 4, none⟩ = some (.int .i64 0) := (cell_of_row _ _ 4 _ _ _ r1.z).trans rfl; have y4 : w1.frozen? ⟨w.heap.size + 1, 4, none⟩ = false := frozen_of_row _ _ 4 _ _ r1.z; have a5 : w1.cell? ⟨w.heap.size, 5, none⟩ = some (.bool x5) := (cell_of_row _ _ 5 _ _ _ r1.a).trans rfl; have m5 : w1.cell? ⟨w.heap.size + 1 + 1, 5, none⟩ = some (.bool false) := (cell_of_row _ _ 5 _ _ _ r1.x).trans rfl; have f5 : w1.frozen? ⟨w.heap.size + 1 + 1, 5, none⟩ = false := frozen_of_row _ _ 5 _ _ r1.x; have z5 : w1.cell? ⟨w.heap.size + 1, 5, none⟩ = some (.bool false) := (cell_of_row _ _ 5 _ _ _ r1.z).trans rfl; have y5 : w1.frozen? ⟨w.heap.size + 1, 5, none⟩ = false := frozen_of_row _ _ 5 _ _ r1.z)
  have hsz : (((w.alloc (.cells #[.slice a n c, .int .i64 x1, .int .i64 x2, .int .i64 x3, .int .i64 x4, .bool x5] 24)).alloc (.cells #[.slice none 0 0, .int .i64 0, .int .i64 0, .int .i64 0, .int .i64 0, .bool false] 30)).alloc (.cells #[.slice none 0 0, .int .i64 0, .int .i64 0, .int .i64 0, .int .i64 0, .bool false] 30)).heap.size = w.heap.size + 1 + 1 + 1 := by simp
  refine bodyPost_ret (v := .agg #[.slice (some ⟨g1, 0, none⟩) n n, .int .i64 x1, .int .i64 x2, .int .i64 x3, .int .i64 x4, .bool x5]) (results_cell_row Tryd.results7 _ _ (w.heap.size + 1) 30 _ (0, 0) _ rfl (heap_setCell_same _ _ 5 _ _ _ (heap_setCell_same _ _ 4 _ _ _ (heap_setCell_same _ _ 3 _ _ _ (heap_setCell_same _ _ 2 _ _ _ (heap_setCell_same _ _ 1 _ _ _ (heap_setCell_same _ _ 0 _ _ _ (rowO (B := w.heap.size + 1 + 1) (i := 5) (rowO (B := w.heap.size + 1 + 1) (i := 4) (rowO (B := w.heap.size + 1 + 1) (i := 3) (rowO (B := w.heap.size + 1 + 1) (i := 2) (rowO (B := w.heap.size + 1 + 1) (i := 1) (rowO (B := w.heap.size + 1 + 1) (i := 0) r1.z (by omega)) (by omega)) (by omega)) (by omega)) (by omega)) (by omega)))))))) Tryd.underlying30 rfl (by kernel_rfl)) rfl ⟨g1, by omega, rfl, ?_, ?_⟩
  · exact (rowO (B := w.heap.size + 1) (i := 5) (rowO (B := w.heap.size + 1) (i := 4) (rowO (B := w.heap.size + 1) (i := 3) (rowO (B := w.heap.size + 1) (i := 2) (rowO (B := w.heap.size + 1) (i := 1) (rowO (B := w.heap.size + 1) (i := 0) (rowO (B := w.heap.size + 1 + 1) (i := 5) (rowO (B := w.heap.size + 1 + 1) (i := 4) (rowO (B := w.heap.size + 1 + 1) (i := 3) (rowO (B := w.heap.size + 1 + 1) (i := 2) (rowO (B := w.heap.size + 1 + 1) (i := 1) (rowO (B := w.heap.size + 1 + 1) (i := 0) hR1 (by omega)) (by omega)) (by omega)) (by omega)) (by omega)) (by omega)) (by omega)) (by omega)) (by omega)) (by omega)) (by omega)) (by omega))
  · exact (bset (B := w.heap.size + 1) (i := 5) (bset (B := w.heap.size + 1) (i := 4) (bset (B := w.heap.size + 1) (i := 3) (bset (B := w.heap.size + 1) (i := 2) (bset (B := w.heap.size + 1) (i := 1) (bset (B := w.heap.size + 1) (i := 0) (bset (B := w.heap.size + 1 + 1) (i := 5) (bset (B := w.heap.size + 1 + 1) (i := 4) (bset (B := w.heap.size + 1 + 1) (i := 3) (bset (B := w.heap.size + 1 + 1) (i := 2) (bset (B := w.heap.size + 1 + 1) (i := 1) (bset (B := w.heap.size + 1 + 1) (i := 0) B1 (by omega)) (by omega)) (by omega)) (by omega)) (by omega)) (by omega)) (by omega)) (by omega)) (by omega)) (by omega)) (by omega)) (by omega))
set_option maxRecDepth 20000 in
set_option maxHeartbeats 4000000 in
theorem eqFs_any (a a' : Option Addr) (n c c' : Nat) (F : Nat → Fil) (x1 x2 x3 x4 : Int) (x5 : Bool) (w : World) (h : FL w a n F) (h' : FL w a' n F) (hn : n ≤ 2097152) :
    Calls Tryd.prog 10 #[.agg #[.slice a n c, .int .i64 x1, .int .i64 x2, .int .i64 x3, .int .i64 x4, .bool x5], .agg #[.slice a' n c', .int .i64 x1, .int .i64 x2, .int .i64 x3, .int .i64 x4, .bool x5]] w fun e w' => e = .returned (.bool true) ∧ Below w.heap.size w w' := by
  have hb0 := bal w (.cells #[.slice a n c, .int .i64 x1, .int .i64 x2, .int .i64 x3, .int .i64 x4, .bool x5] 30)
  have hb1 := bal (w.alloc (.cells #[.slice a n c, .int .i64 x1, .int .i64 x2, .int .i64 x3, .int .i64 x4, .bool x5] 30)) (.cells #[.slice a' n c', .int .i64 x1, .int .i64 x2, .int .i64 x3, .int .i64 x4, .bool x5] 30)
  have hb2 := bstep hb0 hb1
  go_enter Tryd.func10, Tryd.ntmps10
  go_wp2_with (go_at_call 36; refine (eqFils a a' n c c' F _ (h.later hb2) (h'.later hb2) hn).mono ?_; rintro e w1 ⟨rfl, hb3⟩; have p1 : w1.cell? ⟨w.heap.size, 1, none⟩ = some (.int .i64 x1) := keepB hb3 (keepB hb1 (cell_of_row _ _ 1 _ _ _ (heap_alloc_new w _))); have q1 : w1.cell? ⟨w.heap.size + 1, 1, none⟩ = some (.int .i64 x1) := keepB hb3 (by have hh := cell_of_row _ _ 1 _ _ _ (heap_alloc_new (w.alloc (.cells #[.slice a n c, .int .i64 x1, .int .i64 x2, .int .i64 x3, .int .i64 x4, .bool x5] 30)) (.cells #[.slice a' n c', .int .i64 x1, .int .i64 x2, .int .i64 x3, .int .i64 x4, .bool x5] 30)); rw [show (w.alloc (.cells #[.slice a n c, .int .i64 x1, .int .i64 x2, .int .i64 x3, .int .i64 x4, .bool x5] 30)).heap.size = w.heap.size + 1 by simp] at hh; exact hh); have p2 : w1.cell? ⟨w.heap.size, 2, none⟩ = some (.int .i64 x2) := keepB hb3 (keepB hb1 (cell_of_row _ _ 2 _ _ _ (heap_alloc_new w _))); have q2 : w1.cell? ⟨w.heap.size + 1, 2, none⟩ = some (.int .i64 x2) := keepB hb3 (by have hh := cell_of_row _ _ 2 _ _ _ (heap_alloc_new (w.alloc (.cells #[.slice a n c, .int .i64 x1, .int .i64 x2, .int .i64 x3, .int .i64 x4, .bool x5] 30)) (.cells #[.slice a' n c', .int .i64 x1, .int .i64 x2, .int .i64 x3, .int .i64 x4, .bool x5] 30)); rw [show (w.alloc (.cells #[.slice a n c, .int .i64 x1, .int .i64 x2, .int .i64 x3, .int .i64 x4, .bool x5] 30)).heap.size = w.heap.size + 1 by simp] at hh; exact hh); have p3 : w1.cell? ⟨w.heap.size, 3, none⟩ = some (.int .i64 x3) := keepB hb3 (keepB hb1 (cell_of_row _ _ 3 _ _ _ (heap_alloc_new w _))); have q3 : w1.cell? ⟨w.heap.size + 1, 3, none⟩ = some (.int .i64 x3) := keepB hb3 (by have hh := cell_of_row _ _ 3 _ _ _ (heap_alloc_new (w.alloc (.cells #[.slice a n c, .int .i64 x1, .int .i64 x2, .int .i64 x3, .int .i64 x4, .bool x5] 30)) (.cells #[.slice a' n c', .int .i64 x1, .int .i64 x2, .int .i64 x3, .int .i64 x4, .bool x5] 30)); rw [show (w.alloc (.cells #[.slice a n c, .int .i64 x1, .int .i64 x2, .int .i64 x3, .int .i64 x4, .bool x5] 30)).heap.size = w.heap.size + 1 by simp] at hh; exact hh); have p4 : w1.cell? ⟨w.heap.size, 4, none⟩ = some (.int .i64 x4) := keepB hb3 (keepB hb1 (cell_of_row _ _ 4 _ _ _ (heap_alloc_new w _))); have q4 : w1.cell? ⟨w.heap.size + 1, 4, none⟩ = some (.int .i64 x4) := keepB hb3 (by have hh := cell_of_row _ _ 4 _ _ _ (heap_alloc_new (w.alloc (.cells #[.slice a n c, .int .i64 x1, .int .i64 x2, .int .i64 x3, .int .i64 x4, .bool x5] 30)) (.cells #[.slice a' n c', .int .i64 x1, .int .i64 x2, .int .i64 x3, .int .i64 x4, .bool x5] 30)); rw [show (w.alloc (.cells #[.slice a n c, .int .i64 x1, .int .i64 x2, .int .i64 x3, .int .i64 x4, .bool x5] 30)).heap.size = w.heap.size + 1 by simp] at hh; exact hh); have p5 : w1.cell? ⟨w.heap.size, 5, none⟩ = some (.bool x5) := keepB hb3 (keepB hb1 (cell_of_row _ _ 5 _ _ _ (heap_alloc_new w _))); have q5 : w1.cell? ⟨w.heap.size + 1, 5, none⟩ = some (.bool x5) := keepB hb3 (by have hh := cell_of_row _ _ 5 _ _ _ (heap_alloc_new (w.alloc (.cells #[.slice a n c, .int .i64 x1, .int .i64 x2, .int .i64 x3, .int .i64 x4, .bool x5] 30)) (.cells #[.slice a' n c', .int .i64 x1, .int .i64 x2, .int .i64 x3, .int .i64 x4, .bool x5] 30)); rw [show (w.alloc (.cells #[.slice a n c, .int .i64 x1, .int .i64 x2, .int .i64 x3, .int .i64 x4, .bool x5] 30)).heap.size = w.heap.size + 1 by simp] at hh; exact hh))
  go_ret
  exact ⟨rfl, bstep hb2 hb3⟩
end Go.Proofs.YtdbcihebhgpblaaDoor
