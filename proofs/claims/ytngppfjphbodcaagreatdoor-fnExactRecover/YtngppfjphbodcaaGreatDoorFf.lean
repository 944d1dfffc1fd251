/-
  FsValid: the program's side; the law's own functions over file systems; the law.
-/
import Derived.Test.YtngppfjphbodcaaGreatDoorFe
namespace Go.Proofs.YtngppfjphbodcaaGreatDoor
open Go.RowKit
theorem allN_and {n : Nat} (p q : Nat → Bool) : allN n (fun k => p k && q k) = (allN n p && allN n q) := by
  rcases h : allN n p
  · rcases h' : allN n (fun k => p k && q k)
    · rfl
    · exfalso
      unfold allN at h h'
      rw [List.all_eq_true] at h'
      rw [List.all_eq_false] at h
      obtain ⟨k, hk, hp⟩ := h
      have := h' k hk
      simp at this
      exact hp this.1
  · rcases h2 : allN n q
    · rcases h' : allN n (fun k => p k && q k)
      · rfl
      · exfalso
        unfold allN at h2 h'
        rw [List.all_eq_true] at h'
        rw [List.all_eq_false] at h2
        obtain ⟨k, hk, hp⟩ := h2
        have := h' k hk
        simp at this
        exact hp this.2
    · refine allN_true fun j hj => ?_
      unfold allN at h h2
      rw [List.all_eq_true] at h h2
      rw [h j (by simpa using hj), h2 j (by simpa using hj)]
      rfl
set_option maxRecDepth 20000 in
set_option maxHeartbeats 4000000 in
theorem iSorted (a : Option Addr) (n c : Nat) (F : Nat → Fil) (w : World) (h : FL w a n F) (hS : Small n F) : Calls Tryz.prog 39 #[.slice a n c, .func (.func 40) #[] #[]] w fun e w' => e = .returned (.bool (allN n (ltN F))) ∧ Below w.heap.size w w' := by
  have hn := hS.n
  have hb0 := Below.refl w.heap.size w
  go_enter Tryz.func39, Tryz.ntmps39
  go_wp2
  go_loopw [5] (fun i wr => ∃ p : Nat, (p = 0 ∨ p < n) ∧ i = .int .i64 (p + 1 : Nat) ∧ (∀ j, j < p + 1 → ltN F j = true) ∧ Below w.heap.size w wr) (fun i _ => n - (intOf i).toNat)
  case atStart => exact ⟨0, Or.inl rfl, rfl, fun j hj => by obtain rfl : j = 0 := by omega
                                                            rfl, hb0⟩
  case round =>
    obtain ⟨p, hk, rfl, hall, hb⟩ := hrel
    by_cases hlt : p + 1 < n
    · obtain ⟨b, off, rfl, c0, c1, c2⟩ := h.later hb (p + 1) hlt
      obtain ⟨b', off', e', f0, f1, f2⟩ := h.later hb p (by omega)
      obtain ⟨rfl, rfl⟩ : b = b' ∧ off = off' := by simpa using e'
      have i0 : (0 : Int) ≤ (p : Int) := by omega
      have i1 : (p : Int) < (n : Int) := by omega
      have i3 : (0 : Int) ≤ (p : Int) + 1 := by omega
      have i4 : (p : Int) + 1 < (n : Int) := by omega
      have i2 : IntKind.i64.wrap (p : Int) = (p : Int) := by rw [IntKind.wrap_i64]; omega
      rcases h7 : Op.bytesLess (F p).s.toList (F (p + 1)).s.toList
      · go_wp2
        refine wp_region_held_drew (S := fun x => Below wr.heap.size wr x) (by kernel_rfl) (bdrew _) (fun hHeld => ?_)
        refine' wpAnyH_take (i := 0) (oi := ({ dst := some 12, op := Op.move (Operand.tmp 1), type := 73, pos := "l5_replay.go:108", after := #[], guard := none } : Oper)) (v := _) rfl (by kernel_rfl) (by kernel_rfl) (by kernel_rfl) (fun _ _ _ h => h) (Or.inl ⟨by rfl, fun x hSw => ?hyz1_0⟩) hHeld ?restz1_0
        case hyz1_0 =>
          have k0 := keepB hSw c0; have k1 := keepB hSw c1; have k2 := keepB hSw c2; have k3 := keepB hSw f0; have k4 := keepB hSw f1; have k5 := keepB hSw f2
          go_simp
          try with_reducible rfl
        try simp only [Act.put, List.setIfInBounds_toArray, List.set_cons_zero, List.set_cons_succ]
        refine' wpAnyH_take (i := 1) (oi := ({ dst := some 13, op := Op.move (Operand.tmp 0), type := 26, pos := "l5_replay.go:108", after := #[], guard := none } : Oper)) (v := _) rfl (by kernel_rfl) (by kernel_rfl) (by kernel_rfl) (fun _ _ _ h => h) (Or.inl ⟨by rfl, fun x hSw => ?hyz1_1⟩) hHeld ?restz1_1
        case hyz1_1 =>
          have k0 := keepB hSw c0; have k1 := keepB hSw c1; have k2 := keepB hSw c2; have k3 := keepB hSw f0; have k4 := keepB hSw f1; have k5 := keepB hSw f2
          go_simp
          try with_reducible rfl
        try simp only [Act.put, List.setIfInBounds_toArray, List.set_cons_zero, List.set_cons_succ]
        refine' wpAnyH_take (i := 2) (oi := ({ dst := some 14, op := Op.move (Operand.tmp 5), type := 3, pos := "l5_replay.go:108", after := #[], guard := none } : Oper)) (v := _) rfl (by kernel_rfl) (by kernel_rfl) (by kernel_rfl) (fun _ _ _ h => h) (Or.inl ⟨by rfl, fun x hSw => ?hyz1_2⟩) hHeld ?restz1_2
        case hyz1_2 =>
          have k0 := keepB hSw c0; have k1 := keepB hSw c1; have k2 := keepB hSw c2; have k3 := keepB hSw f0; have k4 := keepB hSw f1; have k5 := keepB hSw f2
          go_simp
          try with_reducible rfl
        try simp only [Act.put, List.setIfInBounds_toArray, List.set_cons_zero, List.set_cons_succ]
        refine' wpAnyH_take (i := 3) (oi := ({ dst := some 15, op := Op.binOp BinOp.sub 3 (Operand.tmp 14) (Operand.const (Value.int IntKind.i64 1)) 3, type := 3, pos := "l5_replay.go:108", after := #[{ on := 2, ground := Ground.data }], guard := none } : Oper)) (v := .int .i64 (p : Int)) rfl (by kernel_rfl) (by kernel_rfl) (by kernel_rfl) (fun _ _ _ h => h) (Or.inl ⟨by rfl, fun x hSw => ?hyz1_3⟩) hHeld ?restz1_3
        case hyz1_3 =>
          have k0 := keepB hSw c0; have k1 := keepB hSw c1; have k2 := keepB hSw c2; have k3 := keepB hSw f0; have k4 := keepB hSw f1; have k5 := keepB hSw f2
          go_simp
          try with_reducible rfl
        try simp only [Act.put, List.setIfInBounds_toArray, List.set_cons_zero, List.set_cons_succ]
        refine' wpAnyH_take (i := 4) (oi := ({ dst := some 16, op := Op.indexAddr 26 (Operand.tmp 13) (Operand.tmp 15), type := 0, pos := "l5_replay.go:108", after := #[{ on := 1, ground := Ground.data }, { on := 3, ground := Ground.data }], guard := none } : Oper)) (v := .pointer (some ⟨b, off + p * 3, none⟩)) rfl (by kernel_rfl) (by kernel_rfl) (by kernel_rfl) (fun _ _ _ h => h) (Or.inl ⟨by rfl, fun x hSw => ?hyz1_4⟩) hHeld ?restz1_4
        case hyz1_4 =>
          have k0 := keepB hSw c0; have k1 := keepB hSw c1; have k2 := keepB hSw c2; have k3 := keepB hSw f0; have k4 := keepB hSw f1; have k5 := keepB hSw f2
          go_simp
          try with_reducible rfl
        try simp only [Act.put, List.setIfInBounds_toArray, List.set_cons_zero, List.set_cons_succ]
        refine' wpAnyH_take (i := 5) (oi := ({ dst := some 17, op := Op.load 49 (Operand.tmp 16), type := 49, pos := "l5_replay.go:108", after := #[{ on := 4, ground := Ground.data }], guard := none } : Oper)) (v := _) rfl (by kernel_rfl) (by kernel_rfl) (by kernel_rfl) (fun _ _ _ h => h) (Or.inl ⟨by rfl, fun x hSw => ?hyz1_5⟩) hHeld ?restz1_5
        case hyz1_5 =>
          have k0 := keepB hSw c0; have k1 := keepB hSw c1; have k2 := keepB hSw c2; have k3 := keepB hSw f0; have k4 := keepB hSw f1; have k5 := keepB hSw f2
          go_simp
          try with_reducible rfl
        try simp only [Act.put, List.setIfInBounds_toArray, List.set_cons_zero, List.set_cons_succ]
        refine' wpAnyH_take (i := 7) (oi := ({ dst := some 19, op := Op.move (Operand.tmp 1), type := 73, pos := "l5_replay.go:108", after := #[], guard := none } : Oper)) (v := _) rfl (by kernel_rfl) (by kernel_rfl) (by kernel_rfl) (fun _ _ _ h => h) (Or.inl ⟨by rfl, fun x hSw => ?hyz1_7⟩) hHeld ?restz1_7
        case hyz1_7 =>
          have k0 := keepB hSw c0; have k1 := keepB hSw c1; have k2 := keepB hSw c2; have k3 := keepB hSw f0; have k4 := keepB hSw f1; have k5 := keepB hSw f2
          go_simp
          try with_reducible rfl
        try simp only [Act.put, List.setIfInBounds_toArray, List.set_cons_zero, List.set_cons_succ]
        refine' wpAnyH_take (i := 8) (oi := ({ dst := some 20, op := Op.move (Operand.tmp 0), type := 26, pos := "l5_replay.go:108", after := #[], guard := none } : Oper)) (v := _) rfl (by kernel_rfl) (by kernel_rfl) (by kernel_rfl) (fun _ _ _ h => h) (Or.inl ⟨by rfl, fun x hSw => ?hyz1_8⟩) hHeld ?restz1_8
        case hyz1_8 =>
          have k0 := keepB hSw c0; have k1 := keepB hSw c1; have k2 := keepB hSw c2; have k3 := keepB hSw f0; have k4 := keepB hSw f1; have k5 := keepB hSw f2
          go_simp
          try with_reducible rfl
        try simp only [Act.put, List.setIfInBounds_toArray, List.set_cons_zero, List.set_cons_succ]
        refine' wpAnyH_take (i := 9) (oi := ({ dst := some 21, op := Op.move (Operand.tmp 5), type := 3, pos := "l5_replay.go:108", after := #[], guard := none } : Oper)) (v := _) rfl (by kernel_rfl) (by kernel_rfl) (by kernel_rfl) (fun _ _ _ h => h) (Or.inl ⟨by rfl, fun x hSw => ?hyz1_9⟩) hHeld ?restz1_9
        case hyz1_9 =>
          have k0 := keepB hSw c0; have k1 := keepB hSw c1; have k2 := keepB hSw c2; have k3 := keepB hSw f0; have k4 := keepB hSw f1; have k5 := keepB hSw f2
          go_simp
          try with_reducible rfl
        try simp only [Act.put, List.setIfInBounds_toArray, List.set_cons_zero, List.set_cons_succ]
        refine' wpAnyH_take (i := 10) (oi := ({ dst := some 22, op := Op.indexAddr 26 (Operand.tmp 20) (Operand.tmp 21), type := 0, pos := "l5_replay.go:108", after := #[{ on := 8, ground := Ground.data }, { on := 9, ground := Ground.data }], guard := none } : Oper)) (v := _) rfl (by kernel_rfl) (by kernel_rfl) (by kernel_rfl) (fun _ _ _ h => h) (Or.inl ⟨by rfl, fun x hSw => ?hyz1_10⟩) hHeld ?restz1_10
        case hyz1_10 =>
          have k0 := keepB hSw c0; have k1 := keepB hSw c1; have k2 := keepB hSw c2; have k3 := keepB hSw f0; have k4 := keepB hSw f1; have k5 := keepB hSw f2
          go_simp
          try with_reducible rfl
        try simp only [Act.put, List.setIfInBounds_toArray, List.set_cons_zero, List.set_cons_succ]
        refine' wpAnyH_take (i := 11) (oi := ({ dst := some 23, op := Op.load 49 (Operand.tmp 22), type := 49, pos := "l5_replay.go:108", after := #[{ on := 10, ground := Ground.data }], guard := none } : Oper)) (v := _) rfl (by kernel_rfl) (by kernel_rfl) (by kernel_rfl) (fun _ _ _ h => h) (Or.inl ⟨by rfl, fun x hSw => ?hyz1_11⟩) hHeld ?restz1_11
        case hyz1_11 =>
          have k0 := keepB hSw c0; have k1 := keepB hSw c1; have k2 := keepB hSw c2; have k3 := keepB hSw f0; have k4 := keepB hSw f1; have k5 := keepB hSw f2
          go_simp
          try with_reducible rfl
        try simp only [Act.put, List.setIfInBounds_toArray, List.set_cons_zero, List.set_cons_succ]
        refine wpAnyH_ready (rs := [6]) (by kernel_rfl) (by simp) ?_
        refine AllReadyH.cons (o := ({ dst := some 18, op := Op.call { callee := Callee.value (Operand.tmp 12), args := #[Operand.tmp 17], argTypes := #[49] }, type := 9, pos := "l5_replay.go:108", after := #[{ on := 0, ground := Ground.data }, { on := 5, ground := Ground.data }], guard := none } : Oper)) rfl (fun K hK => ?_) AllReadyH.nil
        go_simp
        refine (iFileNm (F p).s (F p).d (F p).y _).mono ?_
        rintro e w1 ⟨rfl, hb1⟩
        refine hK.out _ _ (bstep hHeld hb1) (fun hHeld => ?_)
        clear hK K
        try simp only [Act.put, List.setIfInBounds_toArray, List.set_cons_zero, List.set_cons_succ]
        refine wpAnyH_ready (rs := [12]) (by kernel_rfl) (by simp) ?_
        refine AllReadyH.cons (o := ({ dst := some 24, op := Op.call { callee := Callee.value (Operand.tmp 19), args := #[Operand.tmp 23], argTypes := #[49] }, type := 9, pos := "l5_replay.go:108", after := #[{ on := 7, ground := Ground.data }, { on := 11, ground := Ground.data }, { on := 6, ground := Ground.chain }], guard := none } : Oper)) rfl (fun K hK => ?_) AllReadyH.nil
        go_simp
        refine (iFileNm (F (p + 1)).s (F (p + 1)).d (F (p + 1)).y _).mono ?_
        rintro e w2 ⟨rfl, hb2⟩
        refine hK.out _ _ (bstep hHeld hb2) (fun hHeld => ?_)
        clear hK K
        try simp only [Act.put, List.setIfInBounds_toArray, List.set_cons_zero, List.set_cons_succ]
        refine wpAnyH_ready (rs := [13]) (by kernel_rfl) (by simp) ?_
        refine AllReadyH.cons (o := ({ dst := some 25, op := Op.call { callee := Callee.value (Operand.func 52), args := #[Operand.tmp 18, Operand.tmp 24], argTypes := #[9, 9] }, type := 4, pos := "l5_replay.go:108", after := #[{ on := 6, ground := Ground.data }, { on := 12, ground := Ground.data }, { on := 12, ground := Ground.chain }], guard := none } : Oper)) rfl (fun K hK => ?_) AllReadyH.nil
        go_simp
        refine (cmpLess (F p).s (F (p + 1)).s _).mono ?_
        rw [h7]; rintro e w3 ⟨rfl, rfl⟩
        refine hK.out _ _ (hHeld) (fun hHeld => ?_)
        clear hK K
        try simp only [Act.put, List.setIfInBounds_toArray, List.set_cons_zero, List.set_cons_succ]
        refine' wpAnyH_take (i := 14) (oi := ({ dst := some 26, op := Op.unOp UnOp.not 4 (Operand.tmp 25), type := 4, pos := "l5_replay.go:108", after := #[{ on := 13, ground := Ground.data }], guard := none } : Oper)) (v := _) rfl (by kernel_rfl) (by kernel_rfl) (by kernel_rfl) (fun _ _ _ h => h) (Or.inl ⟨by rfl, fun x hSw => ?hyz1_14⟩) hHeld ?restz1_14
        case hyz1_14 =>
          have k0 := keepB hSw c0; have k1 := keepB hSw c1; have k2 := keepB hSw c2; have k3 := keepB hSw f0; have k4 := keepB hSw f1; have k5 := keepB hSw f2
          go_simp
          try with_reducible rfl
        try simp only [Act.put, List.setIfInBounds_toArray, List.set_cons_zero, List.set_cons_succ]
        refine wpAnyH_done (by kernel_rfl) ?_ _
        go_wp2
        go_ret
        exact ⟨retB (allN_false (p := ltN F) hlt (by simp [ltN, h7])).symm, bstep hb hHeld⟩
      · go_wp2
        refine wp_region_held_drew (S := fun x => Below wr.heap.size wr x) (by kernel_rfl) (bdrew _) (fun hHeld => ?_)
        refine' wpAnyH_take (i := 0) (oi := ({ dst := some 12, op := Op.move (Operand.tmp 1), type := 73, pos := "l5_replay.go:108", after := #[], guard := none } : Oper)) (v := _) rfl (by kernel_rfl) (by kernel_rfl) (by kernel_rfl) (fun _ _ _ h => h) (Or.inl ⟨by rfl, fun x hSw => ?hyz2_0⟩) hHeld ?restz2_0
        case hyz2_0 =>
          have k0 := keepB hSw c0; have k1 := keepB hSw c1; have k2 := keepB hSw c2; have k3 := keepB hSw f0; have k4 := keepB hSw f1; have k5 := keepB hSw f2
          go_simp
          try with_reducible rfl
        try simp only [Act.put, List.setIfInBounds_toArray, List.set_cons_zero, List.set_cons_succ]
        refine' wpAnyH_take (i := 1) (oi := ({ dst := some 13, op := Op.move (Operand.tmp 0), type := 26, pos := "l5_replay.go:108", after := #[], guard := none } : Oper)) (v := _) rfl (by kernel_rfl) (by kernel_rfl) (by kernel_rfl) (fun _ _ _ h => h) (Or.inl ⟨by rfl, fun x hSw => ?hyz2_1⟩) hHeld ?restz2_1
        case hyz2_1 =>
          have k0 := keepB hSw c0; have k1 := keepB hSw c1; have k2 := keepB hSw c2; have k3 := keepB hSw f0; have k4 := keepB hSw f1; have k5 := keepB hSw f2
          go_simp
          try with_reducible rfl
        try simp only [Act.put, List.setIfInBounds_toArray, List.set_cons_zero, List.set_cons_succ]
        refine' wpAnyH_take (i := 2) (oi := ({ dst := some 14, op := Op.move (Operand.tmp 5), type := 3, pos := "l5_replay.go:108", after := #[], guard := none } : Oper)) (v := _) rfl (by kernel_rfl) (by kernel_rfl) (by kernel_rfl) (fun _ _ _ h => h) (Or.inl ⟨by rfl, fun x hSw => ?hyz2_2⟩) hHeld ?restz2_2
        case hyz2_2 =>
          have k0 := keepB hSw c0; have k1 := keepB hSw c1; have k2 := keepB hSw c2; have k3 := keepB hSw f0; have k4 := keepB hSw f1; have k5 := keepB hSw f2
          go_simp
          try with_reducible rfl
        try simp only [Act.put, List.setIfInBounds_toArray, List.set_cons_zero, List.set_cons_succ]
        refine' wpAnyH_take (i := 3) (oi := ({ dst := some 15, op := Op.binOp BinOp.sub 3 (Operand.tmp 14) (Operand.const (Value.int IntKind.i64 1)) 3, type := 3, pos := "l5_replay.go:108", after := #[{ on := 2, ground := Ground.data }], guard := none } : Oper)) (v := .int .i64 (p : Int)) rfl (by kernel_rfl) (by kernel_rfl) (by kernel_rfl) (fun _ _ _ h => h) (Or.inl ⟨by rfl, fun x hSw => ?hyz2_3⟩) hHeld ?restz2_3
        case hyz2_3 =>
          have k0 := keepB hSw c0; have k1 := keepB hSw c1; have k2 := keepB hSw c2; have k3 := keepB hSw f0; have k4 := keepB hSw f1; have k5 := keepB hSw f2
          go_simp
          try with_reducible rfl
        try simp only [Act.put, List.setIfInBounds_toArray, List.set_cons_zero, List.set_cons_succ]
        refine' wpAnyH_take (i := 4) (oi := ({ dst := some 16, op := Op.indexAddr 26 (Operand.tmp 13) (Operand.tmp 15), type := 0, pos := "l5_replay.go:108", after := #[{ on := 1, ground := Ground.data }, { on := 3, ground := Ground.data }], guard := none } : Oper)) (v := .pointer (some ⟨b, off + p * 3, none⟩)) rfl (by kernel_rfl) (by kernel_rfl) (by kernel_rfl) (fun _ _ _ h => h) (Or.inl ⟨by rfl, fun x hSw => ?hyz2_4⟩) hHeld ?restz2_4
        case hyz2_4 =>
          have k0 := keepB hSw c0; have k1 := keepB hSw c1; have k2 := keepB hSw c2; have k3 := keepB hSw f0; have k4 := keepB hSw f1; have k5 := keepB hSw f2
          go_simp
          try with_reducible rfl
        try simp only [Act.put, List.setIfInBounds_toArray, List.set_cons_zero, List.set_cons_succ]
        refine' wpAnyH_take (i := 5) (oi := ({ dst := some 17, op := Op.load 49 (Operand.tmp 16), type := 49, pos := "l5_replay.go:108", after := #[{ on := 4, ground := Ground.data }], guard := none } : Oper)) (v := _) rfl (by kernel_rfl) (by kernel_rfl) (by kernel_rfl) (fun _ _ _ h => h) (Or.inl ⟨by rfl, fun x hSw => ?hyz2_5⟩) hHeld ?restz2_5
        case hyz2_5 =>
          have k0 := keepB hSw c0; have k1 := keepB hSw c1; have k2 := keepB hSw c2; have k3 := keepB hSw f0; have k4 := keepB hSw f1; have k5 := keepB hSw f2
          go_simp
          try with_reducible rfl
        try simp only [Act.put, List.setIfInBounds_toArray, List.set_cons_zero, List.set_cons_succ]
        refine' wpAnyH_take (i := 7) (oi := ({ dst := some 19, op := Op.move (Operand.tmp 1), type := 73, pos := "l5_replay.go:108", after := #[], guard := none } : Oper)) (v := _) rfl (by kernel_rfl) (by kernel_rfl) (by kernel_rfl) (fun _ _ _ h => h) (Or.inl ⟨by rfl, fun x hSw => ?hyz2_7⟩) hHeld ?restz2_7
        case hyz2_7 =>
          have k0 := keepB hSw c0; have k1 := keepB hSw c1; have k2 := keepB hSw c2; have k3 := keepB hSw f0; have k4 := keepB hSw f1; have k5 := keepB hSw f2
          go_simp
          try with_reducible rfl
        try simp only [Act.put, List.setIfInBounds_toArray, List.set_cons_zero, List.set_cons_succ]
        refine' wpAnyH_take (i := 8) (oi := ({ dst := some 20, op := Op.move (Operand.tmp 0), type := 26, pos := "l5_replay.go:108", after := #[], guard := none } : Oper)) (v := _) rfl (by kernel_rfl) (by kernel_rfl) (by kernel_rfl) (fun _ _ _ h => h) (Or.inl ⟨by rfl, fun x hSw => ?hyz2_8⟩) hHeld ?restz2_8
        case hyz2_8 =>
          have k0 := keepB hSw c0; have k1 := keepB hSw c1; have k2 := keepB hSw c2; have k3 := keepB hSw f0; have k4 := keepB hSw f1; have k5 := keepB hSw f2
          go_simp
          try with_reducible rfl
        try simp only [Act.put, List.setIfInBounds_toArray, List.set_cons_zero, List.set_cons_succ]
        refine' wpAnyH_take (i := 9) (oi := ({ dst := some 21, op := Op.move (Operand.tmp 5), type := 3, pos := "l5_replay.go:108", after := #[], guard := none } : Oper)) (v := _) rfl (by kernel_rfl) (by kernel_rfl) (by kernel_rfl) (fun _ _ _ h => h) (Or.inl ⟨by rfl, fun x hSw => ?hyz2_9⟩) hHeld ?restz2_9
        case hyz2_9 =>
          have k0 := keepB hSw c0; have k1 := keepB hSw c1; have k2 := keepB hSw c2; have k3 := keepB hSw f0; have k4 := keepB hSw f1; have k5 := keepB hSw f2
          go_simp
          try with_reducible rfl
        try simp only [Act.put, List.setIfInBounds_toArray, List.set_cons_zero, List.set_cons_succ]
        refine' wpAnyH_take (i := 10) (oi := ({ dst := some 22, op := Op.indexAddr 26 (Operand.tmp 20) (Operand.tmp 21), type := 0, pos := "l5_replay.go:108", after := #[{ on := 8, ground := Ground.data }, { on := 9, ground := Ground.data }], guard := none } : Oper)) (v := _) rfl (by kernel_rfl) (by kernel_rfl) (by kernel_rfl) (fun _ _ _ h => h) (Or.inl ⟨by rfl, fun x hSw => ?hyz2_10⟩) hHeld ?restz2_10
        case hyz2_10 =>
          have k0 := keepB hSw c0; have k1 := keepB hSw c1; have k2 := keepB hSw c2; have k3 := keepB hSw f0; have k4 := keepB hSw f1; have k5 := keepB hSw f2
          go_simp
          try with_reducible rfl
        try simp only [Act.put, List.setIfInBounds_toArray, List.set_cons_zero, List.set_cons_succ]
        refine' wpAnyH_take (i := 11) (oi := ({ dst := some 23, op := Op.load 49 (Operand.tmp 22), type := 49, pos := "l5_replay.go:108", after := #[{ on := 10, ground := Ground.data }], guard := none } : Oper)) (v := _) rfl (by kernel_rfl) (by kernel_rfl) (by kernel_rfl) (fun _ _ _ h => h) (Or.inl ⟨by rfl, fun x hSw => ?hyz2_11⟩) hHeld ?restz2_11
        case hyz2_11 =>
          have k0 := keepB hSw c0; have k1 := keepB hSw c1; have k2 := keepB hSw c2; have k3 := keepB hSw f0; have k4 := keepB hSw f1; have k5 := keepB hSw f2
          go_simp
          try with_reducible rfl
        try simp only [Act.put, List.setIfInBounds_toArray, List.set_cons_zero, List.set_cons_succ]
        refine wpAnyH_ready (rs := [6]) (by kernel_rfl) (by simp) ?_
        refine AllReadyH.cons (o := ({ dst := some 18, op := Op.call { callee := Callee.value (Operand.tmp 12), args := #[Operand.tmp 17], argTypes := #[49] }, type := 9, pos := "l5_replay.go:108", after := #[{ on := 0, ground := Ground.data }, { on := 5, ground := Ground.data }], guard := none } : Oper)) rfl (fun K hK => ?_) AllReadyH.nil
        go_simp
        refine (iFileNm (F p).s (F p).d (F p).y _).mono ?_
        rintro e w1 ⟨rfl, hb1⟩
        refine hK.out _ _ (bstep hHeld hb1) (fun hHeld => ?_)
        clear hK K
        try simp only [Act.put, List.setIfInBounds_toArray, List.set_cons_zero, List.set_cons_succ]
        refine wpAnyH_ready (rs := [12]) (by kernel_rfl) (by simp) ?_
        refine AllReadyH.cons (o := ({ dst := some 24, op := Op.call { callee := Callee.value (Operand.tmp 19), args := #[Operand.tmp 23], argTypes := #[49] }, type := 9, pos := "l5_replay.go:108", after := #[{ on := 7, ground := Ground.data }, { on := 11, ground := Ground.data }, { on := 6, ground := Ground.chain }], guard := none } : Oper)) rfl (fun K hK => ?_) AllReadyH.nil
        go_simp
        refine (iFileNm (F (p + 1)).s (F (p + 1)).d (F (p + 1)).y _).mono ?_
        rintro e w2 ⟨rfl, hb2⟩
        refine hK.out _ _ (bstep hHeld hb2) (fun hHeld => ?_)
        clear hK K
        try simp only [Act.put, List.setIfInBounds_toArray, List.set_cons_zero, List.set_cons_succ]
        refine wpAnyH_ready (rs := [13]) (by kernel_rfl) (by simp) ?_
        refine AllReadyH.cons (o := ({ dst := some 25, op := Op.call { callee := Callee.value (Operand.func 52), args := #[Operand.tmp 18, Operand.tmp 24], argTypes := #[9, 9] }, type := 4, pos := "l5_replay.go:108", after := #[{ on := 6, ground := Ground.data }, { on := 12, ground := Ground.data }, { on := 12, ground := Ground.chain }], guard := none } : Oper)) rfl (fun K hK => ?_) AllReadyH.nil
        go_simp
        refine (cmpLess (F p).s (F (p + 1)).s _).mono ?_
        rw [h7]; rintro e w3 ⟨rfl, rfl⟩
        refine hK.out _ _ (hHeld) (fun hHeld => ?_)
        clear hK K
        try simp only [Act.put, List.setIfInBounds_toArray, List.set_cons_zero, List.set_cons_succ]
        refine' wpAnyH_take (i := 14) (oi := ({ dst := some 26, op := Op.unOp UnOp.not 4 (Operand.tmp 25), type := 4, pos := "l5_replay.go:108", after := #[{ on := 13, ground := Ground.data }], guard := none } : Oper)) (v := _) rfl (by kernel_rfl) (by kernel_rfl) (by kernel_rfl) (fun _ _ _ h => h) (Or.inl ⟨by rfl, fun x hSw => ?hyz2_14⟩) hHeld ?restz2_14
        case hyz2_14 =>
          have k0 := keepB hSw c0; have k1 := keepB hSw c1; have k2 := keepB hSw c2; have k3 := keepB hSw f0; have k4 := keepB hSw f1; have k5 := keepB hSw f2
          go_simp
          try with_reducible rfl
        try simp only [Act.put, List.setIfInBounds_toArray, List.set_cons_zero, List.set_cons_succ]
        refine wpAnyH_done (by kernel_rfl) ?_ _
        go_wp2
        go_roundw
        case rel => exact ⟨p + 1, Or.inr hlt, by go_num, fun j hj => by
          by_cases e : j = p + 1
          · subst e; simp [ltN, h7]
          · exact hall j (by omega), bstep hb hHeld⟩
        case measure => simp [intOf]; omega
    · go_wp2
      go_ret
      exact ⟨retB (allN_true fun j hj => hall j (by omega)).symm, hb⟩
theorem okFs_split (n : Nat) (F : Nat → Fil) (x1 x2 x3 x4 : Int) : okFs n F x1 x2 x3 x4 = (decide (n ≤ 300) && allN n (ltN F) && allN n (okFl F) && (btw x1 0 1000000000 && decide ((sumD F n : Int) ≤ x1) && btw x2 0 1000000000000000 && btw x3 0 1000000000000000 && btw x4 0 1000000000000000)) := by
  unfold okFs
  rw [allN_and]
  rcases decide (n ≤ 300) <;> rcases allN n (ltN F) <;> rcases allN n (okFl F) <;> rcases btw x1 0 1000000000 <;> rcases decide ((sumD F n : Int) ≤ x1) <;> rfl
set_option maxRecDepth 20000 in
set_option maxHeartbeats 8000000 in
theorem iValid (a : Option Addr) (n c : Nat) (F : Nat → Fil) (x1 x2 x3 x4 : Int) (x5 : Bool) (w : World) (h : FL w a n F) (hS : Small n F) : Calls Tryz.prog 24 #[.agg #[.slice a n c, .int .i64 x1, .int .i64 x2, .int .i64 x3, .int .i64 x4, .bool x5]] w fun e w' => e = .returned (.bool (okFs n F x1 x2 x3 x4)) ∧ Below w.heap.size w w' := by
  have hn := hS.n
  have hsp := okFs_split n F x1 x2 x3 x4
  have HSP : Hid (okFs n F x1 x2 x3 x4 = (decide (n ≤ 300) && allN n (ltN F) && allN n (okFl F) && (btw x1 0 1000000000 && decide ((sumD F n : Int) ≤ x1) && btw x2 0 1000000000000000 && btw x3 0 1000000000000000 && btw x4 0 1000000000000000))) := hsp
  clear hsp
  have hb0 := bal w (.cells #[.slice a n c, .int .i64 x1, .int .i64 x2, .int .i64 x3, .int .i64 x4, .bool x5] 28)
  have B0 : (w.alloc (.cells #[.slice a n c, .int .i64 x1, .int .i64 x2, .int .i64 x3, .int .i64 x4, .bool x5] 28)).cell? ⟨w.heap.size, 0, none⟩ = some (.slice a n c) := cell_of_row _ _ 0 _ _ _ (heap_alloc_new w _)
  have B1 : (w.alloc (.cells #[.slice a n c, .int .i64 x1, .int .i64 x2, .int .i64 x3, .int .i64 x4, .bool x5] 28)).cell? ⟨w.heap.size, 1, none⟩ = some (.int .i64 x1) := cell_of_row _ _ 1 _ _ _ (heap_alloc_new w _)
  have B2 : (w.alloc (.cells #[.slice a n c, .int .i64 x1, .int .i64 x2, .int .i64 x3, .int .i64 x4, .bool x5] 28)).cell? ⟨w.heap.size, 2, none⟩ = some (.int .i64 x2) := cell_of_row _ _ 2 _ _ _ (heap_alloc_new w _)
  have B3 : (w.alloc (.cells #[.slice a n c, .int .i64 x1, .int .i64 x2, .int .i64 x3, .int .i64 x4, .bool x5] 28)).cell? ⟨w.heap.size, 3, none⟩ = some (.int .i64 x3) := cell_of_row _ _ 3 _ _ _ (heap_alloc_new w _)
  have B4 : (w.alloc (.cells #[.slice a n c, .int .i64 x1, .int .i64 x2, .int .i64 x3, .int .i64 x4, .bool x5] 28)).cell? ⟨w.heap.size, 4, none⟩ = some (.int .i64 x4) := cell_of_row _ _ 4 _ _ _ (heap_alloc_new w _)
  by_cases h1 : 300 < n
  · go_enter Tryz.func24, Tryz.ntmps24
    go_wp2
    go_ret
    exact ⟨retB (by rw [HSP.out]; simp; omega), hb0⟩
  have e1 : decide (n ≤ 300) = true := by simp; omega
  rcases h2 : allN n (ltN F)
  · go_enter Tryz.func24, Tryz.ntmps24
    go_wp2_with (go_at_call 39; refine (iSorted a n c F _ (h.later hb0) hS).mono ?_; rw [h2]; rintro e w1 ⟨rfl, hb1⟩)
    go_ret
    exact ⟨retB (by rw [HSP.out, h2]; simp), bstep hb0 hb1⟩
  go_enter Tryz.func24, Tryz.ntmps24
  go_wp2_with (go_at_call 39; refine (iSorted a n c F _ (h.later hb0) hS).mono ?_; rw [h2]; rintro e w1 ⟨rfl, hb1⟩; have k0 := keepB hb1 B0)
  go_loopw [4, 18] (fun _ i wr => ∃ k : Nat, k ≤ n ∧ i = .int .i64 k ∧ (∀ j, j < k → okFl F j = true) ∧ Below (w.alloc (.cells #[.slice a n c, .int .i64 x1, .int .i64 x2, .int .i64 x3, .int .i64 x4, .bool x5] 28)).heap.size (w.alloc (.cells #[.slice a n c, .int .i64 x1, .int .i64 x2, .int .i64 x3, .int .i64 x4, .bool x5] 28)) wr) (fun _ i _ => n - (intOf i).toNat)
  case atStart => exact ⟨0, by omega, rfl, fun j hj => by omega, hb1⟩
  case round =>
    obtain ⟨k, hk, rfl, hall, hb⟩ := hrel
    have hbw := bstep hb0 hb
    by_cases hlt : k < n
    · obtain ⟨b, off, rfl, c0, c1, c2⟩ := h.later hbw k hlt
      have z1 := hS.s k hlt
      have z2 := hS.d k hlt
      have hb6 := bal wr (.cells #[.string (F k).s, .string (F k).d, .int .i64 (F k).y] 49)
      clear B0 B1 B2 B3 B4 k0
      rcases h4 : okFn (F k).s
      all_goals rcases h5 : btw (F k).y 0 (F k).d.size
      all_goals
        go_wp2_with (first | (go_at_call 41; refine (iFileName _ _ z1).mono ?_; rw [h4]; rintro e w2 ⟨rfl, rfl⟩) | (go_at_call 42; refine (iUpTo _ _ _).mono ?_; rw [h5]; rintro e w2 ⟨rfl, rfl⟩))
        first
          | (go_roundw
             case rel => exact ⟨k + 1, by omega, by go_num, fun j hj => by
               by_cases e : j = k
               · subst e; simp [okFl, h4, h5]
               · exact hall j (by omega), bstep hb hb6⟩
             case measure => simp [intOf]; omega)
          | (go_ret
             exact ⟨retB (by rw [HSP.out, allN_false (p := okFl F) hlt (by simp [okFl, h4, h5])]; simp), bstep hbw hb6⟩)
    · obtain rfl : k = n := by omega
      have HA : allN k (okFl F) = true := allN_true hall
      replace HSP : Hid (okFs k F x1 x2 x3 x4 = (btw x1 0 1000000000 && decide ((sumD F k : Int) ≤ x1) && btw x2 0 1000000000000000 && btw x3 0 1000000000000000 && btw x4 0 1000000000000000)) := by
        show _ = _
        rw [HSP.out, e1, h2, HA]
        simp
      have k0 := keepB hb B0
      have k1 := keepB hb B1
      have k2 := keepB hb B2
      have k3 := keepB hb B3
      have k4 := keepB hb B4
      clear B0 B1 B2 B3 B4
      rcases g1 : btw x1 0 1000000000
      · go_wp2
        refine wp_region_held_drew (S := fun x => Below wr.heap.size wr x) (by kernel_rfl) (bdrew _) (fun hHeld => ?_)
        refine' wpAnyH_take (i := 0) (oi := ({ dst := some 36, op := Op.fieldAddr 28 (Operand.tmp 1) 1, type := 0, pos := "l6_journal.go:100", after := #[], guard := none } : Oper)) (v := _) rfl (by kernel_rfl) (by kernel_rfl) (by kernel_rfl) (fun _ _ _ h => h) (Or.inl ⟨by rfl, fun x hSw => ?hyz3_0⟩) hHeld ?restz3_0
        case hyz3_0 =>
          have j0 := keepB hSw k0; have j1 := keepB hSw k1; have j2 := keepB hSw k2; have j3 := keepB hSw k3; have j4 := keepB hSw k4
          go_simp
          try with_reducible rfl
        try simp only [Act.put, List.setIfInBounds_toArray, List.set_cons_zero, List.set_cons_succ]
        refine' wpAnyH_take (i := 1) (oi := ({ dst := some 37, op := Op.load 3 (Operand.tmp 36), type := 3, pos := "l6_journal.go:100", after := #[{ on := 0, ground := Ground.data }], guard := none } : Oper)) (v := _) rfl (by kernel_rfl) (by kernel_rfl) (by kernel_rfl) (fun _ _ _ h => h) (Or.inl ⟨by rfl, fun x hSw => ?hyz3_1⟩) hHeld ?restz3_1
        case hyz3_1 =>
          have j0 := keepB hSw k0; have j1 := keepB hSw k1; have j2 := keepB hSw k2; have j3 := keepB hSw k3; have j4 := keepB hSw k4
          go_simp
          try with_reducible rfl
        try simp only [Act.put, List.setIfInBounds_toArray, List.set_cons_zero, List.set_cons_succ]
        refine wpAnyH_ready (rs := [2]) (by kernel_rfl) (by simp) ?_
        refine AllReadyH.cons (o := ({ dst := some 38, op := Op.call { callee := Callee.value (Operand.func 42), args := #[Operand.tmp 37, Operand.const (Value.int IntKind.i64 1000000000)], argTypes := #[3, 3] }, type := 4, pos := "l6_journal.go:100", after := #[{ on := 1, ground := Ground.data }], guard := none } : Oper)) rfl (fun K hK => ?_) AllReadyH.nil
        go_simp
        refine (iUpTo _ _ _).mono ?_
        rw [g1]; rintro e w2 ⟨rfl, rfl⟩
        refine hK.out _ _ (hHeld) (fun hHeld => ?_)
        clear hK K
        try simp only [Act.put, List.setIfInBounds_toArray, List.set_cons_zero, List.set_cons_succ]
        refine' wpAnyH_take (i := 3) (oi := ({ dst := some 39, op := Op.move (Operand.tmp 38), type := 4, pos := "l6_journal.go:100", after := #[{ on := 2, ground := Ground.data }, { on := 2, ground := Ground.chain }], guard := none } : Oper)) (v := _) rfl (by kernel_rfl) (by kernel_rfl) (by kernel_rfl) (fun _ _ _ h => h) (Or.inl ⟨by rfl, fun x hSw => ?hyz3_3⟩) hHeld ?restz3_3
        case hyz3_3 =>
          have j0 := keepB hSw k0; have j1 := keepB hSw k1; have j2 := keepB hSw k2; have j3 := keepB hSw k3; have j4 := keepB hSw k4
          go_simp
          try with_reducible rfl
        try simp only [Act.put, List.setIfInBounds_toArray, List.set_cons_zero, List.set_cons_succ]
        refine wpAnyH_take (i := 4) (oi := ({ dst := some 40, op := Op.fieldAddr 28 (Operand.tmp 1) 0, type := 0, pos := "l6_journal.go:100", after := #[{ on := 3, ground := Ground.guard }], guard := some (3, true) } : Oper)) (v := undef) rfl (by kernel_rfl) (by kernel_rfl) (by kernel_rfl) (fun _ _ _ h => h) (Or.inr ⟨by rfl, rfl⟩) hHeld ?_
        try simp only [Act.put, List.setIfInBounds_toArray, List.set_cons_zero, List.set_cons_succ]
        refine wpAnyH_take (i := 5) (oi := ({ dst := some 41, op := Op.load 26 (Operand.tmp 40), type := 26, pos := "l6_journal.go:100", after := #[{ on := 4, ground := Ground.data }, { on := 3, ground := Ground.guard }], guard := some (3, true) } : Oper)) (v := undef) rfl (by kernel_rfl) (by kernel_rfl) (by kernel_rfl) (fun _ _ _ h => h) (Or.inr ⟨by rfl, rfl⟩) hHeld ?_
        try simp only [Act.put, List.setIfInBounds_toArray, List.set_cons_zero, List.set_cons_succ]
        refine wpAnyH_take (i := 6) (oi := ({ dst := some 42, op := Op.call { callee := Callee.value (Operand.func 43), args := #[Operand.tmp 41], argTypes := #[26] }, type := 3, pos := "l6_journal.go:100", after := #[{ on := 5, ground := Ground.data }, { on := 3, ground := Ground.chain }, { on := 3, ground := Ground.guard }], guard := some (3, true) } : Oper)) (v := undef) rfl (by kernel_rfl) (by kernel_rfl) (by kernel_rfl) (fun _ _ _ h => h) (Or.inr ⟨by rfl, rfl⟩) hHeld ?_
        try simp only [Act.put, List.setIfInBounds_toArray, List.set_cons_zero, List.set_cons_succ]
        refine wpAnyH_take (i := 7) (oi := ({ dst := some 43, op := Op.fieldAddr 28 (Operand.tmp 1) 1, type := 0, pos := "l6_journal.go:100", after := #[{ on := 3, ground := Ground.guard }], guard := some (3, true) } : Oper)) (v := undef) rfl (by kernel_rfl) (by kernel_rfl) (by kernel_rfl) (fun _ _ _ h => h) (Or.inr ⟨by rfl, rfl⟩) hHeld ?_
        try simp only [Act.put, List.setIfInBounds_toArray, List.set_cons_zero, List.set_cons_succ]
        refine wpAnyH_take (i := 8) (oi := ({ dst := some 44, op := Op.load 3 (Operand.tmp 43), type := 3, pos := "l6_journal.go:100", after := #[{ on := 7, ground := Ground.data }, { on := 3, ground := Ground.guard }], guard := some (3, true) } : Oper)) (v := undef) rfl (by kernel_rfl) (by kernel_rfl) (by kernel_rfl) (fun _ _ _ h => h) (Or.inr ⟨by rfl, rfl⟩) hHeld ?_
        try simp only [Act.put, List.setIfInBounds_toArray, List.set_cons_zero, List.set_cons_succ]
        refine wpAnyH_take (i := 9) (oi := ({ dst := some 45, op := Op.binOp BinOp.leq 3 (Operand.tmp 42) (Operand.tmp 44) 3, type := 4, pos := "l6_journal.go:100", after := #[{ on := 6, ground := Ground.data }, { on := 8, ground := Ground.data }, { on := 3, ground := Ground.guard }], guard := some (3, true) } : Oper)) (v := undef) rfl (by kernel_rfl) (by kernel_rfl) (by kernel_rfl) (fun _ _ _ h => h) (Or.inr ⟨by rfl, rfl⟩) hHeld ?_
        try simp only [Act.put, List.setIfInBounds_toArray, List.set_cons_zero, List.set_cons_succ]
        refine' wpAnyH_take (i := 10) (oi := ({ dst := some 46, op := Op.pick (Operand.tmp 39) (Operand.tmp 45) (Operand.const (Value.bool false)), type := 4, pos := "l6_journal.go:100", after := #[{ on := 3, ground := Ground.data }, { on := 9, ground := Ground.data }], guard := none } : Oper)) (v := _) rfl (by kernel_rfl) (by kernel_rfl) (by kernel_rfl) (fun _ _ _ h => h) (Or.inl ⟨by rfl, fun x hSw => ?hyz3_10⟩) hHeld ?restz3_10
        case hyz3_10 =>
          have j0 := keepB hSw k0; have j1 := keepB hSw k1; have j2 := keepB hSw k2; have j3 := keepB hSw k3; have j4 := keepB hSw k4
          go_simp
          try with_reducible rfl
        try simp only [Act.put, List.setIfInBounds_toArray, List.set_cons_zero, List.set_cons_succ]
        refine' wpAnyH_take (i := 11) (oi := ({ dst := some 47, op := Op.move (Operand.tmp 46), type := 4, pos := "l6_journal.go:100", after := #[{ on := 10, ground := Ground.data }, { on := 6, ground := Ground.chain }], guard := none } : Oper)) (v := _) rfl (by kernel_rfl) (by kernel_rfl) (by kernel_rfl) (fun _ _ _ h => h) (Or.inl ⟨by rfl, fun x hSw => ?hyz3_11⟩) hHeld ?restz3_11
        case hyz3_11 =>
          have j0 := keepB hSw k0; have j1 := keepB hSw k1; have j2 := keepB hSw k2; have j3 := keepB hSw k3; have j4 := keepB hSw k4
          go_simp
          try with_reducible rfl
        try simp only [Act.put, List.setIfInBounds_toArray, List.set_cons_zero, List.set_cons_succ]
        refine wpAnyH_take (i := 12) (oi := ({ dst := some 48, op := Op.fieldAddr 28 (Operand.tmp 1) 2, type := 0, pos := "l6_journal.go:100", after := #[{ on := 11, ground := Ground.guard }], guard := some (11, true) } : Oper)) (v := undef) rfl (by kernel_rfl) (by kernel_rfl) (by kernel_rfl) (fun _ _ _ h => h) (Or.inr ⟨by rfl, rfl⟩) hHeld ?_
        try simp only [Act.put, List.setIfInBounds_toArray, List.set_cons_zero, List.set_cons_succ]
        refine wpAnyH_take (i := 13) (oi := ({ dst := some 49, op := Op.load 3 (Operand.tmp 48), type := 3, pos := "l6_journal.go:100", after := #[{ on := 12, ground := Ground.data }, { on := 11, ground := Ground.guard }], guard := some (11, true) } : Oper)) (v := undef) rfl (by kernel_rfl) (by kernel_rfl) (by kernel_rfl) (fun _ _ _ h => h) (Or.inr ⟨by rfl, rfl⟩) hHeld ?_
        try simp only [Act.put, List.setIfInBounds_toArray, List.set_cons_zero, List.set_cons_succ]
        refine wpAnyH_take (i := 14) (oi := ({ dst := some 50, op := Op.call { callee := Callee.value (Operand.func 42), args := #[Operand.tmp 49, Operand.const (Value.int IntKind.i64 1000000000000000)], argTypes := #[3, 3] }, type := 4, pos := "l6_journal.go:101", after := #[{ on := 13, ground := Ground.data }, { on := 11, ground := Ground.chain }, { on := 11, ground := Ground.guard }], guard := some (11, true) } : Oper)) (v := undef) rfl (by kernel_rfl) (by kernel_rfl) (by kernel_rfl) (fun _ _ _ h => h) (Or.inr ⟨by rfl, rfl⟩) hHeld ?_
        try simp only [Act.put, List.setIfInBounds_toArray, List.set_cons_zero, List.set_cons_succ]
        refine' wpAnyH_take (i := 15) (oi := ({ dst := some 51, op := Op.pick (Operand.tmp 47) (Operand.tmp 50) (Operand.const (Value.bool false)), type := 4, pos := "l6_journal.go:100", after := #[{ on := 11, ground := Ground.data }, { on := 14, ground := Ground.data }], guard := none } : Oper)) (v := _) rfl (by kernel_rfl) (by kernel_rfl) (by kernel_rfl) (fun _ _ _ h => h) (Or.inl ⟨by rfl, fun x hSw => ?hyz3_15⟩) hHeld ?restz3_15
        case hyz3_15 =>
          have j0 := keepB hSw k0; have j1 := keepB hSw k1; have j2 := keepB hSw k2; have j3 := keepB hSw k3; have j4 := keepB hSw k4
          go_simp
          try with_reducible rfl
        try simp only [Act.put, List.setIfInBounds_toArray, List.set_cons_zero, List.set_cons_succ]
        refine' wpAnyH_take (i := 16) (oi := ({ dst := some 52, op := Op.move (Operand.tmp 51), type := 4, pos := "l6_journal.go:100", after := #[{ on := 15, ground := Ground.data }, { on := 14, ground := Ground.chain }], guard := none } : Oper)) (v := _) rfl (by kernel_rfl) (by kernel_rfl) (by kernel_rfl) (fun _ _ _ h => h) (Or.inl ⟨by rfl, fun x hSw => ?hyz3_16⟩) hHeld ?restz3_16
        case hyz3_16 =>
          have j0 := keepB hSw k0; have j1 := keepB hSw k1; have j2 := keepB hSw k2; have j3 := keepB hSw k3; have j4 := keepB hSw k4
          go_simp
          try with_reducible rfl
        try simp only [Act.put, List.setIfInBounds_toArray, List.set_cons_zero, List.set_cons_succ]
        refine wpAnyH_take (i := 17) (oi := ({ dst := some 53, op := Op.fieldAddr 28 (Operand.tmp 1) 3, type := 0, pos := "l6_journal.go:100", after := #[{ on := 16, ground := Ground.guard }], guard := some (16, true) } : Oper)) (v := undef) rfl (by kernel_rfl) (by kernel_rfl) (by kernel_rfl) (fun _ _ _ h => h) (Or.inr ⟨by rfl, rfl⟩) hHeld ?_
        try simp only [Act.put, List.setIfInBounds_toArray, List.set_cons_zero, List.set_cons_succ]
        refine wpAnyH_take (i := 18) (oi := ({ dst := some 54, op := Op.load 3 (Operand.tmp 53), type := 3, pos := "l6_journal.go:100", after := #[{ on := 17, ground := Ground.data }, { on := 16, ground := Ground.guard }], guard := some (16, true) } : Oper)) (v := undef) rfl (by kernel_rfl) (by kernel_rfl) (by kernel_rfl) (fun _ _ _ h => h) (Or.inr ⟨by rfl, rfl⟩) hHeld ?_
        try simp only [Act.put, List.setIfInBounds_toArray, List.set_cons_zero, List.set_cons_succ]
        refine wpAnyH_take (i := 19) (oi := ({ dst := some 55, op := Op.call { callee := Callee.value (Operand.func 42), args := #[Operand.tmp 54, Operand.const (Value.int IntKind.i64 1000000000000000)], argTypes := #[3, 3] }, type := 4, pos := "l6_journal.go:101", after := #[{ on := 18, ground := Ground.data }, { on := 16, ground := Ground.chain }, { on := 16, ground := Ground.guard }], guard := some (16, true) } : Oper)) (v := undef) rfl (by kernel_rfl) (by kernel_rfl) (by kernel_rfl) (fun _ _ _ h => h) (Or.inr ⟨by rfl, rfl⟩) hHeld ?_
        try simp only [Act.put, List.setIfInBounds_toArray, List.set_cons_zero, List.set_cons_succ]
        refine' wpAnyH_take (i := 20) (oi := ({ dst := some 56, op := Op.pick (Operand.tmp 52) (Operand.tmp 55) (Operand.const (Value.bool false)), type := 4, pos := "l6_journal.go:100", after := #[{ on := 16, ground := Ground.data }, { on := 19, ground := Ground.data }], guard := none } : Oper)) (v := _) rfl (by kernel_rfl) (by kernel_rfl) (by kernel_rfl) (fun _ _ _ h => h) (Or.inl ⟨by rfl, fun x hSw => ?hyz3_20⟩) hHeld ?restz3_20
        case hyz3_20 =>
          have j0 := keepB hSw k0; have j1 := keepB hSw k1; have j2 := keepB hSw k2; have j3 := keepB hSw k3; have j4 := keepB hSw k4
          go_simp
          try with_reducible rfl
        try simp only [Act.put, List.setIfInBounds_toArray, List.set_cons_zero, List.set_cons_succ]
        refine' wpAnyH_take (i := 21) (oi := ({ dst := some 57, op := Op.move (Operand.tmp 56), type := 4, pos := "l6_journal.go:100", after := #[{ on := 20, ground := Ground.data }, { on := 19, ground := Ground.chain }], guard := none } : Oper)) (v := _) rfl (by kernel_rfl) (by kernel_rfl) (by kernel_rfl) (fun _ _ _ h => h) (Or.inl ⟨by rfl, fun x hSw => ?hyz3_21⟩) hHeld ?restz3_21
        case hyz3_21 =>
          have j0 := keepB hSw k0; have j1 := keepB hSw k1; have j2 := keepB hSw k2; have j3 := keepB hSw k3; have j4 := keepB hSw k4
          go_simp
          try with_reducible rfl
        try simp only [Act.put, List.setIfInBounds_toArray, List.set_cons_zero, List.set_cons_succ]
        refine wpAnyH_take (i := 22) (oi := ({ dst := some 58, op := Op.fieldAddr 28 (Operand.tmp 1) 4, type := 0, pos := "l6_journal.go:100", after := #[{ on := 21, ground := Ground.guard }], guard := some (21, true) } : Oper)) (v := undef) rfl (by kernel_rfl) (by kernel_rfl) (by kernel_rfl) (fun _ _ _ h => h) (Or.inr ⟨by rfl, rfl⟩) hHeld ?_
        try simp only [Act.put, List.setIfInBounds_toArray, List.set_cons_zero, List.set_cons_succ]
        refine wpAnyH_take (i := 23) (oi := ({ dst := some 59, op := Op.load 3 (Operand.tmp 58), type := 3, pos := "l6_journal.go:100", after := #[{ on := 22, ground := Ground.data }, { on := 21, ground := Ground.guard }], guard := some (21, true) } : Oper)) (v := undef) rfl (by kernel_rfl) (by kernel_rfl) (by kernel_rfl) (fun _ _ _ h => h) (Or.inr ⟨by rfl, rfl⟩) hHeld ?_
        try simp only [Act.put, List.setIfInBounds_toArray, List.set_cons_zero, List.set_cons_succ]
        refine wpAnyH_take (i := 24) (oi := ({ dst := some 60, op := Op.call { callee := Callee.value (Operand.func 42), args := #[Operand.tmp 59, Operand.const (Value.int IntKind.i64 1000000000000000)], argTypes := #[3, 3] }, type := 4, pos := "l6_journal.go:101", after := #[{ on := 23, ground := Ground.data }, { on := 21, ground := Ground.chain }, { on := 21, ground := Ground.guard }], guard := some (21, true) } : Oper)) (v := undef) rfl (by kernel_rfl) (by kernel_rfl) (by kernel_rfl) (fun _ _ _ h => h) (Or.inr ⟨by rfl, rfl⟩) hHeld ?_
        try simp only [Act.put, List.setIfInBounds_toArray, List.set_cons_zero, List.set_cons_succ]
        refine' wpAnyH_take (i := 25) (oi := ({ dst := some 61, op := Op.pick (Operand.tmp 57) (Operand.tmp 60) (Operand.const (Value.bool false)), type := 4, pos := "l6_journal.go:100", after := #[{ on := 21, ground := Ground.data }, { on := 24, ground := Ground.data }], guard := none } : Oper)) (v := _) rfl (by kernel_rfl) (by kernel_rfl) (by kernel_rfl) (fun _ _ _ h => h) (Or.inl ⟨by rfl, fun x hSw => ?hyz3_25⟩) hHeld ?restz3_25
        case hyz3_25 =>
          have j0 := keepB hSw k0; have j1 := keepB hSw k1; have j2 := keepB hSw k2; have j3 := keepB hSw k3; have j4 := keepB hSw k4
          go_simp
          try with_reducible rfl
        try simp only [Act.put, List.setIfInBounds_toArray, List.set_cons_zero, List.set_cons_succ]
        refine' wpAnyH_take (i := 26) (oi := ({ dst := some 2, op := Op.assign (Operand.tmp 61), type := 4, pos := "l6_journal.go:100", after := #[{ on := 25, ground := Ground.data }, { on := 24, ground := Ground.chain }, { on := 0, ground := Ground.phase }, { on := 1, ground := Ground.phase }, { on := 2, ground := Ground.phase }, { on := 3, ground := Ground.phase }, { on := 4, ground := Ground.phase }, { on := 5, ground := Ground.phase }, { on := 6, ground := Ground.phase }, { on := 7, ground := Ground.phase }, { on := 8, ground := Ground.phase }, { on := 9, ground := Ground.phase }, { on := 10, ground := Ground.phase }, { on := 11, ground := Ground.phase }, { on := 12, ground := Ground.phase }, { on := 13, ground := Ground.phase }, { on := 14, ground := Ground.phase }, { on := 15, ground := Ground.phase }, { on := 16, ground := Ground.phase }, { on := 17, ground := Ground.phase }, { on := 18, ground := Ground.phase }, { on := 19, ground := Ground.phase }, { on := 20, ground := Ground.phase }, { on := 21, ground := Ground.phase }, { on := 22, ground := Ground.phase }, { on := 23, ground := Ground.phase }, { on := 24, ground := Ground.phase }, { on := 25, ground := Ground.phase }], guard := none } : Oper)) (v := _) rfl (by kernel_rfl) (by kernel_rfl) (by kernel_rfl) (fun _ _ _ h => h) (Or.inl ⟨by rfl, fun x hSw => ?hyz3_26⟩) hHeld ?restz3_26
        case hyz3_26 =>
          have j0 := keepB hSw k0; have j1 := keepB hSw k1; have j2 := keepB hSw k2; have j3 := keepB hSw k3; have j4 := keepB hSw k4
          go_simp
          try with_reducible rfl
        try simp only [Act.put, List.setIfInBounds_toArray, List.set_cons_zero, List.set_cons_succ]
        refine wpAnyH_done (by kernel_rfl) ?_ _
        go_wp2
        go_ret
        exact ⟨retB (by rw [HSP.out, g1]; simp), bstep hbw hHeld⟩
      rcases d1 : decide ((sumD F k : Int) ≤ x1)
      · go_wp2
        refine wp_region_held_drew (S := fun x => Below wr.heap.size wr x) (by kernel_rfl) (bdrew _) (fun hHeld => ?_)
        refine' wpAnyH_take (i := 0) (oi := ({ dst := some 36, op := Op.fieldAddr 28 (Operand.tmp 1) 1, type := 0, pos := "l6_journal.go:100", after := #[], guard := none } : Oper)) (v := _) rfl (by kernel_rfl) (by kernel_rfl) (by kernel_rfl) (fun _ _ _ h => h) (Or.inl ⟨by rfl, fun x hSw => ?hyz4_0⟩) hHeld ?restz4_0
        case hyz4_0 =>
          have j0 := keepB hSw k0; have j1 := keepB hSw k1; have j2 := keepB hSw k2; have j3 := keepB hSw k3; have j4 := keepB hSw k4
          go_simp
          try with_reducible rfl
        try simp only [Act.put, List.setIfInBounds_toArray, List.set_cons_zero, List.set_cons_succ]
        refine' wpAnyH_take (i := 1) (oi := ({ dst := some 37, op := Op.load 3 (Operand.tmp 36), type := 3, pos := "l6_journal.go:100", after := #[{ on := 0, ground := Ground.data }], guard := none } : Oper)) (v := _) rfl (by kernel_rfl) (by kernel_rfl) (by kernel_rfl) (fun _ _ _ h => h) (Or.inl ⟨by rfl, fun x hSw => ?hyz4_1⟩) hHeld ?restz4_1
        case hyz4_1 =>
          have j0 := keepB hSw k0; have j1 := keepB hSw k1; have j2 := keepB hSw k2; have j3 := keepB hSw k3; have j4 := keepB hSw k4
          go_simp
          try with_reducible rfl
        try simp only [Act.put, List.setIfInBounds_toArray, List.set_cons_zero, List.set_cons_succ]
        refine wpAnyH_ready (rs := [2]) (by kernel_rfl) (by simp) ?_
        refine AllReadyH.cons (o := ({ dst := some 38, op := Op.call { callee := Callee.value (Operand.func 42), args := #[Operand.tmp 37, Operand.const (Value.int IntKind.i64 1000000000)], argTypes := #[3, 3] }, type := 4, pos := "l6_journal.go:100", after := #[{ on := 1, ground := Ground.data }], guard := none } : Oper)) rfl (fun K hK => ?_) AllReadyH.nil
        go_simp
        refine (iUpTo _ _ _).mono ?_
        rw [g1]; rintro e w2 ⟨rfl, rfl⟩
        refine hK.out _ _ (hHeld) (fun hHeld => ?_)
        clear hK K
        try simp only [Act.put, List.setIfInBounds_toArray, List.set_cons_zero, List.set_cons_succ]
        refine' wpAnyH_take (i := 3) (oi := ({ dst := some 39, op := Op.move (Operand.tmp 38), type := 4, pos := "l6_journal.go:100", after := #[{ on := 2, ground := Ground.data }, { on := 2, ground := Ground.chain }], guard := none } : Oper)) (v := _) rfl (by kernel_rfl) (by kernel_rfl) (by kernel_rfl) (fun _ _ _ h => h) (Or.inl ⟨by rfl, fun x hSw => ?hyz4_3⟩) hHeld ?restz4_3
        case hyz4_3 =>
          have j0 := keepB hSw k0; have j1 := keepB hSw k1; have j2 := keepB hSw k2; have j3 := keepB hSw k3; have j4 := keepB hSw k4
          go_simp
          try with_reducible rfl
        try simp only [Act.put, List.setIfInBounds_toArray, List.set_cons_zero, List.set_cons_succ]
        refine' wpAnyH_take (i := 4) (oi := ({ dst := some 40, op := Op.fieldAddr 28 (Operand.tmp 1) 0, type := 0, pos := "l6_journal.go:100", after := #[{ on := 3, ground := Ground.guard }], guard := some (3, true) } : Oper)) (v := _) rfl (by kernel_rfl) (by kernel_rfl) (by kernel_rfl) (fun _ _ _ h => h) (Or.inl ⟨by rfl, fun x hSw => ?hyz4_4⟩) hHeld ?restz4_4
        case hyz4_4 =>
          have j0 := keepB hSw k0; have j1 := keepB hSw k1; have j2 := keepB hSw k2; have j3 := keepB hSw k3; have j4 := keepB hSw k4
          go_simp
          try with_reducible rfl
        try simp only [Act.put, List.setIfInBounds_toArray, List.set_cons_zero, List.set_cons_succ]
        refine' wpAnyH_take (i := 5) (oi := ({ dst := some 41, op := Op.load 26 (Operand.tmp 40), type := 26, pos := "l6_journal.go:100", after := #[{ on := 4, ground := Ground.data }, { on := 3, ground := Ground.guard }], guard := some (3, true) } : Oper)) (v := _) rfl (by kernel_rfl) (by kernel_rfl) (by kernel_rfl) (fun _ _ _ h => h) (Or.inl ⟨by rfl, fun x hSw => ?hyz4_5⟩) hHeld ?restz4_5
        case hyz4_5 =>
          have j0 := keepB hSw k0; have j1 := keepB hSw k1; have j2 := keepB hSw k2; have j3 := keepB hSw k3; have j4 := keepB hSw k4
          go_simp
          try with_reducible rfl
        try simp only [Act.put, List.setIfInBounds_toArray, List.set_cons_zero, List.set_cons_succ]
        refine' wpAnyH_take (i := 7) (oi := ({ dst := some 43, op := Op.fieldAddr 28 (Operand.tmp 1) 1, type := 0, pos := "l6_journal.go:100", after := #[{ on := 3, ground := Ground.guard }], guard := some (3, true) } : Oper)) (v := _) rfl (by kernel_rfl) (by kernel_rfl) (by kernel_rfl) (fun _ _ _ h => h) (Or.inl ⟨by rfl, fun x hSw => ?hyz4_7⟩) hHeld ?restz4_7
        case hyz4_7 =>
          have j0 := keepB hSw k0; have j1 := keepB hSw k1; have j2 := keepB hSw k2; have j3 := keepB hSw k3; have j4 := keepB hSw k4
          go_simp
          try with_reducible rfl
        try simp only [Act.put, List.setIfInBounds_toArray, List.set_cons_zero, List.set_cons_succ]
        refine' wpAnyH_take (i := 8) (oi := ({ dst := some 44, op := Op.load 3 (Operand.tmp 43), type := 3, pos := "l6_journal.go:100", after := #[{ on := 7, ground := Ground.data }, { on := 3, ground := Ground.guard }], guard := some (3, true) } : Oper)) (v := _) rfl (by kernel_rfl) (by kernel_rfl) (by kernel_rfl) (fun _ _ _ h => h) (Or.inl ⟨by rfl, fun x hSw => ?hyz4_8⟩) hHeld ?restz4_8
        case hyz4_8 =>
          have j0 := keepB hSw k0; have j1 := keepB hSw k1; have j2 := keepB hSw k2; have j3 := keepB hSw k3; have j4 := keepB hSw k4
          go_simp
          try with_reducible rfl
        try simp only [Act.put, List.setIfInBounds_toArray, List.set_cons_zero, List.set_cons_succ]
        refine wpAnyH_ready (rs := [6]) (by kernel_rfl) (by simp) ?_
        refine AllReadyH.cons (o := ({ dst := some 42, op := Op.call { callee := Callee.value (Operand.func 43), args := #[Operand.tmp 41], argTypes := #[26] }, type := 3, pos := "l6_journal.go:100", after := #[{ on := 5, ground := Ground.data }, { on := 3, ground := Ground.chain }, { on := 3, ground := Ground.guard }], guard := some (3, true) } : Oper)) rfl (fun K hK => ?_) AllReadyH.nil
        go_simp
        refine (iBytes a k c F _ (h.later (bstep hbw hHeld)) hS).mono ?_
        rintro e w3 ⟨rfl, hb3⟩
        refine hK.out _ _ (bstep hHeld hb3) (fun hHeld => ?_)
        clear hK K
        try simp only [Act.put, List.setIfInBounds_toArray, List.set_cons_zero, List.set_cons_succ]
        refine' wpAnyH_take (i := 9) (oi := ({ dst := some 45, op := Op.binOp BinOp.leq 3 (Operand.tmp 42) (Operand.tmp 44) 3, type := 4, pos := "l6_journal.go:100", after := #[{ on := 6, ground := Ground.data }, { on := 8, ground := Ground.data }, { on := 3, ground := Ground.guard }], guard := some (3, true) } : Oper)) (v := _) rfl (by kernel_rfl) (by kernel_rfl) (by kernel_rfl) (fun _ _ _ h => h) (Or.inl ⟨by rfl, fun x hSw => ?hyz4_9⟩) hHeld ?restz4_9
        case hyz4_9 =>
          have j0 := keepB hSw k0; have j1 := keepB hSw k1; have j2 := keepB hSw k2; have j3 := keepB hSw k3; have j4 := keepB hSw k4
          go_simp
          try with_reducible rfl
        try simp only [Act.put, List.setIfInBounds_toArray, List.set_cons_zero, List.set_cons_succ]
        refine' wpAnyH_take (i := 10) (oi := ({ dst := some 46, op := Op.pick (Operand.tmp 39) (Operand.tmp 45) (Operand.const (Value.bool false)), type := 4, pos := "l6_journal.go:100", after := #[{ on := 3, ground := Ground.data }, { on := 9, ground := Ground.data }], guard := none } : Oper)) (v := _) rfl (by kernel_rfl) (by kernel_rfl) (by kernel_rfl) (fun _ _ _ h => h) (Or.inl ⟨by rfl, fun x hSw => ?hyz4_10⟩) hHeld ?restz4_10
        case hyz4_10 =>
          have j0 := keepB hSw k0; have j1 := keepB hSw k1; have j2 := keepB hSw k2; have j3 := keepB hSw k3; have j4 := keepB hSw k4
          go_simp
          try with_reducible rfl
        try simp only [Act.put, List.setIfInBounds_toArray, List.set_cons_zero, List.set_cons_succ]
        refine' wpAnyH_take (i := 11) (oi := ({ dst := some 47, op := Op.move (Operand.tmp 46), type := 4, pos := "l6_journal.go:100", after := #[{ on := 10, ground := Ground.data }, { on := 6, ground := Ground.chain }], guard := none } : Oper)) (v := _) rfl (by kernel_rfl) (by kernel_rfl) (by kernel_rfl) (fun _ _ _ h => h) (Or.inl ⟨by rfl, fun x hSw => ?hyz4_11⟩) hHeld ?restz4_11
        case hyz4_11 =>
          have j0 := keepB hSw k0; have j1 := keepB hSw k1; have j2 := keepB hSw k2; have j3 := keepB hSw k3; have j4 := keepB hSw k4
          go_simp
          try with_reducible rfl
        try simp only [Act.put, List.setIfInBounds_toArray, List.set_cons_zero, List.set_cons_succ]
        refine wpAnyH_take (i := 12) (oi := ({ dst := some 48, op := Op.fieldAddr 28 (Operand.tmp 1) 2, type := 0, pos := "l6_journal.go:100", after := #[{ on := 11, ground := Ground.guard }], guard := some (11, true) } : Oper)) (v := undef) rfl (by kernel_rfl) (by kernel_rfl) (by kernel_rfl) (fun _ _ _ h => h) (Or.inr ⟨by rfl, rfl⟩) hHeld ?_
        try simp only [Act.put, List.setIfInBounds_toArray, List.set_cons_zero, List.set_cons_succ]
        refine wpAnyH_take (i := 13) (oi := ({ dst := some 49, op := Op.load 3 (Operand.tmp 48), type := 3, pos := "l6_journal.go:100", after := #[{ on := 12, ground := Ground.data }, { on := 11, ground := Ground.guard }], guard := some (11, true) } : Oper)) (v := undef) rfl (by kernel_rfl) (by kernel_rfl) (by kernel_rfl) (fun _ _ _ h => h) (Or.inr ⟨by rfl, rfl⟩) hHeld ?_
        try simp only [Act.put, List.setIfInBounds_toArray, List.set_cons_zero, List.set_cons_succ]
        refine wpAnyH_take (i := 14) (oi := ({ dst := some 50, op := Op.call { callee := Callee.value (Operand.func 42), args := #[Operand.tmp 49, Operand.const (Value.int IntKind.i64 1000000000000000)], argTypes := #[3, 3] }, type := 4, pos := "l6_journal.go:101", after := #[{ on := 13, ground := Ground.data }, { on := 11, ground := Ground.chain }, { on := 11, ground := Ground.guard }], guard := some (11, true) } : Oper)) (v := undef) rfl (by kernel_rfl) (by kernel_rfl) (by kernel_rfl) (fun _ _ _ h => h) (Or.inr ⟨by rfl, rfl⟩) hHeld ?_
        try simp only [Act.put, List.setIfInBounds_toArray, List.set_cons_zero, List.set_cons_succ]
        refine' wpAnyH_take (i := 15) (oi := ({ dst := some 51, op := Op.pick (Operand.tmp 47) (Operand.tmp 50) (Operand.const (Value.bool false)), type := 4, pos := "l6_journal.go:100", after := #[{ on := 11, ground := Ground.data }, { on := 14, ground := Ground.data }], guard := none } : Oper)) (v := _) rfl (by kernel_rfl) (by kernel_rfl) (by kernel_rfl) (fun _ _ _ h => h) (Or.inl ⟨by rfl, fun x hSw => ?hyz4_15⟩) hHeld ?restz4_15
        case hyz4_15 =>
          have j0 := keepB hSw k0; have j1 := keepB hSw k1; have j2 := keepB hSw k2; have j3 := keepB hSw k3; have j4 := keepB hSw k4
          go_simp
          try with_reducible rfl
        try simp only [Act.put, List.setIfInBounds_toArray, List.set_cons_zero, List.set_cons_succ]
        refine' wpAnyH_take (i := 16) (oi := ({ dst := some 52, op := Op.move (Operand.tmp 51), type := 4, pos := "l6_journal.go:100", after := #[{ on := 15, ground := Ground.data }, { on := 14, ground := Ground.chain }], guard := none } : Oper)) (v := _) rfl (by kernel_rfl) (by kernel_rfl) (by kernel_rfl) (fun _ _ _ h => h) (Or.inl ⟨by rfl, fun x hSw => ?hyz4_16⟩) hHeld ?restz4_16
        case hyz4_16 =>
          have j0 := keepB hSw k0; have j1 := keepB hSw k1; have j2 := keepB hSw k2; have j3 := keepB hSw k3; have j4 := keepB hSw k4
          go_simp
          try with_reducible rfl
        try simp only [Act.put, List.setIfInBounds_toArray, List.set_cons_zero, List.set_cons_succ]
        refine wpAnyH_take (i := 17) (oi := ({ dst := some 53, op := Op.fieldAddr 28 (Operand.tmp 1) 3, type := 0, pos := "l6_journal.go:100", after := #[{ on := 16, ground := Ground.guard }], guard := some (16, true) } : Oper)) (v := undef) rfl (by kernel_rfl) (by kernel_rfl) (by kernel_rfl) (fun _ _ _ h => h) (Or.inr ⟨by rfl, rfl⟩) hHeld ?_
        try simp only [Act.put, List.setIfInBounds_toArray, List.set_cons_zero, List.set_cons_succ]
        refine wpAnyH_take (i := 18) (oi := ({ dst := some 54, op := Op.load 3 (Operand.tmp 53), type := 3, pos := "l6_journal.go:100", after := #[{ on := 17, ground := Ground.data }, { on := 16, ground := Ground.guard }], guard := some (16, true) } : Oper)) (v := undef) rfl (by kernel_rfl) (by kernel_rfl) (by kernel_rfl) (fun _ _ _ h => h) (Or.inr ⟨by rfl, rfl⟩) hHeld ?_
        try simp only [Act.put, List.setIfInBounds_toArray, List.set_cons_zero, List.set_cons_succ]
        refine wpAnyH_take (i := 19) (oi := ({ dst := some 55, op := Op.call { callee := Callee.value (Operand.func 42), args := #[Operand.tmp 54, Operand.const (Value.int IntKind.i64 1000000000000000)], argTypes := #[3, 3] }, type := 4, pos := "l6_journal.go:101", after := #[{ on := 18, ground := Ground.data }, { on := 16, ground := Ground.chain }, { on := 16, ground := Ground.guard }], guard := some (16, true) } : Oper)) (v := undef) rfl (by kernel_rfl) (by kernel_rfl) (by kernel_rfl) (fun _ _ _ h => h) (Or.inr ⟨by rfl, rfl⟩) hHeld ?_
        try simp only [Act.put, List.setIfInBounds_toArray, List.set_cons_zero, List.set_cons_succ]
        refine' wpAnyH_take (i := 20) (oi := ({ dst := some 56, op := Op.pick (Operand.tmp 52) (Operand.tmp 55) (Operand.const (Value.bool false)), type := 4, pos := "l6_journal.go:100", after := #[{ on := 16, ground := Ground.data }, { on := 19, ground := Ground.data }], guard := none } : Oper)) (v := _) rfl (by kernel_rfl) (by kernel_rfl) (by kernel_rfl) (fun _ _ _ h => h) (Or.inl ⟨by rfl, fun x hSw => ?hyz4_20⟩) hHeld ?restz4_20
        case hyz4_20 =>
          have j0 := keepB hSw k0; have j1 := keepB hSw k1; have j2 := keepB hSw k2; have j3 := keepB hSw k3; have j4 := keepB hSw k4
          go_simp
          try with_reducible rfl
        try simp only [Act.put, List.setIfInBounds_toArray, List.set_cons_zero, List.set_cons_succ]
        refine' wpAnyH_take (i := 21) (oi := ({ dst := some 57, op := Op.move (Operand.tmp 56), type := 4, pos := "l6_journal.go:100", after := #[{ on := 20, ground := Ground.data }, { on := 19, ground := Ground.chain }], guard := none } : Oper)) (v := _) rfl (by kernel_rfl) (by kernel_rfl) (by kernel_rfl) (fun _ _ _ h => h) (Or.inl ⟨by rfl, fun x hSw => ?hyz4_21⟩) hHeld ?restz4_21
        case hyz4_21 =>
          have j0 := keepB hSw k0; have j1 := keepB hSw k1; have j2 := keepB hSw k2; have j3 := keepB hSw k3; have j4 := keepB hSw k4
          go_simp
          try with_reducible rfl
        try simp only [Act.put, List.setIfInBounds_toArray, List.set_cons_zero, List.set_cons_succ]
        refine wpAnyH_take (i := 22) (oi := ({ dst := some 58, op := Op.fieldAddr 28 (Operand.tmp 1) 4, type := 0, pos := "l6_journal.go:100", after := #[{ on := 21, ground := Ground.guard }], guard := some (21, true) } : Oper)) (v := undef) rfl (by kernel_rfl) (by kernel_rfl) (by kernel_rfl) (fun _ _ _ h => h) (Or.inr ⟨by rfl, rfl⟩) hHeld ?_
        try simp only [Act.put, List.setIfInBounds_toArray, List.set_cons_zero, List.set_cons_succ]
        refine wpAnyH_take (i := 23) (oi := ({ dst := some 59, op := Op.load 3 (Operand.tmp 58), type := 3, pos := "l6_journal.go:100", after := #[{ on := 22, ground := Ground.data }, { on := 21, ground := Ground.guard }], guard := some (21, true) } : Oper)) (v := undef) rfl (by kernel_rfl) (by kernel_rfl) (by kernel_rfl) (fun _ _ _ h => h) (Or.inr ⟨by rfl, rfl⟩) hHeld ?_
        try simp only [Act.put, List.setIfInBounds_toArray, List.set_cons_zero, List.set_cons_succ]
        refine wpAnyH_take (i := 24) (oi := ({ dst := some 60, op := Op.call { callee := Callee.value (Operand.func 42), args := #[Operand.tmp 59, Operand.const (Value.int IntKind.i64 1000000000000000)], argTypes := #[3, 3] }, type := 4, pos := "l6_journal.go:101", after := #[{ on := 23, ground := Ground.data }, { on := 21, ground := Ground.chain }, { on := 21, ground := Ground.guard }], guard := some (21, true) } : Oper)) (v := undef) rfl (by kernel_rfl) (by kernel_rfl) (by kernel_rfl) (fun _ _ _ h => h) (Or.inr ⟨by rfl, rfl⟩) hHeld ?_
        try simp only [Act.put, List.setIfInBounds_toArray, List.set_cons_zero, List.set_cons_succ]
        refine' wpAnyH_take (i := 25) (oi := ({ dst := some 61, op := Op.pick (Operand.tmp 57) (Operand.tmp 60) (Operand.const (Value.bool false)), type := 4, pos := "l6_journal.go:100", after := #[{ on := 21, ground := Ground.data }, { on := 24, ground := Ground.data }], guard := none } : Oper)) (v := _) rfl (by kernel_rfl) (by kernel_rfl) (by kernel_rfl) (fun _ _ _ h => h) (Or.inl ⟨by rfl, fun x hSw => ?hyz4_25⟩) hHeld ?restz4_25
        case hyz4_25 =>
          have j0 := keepB hSw k0; have j1 := keepB hSw k1; have j2 := keepB hSw k2; have j3 := keepB hSw k3; have j4 := keepB hSw k4
          go_simp
          try with_reducible rfl
        try simp only [Act.put, List.setIfInBounds_toArray, List.set_cons_zero, List.set_cons_succ]
        refine' wpAnyH_take (i := 26) (oi := ({ dst := some 2, op := Op.assign (Operand.tmp 61), type := 4, pos := "l6_journal.go:100", after := #[{ on := 25, ground := Ground.data }, { on := 24, ground := Ground.chain }, { on := 0, ground := Ground.phase }, { on := 1, ground := Ground.phase }, { on := 2, ground := Ground.phase }, { on := 3, ground := Ground.phase }, { on := 4, ground := Ground.phase }, { on := 5, ground := Ground.phase }, { on := 6, ground := Ground.phase }, { on := 7, ground := Ground.phase }, { on := 8, ground := Ground.phase }, { on := 9, ground := Ground.phase }, { on := 10, ground := Ground.phase }, { on := 11, ground := Ground.phase }, { on := 12, ground := Ground.phase }, { on := 13, ground := Ground.phase }, { on := 14, ground := Ground.phase }, { on := 15, ground := Ground.phase }, { on := 16, ground := Ground.phase }, { on := 17, ground := Ground.phase }, { on := 18, ground := Ground.phase }, { on := 19, ground := Ground.phase }, { on := 20, ground := Ground.phase }, { on := 21, ground := Ground.phase }, { on := 22, ground := Ground.phase }, { on := 23, ground := Ground.phase }, { on := 24, ground := Ground.phase }, { on := 25, ground := Ground.phase }], guard := none } : Oper)) (v := _) rfl (by kernel_rfl) (by kernel_rfl) (by kernel_rfl) (fun _ _ _ h => h) (Or.inl ⟨by rfl, fun x hSw => ?hyz4_26⟩) hHeld ?restz4_26
        case hyz4_26 =>
          have j0 := keepB hSw k0; have j1 := keepB hSw k1; have j2 := keepB hSw k2; have j3 := keepB hSw k3; have j4 := keepB hSw k4
          go_simp
          try with_reducible rfl
        try simp only [Act.put, List.setIfInBounds_toArray, List.set_cons_zero, List.set_cons_succ]
        refine wpAnyH_done (by kernel_rfl) ?_ _
        go_wp2
        go_ret
        exact ⟨retB (by rw [HSP.out, d1]; simp), bstep hbw hHeld⟩
      rcases g2 : btw x2 0 1000000000000000
      · go_wp2
        refine wp_region_held_drew (S := fun x => Below wr.heap.size wr x) (by kernel_rfl) (bdrew _) (fun hHeld => ?_)
        refine' wpAnyH_take (i := 0) (oi := ({ dst := some 36, op := Op.fieldAddr 28 (Operand.tmp 1) 1, type := 0, pos := "l6_journal.go:100", after := #[], guard := none } : Oper)) (v := _) rfl (by kernel_rfl) (by kernel_rfl) (by kernel_rfl) (fun _ _ _ h => h) (Or.inl ⟨by rfl, fun x hSw => ?hyz5_0⟩) hHeld ?restz5_0
        case hyz5_0 =>
          have j0 := keepB hSw k0; have j1 := keepB hSw k1; have j2 := keepB hSw k2; have j3 := keepB hSw k3; have j4 := keepB hSw k4
          go_simp
          try with_reducible rfl
        try simp only [Act.put, List.setIfInBounds_toArray, List.set_cons_zero, List.set_cons_succ]
        refine' wpAnyH_take (i := 1) (oi := ({ dst := some 37, op := Op.load 3 (Operand.tmp 36), type := 3, pos := "l6_journal.go:100", after := #[{ on := 0, ground := Ground.data }], guard := none } : Oper)) (v := _) rfl (by kernel_rfl) (by kernel_rfl) (by kernel_rfl) (fun _ _ _ h => h) (Or.inl ⟨by rfl, fun x hSw => ?hyz5_1⟩) hHeld ?restz5_1
        case hyz5_1 =>
          have j0 := keepB hSw k0; have j1 := keepB hSw k1; have j2 := keepB hSw k2; have j3 := keepB hSw k3; have j4 := keepB hSw k4
          go_simp
          try with_reducible rfl
        try simp only [Act.put, List.setIfInBounds_toArray, List.set_cons_zero, List.set_cons_succ]
        refine wpAnyH_ready (rs := [2]) (by kernel_rfl) (by simp) ?_
        refine AllReadyH.cons (o := ({ dst := some 38, op := Op.call { callee := Callee.value (Operand.func 42), args := #[Operand.tmp 37, Operand.const (Value.int IntKind.i64 1000000000)], argTypes := #[3, 3] }, type := 4, pos := "l6_journal.go:100", after := #[{ on := 1, ground := Ground.data }], guard := none } : Oper)) rfl (fun K hK => ?_) AllReadyH.nil
        go_simp
        refine (iUpTo _ _ _).mono ?_
        rw [g1]; rintro e w2 ⟨rfl, rfl⟩
        refine hK.out _ _ (hHeld) (fun hHeld => ?_)
        clear hK K
        try simp only [Act.put, List.setIfInBounds_toArray, List.set_cons_zero, List.set_cons_succ]
        refine' wpAnyH_take (i := 3) (oi := ({ dst := some 39, op := Op.move (Operand.tmp 38), type := 4, pos := "l6_journal.go:100", after := #[{ on := 2, ground := Ground.data }, { on := 2, ground := Ground.chain }], guard := none } : Oper)) (v := _) rfl (by kernel_rfl) (by kernel_rfl) (by kernel_rfl) (fun _ _ _ h => h) (Or.inl ⟨by rfl, fun x hSw => ?hyz5_3⟩) hHeld ?restz5_3
        case hyz5_3 =>
          have j0 := keepB hSw k0; have j1 := keepB hSw k1; have j2 := keepB hSw k2; have j3 := keepB hSw k3; have j4 := keepB hSw k4
          go_simp
          try with_reducible rfl
        try simp only [Act.put, List.setIfInBounds_toArray, List.set_cons_zero, List.set_cons_succ]
        refine' wpAnyH_take (i := 4) (oi := ({ dst := some 40, op := Op.fieldAddr 28 (Operand.tmp 1) 0, type := 0, pos := "l6_journal.go:100", after := #[{ on := 3, ground := Ground.guard }], guard := some (3, true) } : Oper)) (v := _) rfl (by kernel_rfl) (by kernel_rfl) (by kernel_rfl) (fun _ _ _ h => h) (Or.inl ⟨by rfl, fun x hSw => ?hyz5_4⟩) hHeld ?restz5_4
        case hyz5_4 =>
          have j0 := keepB hSw k0; have j1 := keepB hSw k1; have j2 := keepB hSw k2; have j3 := keepB hSw k3; have j4 := keepB hSw k4
          go_simp
          try with_reducible rfl
        try simp only [Act.put, List.setIfInBounds_toArray, List.set_cons_zero, List.set_cons_succ]
        refine' wpAnyH_take (i := 5) (oi := ({ dst := some 41, op := Op.load 26 (Operand.tmp 40), type := 26, pos := "l6_journal.go:100", after := #[{ on := 4, ground := Ground.data }, { on := 3, ground := Ground.guard }], guard := some (3, true) } : Oper)) (v := _) rfl (by kernel_rfl) (by kernel_rfl) (by kernel_rfl) (fun _ _ _ h => h) (Or.inl ⟨by rfl, fun x hSw => ?hyz5_5⟩) hHeld ?restz5_5
        case hyz5_5 =>
          have j0 := keepB hSw k0; have j1 := keepB hSw k1; have j2 := keepB hSw k2; have j3 := keepB hSw k3; have j4 := keepB hSw k4
          go_simp
          try with_reducible rfl
        try simp only [Act.put, List.setIfInBounds_toArray, List.set_cons_zero, List.set_cons_succ]
        refine' wpAnyH_take (i := 7) (oi := ({ dst := some 43, op := Op.fieldAddr 28 (Operand.tmp 1) 1, type := 0, pos := "l6_journal.go:100", after := #[{ on := 3, ground := Ground.guard }], guard := some (3, true) } : Oper)) (v := _) rfl (by kernel_rfl) (by kernel_rfl) (by kernel_rfl) (fun _ _ _ h => h) (Or.inl ⟨by rfl, fun x hSw => ?hyz5_7⟩) hHeld ?restz5_7
        case hyz5_7 =>
          have j0 := keepB hSw k0; have j1 := keepB hSw k1; have j2 := keepB hSw k2; have j3 := keepB hSw k3; have j4 := keepB hSw k4
          go_simp
          try with_reducible rfl
        try simp only [Act.put, List.setIfInBounds_toArray, List.set_cons_zero, List.set_cons_succ]
        refine' wpAnyH_take (i := 8) (oi := ({ dst := some 44, op := Op.load 3 (Operand.tmp 43), type := 3, pos := "l6_journal.go:100", after := #[{ on := 7, ground := Ground.data }, { on := 3, ground := Ground.guard }], guard := some (3, true) } : Oper)) (v := _) rfl (by kernel_rfl) (by kernel_rfl) (by kernel_rfl) (fun _ _ _ h => h) (Or.inl ⟨by rfl, fun x hSw => ?hyz5_8⟩) hHeld ?restz5_8
        case hyz5_8 =>
          have j0 := keepB hSw k0; have j1 := keepB hSw k1; have j2 := keepB hSw k2; have j3 := keepB hSw k3; have j4 := keepB hSw k4
          go_simp
          try with_reducible rfl
        try simp only [Act.put, List.setIfInBounds_toArray, List.set_cons_zero, List.set_cons_succ]
        refine wpAnyH_ready (rs := [6]) (by kernel_rfl) (by simp) ?_
        refine AllReadyH.cons (o := ({ dst := some 42, op := Op.call { callee := Callee.value (Operand.func 43), args := #[Operand.tmp 41], argTypes := #[26] }, type := 3, pos := "l6_journal.go:100", after := #[{ on := 5, ground := Ground.data }, { on := 3, ground := Ground.chain }, { on := 3, ground := Ground.guard }], guard := some (3, true) } : Oper)) rfl (fun K hK => ?_) AllReadyH.nil
        go_simp
        refine (iBytes a k c F _ (h.later (bstep hbw hHeld)) hS).mono ?_
        rintro e w3 ⟨rfl, hb3⟩
        refine hK.out _ _ (bstep hHeld hb3) (fun hHeld => ?_)
        clear hK K
        try simp only [Act.put, List.setIfInBounds_toArray, List.set_cons_zero, List.set_cons_succ]
        refine' wpAnyH_take (i := 9) (oi := ({ dst := some 45, op := Op.binOp BinOp.leq 3 (Operand.tmp 42) (Operand.tmp 44) 3, type := 4, pos := "l6_journal.go:100", after := #[{ on := 6, ground := Ground.data }, { on := 8, ground := Ground.data }, { on := 3, ground := Ground.guard }], guard := some (3, true) } : Oper)) (v := _) rfl (by kernel_rfl) (by kernel_rfl) (by kernel_rfl) (fun _ _ _ h => h) (Or.inl ⟨by rfl, fun x hSw => ?hyz5_9⟩) hHeld ?restz5_9
        case hyz5_9 =>
          have j0 := keepB hSw k0; have j1 := keepB hSw k1; have j2 := keepB hSw k2; have j3 := keepB hSw k3; have j4 := keepB hSw k4
          go_simp
          try with_reducible rfl
        try simp only [Act.put, List.setIfInBounds_toArray, List.set_cons_zero, List.set_cons_succ]
        refine' wpAnyH_take (i := 10) (oi := ({ dst := some 46, op := Op.pick (Operand.tmp 39) (Operand.tmp 45) (Operand.const (Value.bool false)), type := 4, pos := "l6_journal.go:100", after := #[{ on := 3, ground := Ground.data }, { on := 9, ground := Ground.data }], guard := none } : Oper)) (v := _) rfl (by kernel_rfl) (by kernel_rfl) (by kernel_rfl) (fun _ _ _ h => h) (Or.inl ⟨by rfl, fun x hSw => ?hyz5_10⟩) hHeld ?restz5_10
        case hyz5_10 =>
          have j0 := keepB hSw k0; have j1 := keepB hSw k1; have j2 := keepB hSw k2; have j3 := keepB hSw k3; have j4 := keepB hSw k4
          go_simp
          try with_reducible rfl
        try simp only [Act.put, List.setIfInBounds_toArray, List.set_cons_zero, List.set_cons_succ]
        refine' wpAnyH_take (i := 11) (oi := ({ dst := some 47, op := Op.move (Operand.tmp 46), type := 4, pos := "l6_journal.go:100", after := #[{ on := 10, ground := Ground.data }, { on := 6, ground := Ground.chain }], guard := none } : Oper)) (v := _) rfl (by kernel_rfl) (by kernel_rfl) (by kernel_rfl) (fun _ _ _ h => h) (Or.inl ⟨by rfl, fun x hSw => ?hyz5_11⟩) hHeld ?restz5_11
        case hyz5_11 =>
          have j0 := keepB hSw k0; have j1 := keepB hSw k1; have j2 := keepB hSw k2; have j3 := keepB hSw k3; have j4 := keepB hSw k4
          go_simp
          try with_reducible rfl
        try simp only [Act.put, List.setIfInBounds_toArray, List.set_cons_zero, List.set_cons_succ]
        refine' wpAnyH_take (i := 12) (oi := ({ dst := some 48, op := Op.fieldAddr 28 (Operand.tmp 1) 2, type := 0, pos := "l6_journal.go:100", after := #[{ on := 11, ground := Ground.guard }], guard := some (11, true) } : Oper)) (v := _) rfl (by kernel_rfl) (by kernel_rfl) (by kernel_rfl) (fun _ _ _ h => h) (Or.inl ⟨by rfl, fun x hSw => ?hyz5_12⟩) hHeld ?restz5_12
        case hyz5_12 =>
          have j0 := keepB hSw k0; have j1 := keepB hSw k1; have j2 := keepB hSw k2; have j3 := keepB hSw k3; have j4 := keepB hSw k4
          go_simp
          try with_reducible rfl
        try simp only [Act.put, List.setIfInBounds_toArray, List.set_cons_zero, List.set_cons_succ]
        refine' wpAnyH_take (i := 13) (oi := ({ dst := some 49, op := Op.load 3 (Operand.tmp 48), type := 3, pos := "l6_journal.go:100", after := #[{ on := 12, ground := Ground.data }, { on := 11, ground := Ground.guard }], guard := some (11, true) } : Oper)) (v := _) rfl (by kernel_rfl) (by kernel_rfl) (by kernel_rfl) (fun _ _ _ h => h) (Or.inl ⟨by rfl, fun x hSw => ?hyz5_13⟩) hHeld ?restz5_13
        case hyz5_13 =>
          have j0 := keepB hSw k0; have j1 := keepB hSw k1; have j2 := keepB hSw k2; have j3 := keepB hSw k3; have j4 := keepB hSw k4
          go_simp
          try with_reducible rfl
        try simp only [Act.put, List.setIfInBounds_toArray, List.set_cons_zero, List.set_cons_succ]
        refine wpAnyH_ready (rs := [14]) (by kernel_rfl) (by simp) ?_
        refine AllReadyH.cons (o := ({ dst := some 50, op := Op.call { callee := Callee.value (Operand.func 42), args := #[Operand.tmp 49, Operand.const (Value.int IntKind.i64 1000000000000000)], argTypes := #[3, 3] }, type := 4, pos := "l6_journal.go:101", after := #[{ on := 13, ground := Ground.data }, { on := 11, ground := Ground.chain }, { on := 11, ground := Ground.guard }], guard := some (11, true) } : Oper)) rfl (fun K hK => ?_) AllReadyH.nil
        go_simp
        refine (iUpTo _ _ _).mono ?_
        rw [g2]; rintro e w2 ⟨rfl, rfl⟩
        refine hK.out _ _ (hHeld) (fun hHeld => ?_)
        clear hK K
        try simp only [Act.put, List.setIfInBounds_toArray, List.set_cons_zero, List.set_cons_succ]
        refine' wpAnyH_take (i := 15) (oi := ({ dst := some 51, op := Op.pick (Operand.tmp 47) (Operand.tmp 50) (Operand.const (Value.bool false)), type := 4, pos := "l6_journal.go:100", after := #[{ on := 11, ground := Ground.data }, { on := 14, ground := Ground.data }], guard := none } : Oper)) (v := _) rfl (by kernel_rfl) (by kernel_rfl) (by kernel_rfl) (fun _ _ _ h => h) (Or.inl ⟨by rfl, fun x hSw => ?hyz5_15⟩) hHeld ?restz5_15
        case hyz5_15 =>
          have j0 := keepB hSw k0; have j1 := keepB hSw k1; have j2 := keepB hSw k2; have j3 := keepB hSw k3; have j4 := keepB hSw k4
          go_simp
          try with_reducible rfl
        try simp only [Act.put, List.setIfInBounds_toArray, List.set_cons_zero, List.set_cons_succ]
        refine' wpAnyH_take (i := 16) (oi := ({ dst := some 52, op := Op.move (Operand.tmp 51), type := 4, pos := "l6_journal.go:100", after := #[{ on := 15, ground := Ground.data }, { on := 14, ground := Ground.chain }], guard := none } : Oper)) (v := _) rfl (by kernel_rfl) (by kernel_rfl) (by kernel_rfl) (fun _ _ _ h => h) (Or.inl ⟨by rfl, fun x hSw => ?hyz5_16⟩) hHeld ?restz5_16
        case hyz5_16 =>
          have j0 := keepB hSw k0; have j1 := keepB hSw k1; have j2 := keepB hSw k2; have j3 := keepB hSw k3; have j4 := keepB hSw k4
          go_simp
          try with_reducible rfl
        try simp only [Act.put, List.setIfInBounds_toArray, List.set_cons_zero, List.set_cons_succ]
        refine wpAnyH_take (i := 17) (oi := ({ dst := some 53, op := Op.fieldAddr 28 (Operand.tmp 1) 3, type := 0, pos := "l6_journal.go:100", after := #[{ on := 16, ground := Ground.guard }], guard := some (16, true) } : Oper)) (v := undef) rfl (by kernel_rfl) (by kernel_rfl) (by kernel_rfl) (fun _ _ _ h => h) (Or.inr ⟨by rfl, rfl⟩) hHeld ?_
        try simp only [Act.put, List.setIfInBounds_toArray, List.set_cons_zero, List.set_cons_succ]
        refine wpAnyH_take (i := 18) (oi := ({ dst := some 54, op := Op.load 3 (Operand.tmp 53), type := 3, pos := "l6_journal.go:100", after := #[{ on := 17, ground := Ground.data }, { on := 16, ground := Ground.guard }], guard := some (16, true) } : Oper)) (v := undef) rfl (by kernel_rfl) (by kernel_rfl) (by kernel_rfl) (fun _ _ _ h => h) (Or.inr ⟨by rfl, rfl⟩) hHeld ?_
        try simp only [Act.put, List.setIfInBounds_toArray, List.set_cons_zero, List.set_cons_succ]
        refine wpAnyH_take (i := 19) (oi := ({ dst := some 55, op := Op.call { callee := Callee.value (Operand.func 42), args := #[Operand.tmp 54, Operand.const (Value.int IntKind.i64 1000000000000000)], argTypes := #[3, 3] }, type := 4, pos := "l6_journal.go:101", after := #[{ on := 18, ground := Ground.data }, { on := 16, ground := Ground.chain }, { on := 16, ground := Ground.guard }], guard := some (16, true) } : Oper)) (v := undef) rfl (by kernel_rfl) (by kernel_rfl) (by kernel_rfl) (fun _ _ _ h => h) (Or.inr ⟨by rfl, rfl⟩) hHeld ?_
        try simp only [Act.put, List.setIfInBounds_toArray, List.set_cons_zero, List.set_cons_succ]
        refine' wpAnyH_take (i := 20) (oi := ({ dst := some 56, op := Op.pick (Operand.tmp 52) (Operand.tmp 55) (Operand.const (Value.bool false)), type := 4, pos := "l6_journal.go:100", after := #[{ on := 16, ground := Ground.data }, { on := 19, ground := Ground.data }], guard := none } : Oper)) (v := _) rfl (by kernel_rfl) (by kernel_rfl) (by kernel_rfl) (fun _ _ _ h => h) (Or.inl ⟨by rfl, fun x hSw => ?hyz5_20⟩) hHeld ?restz5_20
        case hyz5_20 =>
          have j0 := keepB hSw k0; have j1 := keepB hSw k1; have j2 := keepB hSw k2; have j3 := keepB hSw k3; have j4 := keepB hSw k4
          go_simp
          try with_reducible rfl
        try simp only [Act.put, List.setIfInBounds_toArray, List.set_cons_zero, List.set_cons_succ]
        refine' wpAnyH_take (i := 21) (oi := ({ dst := some 57, op := Op.move (Operand.tmp 56), type := 4, pos := "l6_journal.go:100", after := #[{ on := 20, ground := Ground.data }, { on := 19, ground := Ground.chain }], guard := none } : Oper)) (v := _) rfl (by kernel_rfl) (by kernel_rfl) (by kernel_rfl) (fun _ _ _ h => h) (Or.inl ⟨by rfl, fun x hSw => ?hyz5_21⟩) hHeld ?restz5_21
        case hyz5_21 =>
          have j0 := keepB hSw k0; have j1 := keepB hSw k1; have j2 := keepB hSw k2; have j3 := keepB hSw k3; have j4 := keepB hSw k4
          go_simp
          try with_reducible rfl
        try simp only [Act.put, List.setIfInBounds_toArray, List.set_cons_zero, List.set_cons_succ]
        refine wpAnyH_take (i := 22) (oi := ({ dst := some 58, op := Op.fieldAddr 28 (Operand.tmp 1) 4, type := 0, pos := "l6_journal.go:100", after := #[{ on := 21, ground := Ground.guard }], guard := some (21, true) } : Oper)) (v := undef) rfl (by kernel_rfl) (by kernel_rfl) (by kernel_rfl) (fun _ _ _ h => h) (Or.inr ⟨by rfl, rfl⟩) hHeld ?_
        try simp only [Act.put, List.setIfInBounds_toArray, List.set_cons_zero, List.set_cons_succ]
        refine wpAnyH_take (i := 23) (oi := ({ dst := some 59, op := Op.load 3 (Operand.tmp 58), type := 3, pos := "l6_journal.go:100", after := #[{ on := 22, ground := Ground.data }, { on := 21, ground := Ground.guard }], guard := some (21, true) } : Oper)) (v := undef) rfl (by kernel_rfl) (by kernel_rfl) (by kernel_rfl) (fun _ _ _ h => h) (Or.inr ⟨by rfl, rfl⟩) hHeld ?_
        try simp only [Act.put, List.setIfInBounds_toArray, List.set_cons_zero, List.set_cons_succ]
        refine wpAnyH_take (i := 24) (oi := ({ dst := some 60, op := Op.call { callee := Callee.value (Operand.func 42), args := #[Operand.tmp 59, Operand.const (Value.int IntKind.i64 1000000000000000)], argTypes := #[3, 3] }, type := 4, pos := "l6_journal.go:101", after := #[{ on := 23, ground := Ground.data }, { on := 21, ground := Ground.chain }, { on := 21, ground := Ground.guard }], guard := some (21, true) } : Oper)) (v := undef) rfl (by kernel_rfl) (by kernel_rfl) (by kernel_rfl) (fun _ _ _ h => h) (Or.inr ⟨by rfl, rfl⟩) hHeld ?_
        try simp only [Act.put, List.setIfInBounds_toArray, List.set_cons_zero, List.set_cons_succ]
        refine' wpAnyH_take (i := 25) (oi := ({ dst := some 61, op := Op.pick (Operand.tmp 57) (Operand.tmp 60) (Operand.const (Value.bool false)), type := 4, pos := "l6_journal.go:100", after := #[{ on := 21, ground := Ground.data }, { on := 24, ground := Ground.data }], guard := none } : Oper)) (v := _) rfl (by kernel_rfl) (by kernel_rfl) (by kernel_rfl) (fun _ _ _ h => h) (Or.inl ⟨by rfl, fun x hSw => ?hyz5_25⟩) hHeld ?restz5_25
        case hyz5_25 =>
          have j0 := keepB hSw k0; have j1 := keepB hSw k1; have j2 := keepB hSw k2; have j3 := keepB hSw k3; have j4 := keepB hSw k4
          go_simp
          try with_reducible rfl
        try simp only [Act.put, List.setIfInBounds_toArray, List.set_cons_zero, List.set_cons_succ]
        refine' wpAnyH_take (i := 26) (oi := ({ dst := some 2, op := Op.assign (Operand.tmp 61), type := 4, pos := "l6_journal.go:100", after := #[{ on := 25, ground := Ground.data }, { on := 24, ground := Ground.chain }, { on := 0, ground := Ground.phase }, { on := 1, ground := Ground.phase }, { on := 2, ground := Ground.phase }, { on := 3, ground := Ground.phase }, { on := 4, ground := Ground.phase }, { on := 5, ground := Ground.phase }, { on := 6, ground := Ground.phase }, { on := 7, ground := Ground.phase }, { on := 8, ground := Ground.phase }, { on := 9, ground := Ground.phase }, { on := 10, ground := Ground.phase }, { on := 11, ground := Ground.phase }, { on := 12, ground := Ground.phase }, { on := 13, ground := Ground.phase }, { on := 14, ground := Ground.phase }, { on := 15, ground := Ground.phase }, { on := 16, ground := Ground.phase }, { on := 17, ground := Ground.phase }, { on := 18, ground := Ground.phase }, { on := 19, ground := Ground.phase }, { on := 20, ground := Ground.phase }, { on := 21, ground := Ground.phase }, { on := 22, ground := Ground.phase }, { on := 23, ground := Ground.phase }, { on := 24, ground := Ground.phase }, { on := 25, ground := Ground.phase }], guard := none } : Oper)) (v := _) rfl (by kernel_rfl) (by kernel_rfl) (by kernel_rfl) (fun _ _ _ h => h) (Or.inl ⟨by rfl, fun x hSw => ?hyz5_26⟩) hHeld ?restz5_26
        case hyz5_26 =>
          have j0 := keepB hSw k0; have j1 := keepB hSw k1; have j2 := keepB hSw k2; have j3 := keepB hSw k3; have j4 := keepB hSw k4
          go_simp
          try with_reducible rfl
        try simp only [Act.put, List.setIfInBounds_toArray, List.set_cons_zero, List.set_cons_succ]
        refine wpAnyH_done (by kernel_rfl) ?_ _
        go_wp2
        go_ret
        exact ⟨retB (by rw [HSP.out, g2]; simp), bstep hbw hHeld⟩
      rcases g3 : btw x3 0 1000000000000000
      · go_wp2
        refine wp_region_held_drew (S := fun x => Below wr.heap.size wr x) (by kernel_rfl) (bdrew _) (fun hHeld => ?_)
        refine' wpAnyH_take (i := 0) (oi := ({ dst := some 36, op := Op.fieldAddr 28 (Operand.tmp 1) 1, type := 0, pos := "l6_journal.go:100", after := #[], guard := none } : Oper)) (v := _) rfl (by kernel_rfl) (by kernel_rfl) (by kernel_rfl) (fun _ _ _ h => h) (Or.inl ⟨by rfl, fun x hSw => ?hyz6_0⟩) hHeld ?restz6_0
        case hyz6_0 =>
          have j0 := keepB hSw k0; have j1 := keepB hSw k1; have j2 := keepB hSw k2; have j3 := keepB hSw k3; have j4 := keepB hSw k4
          go_simp
          try with_reducible rfl
        try simp only [Act.put, List.setIfInBounds_toArray, List.set_cons_zero, List.set_cons_succ]
        refine' wpAnyH_take (i := 1) (oi := ({ dst := some 37, op := Op.load 3 (Operand.tmp 36), type := 3, pos := "l6_journal.go:100", after := #[{ on := 0, ground := Ground.data }], guard := none } : Oper)) (v := _) rfl (by kernel_rfl) (by kernel_rfl) (by kernel_rfl) (fun _ _ _ h => h) (Or.inl ⟨by rfl, fun x hSw => ?hyz6_1⟩) hHeld ?restz6_1
        case hyz6_1 =>
          have j0 := keepB hSw k0; have j1 := keepB hSw k1; have j2 := keepB hSw k2; have j3 := keepB hSw k3; have j4 := keepB hSw k4
          go_simp
          try with_reducible rfl
        try simp only [Act.put, List.setIfInBounds_toArray, List.set_cons_zero, List.set_cons_succ]
        refine wpAnyH_ready (rs := [2]) (by kernel_rfl) (by simp) ?_
        refine AllReadyH.cons (o := ({ dst := some 38, op := Op.call { callee := Callee.value (Operand.func 42), args := #[Operand.tmp 37, Operand.const (Value.int IntKind.i64 1000000000)], argTypes := #[3, 3] }, type := 4, pos := "l6_journal.go:100", after := #[{ on := 1, ground := Ground.data }], guard := none } : Oper)) rfl (fun K hK => ?_) AllReadyH.nil
        go_simp
        refine (iUpTo _ _ _).mono ?_
        rw [g1]; rintro e w2 ⟨rfl, rfl⟩
        refine hK.out _ _ (hHeld) (fun hHeld => ?_)
        clear hK K
        try simp only [Act.put, List.setIfInBounds_toArray, List.set_cons_zero, List.set_cons_succ]
        refine' wpAnyH_take (i := 3) (oi := ({ dst := some 39, op := Op.move (Operand.tmp 38), type := 4, pos := "l6_journal.go:100", after := #[{ on := 2, ground := Ground.data }, { on := 2, ground := Ground.chain }], guard := none } : Oper)) (v := _) rfl (by kernel_rfl) (by kernel_rfl) (by kernel_rfl) (fun _ _ _ h => h) (Or.inl ⟨by rfl, fun x hSw => ?hyz6_3⟩) hHeld ?restz6_3
        case hyz6_3 =>
          have j0 := keepB hSw k0; have j1 := keepB hSw k1; have j2 := keepB hSw k2; have j3 := keepB hSw k3; have j4 := keepB hSw k4
          go_simp
          try with_reducible rfl
        try simp only [Act.put, List.setIfInBounds_toArray, List.set_cons_zero, List.set_cons_succ]
        refine' wpAnyH_take (i := 4) (oi := ({ dst := some 40, op := Op.fieldAddr 28 (Operand.tmp 1) 0, type := 0, pos := "l6_journal.go:100", after := #[{ on := 3, ground := Ground.guard }], guard := some (3, true) } : Oper)) (v := _) rfl (by kernel_rfl) (by kernel_rfl) (by kernel_rfl) (fun _ _ _ h => h) (Or.inl ⟨by rfl, fun x hSw => ?hyz6_4⟩) hHeld ?restz6_4
        case hyz6_4 =>
          have j0 := keepB hSw k0; have j1 := keepB hSw k1; have j2 := keepB hSw k2; have j3 := keepB hSw k3; have j4 := keepB hSw k4
          go_simp
          try with_reducible rfl
        try simp only [Act.put, List.setIfInBounds_toArray, List.set_cons_zero, List.set_cons_succ]
        refine' wpAnyH_take (i := 5) (oi := ({ dst := some 41, op := Op.load 26 (Operand.tmp 40), type := 26, pos := "l6_journal.go:100", after := #[{ on := 4, ground := Ground.data }, { on := 3, ground := Ground.guard }], guard := some (3, true) } : Oper)) (v := _) rfl (by kernel_rfl) (by kernel_rfl) (by kernel_rfl) (fun _ _ _ h => h) (Or.inl ⟨by rfl, fun x hSw => ?hyz6_5⟩) hHeld ?restz6_5
        case hyz6_5 =>
          have j0 := keepB hSw k0; have j1 := keepB hSw k1; have j2 := keepB hSw k2; have j3 := keepB hSw k3; have j4 := keepB hSw k4
          go_simp
          try with_reducible rfl
        try simp only [Act.put, List.setIfInBounds_toArray, List.set_cons_zero, List.set_cons_succ]
        refine' wpAnyH_take (i := 7) (oi := ({ dst := some 43, op := Op.fieldAddr 28 (Operand.tmp 1) 1, type := 0, pos := "l6_journal.go:100", after := #[{ on := 3, ground := Ground.guard }], guard := some (3, true) } : Oper)) (v := _) rfl (by kernel_rfl) (by kernel_rfl) (by kernel_rfl) (fun _ _ _ h => h) (Or.inl ⟨by rfl, fun x hSw => ?hyz6_7⟩) hHeld ?restz6_7
        case hyz6_7 =>
          have j0 := keepB hSw k0; have j1 := keepB hSw k1; have j2 := keepB hSw k2; have j3 := keepB hSw k3; have j4 := keepB hSw k4
          go_simp
          try with_reducible rfl
        try simp only [Act.put, List.setIfInBounds_toArray, List.set_cons_zero, List.set_cons_succ]
        refine' wpAnyH_take (i := 8) (oi := ({ dst := some 44, op := Op.load 3 (Operand.tmp 43), type := 3, pos := "l6_journal.go:100", after := #[{ on := 7, ground := Ground.data }, { on := 3, ground := Ground.guard }], guard := some (3, true) } : Oper)) (v := _) rfl (by kernel_rfl) (by kernel_rfl) (by kernel_rfl) (fun _ _ _ h => h) (Or.inl ⟨by rfl, fun x hSw => ?hyz6_8⟩) hHeld ?restz6_8
        case hyz6_8 =>
          have j0 := keepB hSw k0; have j1 := keepB hSw k1; have j2 := keepB hSw k2; have j3 := keepB hSw k3; have j4 := keepB hSw k4
          go_simp
          try with_reducible rfl
        try simp only [Act.put, List.setIfInBounds_toArray, List.set_cons_zero, List.set_cons_succ]
        refine wpAnyH_ready (rs := [6]) (by kernel_rfl) (by simp) ?_
        refine AllReadyH.cons (o := ({ dst := some 42, op := Op.call { callee := Callee.value (Operand.func 43), args := #[Operand.tmp 41], argTypes := #[26] }, type := 3, pos := "l6_journal.go:100", after := #[{ on := 5, ground := Ground.data }, { on := 3, ground := Ground.chain }, { on := 3, ground := Ground.guard }], guard := some (3, true) } : Oper)) rfl (fun K hK => ?_) AllReadyH.nil
        go_simp
        refine (iBytes a k c F _ (h.later (bstep hbw hHeld)) hS).mono ?_
        rintro e w3 ⟨rfl, hb3⟩
        refine hK.out _ _ (bstep hHeld hb3) (fun hHeld => ?_)
        clear hK K
        try simp only [Act.put, List.setIfInBounds_toArray, List.set_cons_zero, List.set_cons_succ]
        refine' wpAnyH_take (i := 9) (oi := ({ dst := some 45, op := Op.binOp BinOp.leq 3 (Operand.tmp 42) (Operand.tmp 44) 3, type := 4, pos := "l6_journal.go:100", after := #[{ on := 6, ground := Ground.data }, { on := 8, ground := Ground.data }, { on := 3, ground := Ground.guard }], guard := some (3, true) } : Oper)) (v := _) rfl (by kernel_rfl) (by kernel_rfl) (by kernel_rfl) (fun _ _ _ h => h) (Or.inl ⟨by rfl, fun x hSw => ?hyz6_9⟩) hHeld ?restz6_9
        case hyz6_9 =>
          have j0 := keepB hSw k0; have j1 := keepB hSw k1; have j2 := keepB hSw k2; have j3 := keepB hSw k3; have j4 := keepB hSw k4
          go_simp
          try with_reducible rfl
        try simp only [Act.put, List.setIfInBounds_toArray, List.set_cons_zero, List.set_cons_succ]
        refine' wpAnyH_take (i := 10) (oi := ({ dst := some 46, op := Op.pick (Operand.tmp 39) (Operand.tmp 45) (Operand.const (Value.bool false)), type := 4, pos := "l6_journal.go:100", after := #[{ on := 3, ground := Ground.data }, { on := 9, ground := Ground.data }], guard := none } : Oper)) (v := _) rfl (by kernel_rfl) (by kernel_rfl) (by kernel_rfl) (fun _ _ _ h => h) (Or.inl ⟨by rfl, fun x hSw => ?hyz6_10⟩) hHeld ?restz6_10
        case hyz6_10 =>
          have j0 := keepB hSw k0; have j1 := keepB hSw k1; have j2 := keepB hSw k2; have j3 := keepB hSw k3; have j4 := keepB hSw k4
          go_simp
          try with_reducible rfl
        try simp only [Act.put, List.setIfInBounds_toArray, List.set_cons_zero, List.set_cons_succ]
        refine' wpAnyH_take (i := 11) (oi := ({ dst := some 47, op := Op.move (Operand.tmp 46), type := 4, pos := "l6_journal.go:100", after := #[{ on := 10, ground := Ground.data }, { on := 6, ground := Ground.chain }], guard := none } : Oper)) (v := _) rfl (by kernel_rfl) (by kernel_rfl) (by kernel_rfl) (fun _ _ _ h => h) (Or.inl ⟨by rfl, fun x hSw => ?hyz6_11⟩) hHeld ?restz6_11
        case hyz6_11 =>
          have j0 := keepB hSw k0; have j1 := keepB hSw k1; have j2 := keepB hSw k2; have j3 := keepB hSw k3; have j4 := keepB hSw k4
          go_simp
          try with_reducible rfl
        try simp only [Act.put, List.setIfInBounds_toArray, List.set_cons_zero, List.set_cons_succ]
        refine' wpAnyH_take (i := 12) (oi := ({ dst := some 48, op := Op.fieldAddr 28 (Operand.tmp 1) 2, type := 0, pos := "l6_journal.go:100", after := #[{ on := 11, ground := Ground.guard }], guard := some (11, true) } : Oper)) (v := _) rfl (by kernel_rfl) (by kernel_rfl) (by kernel_rfl) (fun _ _ _ h => h) (Or.inl ⟨by rfl, fun x hSw => ?hyz6_12⟩) hHeld ?restz6_12
        case hyz6_12 =>
          have j0 := keepB hSw k0; have j1 := keepB hSw k1; have j2 := keepB hSw k2; have j3 := keepB hSw k3; have j4 := keepB hSw k4
          go_simp
          try with_reducible rfl
        try simp only [Act.put, List.setIfInBounds_toArray, List.set_cons_zero, List.set_cons_succ]
        refine' wpAnyH_take (i := 13) (oi := ({ dst := some 49, op := Op.load 3 (Operand.tmp 48), type := 3, pos := "l6_journal.go:100", after := #[{ on := 12, ground := Ground.data }, { on := 11, ground := Ground.guard }], guard := some (11, true) } : Oper)) (v := _) rfl (by kernel_rfl) (by kernel_rfl) (by kernel_rfl) (fun _ _ _ h => h) (Or.inl ⟨by rfl, fun x hSw => ?hyz6_13⟩) hHeld ?restz6_13
        case hyz6_13 =>
          have j0 := keepB hSw k0; have j1 := keepB hSw k1; have j2 := keepB hSw k2; have j3 := keepB hSw k3; have j4 := keepB hSw k4
          go_simp
          try with_reducible rfl
        try simp only [Act.put, List.setIfInBounds_toArray, List.set_cons_zero, List.set_cons_succ]
        refine wpAnyH_ready (rs := [14]) (by kernel_rfl) (by simp) ?_
        refine AllReadyH.cons (o := ({ dst := some 50, op := Op.call { callee := Callee.value (Operand.func 42), args := #[Operand.tmp 49, Operand.const (Value.int IntKind.i64 1000000000000000)], argTypes := #[3, 3] }, type := 4, pos := "l6_journal.go:101", after := #[{ on := 13, ground := Ground.data }, { on := 11, ground := Ground.chain }, { on := 11, ground := Ground.guard }], guard := some (11, true) } : Oper)) rfl (fun K hK => ?_) AllReadyH.nil
        go_simp
        refine (iUpTo _ _ _).mono ?_
        rw [g2]; rintro e w2 ⟨rfl, rfl⟩
        refine hK.out _ _ (hHeld) (fun hHeld => ?_)
        clear hK K
        try simp only [Act.put, List.setIfInBounds_toArray, List.set_cons_zero, List.set_cons_succ]
        refine' wpAnyH_take (i := 15) (oi := ({ dst := some 51, op := Op.pick (Operand.tmp 47) (Operand.tmp 50) (Operand.const (Value.bool false)), type := 4, pos := "l6_journal.go:100", after := #[{ on := 11, ground := Ground.data }, { on := 14, ground := Ground.data }], guard := none } : Oper)) (v := _) rfl (by kernel_rfl) (by kernel_rfl) (by kernel_rfl) (fun _ _ _ h => h) (Or.inl ⟨by rfl, fun x hSw => ?hyz6_15⟩) hHeld ?restz6_15
        case hyz6_15 =>
          have j0 := keepB hSw k0; have j1 := keepB hSw k1; have j2 := keepB hSw k2; have j3 := keepB hSw k3; have j4 := keepB hSw k4
          go_simp
          try with_reducible rfl
        try simp only [Act.put, List.setIfInBounds_toArray, List.set_cons_zero, List.set_cons_succ]
        refine' wpAnyH_take (i := 16) (oi := ({ dst := some 52, op := Op.move (Operand.tmp 51), type := 4, pos := "l6_journal.go:100", after := #[{ on := 15, ground := Ground.data }, { on := 14, ground := Ground.chain }], guard := none } : Oper)) (v := _) rfl (by kernel_rfl) (by kernel_rfl) (by kernel_rfl) (fun _ _ _ h => h) (Or.inl ⟨by rfl, fun x hSw => ?hyz6_16⟩) hHeld ?restz6_16
        case hyz6_16 =>
          have j0 := keepB hSw k0; have j1 := keepB hSw k1; have j2 := keepB hSw k2; have j3 := keepB hSw k3; have j4 := keepB hSw k4
          go_simp
          try with_reducible rfl
        try simp only [Act.put, List.setIfInBounds_toArray, List.set_cons_zero, List.set_cons_succ]
        refine' wpAnyH_take (i := 17) (oi := ({ dst := some 53, op := Op.fieldAddr 28 (Operand.tmp 1) 3, type := 0, pos := "l6_journal.go:100", after := #[{ on := 16, ground := Ground.guard }], guard := some (16, true) } : Oper)) (v := _) rfl (by kernel_rfl) (by kernel_rfl) (by kernel_rfl) (fun _ _ _ h => h) (Or.inl ⟨by rfl, fun x hSw => ?hyz6_17⟩) hHeld ?restz6_17
        case hyz6_17 =>
          have j0 := keepB hSw k0; have j1 := keepB hSw k1; have j2 := keepB hSw k2; have j3 := keepB hSw k3; have j4 := keepB hSw k4
          go_simp
          try with_reducible rfl
        try simp only [Act.put, List.setIfInBounds_toArray, List.set_cons_zero, List.set_cons_succ]
        refine' wpAnyH_take (i := 18) (oi := ({ dst := some 54, op := Op.load 3 (Operand.tmp 53), type := 3, pos := "l6_journal.go:100", after := #[{ on := 17, ground := Ground.data }, { on := 16, ground := Ground.guard }], guard := some (16, true) } : Oper)) (v := _) rfl (by kernel_rfl) (by kernel_rfl) (by kernel_rfl) (fun _ _ _ h => h) (Or.inl ⟨by rfl, fun x hSw => ?hyz6_18⟩) hHeld ?restz6_18
        case hyz6_18 =>
          have j0 := keepB hSw k0; have j1 := keepB hSw k1; have j2 := keepB hSw k2; have j3 := keepB hSw k3; have j4 := keepB hSw k4
          go_simp
          try with_reducible rfl
        try simp only [Act.put, List.setIfInBounds_toArray, List.set_cons_zero, List.set_cons_succ]
        refine wpAnyH_ready (rs := [19]) (by kernel_rfl) (by simp) ?_
        refine AllReadyH.cons (o := ({ dst := some 55, op := Op.call { callee := Callee.value (Operand.func 42), args := #[Operand.tmp 54, Operand.const (Value.int IntKind.i64 1000000000000000)], argTypes := #[3, 3] }, type := 4, pos := "l6_journal.go:101", after := #[{ on := 18, ground := Ground.data }, { on := 16, ground := Ground.chain }, { on := 16, ground := Ground.guard }], guard := some (16, true) } : Oper)) rfl (fun K hK => ?_) AllReadyH.nil
        go_simp
        refine (iUpTo _ _ _).mono ?_
        rw [g3]; rintro e w2 ⟨rfl, rfl⟩
        refine hK.out _ _ (hHeld) (fun hHeld => ?_)
        clear hK K
        try simp only [Act.put, List.setIfInBounds_toArray, List.set_cons_zero, List.set_cons_succ]
        refine' wpAnyH_take (i := 20) (oi := ({ dst := some 56, op := Op.pick (Operand.tmp 52) (Operand.tmp 55) (Operand.const (Value.bool false)), type := 4, pos := "l6_journal.go:100", after := #[{ on := 16, ground := Ground.data }, { on := 19, ground := Ground.data }], guard := none } : Oper)) (v := _) rfl (by kernel_rfl) (by kernel_rfl) (by kernel_rfl) (fun _ _ _ h => h) (Or.inl ⟨by rfl, fun x hSw => ?hyz6_20⟩) hHeld ?restz6_20
        case hyz6_20 =>
          have j0 := keepB hSw k0; have j1 := keepB hSw k1; have j2 := keepB hSw k2; have j3 := keepB hSw k3; have j4 := keepB hSw k4
          go_simp
          try with_reducible rfl
        try simp only [Act.put, List.setIfInBounds_toArray, List.set_cons_zero, List.set_cons_succ]
        refine' wpAnyH_take (i := 21) (oi := ({ dst := some 57, op := Op.move (Operand.tmp 56), type := 4, pos := "l6_journal.go:100", after := #[{ on := 20, ground := Ground.data }, { on := 19, ground := Ground.chain }], guard := none } : Oper)) (v := _) rfl (by kernel_rfl) (by kernel_rfl) (by kernel_rfl) (fun _ _ _ h => h) (Or.inl ⟨by rfl, fun x hSw => ?hyz6_21⟩) hHeld ?restz6_21
        case hyz6_21 =>
          have j0 := keepB hSw k0; have j1 := keepB hSw k1; have j2 := keepB hSw k2; have j3 := keepB hSw k3; have j4 := keepB hSw k4
          go_simp
          try with_reducible rfl
        try simp only [Act.put, List.setIfInBounds_toArray, List.set_cons_zero, List.set_cons_succ]
        refine wpAnyH_take (i := 22) (oi := ({ dst := some 58, op := Op.fieldAddr 28 (Operand.tmp 1) 4, type := 0, pos := "l6_journal.go:100", after := #[{ on := 21, ground := Ground.guard }], guard := some (21, true) } : Oper)) (v := undef) rfl (by kernel_rfl) (by kernel_rfl) (by kernel_rfl) (fun _ _ _ h => h) (Or.inr ⟨by rfl, rfl⟩) hHeld ?_
        try simp only [Act.put, List.setIfInBounds_toArray, List.set_cons_zero, List.set_cons_succ]
        refine wpAnyH_take (i := 23) (oi := ({ dst := some 59, op := Op.load 3 (Operand.tmp 58), type := 3, pos := "l6_journal.go:100", after := #[{ on := 22, ground := Ground.data }, { on := 21, ground := Ground.guard }], guard := some (21, true) } : Oper)) (v := undef) rfl (by kernel_rfl) (by kernel_rfl) (by kernel_rfl) (fun _ _ _ h => h) (Or.inr ⟨by rfl, rfl⟩) hHeld ?_
        try simp only [Act.put, List.setIfInBounds_toArray, List.set_cons_zero, List.set_cons_succ]
        refine wpAnyH_take (i := 24) (oi := ({ dst := some 60, op := Op.call { callee := Callee.value (Operand.func 42), args := #[Operand.tmp 59, Operand.const (Value.int IntKind.i64 1000000000000000)], argTypes := #[3, 3] }, type := 4, pos := "l6_journal.go:101", after := #[{ on := 23, ground := Ground.data }, { on := 21, ground := Ground.chain }, { on := 21, ground := Ground.guard }], guard := some (21, true) } : Oper)) (v := undef) rfl (by kernel_rfl) (by kernel_rfl) (by kernel_rfl) (fun _ _ _ h => h) (Or.inr ⟨by rfl, rfl⟩) hHeld ?_
        try simp only [Act.put, List.setIfInBounds_toArray, List.set_cons_zero, List.set_cons_succ]
        refine' wpAnyH_take (i := 25) (oi := ({ dst := some 61, op := Op.pick (Operand.tmp 57) (Operand.tmp 60) (Operand.const (Value.bool false)), type := 4, pos := "l6_journal.go:100", after := #[{ on := 21, ground := Ground.data }, { on := 24, ground := Ground.data }], guard := none } : Oper)) (v := _) rfl (by kernel_rfl) (by kernel_rfl) (by kernel_rfl) (fun _ _ _ h => h) (Or.inl ⟨by rfl, fun x hSw => ?hyz6_25⟩) hHeld ?restz6_25
        case hyz6_25 =>
          have j0 := keepB hSw k0; have j1 := keepB hSw k1; have j2 := keepB hSw k2; have j3 := keepB hSw k3; have j4 := keepB hSw k4
          go_simp
          try with_reducible rfl
        try simp only [Act.put, List.setIfInBounds_toArray, List.set_cons_zero, List.set_cons_succ]
        refine' wpAnyH_take (i := 26) (oi := ({ dst := some 2, op := Op.assign (Operand.tmp 61), type := 4, pos := "l6_journal.go:100", after := #[{ on := 25, ground := Ground.data }, { on := 24, ground := Ground.chain }, { on := 0, ground := Ground.phase }, { on := 1, ground := Ground.phase }, { on := 2, ground := Ground.phase }, { on := 3, ground := Ground.phase }, { on := 4, ground := Ground.phase }, { on := 5, ground := Ground.phase }, { on := 6, ground := Ground.phase }, { on := 7, ground := Ground.phase }, { on := 8, ground := Ground.phase }, { on := 9, ground := Ground.phase }, { on := 10, ground := Ground.phase }, { on := 11, ground := Ground.phase }, { on := 12, ground := Ground.phase }, { on := 13, ground := Ground.phase }, { on := 14, ground := Ground.phase }, { on := 15, ground := Ground.phase }, { on := 16, ground := Ground.phase }, { on := 17, ground := Ground.phase }, { on := 18, ground := Ground.phase }, { on := 19, ground := Ground.phase }, { on := 20, ground := Ground.phase }, { on := 21, ground := Ground.phase }, { on := 22, ground := Ground.phase }, { on := 23, ground := Ground.phase }, { on := 24, ground := Ground.phase }, { on := 25, ground := Ground.phase }], guard := none } : Oper)) (v := _) rfl (by kernel_rfl) (by kernel_rfl) (by kernel_rfl) (fun _ _ _ h => h) (Or.inl ⟨by rfl, fun x hSw => ?hyz6_26⟩) hHeld ?restz6_26
        case hyz6_26 =>
          have j0 := keepB hSw k0; have j1 := keepB hSw k1; have j2 := keepB hSw k2; have j3 := keepB hSw k3; have j4 := keepB hSw k4
          go_simp
          try with_reducible rfl
        try simp only [Act.put, List.setIfInBounds_toArray, List.set_cons_zero, List.set_cons_succ]
        refine wpAnyH_done (by kernel_rfl) ?_ _
        go_wp2
        go_ret
        exact ⟨retB (by rw [HSP.out, g3]; simp), bstep hbw hHeld⟩
      rcases g4 : btw x4 0 1000000000000000
      · go_wp2
        refine wp_region_held_drew (S := fun x => Below wr.heap.size wr x) (by kernel_rfl) (bdrew _) (fun hHeld => ?_)
        refine' wpAnyH_take (i := 0) (oi := ({ dst := some 36, op := Op.fieldAddr 28 (Operand.tmp 1) 1, type := 0, pos := "l6_journal.go:100", after := #[], guard := none } : Oper)) (v := _) rfl (by kernel_rfl) (by kernel_rfl) (by kernel_rfl) (fun _ _ _ h => h) (Or.inl ⟨by rfl, fun x hSw => ?hyz7_0⟩) hHeld ?restz7_0
        case hyz7_0 =>
          have j0 := keepB hSw k0; have j1 := keepB hSw k1; have j2 := keepB hSw k2; have j3 := keepB hSw k3; have j4 := keepB hSw k4
          go_simp
          try with_reducible rfl
        try simp only [Act.put, List.setIfInBounds_toArray, List.set_cons_zero, List.set_cons_succ]
        refine' wpAnyH_take (i := 1) (oi := ({ dst := some 37, op := Op.load 3 (Operand.tmp 36), type := 3, pos := "l6_journal.go:100", after := #[{ on := 0, ground := Ground.data }], guard := none } : Oper)) (v := _) rfl (by kernel_rfl) (by kernel_rfl) (by kernel_rfl) (fun _ _ _ h => h) (Or.inl ⟨by rfl, fun x hSw => ?hyz7_1⟩) hHeld ?restz7_1
        case hyz7_1 =>
          have j0 := keepB hSw k0; have j1 := keepB hSw k1; have j2 := keepB hSw k2; have j3 := keepB hSw k3; have j4 := keepB hSw k4
          go_simp
          try with_reducible rfl
        try simp only [Act.put, List.setIfInBounds_toArray, List.set_cons_zero, List.set_cons_succ]
        refine wpAnyH_ready (rs := [2]) (by kernel_rfl) (by simp) ?_
        refine AllReadyH.cons (o := ({ dst := some 38, op := Op.call { callee := Callee.value (Operand.func 42), args := #[Operand.tmp 37, Operand.const (Value.int IntKind.i64 1000000000)], argTypes := #[3, 3] }, type := 4, pos := "l6_journal.go:100", after := #[{ on := 1, ground := Ground.data }], guard := none } : Oper)) rfl (fun K hK => ?_) AllReadyH.nil
        go_simp
        refine (iUpTo _ _ _).mono ?_
        rw [g1]; rintro e w2 ⟨rfl, rfl⟩
        refine hK.out _ _ (hHeld) (fun hHeld => ?_)
        clear hK K
        try simp only [Act.put, List.setIfInBounds_toArray, List.set_cons_zero, List.set_cons_succ]
        refine' wpAnyH_take (i := 3) (oi := ({ dst := some 39, op := Op.move (Operand.tmp 38), type := 4, pos := "l6_journal.go:100", after := #[{ on := 2, ground := Ground.data }, { on := 2, ground := Ground.chain }], guard := none } : Oper)) (v := _) rfl (by kernel_rfl) (by kernel_rfl) (by kernel_rfl) (fun _ _ _ h => h) (Or.inl ⟨by rfl, fun x hSw => ?hyz7_3⟩) hHeld ?restz7_3
        case hyz7_3 =>
          have j0 := keepB hSw k0; have j1 := keepB hSw k1; have j2 := keepB hSw k2; have j3 := keepB hSw k3; have j4 := keepB hSw k4
          go_simp
          try with_reducible rfl
        try simp only [Act.put, List.setIfInBounds_toArray, List.set_cons_zero, List.set_cons_succ]
        refine' wpAnyH_take (i := 4) (oi := ({ dst := some 40, op := Op.fieldAddr 28 (Operand.tmp 1) 0, type := 0, pos := "l6_journal.go:100", after := #[{ on := 3, ground := Ground.guard }], guard := some (3, true) } : Oper)) (v := _) rfl (by kernel_rfl) (by kernel_rfl) (by kernel_rfl) (fun _ _ _ h => h) (Or.inl ⟨by rfl, fun x hSw => ?hyz7_4⟩) hHeld ?restz7_4
        case hyz7_4 =>
          have j0 := keepB hSw k0; have j1 := keepB hSw k1; have j2 := keepB hSw k2; have j3 := keepB hSw k3; have j4 := keepB hSw k4
          go_simp
          try with_reducible rfl
        try simp only [Act.put, List.setIfInBounds_toArray, List.set_cons_zero, List.set_cons_succ]
        refine' wpAnyH_take (i := 5) (oi := ({ dst := some 41, op := Op.load 26 (Operand.tmp 40), type := 26, pos := "l6_journal.go:100", after := #[{ on := 4, ground := Ground.data }, { on := 3, ground := Ground.guard }], guard := some (3, true) } : Oper)) (v := _) rfl (by kernel_rfl) (by kernel_rfl) (by kernel_rfl) (fun _ _ _ h => h) (Or.inl ⟨by rfl, fun x hSw => ?hyz7_5⟩) hHeld ?restz7_5
        case hyz7_5 =>
          have j0 := keepB hSw k0; have j1 := keepB hSw k1; have j2 := keepB hSw k2; have j3 := keepB hSw k3; have j4 := keepB hSw k4
          go_simp
          try with_reducible rfl
        try simp only [Act.put, List.setIfInBounds_toArray, List.set_cons_zero, List.set_cons_succ]
        refine' wpAnyH_take (i := 7) (oi := ({ dst := some 43, op := Op.fieldAddr 28 (Operand.tmp 1) 1, type := 0, pos := "l6_journal.go:100", after := #[{ on := 3, ground := Ground.guard }], guard := some (3, true) } : Oper)) (v := _) rfl (by kernel_rfl) (by kernel_rfl) (by kernel_rfl) (fun _ _ _ h => h) (Or.inl ⟨by rfl, fun x hSw => ?hyz7_7⟩) hHeld ?restz7_7
        case hyz7_7 =>
          have j0 := keepB hSw k0; have j1 := keepB hSw k1; have j2 := keepB hSw k2; have j3 := keepB hSw k3; have j4 := keepB hSw k4
          go_simp
          try with_reducible rfl
        try simp only [Act.put, List.setIfInBounds_toArray, List.set_cons_zero, List.set_cons_succ]
        refine' wpAnyH_take (i := 8) (oi := ({ dst := some 44, op := Op.load 3 (Operand.tmp 43), type := 3, pos := "l6_journal.go:100", after := #[{ on := 7, ground := Ground.data }, { on := 3, ground := Ground.guard }], guard := some (3, true) } : Oper)) (v := _) rfl (by kernel_rfl) (by kernel_rfl) (by kernel_rfl) (fun _ _ _ h => h) (Or.inl ⟨by rfl, fun x hSw => ?hyz7_8⟩) hHeld ?restz7_8
        case hyz7_8 =>
          have j0 := keepB hSw k0; have j1 := keepB hSw k1; have j2 := keepB hSw k2; have j3 := keepB hSw k3; have j4 := keepB hSw k4
          go_simp
          try with_reducible rfl
        try simp only [Act.put, List.setIfInBounds_toArray, List.set_cons_zero, List.set_cons_succ]
        refine wpAnyH_ready (rs := [6]) (by kernel_rfl) (by simp) ?_
        refine AllReadyH.cons (o := ({ dst := some 42, op := Op.call { callee := Callee.value (Operand.func 43), args := #[Operand.tmp 41], argTypes := #[26] }, type := 3, pos := "l6_journal.go:100", after := #[{ on := 5, ground := Ground.data }, { on := 3, ground := Ground.chain }, { on := 3, ground := Ground.guard }], guard := some (3, true) } : Oper)) rfl (fun K hK => ?_) AllReadyH.nil
        go_simp
        refine (iBytes a k c F _ (h.later (bstep hbw hHeld)) hS).mono ?_
        rintro e w3 ⟨rfl, hb3⟩
        refine hK.out _ _ (bstep hHeld hb3) (fun hHeld => ?_)
        clear hK K
        try simp only [Act.put, List.setIfInBounds_toArray, List.set_cons_zero, List.set_cons_succ]
        refine' wpAnyH_take (i := 9) (oi := ({ dst := some 45, op := Op.binOp BinOp.leq 3 (Operand.tmp 42) (Operand.tmp 44) 3, type := 4, pos := "l6_journal.go:100", after := #[{ on := 6, ground := Ground.data }, { on := 8, ground := Ground.data }, { on := 3, ground := Ground.guard }], guard := some (3, true) } : Oper)) (v := _) rfl (by kernel_rfl) (by kernel_rfl) (by kernel_rfl) (fun _ _ _ h => h) (Or.inl ⟨by rfl, fun x hSw => ?hyz7_9⟩) hHeld ?restz7_9
        case hyz7_9 =>
          have j0 := keepB hSw k0; have j1 := keepB hSw k1; have j2 := keepB hSw k2; have j3 := keepB hSw k3; have j4 := keepB hSw k4
          go_simp
          try with_reducible rfl
        try simp only [Act.put, List.setIfInBounds_toArray, List.set_cons_zero, List.set_cons_succ]
        refine' wpAnyH_take (i := 10) (oi := ({ dst := some 46, op := Op.pick (Operand.tmp 39) (Operand.tmp 45) (Operand.const (Value.bool false)), type := 4, pos := "l6_journal.go:100", after := #[{ on := 3, ground := Ground.data }, { on := 9, ground := Ground.data }], guard := none } : Oper)) (v := _) rfl (by kernel_rfl) (by kernel_rfl) (by kernel_rfl) (fun _ _ _ h => h) (Or.inl ⟨by rfl, fun x hSw => ?hyz7_10⟩) hHeld ?restz7_10
        case hyz7_10 =>
          have j0 := keepB hSw k0; have j1 := keepB hSw k1; have j2 := keepB hSw k2; have j3 := keepB hSw k3; have j4 := keepB hSw k4
          go_simp
          try with_reducible rfl
        try simp only [Act.put, List.setIfInBounds_toArray, List.set_cons_zero, List.set_cons_succ]
        refine' wpAnyH_take (i := 11) (oi := ({ dst := some 47, op := Op.move (Operand.tmp 46), type := 4, pos := "l6_journal.go:100", after := #[{ on := 10, ground := Ground.data }, { on := 6, ground := Ground.chain }], guard := none } : Oper)) (v := _) rfl (by kernel_rfl) (by kernel_rfl) (by kernel_rfl) (fun _ _ _ h => h) (Or.inl ⟨by rfl, fun x hSw => ?hyz7_11⟩) hHeld ?restz7_11
        case hyz7_11 =>
          have j0 := keepB hSw k0; have j1 := keepB hSw k1; have j2 := keepB hSw k2; have j3 := keepB hSw k3; have j4 := keepB hSw k4
          go_simp
          try with_reducible rfl
        try simp only [Act.put, List.setIfInBounds_toArray, List.set_cons_zero, List.set_cons_succ]
        refine' wpAnyH_take (i := 12) (oi := ({ dst := some 48, op := Op.fieldAddr 28 (Operand.tmp 1) 2, type := 0, pos := "l6_journal.go:100", after := #[{ on := 11, ground := Ground.guard }], guard := some (11, true) } : Oper)) (v := _) rfl (by kernel_rfl) (by kernel_rfl) (by kernel_rfl) (fun _ _ _ h => h) (Or.inl ⟨by rfl, fun x hSw => ?hyz7_12⟩) hHeld ?restz7_12
        case hyz7_12 =>
          have j0 := keepB hSw k0; have j1 := keepB hSw k1; have j2 := keepB hSw k2; have j3 := keepB hSw k3; have j4 := keepB hSw k4
          go_simp
          try with_reducible rfl
        try simp only [Act.put, List.setIfInBounds_toArray, List.set_cons_zero, List.set_cons_succ]
        refine' wpAnyH_take (i := 13) (oi := ({ dst := some 49, op := Op.load 3 (Operand.tmp 48), type := 3, pos := "l6_journal.go:100", after := #[{ on := 12, ground := Ground.data }, { on := 11, ground := Ground.guard }], guard := some (11, true) } : Oper)) (v := _) rfl (by kernel_rfl) (by kernel_rfl) (by kernel_rfl) (fun _ _ _ h => h) (Or.inl ⟨by rfl, fun x hSw => ?hyz7_13⟩) hHeld ?restz7_13
        case hyz7_13 =>
          have j0 := keepB hSw k0; have j1 := keepB hSw k1; have j2 := keepB hSw k2; have j3 := keepB hSw k3; have j4 := keepB hSw k4
          go_simp
          try with_reducible rfl
        try simp only [Act.put, List.setIfInBounds_toArray, List.set_cons_zero, List.set_cons_succ]
        refine wpAnyH_ready (rs := [14]) (by kernel_rfl) (by simp) ?_
        refine AllReadyH.cons (o := ({ dst := some 50, op := Op.call { callee := Callee.value (Operand.func 42), args := #[Operand.tmp 49, Operand.const (Value.int IntKind.i64 1000000000000000)], argTypes := #[3, 3] }, type := 4, pos := "l6_journal.go:101", after := #[{ on := 13, ground := Ground.data }, { on := 11, ground := Ground.chain }, { on := 11, ground := Ground.guard }], guard := some (11, true) } : Oper)) rfl (fun K hK => ?_) AllReadyH.nil
        go_simp
        refine (iUpTo _ _ _).mono ?_
        rw [g2]; rintro e w2 ⟨rfl, rfl⟩
        refine hK.out _ _ (hHeld) (fun hHeld => ?_)
        clear hK K
        try simp only [Act.put, List.setIfInBounds_toArray, List.set_cons_zero, List.set_cons_succ]
        refine' wpAnyH_take (i := 15) (oi := ({ dst := some 51, op := Op.pick (Operand.tmp 47) (Operand.tmp 50) (Operand.const (Value.bool false)), type := 4, pos := "l6_journal.go:100", after := #[{ on := 11, ground := Ground.data }, { on := 14, ground := Ground.data }], guard := none } : Oper)) (v := _) rfl (by kernel_rfl) (by kernel_rfl) (by kernel_rfl) (fun _ _ _ h => h) (Or.inl ⟨by rfl, fun x hSw => ?hyz7_15⟩) hHeld ?restz7_15
        case hyz7_15 =>
          have j0 := keepB hSw k0; have j1 := keepB hSw k1; have j2 := keepB hSw k2; have j3 := keepB hSw k3; have j4 := keepB hSw k4
          go_simp
          try with_reducible rfl
        try simp only [Act.put, List.setIfInBounds_toArray, List.set_cons_zero, List.set_cons_succ]
        refine' wpAnyH_take (i := 16) (oi := ({ dst := some 52, op := Op.move (Operand.tmp 51), type := 4, pos := "l6_journal.go:100", after := #[{ on := 15, ground := Ground.data }, { on := 14, ground := Ground.chain }], guard := none } : Oper)) (v := _) rfl (by kernel_rfl) (by kernel_rfl) (by kernel_rfl) (fun _ _ _ h => h) (Or.inl ⟨by rfl, fun x hSw => ?hyz7_16⟩) hHeld ?restz7_16
        case hyz7_16 =>
          have j0 := keepB hSw k0; have j1 := keepB hSw k1; have j2 := keepB hSw k2; have j3 := keepB hSw k3; have j4 := keepB hSw k4
          go_simp
          try with_reducible rfl
        try simp only [Act.put, List.setIfInBounds_toArray, List.set_cons_zero, List.set_cons_succ]
        refine' wpAnyH_take (i := 17) (oi := ({ dst := some 53, op := Op.fieldAddr 28 (Operand.tmp 1) 3, type := 0, pos := "l6_journal.go:100", after := #[{ on := 16, ground := Ground.guard }], guard := some (16, true) } : Oper)) (v := _) rfl (by kernel_rfl) (by kernel_rfl) (by kernel_rfl) (fun _ _ _ h => h) (Or.inl ⟨by rfl, fun x hSw => ?hyz7_17⟩) hHeld ?restz7_17
        case hyz7_17 =>
          have j0 := keepB hSw k0; have j1 := keepB hSw k1; have j2 := keepB hSw k2; have j3 := keepB hSw k3; have j4 := keepB hSw k4
          go_simp
          try with_reducible rfl
        try simp only [Act.put, List.setIfInBounds_toArray, List.set_cons_zero, List.set_cons_succ]
        refine' wpAnyH_take (i := 18) (oi := ({ dst := some 54, op := Op.load 3 (Operand.tmp 53), type := 3, pos := "l6_journal.go:100", after := #[{ on := 17, ground := Ground.data }, { on := 16, ground := Ground.guard }], guard := some (16, true) } : Oper)) (v := _) rfl (by kernel_rfl) (by kernel_rfl) (by kernel_rfl) (fun _ _ _ h => h) (Or.inl ⟨by rfl, fun x hSw => ?hyz7_18⟩) hHeld ?restz7_18
        case hyz7_18 =>
          have j0 := keepB hSw k0; have j1 := keepB hSw k1; have j2 := keepB hSw k2; have j3 := keepB hSw k3; have j4 := keepB hSw k4
          go_simp
          try with_reducible rfl
        try simp only [Act.put, List.setIfInBounds_toArray, List.set_cons_zero, List.set_cons_succ]
        refine wpAnyH_ready (rs := [19]) (by kernel_rfl) (by simp) ?_
        refine AllReadyH.cons (o := ({ dst := some 55, op := Op.call { callee := Callee.value (Operand.func 42), args := #[Operand.tmp 54, Operand.const (Value.int IntKind.i64 1000000000000000)], argTypes := #[3, 3] }, type := 4, pos := "l6_journal.go:101", after := #[{ on := 18, ground := Ground.data }, { on := 16, ground := Ground.chain }, { on := 16, ground := Ground.guard }], guard := some (16, true) } : Oper)) rfl (fun K hK => ?_) AllReadyH.nil
        go_simp
        refine (iUpTo _ _ _).mono ?_
        rw [g3]; rintro e w2 ⟨rfl, rfl⟩
        refine hK.out _ _ (hHeld) (fun hHeld => ?_)
        clear hK K
        try simp only [Act.put, List.setIfInBounds_toArray, List.set_cons_zero, List.set_cons_succ]
        refine' wpAnyH_take (i := 20) (oi := ({ dst := some 56, op := Op.pick (Operand.tmp 52) (Operand.tmp 55) (Operand.const (Value.bool false)), type := 4, pos := "l6_journal.go:100", after := #[{ on := 16, ground := Ground.data }, { on := 19, ground := Ground.data }], guard := none } : Oper)) (v := _) rfl (by kernel_rfl) (by kernel_rfl) (by kernel_rfl) (fun _ _ _ h => h) (Or.inl ⟨by rfl, fun x hSw => ?hyz7_20⟩) hHeld ?restz7_20
        case hyz7_20 =>
          have j0 := keepB hSw k0; have j1 := keepB hSw k1; have j2 := keepB hSw k2; have j3 := keepB hSw k3; have j4 := keepB hSw k4
          go_simp
          try with_reducible rfl
        try simp only [Act.put, List.setIfInBounds_toArray, List.set_cons_zero, List.set_cons_succ]
        refine' wpAnyH_take (i := 21) (oi := ({ dst := some 57, op := Op.move (Operand.tmp 56), type := 4, pos := "l6_journal.go:100", after := #[{ on := 20, ground := Ground.data }, { on := 19, ground := Ground.chain }], guard := none } : Oper)) (v := _) rfl (by kernel_rfl) (by kernel_rfl) (by kernel_rfl) (fun _ _ _ h => h) (Or.inl ⟨by rfl, fun x hSw => ?hyz7_21⟩) hHeld ?restz7_21
        case hyz7_21 =>
          have j0 := keepB hSw k0; have j1 := keepB hSw k1; have j2 := keepB hSw k2; have j3 := keepB hSw k3; have j4 := keepB hSw k4
          go_simp
          try with_reducible rfl
        try simp only [Act.put, List.setIfInBounds_toArray, List.set_cons_zero, List.set_cons_succ]
        refine' wpAnyH_take (i := 22) (oi := ({ dst := some 58, op := Op.fieldAddr 28 (Operand.tmp 1) 4, type := 0, pos := "l6_journal.go:100", after := #[{ on := 21, ground := Ground.guard }], guard := some (21, true) } : Oper)) (v := _) rfl (by kernel_rfl) (by kernel_rfl) (by kernel_rfl) (fun _ _ _ h => h) (Or.inl ⟨by rfl, fun x hSw => ?hyz7_22⟩) hHeld ?restz7_22
        case hyz7_22 =>
          have j0 := keepB hSw k0; have j1 := keepB hSw k1; have j2 := keepB hSw k2; have j3 := keepB hSw k3; have j4 := keepB hSw k4
          go_simp
          try with_reducible rfl
        try simp only [Act.put, List.setIfInBounds_toArray, List.set_cons_zero, List.set_cons_succ]
        refine' wpAnyH_take (i := 23) (oi := ({ dst := some 59, op := Op.load 3 (Operand.tmp 58), type := 3, pos := "l6_journal.go:100", after := #[{ on := 22, ground := Ground.data }, { on := 21, ground := Ground.guard }], guard := some (21, true) } : Oper)) (v := _) rfl (by kernel_rfl) (by kernel_rfl) (by kernel_rfl) (fun _ _ _ h => h) (Or.inl ⟨by rfl, fun x hSw => ?hyz7_23⟩) hHeld ?restz7_23
        case hyz7_23 =>
          have j0 := keepB hSw k0; have j1 := keepB hSw k1; have j2 := keepB hSw k2; have j3 := keepB hSw k3; have j4 := keepB hSw k4
          go_simp
          try with_reducible rfl
        try simp only [Act.put, List.setIfInBounds_toArray, List.set_cons_zero, List.set_cons_succ]
        refine wpAnyH_ready (rs := [24]) (by kernel_rfl) (by simp) ?_
        refine AllReadyH.cons (o := ({ dst := some 60, op := Op.call { callee := Callee.value (Operand.func 42), args := #[Operand.tmp 59, Operand.const (Value.int IntKind.i64 1000000000000000)], argTypes := #[3, 3] }, type := 4, pos := "l6_journal.go:101", after := #[{ on := 23, ground := Ground.data }, { on := 21, ground := Ground.chain }, { on := 21, ground := Ground.guard }], guard := some (21, true) } : Oper)) rfl (fun K hK => ?_) AllReadyH.nil
        go_simp
        refine (iUpTo _ _ _).mono ?_
        rw [g4]; rintro e w2 ⟨rfl, rfl⟩
        refine hK.out _ _ (hHeld) (fun hHeld => ?_)
        clear hK K
        try simp only [Act.put, List.setIfInBounds_toArray, List.set_cons_zero, List.set_cons_succ]
        refine' wpAnyH_take (i := 25) (oi := ({ dst := some 61, op := Op.pick (Operand.tmp 57) (Operand.tmp 60) (Operand.const (Value.bool false)), type := 4, pos := "l6_journal.go:100", after := #[{ on := 21, ground := Ground.data }, { on := 24, ground := Ground.data }], guard := none } : Oper)) (v := _) rfl (by kernel_rfl) (by kernel_rfl) (by kernel_rfl) (fun _ _ _ h => h) (Or.inl ⟨by rfl, fun x hSw => ?hyz7_25⟩) hHeld ?restz7_25
        case hyz7_25 =>
          have j0 := keepB hSw k0; have j1 := keepB hSw k1; have j2 := keepB hSw k2; have j3 := keepB hSw k3; have j4 := keepB hSw k4
          go_simp
          try with_reducible rfl
        try simp only [Act.put, List.setIfInBounds_toArray, List.set_cons_zero, List.set_cons_succ]
        refine' wpAnyH_take (i := 26) (oi := ({ dst := some 2, op := Op.assign (Operand.tmp 61), type := 4, pos := "l6_journal.go:100", after := #[{ on := 25, ground := Ground.data }, { on := 24, ground := Ground.chain }, { on := 0, ground := Ground.phase }, { on := 1, ground := Ground.phase }, { on := 2, ground := Ground.phase }, { on := 3, ground := Ground.phase }, { on := 4, ground := Ground.phase }, { on := 5, ground := Ground.phase }, { on := 6, ground := Ground.phase }, { on := 7, ground := Ground.phase }, { on := 8, ground := Ground.phase }, { on := 9, ground := Ground.phase }, { on := 10, ground := Ground.phase }, { on := 11, ground := Ground.phase }, { on := 12, ground := Ground.phase }, { on := 13, ground := Ground.phase }, { on := 14, ground := Ground.phase }, { on := 15, ground := Ground.phase }, { on := 16, ground := Ground.phase }, { on := 17, ground := Ground.phase }, { on := 18, ground := Ground.phase }, { on := 19, ground := Ground.phase }, { on := 20, ground := Ground.phase }, { on := 21, ground := Ground.phase }, { on := 22, ground := Ground.phase }, { on := 23, ground := Ground.phase }, { on := 24, ground := Ground.phase }, { on := 25, ground := Ground.phase }], guard := none } : Oper)) (v := _) rfl (by kernel_rfl) (by kernel_rfl) (by kernel_rfl) (fun _ _ _ h => h) (Or.inl ⟨by rfl, fun x hSw => ?hyz7_26⟩) hHeld ?restz7_26
        case hyz7_26 =>
          have j0 := keepB hSw k0; have j1 := keepB hSw k1; have j2 := keepB hSw k2; have j3 := keepB hSw k3; have j4 := keepB hSw k4
          go_simp
          try with_reducible rfl
        try simp only [Act.put, List.setIfInBounds_toArray, List.set_cons_zero, List.set_cons_succ]
        refine wpAnyH_done (by kernel_rfl) ?_ _
        go_wp2
        go_ret
        exact ⟨retB (by rw [HSP.out, g4]; simp), bstep hbw hHeld⟩
      · go_wp2
        refine wp_region_held_drew (S := fun x => Below wr.heap.size wr x) (by kernel_rfl) (bdrew _) (fun hHeld => ?_)
        refine' wpAnyH_take (i := 0) (oi := ({ dst := some 36, op := Op.fieldAddr 28 (Operand.tmp 1) 1, type := 0, pos := "l6_journal.go:100", after := #[], guard := none } : Oper)) (v := _) rfl (by kernel_rfl) (by kernel_rfl) (by kernel_rfl) (fun _ _ _ h => h) (Or.inl ⟨by rfl, fun x hSw => ?hyz8_0⟩) hHeld ?restz8_0
        case hyz8_0 =>
          have j0 := keepB hSw k0; have j1 := keepB hSw k1; have j2 := keepB hSw k2; have j3 := keepB hSw k3; have j4 := keepB hSw k4
          go_simp
          try with_reducible rfl
        try simp only [Act.put, List.setIfInBounds_toArray, List.set_cons_zero, List.set_cons_succ]
        refine' wpAnyH_take (i := 1) (oi := ({ dst := some 37, op := Op.load 3 (Operand.tmp 36), type := 3, pos := "l6_journal.go:100", after := #[{ on := 0, ground := Ground.data }], guard := none } : Oper)) (v := _) rfl (by kernel_rfl) (by kernel_rfl) (by kernel_rfl) (fun _ _ _ h => h) (Or.inl ⟨by rfl, fun x hSw => ?hyz8_1⟩) hHeld ?restz8_1
        case hyz8_1 =>
          have j0 := keepB hSw k0; have j1 := keepB hSw k1; have j2 := keepB hSw k2; have j3 := keepB hSw k3; have j4 := keepB hSw k4
          go_simp
          try with_reducible rfl
        try simp only [Act.put, List.setIfInBounds_toArray, List.set_cons_zero, List.set_cons_succ]
        refine wpAnyH_ready (rs := [2]) (by kernel_rfl) (by simp) ?_
        refine AllReadyH.cons (o := ({ dst := some 38, op := Op.call { callee := Callee.value (Operand.func 42), args := #[Operand.tmp 37, Operand.const (Value.int IntKind.i64 1000000000)], argTypes := #[3, 3] }, type := 4, pos := "l6_journal.go:100", after := #[{ on := 1, ground := Ground.data }], guard := none } : Oper)) rfl (fun K hK => ?_) AllReadyH.nil
        go_simp
        refine (iUpTo _ _ _).mono ?_
        rw [g1]; rintro e w2 ⟨rfl, rfl⟩
        refine hK.out _ _ (hHeld) (fun hHeld => ?_)
        clear hK K
        try simp only [Act.put, List.setIfInBounds_toArray, List.set_cons_zero, List.set_cons_succ]
        refine' wpAnyH_take (i := 3) (oi := ({ dst := some 39, op := Op.move (Operand.tmp 38), type := 4, pos := "l6_journal.go:100", after := #[{ on := 2, ground := Ground.data }, { on := 2, ground := Ground.chain }], guard := none } : Oper)) (v := _) rfl (by kernel_rfl) (by kernel_rfl) (by kernel_rfl) (fun _ _ _ h => h) (Or.inl ⟨by rfl, fun x hSw => ?hyz8_3⟩) hHeld ?restz8_3
        case hyz8_3 =>
          have j0 := keepB hSw k0; have j1 := keepB hSw k1; have j2 := keepB hSw k2; have j3 := keepB hSw k3; have j4 := keepB hSw k4
          go_simp
          try with_reducible rfl
        try simp only [Act.put, List.setIfInBounds_toArray, List.set_cons_zero, List.set_cons_succ]
        refine' wpAnyH_take (i := 4) (oi := ({ dst := some 40, op := Op.fieldAddr 28 (Operand.tmp 1) 0, type := 0, pos := "l6_journal.go:100", after := #[{ on := 3, ground := Ground.guard }], guard := some (3, true) } : Oper)) (v := _) rfl (by kernel_rfl) (by kernel_rfl) (by kernel_rfl) (fun _ _ _ h => h) (Or.inl ⟨by rfl, fun x hSw => ?hyz8_4⟩) hHeld ?restz8_4
        case hyz8_4 =>
          have j0 := keepB hSw k0; have j1 := keepB hSw k1; have j2 := keepB hSw k2; have j3 := keepB hSw k3; have j4 := keepB hSw k4
          go_simp
          try with_reducible rfl
        try simp only [Act.put, List.setIfInBounds_toArray, List.set_cons_zero, List.set_cons_succ]
        refine' wpAnyH_take (i := 5) (oi := ({ dst := some 41, op := Op.load 26 (Operand.tmp 40), type := 26, pos := "l6_journal.go:100", after := #[{ on := 4, ground := Ground.data }, { on := 3, ground := Ground.guard }], guard := some (3, true) } : Oper)) (v := _) rfl (by kernel_rfl) (by kernel_rfl) (by kernel_rfl) (fun _ _ _ h => h) (Or.inl ⟨by rfl, fun x hSw => ?hyz8_5⟩) hHeld ?restz8_5
        case hyz8_5 =>
          have j0 := keepB hSw k0; have j1 := keepB hSw k1; have j2 := keepB hSw k2; have j3 := keepB hSw k3; have j4 := keepB hSw k4
          go_simp
          try with_reducible rfl
        try simp only [Act.put, List.setIfInBounds_toArray, List.set_cons_zero, List.set_cons_succ]
        refine' wpAnyH_take (i := 7) (oi := ({ dst := some 43, op := Op.fieldAddr 28 (Operand.tmp 1) 1, type := 0, pos := "l6_journal.go:100", after := #[{ on := 3, ground := Ground.guard }], guard := some (3, true) } : Oper)) (v := _) rfl (by kernel_rfl) (by kernel_rfl) (by kernel_rfl) (fun _ _ _ h => h) (Or.inl ⟨by rfl, fun x hSw => ?hyz8_7⟩) hHeld ?restz8_7
        case hyz8_7 =>
          have j0 := keepB hSw k0; have j1 := keepB hSw k1; have j2 := keepB hSw k2; have j3 := keepB hSw k3; have j4 := keepB hSw k4
          go_simp
          try with_reducible rfl
        try simp only [Act.put, List.setIfInBounds_toArray, List.set_cons_zero, List.set_cons_succ]
        refine' wpAnyH_take (i := 8) (oi := ({ dst := some 44, op := Op.load 3 (Operand.tmp 43), type := 3, pos := "l6_journal.go:100", after := #[{ on := 7, ground := Ground.data }, { on := 3, ground := Ground.guard }], guard := some (3, true) } : Oper)) (v := _) rfl (by kernel_rfl) (by kernel_rfl) (by kernel_rfl) (fun _ _ _ h => h) (Or.inl ⟨by rfl, fun x hSw => ?hyz8_8⟩) hHeld ?restz8_8
        case hyz8_8 =>
          have j0 := keepB hSw k0; have j1 := keepB hSw k1; have j2 := keepB hSw k2; have j3 := keepB hSw k3; have j4 := keepB hSw k4
          go_simp
          try with_reducible rfl
        try simp only [Act.put, List.setIfInBounds_toArray, List.set_cons_zero, List.set_cons_succ]
        refine wpAnyH_ready (rs := [6]) (by kernel_rfl) (by simp) ?_
        refine AllReadyH.cons (o := ({ dst := some 42, op := Op.call { callee := Callee.value (Operand.func 43), args := #[Operand.tmp 41], argTypes := #[26] }, type := 3, pos := "l6_journal.go:100", after := #[{ on := 5, ground := Ground.data }, { on := 3, ground := Ground.chain }, { on := 3, ground := Ground.guard }], guard := some (3, true) } : Oper)) rfl (fun K hK => ?_) AllReadyH.nil
        go_simp
        refine (iBytes a k c F _ (h.later (bstep hbw hHeld)) hS).mono ?_
        rintro e w3 ⟨rfl, hb3⟩
        refine hK.out _ _ (bstep hHeld hb3) (fun hHeld => ?_)
        clear hK K
        try simp only [Act.put, List.setIfInBounds_toArray, List.set_cons_zero, List.set_cons_succ]
        refine' wpAnyH_take (i := 9) (oi := ({ dst := some 45, op := Op.binOp BinOp.leq 3 (Operand.tmp 42) (Operand.tmp 44) 3, type := 4, pos := "l6_journal.go:100", after := #[{ on := 6, ground := Ground.data }, { on := 8, ground := Ground.data }, { on := 3, ground := Ground.guard }], guard := some (3, true) } : Oper)) (v := _) rfl (by kernel_rfl) (by kernel_rfl) (by kernel_rfl) (fun _ _ _ h => h) (Or.inl ⟨by rfl, fun x hSw => ?hyz8_9⟩) hHeld ?restz8_9
        case hyz8_9 =>
          have j0 := keepB hSw k0; have j1 := keepB hSw k1; have j2 := keepB hSw k2; have j3 := keepB hSw k3; have j4 := keepB hSw k4
          go_simp
          try with_reducible rfl
        try simp only [Act.put, List.setIfInBounds_toArray, List.set_cons_zero, List.set_cons_succ]
        refine' wpAnyH_take (i := 10) (oi := ({ dst := some 46, op := Op.pick (Operand.tmp 39) (Operand.tmp 45) (Operand.const (Value.bool false)), type := 4, pos := "l6_journal.go:100", after := #[{ on := 3, ground := Ground.data }, { on := 9, ground := Ground.data }], guard := none } : Oper)) (v := _) rfl (by kernel_rfl) (by kernel_rfl) (by kernel_rfl) (fun _ _ _ h => h) (Or.inl ⟨by rfl, fun x hSw => ?hyz8_10⟩) hHeld ?restz8_10
        case hyz8_10 =>
          have j0 := keepB hSw k0; have j1 := keepB hSw k1; have j2 := keepB hSw k2; have j3 := keepB hSw k3; have j4 := keepB hSw k4
          go_simp
          try with_reducible rfl
        try simp only [Act.put, List.setIfInBounds_toArray, List.set_cons_zero, List.set_cons_succ]
        refine' wpAnyH_take (i := 11) (oi := ({ dst := some 47, op := Op.move (Operand.tmp 46), type := 4, pos := "l6_journal.go:100", after := #[{ on := 10, ground := Ground.data }, { on := 6, ground := Ground.chain }], guard := none } : Oper)) (v := _) rfl (by kernel_rfl) (by kernel_rfl) (by kernel_rfl) (fun _ _ _ h => h) (Or.inl ⟨by rfl, fun x hSw => ?hyz8_11⟩) hHeld ?restz8_11
        case hyz8_11 =>
          have j0 := keepB hSw k0; have j1 := keepB hSw k1; have j2 := keepB hSw k2; have j3 := keepB hSw k3; have j4 := keepB hSw k4
          go_simp
          try with_reducible rfl
        try simp only [Act.put, List.setIfInBounds_toArray, List.set_cons_zero, List.set_cons_succ]
        refine' wpAnyH_take (i := 12) (oi := ({ dst := some 48, op := Op.fieldAddr 28 (Operand.tmp 1) 2, type := 0, pos := "l6_journal.go:100", after := #[{ on := 11, ground := Ground.guard }], guard := some (11, true) } : Oper)) (v := _) rfl (by kernel_rfl) (by kernel_rfl) (by kernel_rfl) (fun _ _ _ h => h) (Or.inl ⟨by rfl, fun x hSw => ?hyz8_12⟩) hHeld ?restz8_12
        case hyz8_12 =>
          have j0 := keepB hSw k0; have j1 := keepB hSw k1; have j2 := keepB hSw k2; have j3 := keepB hSw k3; have j4 := keepB hSw k4
          go_simp
          try with_reducible rfl
        try simp only [Act.put, List.setIfInBounds_toArray, List.set_cons_zero, List.set_cons_succ]
        refine' wpAnyH_take (i := 13) (oi := ({ dst := some 49, op := Op.load 3 (Operand.tmp 48), type := 3, pos := "l6_journal.go:100", after := #[{ on := 12, ground := Ground.data }, { on := 11, ground := Ground.guard }], guard := some (11, true) } : Oper)) (v := _) rfl (by kernel_rfl) (by kernel_rfl) (by kernel_rfl) (fun _ _ _ h => h) (Or.inl ⟨by rfl, fun x hSw => ?hyz8_13⟩) hHeld ?restz8_13
        case hyz8_13 =>
          have j0 := keepB hSw k0; have j1 := keepB hSw k1; have j2 := keepB hSw k2; have j3 := keepB hSw k3; have j4 := keepB hSw k4
          go_simp
          try with_reducible rfl
        try simp only [Act.put, List.setIfInBounds_toArray, List.set_cons_zero, List.set_cons_succ]
        refine wpAnyH_ready (rs := [14]) (by kernel_rfl) (by simp) ?_
        refine AllReadyH.cons (o := ({ dst := some 50, op := Op.call { callee := Callee.value (Operand.func 42), args := #[Operand.tmp 49, Operand.const (Value.int IntKind.i64 1000000000000000)], argTypes := #[3, 3] }, type := 4, pos := "l6_journal.go:101", after := #[{ on := 13, ground := Ground.data }, { on := 11, ground := Ground.chain }, { on := 11, ground := Ground.guard }], guard := some (11, true) } : Oper)) rfl (fun K hK => ?_) AllReadyH.nil
        go_simp
        refine (iUpTo _ _ _).mono ?_
        rw [g2]; rintro e w2 ⟨rfl, rfl⟩
        refine hK.out _ _ (hHeld) (fun hHeld => ?_)
        clear hK K
        try simp only [Act.put, List.setIfInBounds_toArray, List.set_cons_zero, List.set_cons_succ]
        refine' wpAnyH_take (i := 15) (oi := ({ dst := some 51, op := Op.pick (Operand.tmp 47) (Operand.tmp 50) (Operand.const (Value.bool false)), type := 4, pos := "l6_journal.go:100", after := #[{ on := 11, ground := Ground.data }, { on := 14, ground := Ground.data }], guard := none } : Oper)) (v := _) rfl (by kernel_rfl) (by kernel_rfl) (by kernel_rfl) (fun _ _ _ h => h) (Or.inl ⟨by rfl, fun x hSw => ?hyz8_15⟩) hHeld ?restz8_15
        case hyz8_15 =>
          have j0 := keepB hSw k0; have j1 := keepB hSw k1; have j2 := keepB hSw k2; have j3 := keepB hSw k3; have j4 := keepB hSw k4
          go_simp
          try with_reducible rfl
        try simp only [Act.put, List.setIfInBounds_toArray, List.set_cons_zero, List.set_cons_succ]
        refine' wpAnyH_take (i := 16) (oi := ({ dst := some 52, op := Op.move (Operand.tmp 51), type := 4, pos := "l6_journal.go:100", after := #[{ on := 15, ground := Ground.data }, { on := 14, ground := Ground.chain }], guard := none } : Oper)) (v := _) rfl (by kernel_rfl) (by kernel_rfl) (by kernel_rfl) (fun _ _ _ h => h) (Or.inl ⟨by rfl, fun x hSw => ?hyz8_16⟩) hHeld ?restz8_16
        case hyz8_16 =>
          have j0 := keepB hSw k0; have j1 := keepB hSw k1; have j2 := keepB hSw k2; have j3 := keepB hSw k3; have j4 := keepB hSw k4
          go_simp
          try with_reducible rfl
        try simp only [Act.put, List.setIfInBounds_toArray, List.set_cons_zero, List.set_cons_succ]
        refine' wpAnyH_take (i := 17) (oi := ({ dst := some 53, op := Op.fieldAddr 28 (Operand.tmp 1) 3, type := 0, pos := "l6_journal.go:100", after := #[{ on := 16, ground := Ground.guard }], guard := some (16, true) } : Oper)) (v := _) rfl (by kernel_rfl) (by kernel_rfl) (by kernel_rfl) (fun _ _ _ h => h) (Or.inl ⟨by rfl, fun x hSw => ?hyz8_17⟩) hHeld ?restz8_17
        case hyz8_17 =>
          have j0 := keepB hSw k0; have j1 := keepB hSw k1; have j2 := keepB hSw k2; have j3 := keepB hSw k3; have j4 := keepB hSw k4
          go_simp
          try with_reducible rfl
        try simp only [Act.put, List.setIfInBounds_toArray, List.set_cons_zero, List.set_cons_succ]
        refine' wpAnyH_take (i := 18) (oi := ({ dst := some 54, op := Op.load 3 (Operand.tmp 53), type := 3, pos := "l6_journal.go:100", after := #[{ on := 17, ground := Ground.data }, { on := 16, ground := Ground.guard }], guard := some (16, true) } : Oper)) (v := _) rfl (by kernel_rfl) (by kernel_rfl) (by kernel_rfl) (fun _ _ _ h => h) (Or.inl ⟨by rfl, fun x hSw => ?hyz8_18⟩) hHeld ?restz8_18
        case hyz8_18 =>
          have j0 := keepB hSw k0; have j1 := keepB hSw k1; have j2 := keepB hSw k2; have j3 := keepB hSw k3; have j4 := keepB hSw k4
          go_simp
          try with_reducible rfl
        try simp only [Act.put, List.setIfInBounds_toArray, List.set_cons_zero, List.set_cons_succ]
        refine wpAnyH_ready (rs := [19]) (by kernel_rfl) (by simp) ?_
        refine AllReadyH.cons (o := ({ dst := some 55, op := Op.call { callee := Callee.value (Operand.func 42), args := #[Operand.tmp 54, Operand.const (Value.int IntKind.i64 1000000000000000)], argTypes := #[3, 3] }, type := 4, pos := "l6_journal.go:101", after := #[{ on := 18, ground := Ground.data }, { on := 16, ground := Ground.chain }, { on := 16, ground := Ground.guard }], guard := some (16, true) } : Oper)) rfl (fun K hK => ?_) AllReadyH.nil
        go_simp
        refine (iUpTo _ _ _).mono ?_
        rw [g3]; rintro e w2 ⟨rfl, rfl⟩
        refine hK.out _ _ (hHeld) (fun hHeld => ?_)
        clear hK K
        try simp only [Act.put, List.setIfInBounds_toArray, List.set_cons_zero, List.set_cons_succ]
        refine' wpAnyH_take (i := 20) (oi := ({ dst := some 56, op := Op.pick (Operand.tmp 52) (Operand.tmp 55) (Operand.const (Value.bool false)), type := 4, pos := "l6_journal.go:100", after := #[{ on := 16, ground := Ground.data }, { on := 19, ground := Ground.data }], guard := none } : Oper)) (v := _) rfl (by kernel_rfl) (by kernel_rfl) (by kernel_rfl) (fun _ _ _ h => h) (Or.inl ⟨by rfl, fun x hSw => ?hyz8_20⟩) hHeld ?restz8_20
        case hyz8_20 =>
          have j0 := keepB hSw k0; have j1 := keepB hSw k1; have j2 := keepB hSw k2; have j3 := keepB hSw k3; have j4 := keepB hSw k4
          go_simp
          try with_reducible rfl
        try simp only [Act.put, List.setIfInBounds_toArray, List.set_cons_zero, List.set_cons_succ]
        refine' wpAnyH_take (i := 21) (oi := ({ dst := some 57, op := Op.move (Operand.tmp 56), type := 4, pos := "l6_journal.go:100", after := #[{ on := 20, ground := Ground.data }, { on := 19, ground := Ground.chain }], guard := none } : Oper)) (v := _) rfl (by kernel_rfl) (by kernel_rfl) (by kernel_rfl) (fun _ _ _ h => h) (Or.inl ⟨by rfl, fun x hSw => ?hyz8_21⟩) hHeld ?restz8_21
        case hyz8_21 =>
          have j0 := keepB hSw k0; have j1 := keepB hSw k1; have j2 := keepB hSw k2; have j3 := keepB hSw k3; have j4 := keepB hSw k4
          go_simp
          try with_reducible rfl
        try simp only [Act.put, List.setIfInBounds_toArray, List.set_cons_zero, List.set_cons_succ]
        refine' wpAnyH_take (i := 22) (oi := ({ dst := some 58, op := Op.fieldAddr 28 (Operand.tmp 1) 4, type := 0, pos := "l6_journal.go:100", after := #[{ on := 21, ground := Ground.guard }], guard := some (21, true) } : Oper)) (v := _) rfl (by kernel_rfl) (by kernel_rfl) (by kernel_rfl) (fun _ _ _ h => h) (Or.inl ⟨by rfl, fun x hSw => ?hyz8_22⟩) hHeld ?restz8_22
        case hyz8_22 =>
          have j0 := keepB hSw k0; have j1 := keepB hSw k1; have j2 := keepB hSw k2; have j3 := keepB hSw k3; have j4 := keepB hSw k4
          go_simp
          try with_reducible rfl
        try simp only [Act.put, List.setIfInBounds_toArray, List.set_cons_zero, List.set_cons_succ]
        refine' wpAnyH_take (i := 23) (oi := ({ dst := some 59, op := Op.load 3 (Operand.tmp 58), type := 3, pos := "l6_journal.go:100", after := #[{ on := 22, ground := Ground.data }, { on := 21, ground := Ground.guard }], guard := some (21, true) } : Oper)) (v := _) rfl (by kernel_rfl) (by kernel_rfl) (by kernel_rfl) (fun _ _ _ h => h) (Or.inl ⟨by rfl, fun x hSw => ?hyz8_23⟩) hHeld ?restz8_23
        case hyz8_23 =>
          have j0 := keepB hSw k0; have j1 := keepB hSw k1; have j2 := keepB hSw k2; have j3 := keepB hSw k3; have j4 := keepB hSw k4
          go_simp
          try with_reducible rfl
        try simp only [Act.put, List.setIfInBounds_toArray, List.set_cons_zero, List.set_cons_succ]
        refine wpAnyH_ready (rs := [24]) (by kernel_rfl) (by simp) ?_
        refine AllReadyH.cons (o := ({ dst := some 60, op := Op.call { callee := Callee.value (Operand.func 42), args := #[Operand.tmp 59, Operand.const (Value.int IntKind.i64 1000000000000000)], argTypes := #[3, 3] }, type := 4, pos := "l6_journal.go:101", after := #[{ on := 23, ground := Ground.data }, { on := 21, ground := Ground.chain }, { on := 21, ground := Ground.guard }], guard := some (21, true) } : Oper)) rfl (fun K hK => ?_) AllReadyH.nil
        go_simp
        refine (iUpTo _ _ _).mono ?_
        rw [g4]; rintro e w2 ⟨rfl, rfl⟩
        refine hK.out _ _ (hHeld) (fun hHeld => ?_)
        clear hK K
        try simp only [Act.put, List.setIfInBounds_toArray, List.set_cons_zero, List.set_cons_succ]
        refine' wpAnyH_take (i := 25) (oi := ({ dst := some 61, op := Op.pick (Operand.tmp 57) (Operand.tmp 60) (Operand.const (Value.bool false)), type := 4, pos := "l6_journal.go:100", after := #[{ on := 21, ground := Ground.data }, { on := 24, ground := Ground.data }], guard := none } : Oper)) (v := _) rfl (by kernel_rfl) (by kernel_rfl) (by kernel_rfl) (fun _ _ _ h => h) (Or.inl ⟨by rfl, fun x hSw => ?hyz8_25⟩) hHeld ?restz8_25
        case hyz8_25 =>
          have j0 := keepB hSw k0; have j1 := keepB hSw k1; have j2 := keepB hSw k2; have j3 := keepB hSw k3; have j4 := keepB hSw k4
          go_simp
          try with_reducible rfl
        try simp only [Act.put, List.setIfInBounds_toArray, List.set_cons_zero, List.set_cons_succ]
        refine' wpAnyH_take (i := 26) (oi := ({ dst := some 2, op := Op.assign (Operand.tmp 61), type := 4, pos := "l6_journal.go:100", after := #[{ on := 25, ground := Ground.data }, { on := 24, ground := Ground.chain }, { on := 0, ground := Ground.phase }, { on := 1, ground := Ground.phase }, { on := 2, ground := Ground.phase }, { on := 3, ground := Ground.phase }, { on := 4, ground := Ground.phase }, { on := 5, ground := Ground.phase }, { on := 6, ground := Ground.phase }, { on := 7, ground := Ground.phase }, { on := 8, ground := Ground.phase }, { on := 9, ground := Ground.phase }, { on := 10, ground := Ground.phase }, { on := 11, ground := Ground.phase }, { on := 12, ground := Ground.phase }, { on := 13, ground := Ground.phase }, { on := 14, ground := Ground.phase }, { on := 15, ground := Ground.phase }, { on := 16, ground := Ground.phase }, { on := 17, ground := Ground.phase }, { on := 18, ground := Ground.phase }, { on := 19, ground := Ground.phase }, { on := 20, ground := Ground.phase }, { on := 21, ground := Ground.phase }, { on := 22, ground := Ground.phase }, { on := 23, ground := Ground.phase }, { on := 24, ground := Ground.phase }, { on := 25, ground := Ground.phase }], guard := none } : Oper)) (v := _) rfl (by kernel_rfl) (by kernel_rfl) (by kernel_rfl) (fun _ _ _ h => h) (Or.inl ⟨by rfl, fun x hSw => ?hyz8_26⟩) hHeld ?restz8_26
        case hyz8_26 =>
          have j0 := keepB hSw k0; have j1 := keepB hSw k1; have j2 := keepB hSw k2; have j3 := keepB hSw k3; have j4 := keepB hSw k4
          go_simp
          try with_reducible rfl
        try simp only [Act.put, List.setIfInBounds_toArray, List.set_cons_zero, List.set_cons_succ]
        refine wpAnyH_done (by kernel_rfl) ?_ _
        go_wp2
        go_ret
        exact ⟨retB (by rw [HSP.out, g1, d1, g2, g3, g4]; simp), bstep hbw hHeld⟩
set_option maxRecDepth 20000 in
set_option maxHeartbeats 2000000 in
theorem szFs_any (a : Option Addr) (n c : Nat) (F : Nat → Fil) (x1 x2 x3 x4 : Int) (x5 : Bool) (w : World) (h : FX w a n F) (L : Int) (h0 : 0 ≤ L) (h1 : L ≤ 2097152) :
    Calls Tryz.prog 4 #[.agg #[.slice a n c, .int .i64 x1, .int .i64 x2, .int .i64 x3, .int .i64 x4, .bool x5], .int .i64 L] w fun e w' => Below w.heap.size w w' ∧ ∃ r : Int, e = .returned (.int .i64 r) ∧ (0 ≤ r → r + n + sumS F n + sumD F n = L) := by
  have hb0 := bal w (.cells #[.slice a n c, .int .i64 x1, .int .i64 x2, .int .i64 x3, .int .i64 x4, .bool x5] 24)
  go_enter Tryz.func4, Tryz.ntmps4
  go_wp2_with (go_at_call 15; refine (szFils a n c F _ (h.later hb0) L h0 h1).mono ?_; rintro e w1 ⟨hb1, r, rfl, hr⟩; by_cases hr0 : (0 : Int) ≤ r)
  · go_ret
    exact ⟨bstep hb0 hb1, r, rfl, hr⟩
  · go_ret
    exact ⟨bstep hb0 hb1, -1, rfl, fun hh => by omega⟩
theorem rowL {w w' : World} {B : Nat} {o : Obj} (h : w.heap[B]? = some o) (hb : Below w.heap.size w w') : w'.heap[B]? = some o := (hb.block B (Array.getElem?_eq_some_iff.1 h).1).trans h
theorem rowO {w : World} {B B' i : Nat} {o : Obj} {v : Value} (h : w.heap[B']? = some o) (hne : B' ≠ B) : (w.setCell ⟨B, i, none⟩ v).heap[B']? = some o := (heap_setCell_other _ _ _ _ hne).trans h
theorem bset {w V : World} {B i : Nat} {v : Value} (hb : Below w.heap.size w V) (hB : w.heap.size ≤ B) : Below w.heap.size w (V.setCell ⟨B, i, none⟩ v) := hb.setCell hB _
/-- The three boxes of a copying. -/
structure E3 (V : World) (B : Nat) (A Z X : Array Value) : Prop where
  a : V.heap[B]? = some (.cells A 24 (0, 0))
  z : V.heap[B + 1]? = some (.cells Z 28 (0, 0))
  x : V.heap[B + 1 + 1]? = some (.cells X 28 (0, 0))
theorem E3.later {V V' : World} {B : Nat} {A Z X : Array Value} (h : E3 V B A Z X) (hb : Below V.heap.size V V') : E3 V' B A Z X := ⟨rowL h.a hb, rowL h.z hb, rowL h.x hb⟩
theorem E3.new (w : World) (A Z X : Array Value) : E3 (((w.alloc (.cells A 24)).alloc (.cells Z 28)).alloc (.cells X 28)) w.heap.size A Z X := by
  have e1 : (w.alloc (.cells A 24)).heap.size = w.heap.size + 1 := by simp
  have e2 : ((w.alloc (.cells A 24)).alloc (.cells Z 28)).heap.size = w.heap.size + 1 + 1 := by simp
  have h1 := heap_alloc_new w (.cells A 24)
  have h2 := heap_alloc_new (w.alloc (.cells A 24)) (.cells Z 28)
  have h3 := heap_alloc_new ((w.alloc (.cells A 24)).alloc (.cells Z 28)) (.cells X 28)
  rw [e1] at h2
  rw [e2] at h3
  exact ⟨rowL (rowL h1 (bal _ _)) (bal _ _), rowL h2 (bal _ _), h3⟩
set_option maxRecDepth 20000 in
set_option maxHeartbeats 4000000 in
theorem toFs_any (a : Option Addr) (n c : Nat) (F : Nat → Fil) (x1 x2 x3 x4 : Int) (x5 : Bool) (w : World) (h : FL w a n F) (hn : n ≤ 2097152) :
    Calls Tryz.prog 6 #[.agg #[.slice a n c, .int .i64 x1, .int .i64 x2, .int .i64 x3, .int .i64 x4, .bool x5]] w fun e w' => ∃ g, w.heap.size ≤ g ∧ e = .returned (.agg #[.slice (some ⟨g, 0, none⟩) n n, .int .i64 x1, .int .i64 x2, .int .i64 x3, .int .i64 x4, .bool x5]) ∧ FR w' g n F ∧ Below w.heap.size w w' := by
  have hR0 := E3.new w #[.slice a n c, .int .i64 x1, .int .i64 x2, .int .i64 x3, .int .i64 x4, .bool x5] #[.slice none 0 0, .int .i64 0, .int .i64 0, .int .i64 0, .int .i64 0, .bool false] #[.slice none 0 0, .int .i64 0, .int .i64 0, .int .i64 0, .int .i64 0, .bool false]
  have hbW : Below w.heap.size w (((w.alloc (.cells #[.slice a n c, .int .i64 x1, .int .i64 x2, .int .i64 x3, .int .i64 x4, .bool x5] 24)).alloc (.cells #[.slice none 0 0, .int .i64 0, .int .i64 0, .int .i64 0, .int .i64 0, .bool false] 28)).alloc (.cells #[.slice none 0 0, .int .i64 0, .int .i64 0, .int .i64 0, .int .i64 0, .bool false] 28)) := below3 _ _ _ _
  go_enter Tryz.func6, Tryz.ntmps6
  go_wp2_with (go_at_call 23; refine (toFils _ _ _ F _ (h.later hbW) hn).mono ?_; rintro e w1 ⟨g1, hg1, rfl, hR1, hb1⟩; have r1 := hR0.later hb1; have B1 : Below w.heap.size w w1 := bstep hbW hb1; have m0 : w1.cell? ⟨w.heap.size + 1 + 1, 0, none⟩ = some (.slice none 0 0) := (cell_of_row _ _ 0 _ _ _ r1.x).trans rfl; have f0 : w1.frozen? ⟨w.heap.size + 1 + 1, 0, none⟩ = false := frozen_of_row _ _ 0 _ _ r1.x; have z0 : w1.cell? ⟨w.heap.size + 1, 0, none⟩ = some (.slice none 0 0) := (cell_of_row _ _ 0 _ _ _ r1.z).trans rfl; have y0 : w1.frozen? ⟨w.heap.size + 1, 0, none⟩ = false := frozen_of_row _ _ 0 _ _ r1.z; have a1 : w1.cell? ⟨w.heap.size, 1, none⟩ = some (.int .i64 x1) := (cell_of_row _ _ 1 _ _ _ r1.a).trans rfl; have m1 : w1.cell? ⟨w.heap.size + 1 + 1, 1, none⟩ = some (.int .i64 0) := (cell_of_row _ _ 1 _ _ _ r1.x).trans rfl; have f1 : w1.frozen? ⟨w.heap.size + 1 + 1, 1, none⟩ = false := frozen_of_row _ _ 1 _ _ r1.x; have z1 : w1.cell? ⟨w.heap.size + 1, 1, none⟩ = some (.int .i64 0) := (cell_of_row _ _ 1 _ _ _ r1.z).trans rfl; have y1 : w1.frozen? ⟨w.heap.size + 1, 1, none⟩ = false := frozen_of_row _ _ 1 _ _ r1.z; have a2 : w1.cell? ⟨w.heap.size, 2, none⟩ = some (.int .i64 x2) := (cell_of_row _ _ 2 _ _ _ r1.a).trans rfl; have m2 : w1.cell? ⟨w.heap.size + 1 + 1, 2, none⟩ = some (.int .i64 0) := (cell_of_row _ _ 2 _ _ _ r1.x).trans rfl; have f2 : w1.frozen? ⟨w.heap.size + 1 + 1, 2, none⟩ = false := frozen_of_row _ _ 2 _ _ r1.x; have z2 : w1.cell? ⟨w.heap.size + 1, 2, none⟩ = some (.int .i64 0) := (cell_of_row _ _ 2 _ _ _ r1.z).trans rfl; have y2 : w1.frozen? ⟨w.heap.size + 1, 2, none⟩ = false := frozen_of_row _ _ 2 _ _ r1.z; have a3 : w1.cell? ⟨w.heap.size, 3, none⟩ = some (.int .i64 x3) := (cell_of_row _ _ 3 _ _ _ r1.a).trans rfl; have m3 : w1.cell? ⟨w.heap.size + 1 + 1, 3, none⟩ = some (.int .i64 0) := (cell_of_row _ _ 3 _ _ _ r1.x).trans rfl; have f3 : w1.frozen? ⟨w.heap.size + 1 + 1, 3, none⟩ = false := frozen_of_row _ _ 3 _ _ r1.x; have z3 : w1.cell? ⟨w.heap.size + 1, 3, none⟩ = some (.int .i64 0) := (cell_of_row _ _ 3 _ _ _ r1.z).trans rfl; have y3 : w1.frozen? ⟨w.heap.size + 1, 3, none⟩ = false := frozen_of_row _ _ 3 _ _ r1.z; have a4 : w1.cell? ⟨w.heap.size, 4, none⟩ = some (.int .i64 x4) := (cell_of_row _ _ 4 _ _ _ r1.a).trans rfl; have m4 : w1.cell? ⟨w.heap.size + 1 + 1, 4, none⟩ = some (.int .i64 0) := (cell_of_row _ _ 4 _ _ _ r1.x).trans rfl; have f4 : w1.frozen? ⟨w.heap.size + 1 + 1, 4, none⟩ = false := frozen_of_row _ _ 4 _ _ r1.x; have z4 : w1.cell? ⟨w.heap.size + 1, 4, none⟩ = some (.int .i64 0) := (cell_of_row _ _ 4 _ _ _ r1.z).trans rfl; have y4 : w1.frozen? ⟨w.heap.size + 1, 4, none⟩ = false := frozen_of_row _ _ 4 _ _ r1.z; have a5 : w1.cell? ⟨w.heap.size, 5, none⟩ = some (.bool x5) := (cell_of_row _ _ 5 _ _ _ r1.a).trans rfl; have m5 : w1.cell? ⟨w.heap.size + 1 + 1, 5, none⟩ = some (.bool false) := (cell_of_row _ _ 5 _ _ _ r1.x).trans rfl; have f5 : w1.frozen? ⟨w.heap.size + 1 + 1, 5, none⟩ = false := frozen_of_row _ _ 5 _ _ r1.x; have z5 : w1.cell? ⟨w.heap.size + 1, 5, none⟩ = some (.bool false) := (cell_of_row _ _ 5 _ _ _ r1.z).trans rfl; have y5 : w1.frozen? ⟨w.heap.size + 1, 5, none⟩ = false := frozen_of_row _ _ 5 _ _ r1.z)
  have hsz : (((w.alloc (.cells #[.slice a n c, .int .i64 x1, .int .i64 x2, .int .i64 x3, .int .i64 x4, .bool x5] 24)).alloc (.cells #[.slice none 0 0, .int .i64 0, .int .i64 0, .int .i64 0, .int .i64 0, .bool false] 28)).alloc (.cells #[.slice none 0 0, .int .i64 0, .int .i64 0, .int .i64 0, .int .i64 0, .bool false] 28)).heap.size = w.heap.size + 1 + 1 + 1 := by simp
  refine bodyPost_ret (v := .agg #[.slice (some ⟨g1, 0, none⟩) n n, .int .i64 x1, .int .i64 x2, .int .i64 x3, .int .i64 x4, .bool x5]) (results_cell_row Tryz.results6 _ _ (w.heap.size + 1) 28 _ (0, 0) _ rfl (heap_setCell_same _ _ 5 _ _ _ (heap_setCell_same _ _ 4 _ _ _ (heap_setCell_same _ _ 3 _ _ _ (heap_setCell_same _ _ 2 _ _ _ (heap_setCell_same _ _ 1 _ _ _ (heap_setCell_same _ _ 0 _ _ _ (rowO (B := w.heap.size + 1 + 1) (i := 5) (rowO (B := w.heap.size + 1 + 1) (i := 4) (rowO (B := w.heap.size + 1 + 1) (i := 3) (rowO (B := w.heap.size + 1 + 1) (i := 2) (rowO (B := w.heap.size + 1 + 1) (i := 1) (rowO (B := w.heap.size + 1 + 1) (i := 0) r1.z (by omega)) (by omega)) (by omega)) (by omega)) (by omega)) (by omega)))))))) Tryz.underlying28 rfl (by kernel_rfl)) rfl ⟨g1, by omega, rfl, ?_, ?_⟩
  · exact (rowO (B := w.heap.size + 1) (i := 5) (rowO (B := w.heap.size + 1) (i := 4) (rowO (B := w.heap.size + 1) (i := 3) (rowO (B := w.heap.size + 1) (i := 2) (rowO (B := w.heap.size + 1) (i := 1) (rowO (B := w.heap.size + 1) (i := 0) (rowO (B := w.heap.size + 1 + 1) (i := 5) (rowO (B := w.heap.size + 1 + 1) (i := 4) (rowO (B := w.heap.size + 1 + 1) (i := 3) (rowO (B := w.heap.size + 1 + 1) (i := 2) (rowO (B := w.heap.size + 1 + 1) (i := 1) (rowO (B := w.heap.size + 1 + 1) (i := 0) hR1 (by omega)) (by omega)) (by omega)) (by omega)) (by omega)) (by omega)) (by omega)) (by omega)) (by omega)) (by omega)) (by omega)) (by omega))
  · exact (bset (B := w.heap.size + 1) (i := 5) (bset (B := w.heap.size + 1) (i := 4) (bset (B := w.heap.size + 1) (i := 3) (bset (B := w.heap.size + 1) (i := 2) (bset (B := w.heap.size + 1) (i := 1) (bset (B := w.heap.size + 1) (i := 0) (bset (B := w.heap.size + 1 + 1) (i := 5) (bset (B := w.heap.size + 1 + 1) (i := 4) (bset (B := w.heap.size + 1 + 1) (i := 3) (bset (B := w.heap.size + 1 + 1) (i := 2) (bset (B := w.heap.size + 1 + 1) (i := 1) (bset (B := w.heap.size + 1 + 1) (i := 0) B1 (by omega)) (by omega)) (by omega)) (by omega)) (by omega)) (by omega)) (by omega)) (by omega)) (by omega)) (by omega)) (by omega)) (by omega))
set_option maxRecDepth 20000 in
set_option maxHeartbeats 4000000 in
theorem eqFs_any (a a' : Option Addr) (n c c' : Nat) (F : Nat → Fil) (x1 x2 x3 x4 : Int) (x5 : Bool) (w : World) (h : FL w a n F) (h' : FL w a' n F) (hn : n ≤ 2097152) :
    Calls Tryz.prog 8 #[.agg #[.slice a n c, .int .i64 x1, .int .i64 x2, .int .i64 x3, .int .i64 x4, .bool x5], .agg #[.slice a' n c', .int .i64 x1, .int .i64 x2, .int .i64 x3, .int .i64 x4, .bool x5]] w fun e w' => e = .returned (.bool true) ∧ Below w.heap.size w w' := by
  have hb0 := bal w (.cells #[.slice a n c, .int .i64 x1, .int .i64 x2, .int .i64 x3, .int .i64 x4, .bool x5] 28)
  have hb1 := bal (w.alloc (.cells #[.slice a n c, .int .i64 x1, .int .i64 x2, .int .i64 x3, .int .i64 x4, .bool x5] 28)) (.cells #[.slice a' n c', .int .i64 x1, .int .i64 x2, .int .i64 x3, .int .i64 x4, .bool x5] 28)
  have hb2 := bstep hb0 hb1
  go_enter Tryz.func8, Tryz.ntmps8
  go_wp2_with (go_at_call 28; refine (eqFils a a' n c c' F _ (h.later hb2) (h'.later hb2) hn).mono ?_; rintro e w1 ⟨rfl, hb3⟩; have p1 : w1.cell? ⟨w.heap.size, 1, none⟩ = some (.int .i64 x1) := keepB hb3 (keepB hb1 (cell_of_row _ _ 1 _ _ _ (heap_alloc_new w _))); have q1 : w1.cell? ⟨w.heap.size + 1, 1, none⟩ = some (.int .i64 x1) := keepB hb3 (by have hh := cell_of_row _ _ 1 _ _ _ (heap_alloc_new (w.alloc (.cells #[.slice a n c, .int .i64 x1, .int .i64 x2, .int .i64 x3, .int .i64 x4, .bool x5] 28)) (.cells #[.slice a' n c', .int .i64 x1, .int .i64 x2, .int .i64 x3, .int .i64 x4, .bool x5] 28)); rw [show (w.alloc (.cells #[.slice a n c, .int .i64 x1, .int .i64 x2, .int .i64 x3, .int .i64 x4, .bool x5] 28)).heap.size = w.heap.size + 1 by simp] at hh; exact hh); have p2 : w1.cell? ⟨w.heap.size, 2, none⟩ = some (.int .i64 x2) := keepB hb3 (keepB hb1 (cell_of_row _ _ 2 _ _ _ (heap_alloc_new w _))); have q2 : w1.cell? ⟨w.heap.size + 1, 2, none⟩ = some (.int .i64 x2) := keepB hb3 (by have hh := cell_of_row _ _ 2 _ _ _ (heap_alloc_new (w.alloc (.cells #[.slice a n c, .int .i64 x1, .int .i64 x2, .int .i64 x3, .int .i64 x4, .bool x5] 28)) (.cells #[.slice a' n c', .int .i64 x1, .int .i64 x2, .int .i64 x3, .int .i64 x4, .bool x5] 28)); rw [show (w.alloc (.cells #[.slice a n c, .int .i64 x1, .int .i64 x2, .int .i64 x3, .int .i64 x4, .bool x5] 28)).heap.size = w.heap.size + 1 by simp] at hh; exact hh); have p3 : w1.cell? ⟨w.heap.size, 3, none⟩ = some (.int .i64 x3) := keepB hb3 (keepB hb1 (cell_of_row _ _ 3 _ _ _ (heap_alloc_new w _))); have q3 : w1.cell? ⟨w.heap.size + 1, 3, none⟩ = some (.int .i64 x3) := keepB hb3 (by have hh := cell_of_row _ _ 3 _ _ _ (heap_alloc_new (w.alloc (.cells #[.slice a n c, .int .i64 x1, .int .i64 x2, .int .i64 x3, .int .i64 x4, .bool x5] 28)) (.cells #[.slice a' n c', .int .i64 x1, .int .i64 x2, .int .i64 x3, .int .i64 x4, .bool x5] 28)); rw [show (w.alloc (.cells #[.slice a n c, .int .i64 x1, .int .i64 x2, .int .i64 x3, .int .i64 x4, .bool x5] 28)).heap.size = w.heap.size + 1 by simp] at hh; exact hh); have p4 : w1.cell? ⟨w.heap.size, 4, none⟩ = some (.int .i64 x4) := keepB hb3 (keepB hb1 (cell_of_row _ _ 4 _ _ _ (heap_alloc_new w _))); have q4 : w1.cell? ⟨w.heap.size + 1, 4, none⟩ = some (.int .i64 x4) := keepB hb3 (by have hh := cell_of_row _ _ 4 _ _ _ (heap_alloc_new (w.alloc (.cells #[.slice a n c, .int .i64 x1, .int .i64 x2, .int .i64 x3, .int .i64 x4, .bool x5] 28)) (.cells #[.slice a' n c', .int .i64 x1, .int .i64 x2, .int .i64 x3, .int .i64 x4, .bool x5] 28)); rw [show (w.alloc (.cells #[.slice a n c, .int .i64 x1, .int .i64 x2, .int .i64 x3, .int .i64 x4, .bool x5] 28)).heap.size = w.heap.size + 1 by simp] at hh; exact hh); have p5 : w1.cell? ⟨w.heap.size, 5, none⟩ = some (.bool x5) := keepB hb3 (keepB hb1 (cell_of_row _ _ 5 _ _ _ (heap_alloc_new w _))); have q5 : w1.cell? ⟨w.heap.size + 1, 5, none⟩ = some (.bool x5) := keepB hb3 (by have hh := cell_of_row _ _ 5 _ _ _ (heap_alloc_new (w.alloc (.cells #[.slice a n c, .int .i64 x1, .int .i64 x2, .int .i64 x3, .int .i64 x4, .bool x5] 28)) (.cells #[.slice a' n c', .int .i64 x1, .int .i64 x2, .int .i64 x3, .int .i64 x4, .bool x5] 28)); rw [show (w.alloc (.cells #[.slice a n c, .int .i64 x1, .int .i64 x2, .int .i64 x3, .int .i64 x4, .bool x5] 28)).heap.size = w.heap.size + 1 by simp] at hh; exact hh))
  go_ret
  exact ⟨rfl, bstep hb2 hb3⟩
end Go.Proofs.YtngppfjphbodcaaGreatDoor
