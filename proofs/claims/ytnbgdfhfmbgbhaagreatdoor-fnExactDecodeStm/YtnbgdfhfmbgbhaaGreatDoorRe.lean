/-
  Statements read: texts, both sides.
-/
import Derived.Test.YtnbgdfhfmbgbhaaGreatDoorRd
import Derived.Laws.DeepStrings4
namespace Go.Proofs.YtnbgdfhfmbgbhaaGreatDoor
open Go.RowKit Go.Maps Go.WideMaps
/-- How long the next text says it is. -/
def lenV (s : ByteArray) (k : Nat) (p : Option Nat) : Nat := (numV s k p).toNat
def cutP (s : ByteArray) (n : Nat) : Option Nat → Option Nat
  | none => none
  | some a => if a + n ≤ s.size then some (a + n) else none
def cutV (s : ByteArray) (n : Nat) : Option Nat → ByteArray
  | none => ⟨#[]⟩
  | some a => if a + n ≤ s.size then s.extract a (a + n) else ⟨#[]⟩
def txtP (s : ByteArray) (k : Nat) (p : Option Nat) : Option Nat := cutP s (lenV s k p) (numP s k p)
def txtV (s : ByteArray) (k : Nat) (p : Option Nat) : ByteArray := cutV s (lenV s k p) (numP s k p)
theorem beA_lt (s : ByteArray) (a : Nat) : ∀ j, beA s a j < 256 ^ j
  | 0 => by simp [beA]
  | j + 1 => by
    have h1 := beA_lt s a j
    have h2 := at8_lt s (a + j)
    rw [beA, Nat.pow_succ]
    omega
theorem numV_small (s : ByteArray) {k : Nat} (hk : k ≤ 2) (p : Option Nat) : numV s k p = (lenV s k p : Nat) ∧ lenV s k p ≤ 65535 := by
  have key : 0 ≤ numV s k p ∧ numV s k p ≤ 65535 := by
    cases p with
    | none => exact ⟨Int.le_refl _, by show (0 : Int) ≤ 65535; omega⟩
    | some a =>
      simp only [numV]
      split
      · have h1 := beA_lt s a k
        have h2 : 256 ^ k ≤ 256 ^ 2 := Nat.pow_le_pow_right (by omega) hk
        have h3 : (256 : Nat) ^ 2 = 65536 := by decide
        unfold wrap64
        omega
      · omega
  unfold lenV
  omega
theorem iCut (B : Nat) (s : ByteArray) (p : Option Nat) (n : Nat) (w : World) (h : PI w B s p) (hn : n ≤ 1048576) :
    Calls Tryz.prog 109 #[.pointer (some ⟨B, 0, none⟩), .int .i64 n] w fun e w' => e = .returned (.string (cutV s n p)) ∧ PI w' B s (cutP s n p) ∧ w.grownBy w' (some B) := by
  cases p with
  | none =>
    refine (iTake B ⟨#[]⟩ true n w h hn).mono ?_
    rintro e w1 ⟨rfl, hR, hg⟩
    rw [(tk_nil n).2, Bool.true_or] at hR
    exact ⟨by rw [(tk_nil n).1]; rfl, hR, hg⟩
  | some a =>
    obtain ⟨ha, h⟩ := h
    refine (iTake B _ false n w h hn).mono ?_
    rintro e w1 ⟨rfl, hR, hg⟩
    by_cases hc : a + n ≤ s.size
    · obtain ⟨e1, e2, e3⟩ := tk_some hc
      rw [e2, e3] at hR
      simp only [cutV, cutP, if_pos hc]
      exact ⟨by rw [e1], ⟨hc, hR⟩, hg⟩
    · obtain ⟨e1, e2, e3⟩ := tk_none ha hc
      rw [e2, e3] at hR
      simp only [cutV, cutP, if_neg hc]
      exact ⟨by rw [e1], hR, hg⟩
set_option maxRecDepth 20000 in
set_option maxHeartbeats 2000000 in
theorem iTxtP (B : Nat) (s : ByteArray) (p : Option Nat) (k : Nat) (w : World) (h : PI w B s p) (hk : k ≤ 2) :
    Calls Tryz.prog 60 #[.pointer (some ⟨B, 0, none⟩), .int .i64 k] w fun e w' => e = .returned (.string (txtV s k p)) ∧ PI w' B s (txtP s k p) ∧ w.grownBy w' (some B) := by
  have hN := iNumP B s p k w h (by omega)
  obtain ⟨h1, h2⟩ := numV_small s hk p
  rw [h1] at hN
  unfold txtV txtP
  obtain ⟨n, hn⟩ : ∃ n, lenV s k p = n := ⟨_, rfl⟩
  rw [hn] at hN h2 ⊢
  clear hn h1
  go_enter Tryz.func60, Tryz.ntmps60
  go_wp2_with (first | (go_at_call 59; refine hN.mono ?_; rintro e w1 ⟨rfl, hR1, hg1⟩) | (go_at_call 109; refine (iCut B s _ n _ hR1 (by omega)).mono ?_; rintro e w2 ⟨rfl, hR2, hg2⟩))
  go_ret
  exact ⟨rfl, hR2, gtrans hg1 hg2⟩
set_option maxRecDepth 20000 in
set_option maxHeartbeats 8000000 in
theorem sTxtP (B : Nat) (s : ByteArray) (p : Option Nat) (k : Nat) (w : World) (h : PS w B s p) (hs : s.size ≤ 1048576) (hk : k ≤ 2) :
    Calls Tryz.prog 15 #[.pointer (some ⟨B, 0, none⟩), .int .i64 k] w fun e w' => e = .returned (.string (txtV s k p)) ∧ PS w' B s (txtP s k p) ∧ w.grownBy w' (some B) := by
  have hN := sNumP B s p k w h hs (by omega)
  obtain ⟨h1, h2⟩ := numV_small s hk p
  rw [h1] at hN
  unfold txtV txtP
  obtain ⟨n, hn⟩ : ∃ n, lenV s k p = n := ⟨_, rfl⟩
  rw [hn] at hN h2 ⊢
  clear hn h1
  obtain ⟨q, hq⟩ : ∃ q, numP s k p = q := ⟨_, rfl⟩
  rw [hq] at hN ⊢
  clear hq h
  rcases q with _ | a
  · go_enter Tryz.func15, Tryz.ntmps15
    go_upto_region 2 with (go_at_call 14; refine hN.mono ?_; rintro e w1 ⟨rfl, hR, hg⟩)
    have c0 := hR.c0
    have c1 := hR.c1
    have d1 : w1.drew.cell? ⟨B, 1, none⟩ = some (.int .i64 (-1)) := c1
    have g1 : w1.drew.frozen? ⟨B, 1, none⟩ = false := hR.f1
    have HH : Hid (BL w1.drew B s (-1)) := hR
    clear hR
    refine wp_region_held_drew (S := fun x => Below w1.heap.size w1 x) (by kernel_rfl) (bdrewR _) (fun hHeld => ?_)
    refine' wpAnyH_take (i := 0) (oi := ({ dst := some 9, op := Op.move (Operand.tmp 0), type := 43, pos := "l4_stm.go:208", after := #[], guard := none } : Oper)) (v := _) rfl (by kernel_rfl) (by kernel_rfl) (by kernel_rfl) (fun _ _ _ h => h) (Or.inl ⟨by rfl, fun x hSw => ?hyz1_0⟩) hHeld ?restz1_0
    case hyz1_0 =>
      have k0 := keepB hSw c0; have k1 := keepB hSw c1
      go_simp
      try with_reducible rfl
    try simp only [Act.put, List.setIfInBounds_toArray, List.set_cons_zero, List.set_cons_succ]
    refine' wpAnyH_take (i := 1) (oi := ({ dst := some 10, op := Op.nilCheck (Operand.tmp 9), type := 0, pos := "l4_stm.go:208", after := #[{ on := 0, ground := Ground.data }], guard := none } : Oper)) (v := _) rfl (by kernel_rfl) (by kernel_rfl) (by kernel_rfl) (fun _ _ _ h => h) (Or.inl ⟨by rfl, fun x hSw => ?hyz1_1⟩) hHeld ?restz1_1
    case hyz1_1 =>
      have k0 := keepB hSw c0; have k1 := keepB hSw c1
      go_simp
      try with_reducible rfl
    try simp only [Act.put, List.setIfInBounds_toArray, List.set_cons_zero, List.set_cons_succ]
    refine' wpAnyH_take (i := 2) (oi := ({ dst := some 11, op := Op.fieldAddr 45 (Operand.tmp 10) 1, type := 0, pos := "l4_stm.go:208", after := #[{ on := 1, ground := Ground.data }], guard := none } : Oper)) (v := _) rfl (by kernel_rfl) (by kernel_rfl) (by kernel_rfl) (fun _ _ _ h => h) (Or.inl ⟨by rfl, fun x hSw => ?hyz1_2⟩) hHeld ?restz1_2
    case hyz1_2 =>
      have k0 := keepB hSw c0; have k1 := keepB hSw c1
      go_simp
      try with_reducible rfl
    try simp only [Act.put, List.setIfInBounds_toArray, List.set_cons_zero, List.set_cons_succ]
    refine' wpAnyH_take (i := 3) (oi := ({ dst := some 12, op := Op.load 3 (Operand.tmp 11), type := 3, pos := "l4_stm.go:208", after := #[{ on := 2, ground := Ground.data }], guard := none } : Oper)) (v := _) rfl (by kernel_rfl) (by kernel_rfl) (by kernel_rfl) (fun _ _ _ h => h) (Or.inl ⟨by rfl, fun x hSw => ?hyz1_3⟩) hHeld ?restz1_3
    case hyz1_3 =>
      have k0 := keepB hSw c0; have k1 := keepB hSw c1
      go_simp
      try with_reducible rfl
    try simp only [Act.put, List.setIfInBounds_toArray, List.set_cons_zero, List.set_cons_succ]
    refine' wpAnyH_take (i := 4) (oi := ({ dst := some 13, op := Op.binOp BinOp.lss 3 (Operand.tmp 12) (Operand.const (Value.int IntKind.i64 0)) 3, type := 4, pos := "l4_stm.go:208", after := #[{ on := 3, ground := Ground.data }], guard := none } : Oper)) (v := _) rfl (by kernel_rfl) (by kernel_rfl) (by kernel_rfl) (fun _ _ _ h => h) (Or.inl ⟨by rfl, fun x hSw => ?hyz1_4⟩) hHeld ?restz1_4
    case hyz1_4 =>
      have k0 := keepB hSw c0; have k1 := keepB hSw c1
      go_simp
      try with_reducible rfl
    try simp only [Act.put, List.setIfInBounds_toArray, List.set_cons_zero, List.set_cons_succ]
    refine' wpAnyH_take (i := 5) (oi := ({ dst := some 14, op := Op.move (Operand.tmp 13), type := 4, pos := "l4_stm.go:208", after := #[{ on := 4, ground := Ground.data }], guard := none } : Oper)) (v := _) rfl (by kernel_rfl) (by kernel_rfl) (by kernel_rfl) (fun _ _ _ h => h) (Or.inl ⟨by rfl, fun x hSw => ?hyz1_5⟩) hHeld ?restz1_5
    case hyz1_5 =>
      have k0 := keepB hSw c0; have k1 := keepB hSw c1
      go_simp
      try with_reducible rfl
    try simp only [Act.put, List.setIfInBounds_toArray, List.set_cons_zero, List.set_cons_succ]
    refine wpAnyH_take (i := 6) (oi := ({ dst := some 15, op := Op.move (Operand.tmp 0), type := 43, pos := "l4_stm.go:208", after := #[{ on := 5, ground := Ground.guard }], guard := some (5, false) } : Oper)) (v := undef) rfl (by kernel_rfl) (by kernel_rfl) (by kernel_rfl) (fun _ _ _ h => h) (Or.inr ⟨by rfl, rfl⟩) hHeld ?_
    try simp only [Act.put, List.setIfInBounds_toArray, List.set_cons_zero, List.set_cons_succ]
    refine wpAnyH_take (i := 7) (oi := ({ dst := some 16, op := Op.nilCheck (Operand.tmp 15), type := 0, pos := "l4_stm.go:208", after := #[{ on := 6, ground := Ground.data }, { on := 5, ground := Ground.guard }], guard := some (5, false) } : Oper)) (v := undef) rfl (by kernel_rfl) (by kernel_rfl) (by kernel_rfl) (fun _ _ _ h => h) (Or.inr ⟨by rfl, rfl⟩) hHeld ?_
    try simp only [Act.put, List.setIfInBounds_toArray, List.set_cons_zero, List.set_cons_succ]
    refine wpAnyH_take (i := 8) (oi := ({ dst := some 17, op := Op.fieldAddr 45 (Operand.tmp 16) 1, type := 0, pos := "l4_stm.go:208", after := #[{ on := 7, ground := Ground.data }, { on := 5, ground := Ground.guard }], guard := some (5, false) } : Oper)) (v := undef) rfl (by kernel_rfl) (by kernel_rfl) (by kernel_rfl) (fun _ _ _ h => h) (Or.inr ⟨by rfl, rfl⟩) hHeld ?_
    try simp only [Act.put, List.setIfInBounds_toArray, List.set_cons_zero, List.set_cons_succ]
    refine wpAnyH_take (i := 9) (oi := ({ dst := some 18, op := Op.load 3 (Operand.tmp 17), type := 3, pos := "l4_stm.go:208", after := #[{ on := 8, ground := Ground.data }, { on := 5, ground := Ground.guard }], guard := some (5, false) } : Oper)) (v := undef) rfl (by kernel_rfl) (by kernel_rfl) (by kernel_rfl) (fun _ _ _ h => h) (Or.inr ⟨by rfl, rfl⟩) hHeld ?_
    try simp only [Act.put, List.setIfInBounds_toArray, List.set_cons_zero, List.set_cons_succ]
    refine wpAnyH_take (i := 10) (oi := ({ dst := some 19, op := Op.move (Operand.tmp 5), type := 3, pos := "l4_stm.go:208", after := #[{ on := 5, ground := Ground.guard }], guard := some (5, false) } : Oper)) (v := undef) rfl (by kernel_rfl) (by kernel_rfl) (by kernel_rfl) (fun _ _ _ h => h) (Or.inr ⟨by rfl, rfl⟩) hHeld ?_
    try simp only [Act.put, List.setIfInBounds_toArray, List.set_cons_zero, List.set_cons_succ]
    refine wpAnyH_take (i := 11) (oi := ({ dst := some 20, op := Op.binOp BinOp.add 3 (Operand.tmp 18) (Operand.tmp 19) 3, type := 3, pos := "l4_stm.go:208", after := #[{ on := 9, ground := Ground.data }, { on := 10, ground := Ground.data }, { on := 5, ground := Ground.guard }], guard := some (5, false) } : Oper)) (v := undef) rfl (by kernel_rfl) (by kernel_rfl) (by kernel_rfl) (fun _ _ _ h => h) (Or.inr ⟨by rfl, rfl⟩) hHeld ?_
    try simp only [Act.put, List.setIfInBounds_toArray, List.set_cons_zero, List.set_cons_succ]
    refine wpAnyH_take (i := 12) (oi := ({ dst := some 21, op := Op.move (Operand.tmp 0), type := 43, pos := "l4_stm.go:208", after := #[{ on := 5, ground := Ground.guard }], guard := some (5, false) } : Oper)) (v := undef) rfl (by kernel_rfl) (by kernel_rfl) (by kernel_rfl) (fun _ _ _ h => h) (Or.inr ⟨by rfl, rfl⟩) hHeld ?_
    try simp only [Act.put, List.setIfInBounds_toArray, List.set_cons_zero, List.set_cons_succ]
    refine wpAnyH_take (i := 13) (oi := ({ dst := some 22, op := Op.nilCheck (Operand.tmp 21), type := 0, pos := "l4_stm.go:208", after := #[{ on := 12, ground := Ground.data }, { on := 5, ground := Ground.guard }], guard := some (5, false) } : Oper)) (v := undef) rfl (by kernel_rfl) (by kernel_rfl) (by kernel_rfl) (fun _ _ _ h => h) (Or.inr ⟨by rfl, rfl⟩) hHeld ?_
    try simp only [Act.put, List.setIfInBounds_toArray, List.set_cons_zero, List.set_cons_succ]
    refine wpAnyH_take (i := 14) (oi := ({ dst := some 23, op := Op.fieldAddr 45 (Operand.tmp 22) 0, type := 0, pos := "l4_stm.go:208", after := #[{ on := 13, ground := Ground.data }, { on := 5, ground := Ground.guard }], guard := some (5, false) } : Oper)) (v := undef) rfl (by kernel_rfl) (by kernel_rfl) (by kernel_rfl) (fun _ _ _ h => h) (Or.inr ⟨by rfl, rfl⟩) hHeld ?_
    try simp only [Act.put, List.setIfInBounds_toArray, List.set_cons_zero, List.set_cons_succ]
    refine wpAnyH_take (i := 15) (oi := ({ dst := some 24, op := Op.load 9 (Operand.tmp 23), type := 9, pos := "l4_stm.go:208", after := #[{ on := 14, ground := Ground.data }, { on := 5, ground := Ground.guard }], guard := some (5, false) } : Oper)) (v := undef) rfl (by kernel_rfl) (by kernel_rfl) (by kernel_rfl) (fun _ _ _ h => h) (Or.inr ⟨by rfl, rfl⟩) hHeld ?_
    try simp only [Act.put, List.setIfInBounds_toArray, List.set_cons_zero, List.set_cons_succ]
    refine wpAnyH_take (i := 16) (oi := ({ dst := some 25, op := Op.call { callee := Callee.builtin Builtin.len, args := #[Operand.tmp 24], argTypes := #[9] }, type := 3, pos := "l4_stm.go:208", after := #[{ on := 15, ground := Ground.data }, { on := 5, ground := Ground.guard }], guard := some (5, false) } : Oper)) (v := undef) rfl (by kernel_rfl) (by kernel_rfl) (by kernel_rfl) (fun _ _ _ h => h) (Or.inr ⟨by rfl, rfl⟩) hHeld ?_
    try simp only [Act.put, List.setIfInBounds_toArray, List.set_cons_zero, List.set_cons_succ]
    refine wpAnyH_take (i := 17) (oi := ({ dst := some 26, op := Op.binOp BinOp.gtr 3 (Operand.tmp 20) (Operand.tmp 25) 3, type := 4, pos := "l4_stm.go:208", after := #[{ on := 11, ground := Ground.data }, { on := 16, ground := Ground.data }, { on := 5, ground := Ground.guard }], guard := some (5, false) } : Oper)) (v := undef) rfl (by kernel_rfl) (by kernel_rfl) (by kernel_rfl) (fun _ _ _ h => h) (Or.inr ⟨by rfl, rfl⟩) hHeld ?_
    try simp only [Act.put, List.setIfInBounds_toArray, List.set_cons_zero, List.set_cons_succ]
    refine' wpAnyH_take (i := 18) (oi := ({ dst := some 27, op := Op.pick (Operand.tmp 14) (Operand.const (Value.bool true)) (Operand.tmp 26), type := 4, pos := "l4_stm.go:208", after := #[{ on := 5, ground := Ground.data }, { on := 17, ground := Ground.data }], guard := none } : Oper)) (v := _) rfl (by kernel_rfl) (by kernel_rfl) (by kernel_rfl) (fun _ _ _ h => h) (Or.inl ⟨by rfl, fun x hSw => ?hyz1_18⟩) hHeld ?restz1_18
    case hyz1_18 =>
      have k0 := keepB hSw c0; have k1 := keepB hSw c1
      go_simp
      try with_reducible rfl
    try simp only [Act.put, List.setIfInBounds_toArray, List.set_cons_zero, List.set_cons_succ]
    refine wpAnyH_done (by kernel_rfl) ?_ _
    go_wp2
    go_ret
    exact ⟨rfl, HH.out.set _, gtrans hg (gtrans (gdr w1 _) (gset _ _ _ _))⟩
  by_cases hc : a + n ≤ s.size
  rotate_left
  · have HV : Hid (cutV s n (some a) = ⟨#[]⟩) := by show _ = _; simp only [cutV, if_neg hc]
    have HP : Hid (cutP s n (some a) = none) := by show _ = _; simp only [cutP, if_neg hc]
    go_enter Tryz.func15, Tryz.ntmps15
    go_upto_region 2 with (go_at_call 14; refine hN.mono ?_; rintro e w1 ⟨rfl, hR, hg⟩)
    obtain ⟨ha, hR⟩ := hR
    have c0 := hR.c0
    have c1 := hR.c1
    have d1 : w1.drew.cell? ⟨B, 1, none⟩ = some (.int .i64 (a : Nat)) := c1
    have g1 : w1.drew.frozen? ⟨B, 1, none⟩ = false := hR.f1
    have HH : Hid (BL w1.drew B s (a : Nat)) := hR
    clear hR
    have i1 : ¬ (a : Int) < 0 := by omega
    have i2 : IntKind.i64.wrap ((a : Int) + n) = (a : Int) + n := by rw [IntKind.wrap_i64]; omega
    have i3 : (s.size : Int) < (a : Int) + n := by omega
    refine wp_region_held_drew (S := fun x => Below w1.heap.size w1 x) (by kernel_rfl) (bdrewR _) (fun hHeld => ?_)
    refine' wpAnyH_take (i := 0) (oi := ({ dst := some 9, op := Op.move (Operand.tmp 0), type := 43, pos := "l4_stm.go:208", after := #[], guard := none } : Oper)) (v := _) rfl (by kernel_rfl) (by kernel_rfl) (by kernel_rfl) (fun _ _ _ h => h) (Or.inl ⟨by rfl, fun x hSw => ?hyz2_0⟩) hHeld ?restz2_0
    case hyz2_0 =>
      have k0 := keepB hSw c0; have k1 := keepB hSw c1
      go_simp
      try with_reducible rfl
    try simp only [Act.put, List.setIfInBounds_toArray, List.set_cons_zero, List.set_cons_succ]
    refine' wpAnyH_take (i := 1) (oi := ({ dst := some 10, op := Op.nilCheck (Operand.tmp 9), type := 0, pos := "l4_stm.go:208", after := #[{ on := 0, ground := Ground.data }], guard := none } : Oper)) (v := _) rfl (by kernel_rfl) (by kernel_rfl) (by kernel_rfl) (fun _ _ _ h => h) (Or.inl ⟨by rfl, fun x hSw => ?hyz2_1⟩) hHeld ?restz2_1
    case hyz2_1 =>
      have k0 := keepB hSw c0; have k1 := keepB hSw c1
      go_simp
      try with_reducible rfl
    try simp only [Act.put, List.setIfInBounds_toArray, List.set_cons_zero, List.set_cons_succ]
    refine' wpAnyH_take (i := 2) (oi := ({ dst := some 11, op := Op.fieldAddr 45 (Operand.tmp 10) 1, type := 0, pos := "l4_stm.go:208", after := #[{ on := 1, ground := Ground.data }], guard := none } : Oper)) (v := _) rfl (by kernel_rfl) (by kernel_rfl) (by kernel_rfl) (fun _ _ _ h => h) (Or.inl ⟨by rfl, fun x hSw => ?hyz2_2⟩) hHeld ?restz2_2
    case hyz2_2 =>
      have k0 := keepB hSw c0; have k1 := keepB hSw c1
      go_simp
      try with_reducible rfl
    try simp only [Act.put, List.setIfInBounds_toArray, List.set_cons_zero, List.set_cons_succ]
    refine' wpAnyH_take (i := 3) (oi := ({ dst := some 12, op := Op.load 3 (Operand.tmp 11), type := 3, pos := "l4_stm.go:208", after := #[{ on := 2, ground := Ground.data }], guard := none } : Oper)) (v := _) rfl (by kernel_rfl) (by kernel_rfl) (by kernel_rfl) (fun _ _ _ h => h) (Or.inl ⟨by rfl, fun x hSw => ?hyz2_3⟩) hHeld ?restz2_3
    case hyz2_3 =>
      have k0 := keepB hSw c0; have k1 := keepB hSw c1
      go_simp
      try with_reducible rfl
    try simp only [Act.put, List.setIfInBounds_toArray, List.set_cons_zero, List.set_cons_succ]
    refine' wpAnyH_take (i := 4) (oi := ({ dst := some 13, op := Op.binOp BinOp.lss 3 (Operand.tmp 12) (Operand.const (Value.int IntKind.i64 0)) 3, type := 4, pos := "l4_stm.go:208", after := #[{ on := 3, ground := Ground.data }], guard := none } : Oper)) (v := _) rfl (by kernel_rfl) (by kernel_rfl) (by kernel_rfl) (fun _ _ _ h => h) (Or.inl ⟨by rfl, fun x hSw => ?hyz2_4⟩) hHeld ?restz2_4
    case hyz2_4 =>
      have k0 := keepB hSw c0; have k1 := keepB hSw c1
      go_simp
      try with_reducible rfl
    try simp only [Act.put, List.setIfInBounds_toArray, List.set_cons_zero, List.set_cons_succ]
    refine' wpAnyH_take (i := 5) (oi := ({ dst := some 14, op := Op.move (Operand.tmp 13), type := 4, pos := "l4_stm.go:208", after := #[{ on := 4, ground := Ground.data }], guard := none } : Oper)) (v := _) rfl (by kernel_rfl) (by kernel_rfl) (by kernel_rfl) (fun _ _ _ h => h) (Or.inl ⟨by rfl, fun x hSw => ?hyz2_5⟩) hHeld ?restz2_5
    case hyz2_5 =>
      have k0 := keepB hSw c0; have k1 := keepB hSw c1
      go_simp
      try with_reducible rfl
    try simp only [Act.put, List.setIfInBounds_toArray, List.set_cons_zero, List.set_cons_succ]
    refine' wpAnyH_take (i := 6) (oi := ({ dst := some 15, op := Op.move (Operand.tmp 0), type := 43, pos := "l4_stm.go:208", after := #[{ on := 5, ground := Ground.guard }], guard := some (5, false) } : Oper)) (v := _) rfl (by kernel_rfl) (by kernel_rfl) (by kernel_rfl) (fun _ _ _ h => h) (Or.inl ⟨by rfl, fun x hSw => ?hyz2_6⟩) hHeld ?restz2_6
    case hyz2_6 =>
      have k0 := keepB hSw c0; have k1 := keepB hSw c1
      go_simp
      try with_reducible rfl
    try simp only [Act.put, List.setIfInBounds_toArray, List.set_cons_zero, List.set_cons_succ]
    refine' wpAnyH_take (i := 7) (oi := ({ dst := some 16, op := Op.nilCheck (Operand.tmp 15), type := 0, pos := "l4_stm.go:208", after := #[{ on := 6, ground := Ground.data }, { on := 5, ground := Ground.guard }], guard := some (5, false) } : Oper)) (v := _) rfl (by kernel_rfl) (by kernel_rfl) (by kernel_rfl) (fun _ _ _ h => h) (Or.inl ⟨by rfl, fun x hSw => ?hyz2_7⟩) hHeld ?restz2_7
    case hyz2_7 =>
      have k0 := keepB hSw c0; have k1 := keepB hSw c1
      go_simp
      try with_reducible rfl
    try simp only [Act.put, List.setIfInBounds_toArray, List.set_cons_zero, List.set_cons_succ]
    refine' wpAnyH_take (i := 8) (oi := ({ dst := some 17, op := Op.fieldAddr 45 (Operand.tmp 16) 1, type := 0, pos := "l4_stm.go:208", after := #[{ on := 7, ground := Ground.data }, { on := 5, ground := Ground.guard }], guard := some (5, false) } : Oper)) (v := _) rfl (by kernel_rfl) (by kernel_rfl) (by kernel_rfl) (fun _ _ _ h => h) (Or.inl ⟨by rfl, fun x hSw => ?hyz2_8⟩) hHeld ?restz2_8
    case hyz2_8 =>
      have k0 := keepB hSw c0; have k1 := keepB hSw c1
      go_simp
      try with_reducible rfl
    try simp only [Act.put, List.setIfInBounds_toArray, List.set_cons_zero, List.set_cons_succ]
    refine' wpAnyH_take (i := 9) (oi := ({ dst := some 18, op := Op.load 3 (Operand.tmp 17), type := 3, pos := "l4_stm.go:208", after := #[{ on := 8, ground := Ground.data }, { on := 5, ground := Ground.guard }], guard := some (5, false) } : Oper)) (v := _) rfl (by kernel_rfl) (by kernel_rfl) (by kernel_rfl) (fun _ _ _ h => h) (Or.inl ⟨by rfl, fun x hSw => ?hyz2_9⟩) hHeld ?restz2_9
    case hyz2_9 =>
      have k0 := keepB hSw c0; have k1 := keepB hSw c1
      go_simp
      try with_reducible rfl
    try simp only [Act.put, List.setIfInBounds_toArray, List.set_cons_zero, List.set_cons_succ]
    refine' wpAnyH_take (i := 10) (oi := ({ dst := some 19, op := Op.move (Operand.tmp 5), type := 3, pos := "l4_stm.go:208", after := #[{ on := 5, ground := Ground.guard }], guard := some (5, false) } : Oper)) (v := _) rfl (by kernel_rfl) (by kernel_rfl) (by kernel_rfl) (fun _ _ _ h => h) (Or.inl ⟨by rfl, fun x hSw => ?hyz2_10⟩) hHeld ?restz2_10
    case hyz2_10 =>
      have k0 := keepB hSw c0; have k1 := keepB hSw c1
      go_simp
      try with_reducible rfl
    try simp only [Act.put, List.setIfInBounds_toArray, List.set_cons_zero, List.set_cons_succ]
    refine' wpAnyH_take (i := 11) (oi := ({ dst := some 20, op := Op.binOp BinOp.add 3 (Operand.tmp 18) (Operand.tmp 19) 3, type := 3, pos := "l4_stm.go:208", after := #[{ on := 9, ground := Ground.data }, { on := 10, ground := Ground.data }, { on := 5, ground := Ground.guard }], guard := some (5, false) } : Oper)) (v := .int .i64 ((a : Int) + n)) rfl (by kernel_rfl) (by kernel_rfl) (by kernel_rfl) (fun _ _ _ h => h) (Or.inl ⟨by rfl, fun x hSw => ?hyz2_11⟩) hHeld ?restz2_11
    case hyz2_11 =>
      have k0 := keepB hSw c0; have k1 := keepB hSw c1
      go_simp
      try with_reducible rfl
    try simp only [Act.put, List.setIfInBounds_toArray, List.set_cons_zero, List.set_cons_succ]
    refine' wpAnyH_take (i := 12) (oi := ({ dst := some 21, op := Op.move (Operand.tmp 0), type := 43, pos := "l4_stm.go:208", after := #[{ on := 5, ground := Ground.guard }], guard := some (5, false) } : Oper)) (v := _) rfl (by kernel_rfl) (by kernel_rfl) (by kernel_rfl) (fun _ _ _ h => h) (Or.inl ⟨by rfl, fun x hSw => ?hyz2_12⟩) hHeld ?restz2_12
    case hyz2_12 =>
      have k0 := keepB hSw c0; have k1 := keepB hSw c1
      go_simp
      try with_reducible rfl
    try simp only [Act.put, List.setIfInBounds_toArray, List.set_cons_zero, List.set_cons_succ]
    refine' wpAnyH_take (i := 13) (oi := ({ dst := some 22, op := Op.nilCheck (Operand.tmp 21), type := 0, pos := "l4_stm.go:208", after := #[{ on := 12, ground := Ground.data }, { on := 5, ground := Ground.guard }], guard := some (5, false) } : Oper)) (v := _) rfl (by kernel_rfl) (by kernel_rfl) (by kernel_rfl) (fun _ _ _ h => h) (Or.inl ⟨by rfl, fun x hSw => ?hyz2_13⟩) hHeld ?restz2_13
    case hyz2_13 =>
      have k0 := keepB hSw c0; have k1 := keepB hSw c1
      go_simp
      try with_reducible rfl
    try simp only [Act.put, List.setIfInBounds_toArray, List.set_cons_zero, List.set_cons_succ]
    refine' wpAnyH_take (i := 14) (oi := ({ dst := some 23, op := Op.fieldAddr 45 (Operand.tmp 22) 0, type := 0, pos := "l4_stm.go:208", after := #[{ on := 13, ground := Ground.data }, { on := 5, ground := Ground.guard }], guard := some (5, false) } : Oper)) (v := _) rfl (by kernel_rfl) (by kernel_rfl) (by kernel_rfl) (fun _ _ _ h => h) (Or.inl ⟨by rfl, fun x hSw => ?hyz2_14⟩) hHeld ?restz2_14
    case hyz2_14 =>
      have k0 := keepB hSw c0; have k1 := keepB hSw c1
      go_simp
      try with_reducible rfl
    try simp only [Act.put, List.setIfInBounds_toArray, List.set_cons_zero, List.set_cons_succ]
    refine' wpAnyH_take (i := 15) (oi := ({ dst := some 24, op := Op.load 9 (Operand.tmp 23), type := 9, pos := "l4_stm.go:208", after := #[{ on := 14, ground := Ground.data }, { on := 5, ground := Ground.guard }], guard := some (5, false) } : Oper)) (v := _) rfl (by kernel_rfl) (by kernel_rfl) (by kernel_rfl) (fun _ _ _ h => h) (Or.inl ⟨by rfl, fun x hSw => ?hyz2_15⟩) hHeld ?restz2_15
    case hyz2_15 =>
      have k0 := keepB hSw c0; have k1 := keepB hSw c1
      go_simp
      try with_reducible rfl
    try simp only [Act.put, List.setIfInBounds_toArray, List.set_cons_zero, List.set_cons_succ]
    refine' wpAnyH_take (i := 16) (oi := ({ dst := some 25, op := Op.call { callee := Callee.builtin Builtin.len, args := #[Operand.tmp 24], argTypes := #[9] }, type := 3, pos := "l4_stm.go:208", after := #[{ on := 15, ground := Ground.data }, { on := 5, ground := Ground.guard }], guard := some (5, false) } : Oper)) (v := _) rfl (by kernel_rfl) (by kernel_rfl) (by kernel_rfl) (fun _ _ _ h => h) (Or.inl ⟨by rfl, fun x hSw => ?hyz2_16⟩) hHeld ?restz2_16
    case hyz2_16 =>
      have k0 := keepB hSw c0; have k1 := keepB hSw c1
      go_simp
      try with_reducible rfl
    try simp only [Act.put, List.setIfInBounds_toArray, List.set_cons_zero, List.set_cons_succ]
    refine' wpAnyH_take (i := 17) (oi := ({ dst := some 26, op := Op.binOp BinOp.gtr 3 (Operand.tmp 20) (Operand.tmp 25) 3, type := 4, pos := "l4_stm.go:208", after := #[{ on := 11, ground := Ground.data }, { on := 16, ground := Ground.data }, { on := 5, ground := Ground.guard }], guard := some (5, false) } : Oper)) (v := _) rfl (by kernel_rfl) (by kernel_rfl) (by kernel_rfl) (fun _ _ _ h => h) (Or.inl ⟨by rfl, fun x hSw => ?hyz2_17⟩) hHeld ?restz2_17
    case hyz2_17 =>
      have k0 := keepB hSw c0; have k1 := keepB hSw c1
      go_simp
      try with_reducible rfl
    try simp only [Act.put, List.setIfInBounds_toArray, List.set_cons_zero, List.set_cons_succ]
    refine' wpAnyH_take (i := 18) (oi := ({ dst := some 27, op := Op.pick (Operand.tmp 14) (Operand.const (Value.bool true)) (Operand.tmp 26), type := 4, pos := "l4_stm.go:208", after := #[{ on := 5, ground := Ground.data }, { on := 17, ground := Ground.data }], guard := none } : Oper)) (v := _) rfl (by kernel_rfl) (by kernel_rfl) (by kernel_rfl) (fun _ _ _ h => h) (Or.inl ⟨by rfl, fun x hSw => ?hyz2_18⟩) hHeld ?restz2_18
    case hyz2_18 =>
      have k0 := keepB hSw c0; have k1 := keepB hSw c1
      go_simp
      try with_reducible rfl
    try simp only [Act.put, List.setIfInBounds_toArray, List.set_cons_zero, List.set_cons_succ]
    refine wpAnyH_done (by kernel_rfl) ?_ _
    go_wp2
    go_ret
    exact ⟨by rw [HV.out]; rfl, by rw [HP.out]; exact HH.out.set _, gtrans hg (gtrans (gdr w1 _) (gset _ _ _ _))⟩
  · have HV : Hid (cutV s n (some a) = s.extract a (a + n)) := by show _ = _; simp only [cutV, if_pos hc]
    have HP : Hid (cutP s n (some a) = some (a + n)) := by show _ = _; simp only [cutP, if_pos hc]
    go_enter Tryz.func15, Tryz.ntmps15
    go_upto_region 2 with (go_at_call 14; refine hN.mono ?_; rintro e w1 ⟨rfl, hR, hg⟩)
    obtain ⟨ha, hR⟩ := hR
    have c0 := hR.c0
    have c1 := hR.c1
    have d1 : w1.drew.cell? ⟨B, 1, none⟩ = some (.int .i64 (a : Nat)) := c1
    have g1 : w1.drew.frozen? ⟨B, 1, none⟩ = false := hR.f1
    have HH : BL w1.drew B s (a : Nat) := hR
    have HX : Hid (BL (w1.drew.setCell ⟨B, 1, none⟩ (.int .i64 ((a : Int) + n))) B s ((a : Int) + n)) := HH.set _
    have e0 := HX.out.c0
    have e1 := HX.out.c1
    clear hR HH
    have i1 : ¬ (a : Int) < 0 := by omega
    have i2 : IntKind.i64.wrap ((a : Int) + n) = (a : Int) + n := by rw [IntKind.wrap_i64]; omega
    have i4 : wrap64 ((a : Int) + n) = (a : Int) + n := by unfold wrap64; omega
    have i3 : ¬ (s.size : Int) < (a : Int) + n := by omega
    have i5 : IntKind.i64.wrap (a : Int) = (a : Int) := by rw [IntKind.wrap_i64]; omega
    have i6 : (0 : Int) ≤ (a : Int) + n ∧ (a : Int) + n ≤ (s.size : Int) := by omega
    have i7 : (0 : Int) ≤ (a : Int) ∧ (a : Int) ≤ (a : Int) + n := by omega
    have i8 : ((a : Int) + n).toNat = a + n := by omega
    have hsl : ∀ x : World, (Instr.slice 9 (.string s) (some (.int .i64 (a : Int))) (some (.int .i64 ((a : Int) + n))) none).run Tryz.prog x = .ok (.string (s.extract a (a + n))) x := fun x => by
      rw [run_slice_string_if x 9 _ _ _ _ _ Tryz.underlying9, if_pos i6, if_pos i7, i8]
      rfl
    refine wp_region_held_drew (S := fun x => Below w1.heap.size w1 x) (by kernel_rfl) (bdrewR _) (fun hHeld => ?_)
    refine' wpAnyH_take (i := 0) (oi := ({ dst := some 9, op := Op.move (Operand.tmp 0), type := 43, pos := "l4_stm.go:208", after := #[], guard := none } : Oper)) (v := _) rfl (by kernel_rfl) (by kernel_rfl) (by kernel_rfl) (fun _ _ _ h => h) (Or.inl ⟨by rfl, fun x hSw => ?hyz3_0⟩) hHeld ?restz3_0
    case hyz3_0 =>
      have k0 := keepB hSw c0; have k1 := keepB hSw c1
      go_simp
      try with_reducible rfl
    try simp only [Act.put, List.setIfInBounds_toArray, List.set_cons_zero, List.set_cons_succ]
    refine' wpAnyH_take (i := 1) (oi := ({ dst := some 10, op := Op.nilCheck (Operand.tmp 9), type := 0, pos := "l4_stm.go:208", after := #[{ on := 0, ground := Ground.data }], guard := none } : Oper)) (v := _) rfl (by kernel_rfl) (by kernel_rfl) (by kernel_rfl) (fun _ _ _ h => h) (Or.inl ⟨by rfl, fun x hSw => ?hyz3_1⟩) hHeld ?restz3_1
    case hyz3_1 =>
      have k0 := keepB hSw c0; have k1 := keepB hSw c1
      go_simp
      try with_reducible rfl
    try simp only [Act.put, List.setIfInBounds_toArray, List.set_cons_zero, List.set_cons_succ]
    refine' wpAnyH_take (i := 2) (oi := ({ dst := some 11, op := Op.fieldAddr 45 (Operand.tmp 10) 1, type := 0, pos := "l4_stm.go:208", after := #[{ on := 1, ground := Ground.data }], guard := none } : Oper)) (v := _) rfl (by kernel_rfl) (by kernel_rfl) (by kernel_rfl) (fun _ _ _ h => h) (Or.inl ⟨by rfl, fun x hSw => ?hyz3_2⟩) hHeld ?restz3_2
    case hyz3_2 =>
      have k0 := keepB hSw c0; have k1 := keepB hSw c1
      go_simp
      try with_reducible rfl
    try simp only [Act.put, List.setIfInBounds_toArray, List.set_cons_zero, List.set_cons_succ]
    refine' wpAnyH_take (i := 3) (oi := ({ dst := some 12, op := Op.load 3 (Operand.tmp 11), type := 3, pos := "l4_stm.go:208", after := #[{ on := 2, ground := Ground.data }], guard := none } : Oper)) (v := _) rfl (by kernel_rfl) (by kernel_rfl) (by kernel_rfl) (fun _ _ _ h => h) (Or.inl ⟨by rfl, fun x hSw => ?hyz3_3⟩) hHeld ?restz3_3
    case hyz3_3 =>
      have k0 := keepB hSw c0; have k1 := keepB hSw c1
      go_simp
      try with_reducible rfl
    try simp only [Act.put, List.setIfInBounds_toArray, List.set_cons_zero, List.set_cons_succ]
    refine' wpAnyH_take (i := 4) (oi := ({ dst := some 13, op := Op.binOp BinOp.lss 3 (Operand.tmp 12) (Operand.const (Value.int IntKind.i64 0)) 3, type := 4, pos := "l4_stm.go:208", after := #[{ on := 3, ground := Ground.data }], guard := none } : Oper)) (v := _) rfl (by kernel_rfl) (by kernel_rfl) (by kernel_rfl) (fun _ _ _ h => h) (Or.inl ⟨by rfl, fun x hSw => ?hyz3_4⟩) hHeld ?restz3_4
    case hyz3_4 =>
      have k0 := keepB hSw c0; have k1 := keepB hSw c1
      go_simp
      try with_reducible rfl
    try simp only [Act.put, List.setIfInBounds_toArray, List.set_cons_zero, List.set_cons_succ]
    refine' wpAnyH_take (i := 5) (oi := ({ dst := some 14, op := Op.move (Operand.tmp 13), type := 4, pos := "l4_stm.go:208", after := #[{ on := 4, ground := Ground.data }], guard := none } : Oper)) (v := _) rfl (by kernel_rfl) (by kernel_rfl) (by kernel_rfl) (fun _ _ _ h => h) (Or.inl ⟨by rfl, fun x hSw => ?hyz3_5⟩) hHeld ?restz3_5
    case hyz3_5 =>
      have k0 := keepB hSw c0; have k1 := keepB hSw c1
      go_simp
      try with_reducible rfl
    try simp only [Act.put, List.setIfInBounds_toArray, List.set_cons_zero, List.set_cons_succ]
    refine' wpAnyH_take (i := 6) (oi := ({ dst := some 15, op := Op.move (Operand.tmp 0), type := 43, pos := "l4_stm.go:208", after := #[{ on := 5, ground := Ground.guard }], guard := some (5, false) } : Oper)) (v := _) rfl (by kernel_rfl) (by kernel_rfl) (by kernel_rfl) (fun _ _ _ h => h) (Or.inl ⟨by rfl, fun x hSw => ?hyz3_6⟩) hHeld ?restz3_6
    case hyz3_6 =>
      have k0 := keepB hSw c0; have k1 := keepB hSw c1
      go_simp
      try with_reducible rfl
    try simp only [Act.put, List.setIfInBounds_toArray, List.set_cons_zero, List.set_cons_succ]
    refine' wpAnyH_take (i := 7) (oi := ({ dst := some 16, op := Op.nilCheck (Operand.tmp 15), type := 0, pos := "l4_stm.go:208", after := #[{ on := 6, ground := Ground.data }, { on := 5, ground := Ground.guard }], guard := some (5, false) } : Oper)) (v := _) rfl (by kernel_rfl) (by kernel_rfl) (by kernel_rfl) (fun _ _ _ h => h) (Or.inl ⟨by rfl, fun x hSw => ?hyz3_7⟩) hHeld ?restz3_7
    case hyz3_7 =>
      have k0 := keepB hSw c0; have k1 := keepB hSw c1
      go_simp
      try with_reducible rfl
    try simp only [Act.put, List.setIfInBounds_toArray, List.set_cons_zero, List.set_cons_succ]
    refine' wpAnyH_take (i := 8) (oi := ({ dst := some 17, op := Op.fieldAddr 45 (Operand.tmp 16) 1, type := 0, pos := "l4_stm.go:208", after := #[{ on := 7, ground := Ground.data }, { on := 5, ground := Ground.guard }], guard := some (5, false) } : Oper)) (v := _) rfl (by kernel_rfl) (by kernel_rfl) (by kernel_rfl) (fun _ _ _ h => h) (Or.inl ⟨by rfl, fun x hSw => ?hyz3_8⟩) hHeld ?restz3_8
    case hyz3_8 =>
      have k0 := keepB hSw c0; have k1 := keepB hSw c1
      go_simp
      try with_reducible rfl
    try simp only [Act.put, List.setIfInBounds_toArray, List.set_cons_zero, List.set_cons_succ]
    refine' wpAnyH_take (i := 9) (oi := ({ dst := some 18, op := Op.load 3 (Operand.tmp 17), type := 3, pos := "l4_stm.go:208", after := #[{ on := 8, ground := Ground.data }, { on := 5, ground := Ground.guard }], guard := some (5, false) } : Oper)) (v := _) rfl (by kernel_rfl) (by kernel_rfl) (by kernel_rfl) (fun _ _ _ h => h) (Or.inl ⟨by rfl, fun x hSw => ?hyz3_9⟩) hHeld ?restz3_9
    case hyz3_9 =>
      have k0 := keepB hSw c0; have k1 := keepB hSw c1
      go_simp
      try with_reducible rfl
    try simp only [Act.put, List.setIfInBounds_toArray, List.set_cons_zero, List.set_cons_succ]
    refine' wpAnyH_take (i := 10) (oi := ({ dst := some 19, op := Op.move (Operand.tmp 5), type := 3, pos := "l4_stm.go:208", after := #[{ on := 5, ground := Ground.guard }], guard := some (5, false) } : Oper)) (v := _) rfl (by kernel_rfl) (by kernel_rfl) (by kernel_rfl) (fun _ _ _ h => h) (Or.inl ⟨by rfl, fun x hSw => ?hyz3_10⟩) hHeld ?restz3_10
    case hyz3_10 =>
      have k0 := keepB hSw c0; have k1 := keepB hSw c1
      go_simp
      try with_reducible rfl
    try simp only [Act.put, List.setIfInBounds_toArray, List.set_cons_zero, List.set_cons_succ]
    refine' wpAnyH_take (i := 11) (oi := ({ dst := some 20, op := Op.binOp BinOp.add 3 (Operand.tmp 18) (Operand.tmp 19) 3, type := 3, pos := "l4_stm.go:208", after := #[{ on := 9, ground := Ground.data }, { on := 10, ground := Ground.data }, { on := 5, ground := Ground.guard }], guard := some (5, false) } : Oper)) (v := .int .i64 ((a : Int) + n)) rfl (by kernel_rfl) (by kernel_rfl) (by kernel_rfl) (fun _ _ _ h => h) (Or.inl ⟨by rfl, fun x hSw => ?hyz3_11⟩) hHeld ?restz3_11
    case hyz3_11 =>
      have k0 := keepB hSw c0; have k1 := keepB hSw c1
      go_simp
      try with_reducible rfl
    try simp only [Act.put, List.setIfInBounds_toArray, List.set_cons_zero, List.set_cons_succ]
    refine' wpAnyH_take (i := 12) (oi := ({ dst := some 21, op := Op.move (Operand.tmp 0), type := 43, pos := "l4_stm.go:208", after := #[{ on := 5, ground := Ground.guard }], guard := some (5, false) } : Oper)) (v := _) rfl (by kernel_rfl) (by kernel_rfl) (by kernel_rfl) (fun _ _ _ h => h) (Or.inl ⟨by rfl, fun x hSw => ?hyz3_12⟩) hHeld ?restz3_12
    case hyz3_12 =>
      have k0 := keepB hSw c0; have k1 := keepB hSw c1
      go_simp
      try with_reducible rfl
    try simp only [Act.put, List.setIfInBounds_toArray, List.set_cons_zero, List.set_cons_succ]
    refine' wpAnyH_take (i := 13) (oi := ({ dst := some 22, op := Op.nilCheck (Operand.tmp 21), type := 0, pos := "l4_stm.go:208", after := #[{ on := 12, ground := Ground.data }, { on := 5, ground := Ground.guard }], guard := some (5, false) } : Oper)) (v := _) rfl (by kernel_rfl) (by kernel_rfl) (by kernel_rfl) (fun _ _ _ h => h) (Or.inl ⟨by rfl, fun x hSw => ?hyz3_13⟩) hHeld ?restz3_13
    case hyz3_13 =>
      have k0 := keepB hSw c0; have k1 := keepB hSw c1
      go_simp
      try with_reducible rfl
    try simp only [Act.put, List.setIfInBounds_toArray, List.set_cons_zero, List.set_cons_succ]
    refine' wpAnyH_take (i := 14) (oi := ({ dst := some 23, op := Op.fieldAddr 45 (Operand.tmp 22) 0, type := 0, pos := "l4_stm.go:208", after := #[{ on := 13, ground := Ground.data }, { on := 5, ground := Ground.guard }], guard := some (5, false) } : Oper)) (v := _) rfl (by kernel_rfl) (by kernel_rfl) (by kernel_rfl) (fun _ _ _ h => h) (Or.inl ⟨by rfl, fun x hSw => ?hyz3_14⟩) hHeld ?restz3_14
    case hyz3_14 =>
      have k0 := keepB hSw c0; have k1 := keepB hSw c1
      go_simp
      try with_reducible rfl
    try simp only [Act.put, List.setIfInBounds_toArray, List.set_cons_zero, List.set_cons_succ]
    refine' wpAnyH_take (i := 15) (oi := ({ dst := some 24, op := Op.load 9 (Operand.tmp 23), type := 9, pos := "l4_stm.go:208", after := #[{ on := 14, ground := Ground.data }, { on := 5, ground := Ground.guard }], guard := some (5, false) } : Oper)) (v := _) rfl (by kernel_rfl) (by kernel_rfl) (by kernel_rfl) (fun _ _ _ h => h) (Or.inl ⟨by rfl, fun x hSw => ?hyz3_15⟩) hHeld ?restz3_15
    case hyz3_15 =>
      have k0 := keepB hSw c0; have k1 := keepB hSw c1
      go_simp
      try with_reducible rfl
    try simp only [Act.put, List.setIfInBounds_toArray, List.set_cons_zero, List.set_cons_succ]
    refine' wpAnyH_take (i := 16) (oi := ({ dst := some 25, op := Op.call { callee := Callee.builtin Builtin.len, args := #[Operand.tmp 24], argTypes := #[9] }, type := 3, pos := "l4_stm.go:208", after := #[{ on := 15, ground := Ground.data }, { on := 5, ground := Ground.guard }], guard := some (5, false) } : Oper)) (v := _) rfl (by kernel_rfl) (by kernel_rfl) (by kernel_rfl) (fun _ _ _ h => h) (Or.inl ⟨by rfl, fun x hSw => ?hyz3_16⟩) hHeld ?restz3_16
    case hyz3_16 =>
      have k0 := keepB hSw c0; have k1 := keepB hSw c1
      go_simp
      try with_reducible rfl
    try simp only [Act.put, List.setIfInBounds_toArray, List.set_cons_zero, List.set_cons_succ]
    refine' wpAnyH_take (i := 17) (oi := ({ dst := some 26, op := Op.binOp BinOp.gtr 3 (Operand.tmp 20) (Operand.tmp 25) 3, type := 4, pos := "l4_stm.go:208", after := #[{ on := 11, ground := Ground.data }, { on := 16, ground := Ground.data }, { on := 5, ground := Ground.guard }], guard := some (5, false) } : Oper)) (v := _) rfl (by kernel_rfl) (by kernel_rfl) (by kernel_rfl) (fun _ _ _ h => h) (Or.inl ⟨by rfl, fun x hSw => ?hyz3_17⟩) hHeld ?restz3_17
    case hyz3_17 =>
      have k0 := keepB hSw c0; have k1 := keepB hSw c1
      go_simp
      try with_reducible rfl
    try simp only [Act.put, List.setIfInBounds_toArray, List.set_cons_zero, List.set_cons_succ]
    refine' wpAnyH_take (i := 18) (oi := ({ dst := some 27, op := Op.pick (Operand.tmp 14) (Operand.const (Value.bool true)) (Operand.tmp 26), type := 4, pos := "l4_stm.go:208", after := #[{ on := 5, ground := Ground.data }, { on := 17, ground := Ground.data }], guard := none } : Oper)) (v := _) rfl (by kernel_rfl) (by kernel_rfl) (by kernel_rfl) (fun _ _ _ h => h) (Or.inl ⟨by rfl, fun x hSw => ?hyz3_18⟩) hHeld ?restz3_18
    case hyz3_18 =>
      have k0 := keepB hSw c0; have k1 := keepB hSw c1
      go_simp
      try with_reducible rfl
    try simp only [Act.put, List.setIfInBounds_toArray, List.set_cons_zero, List.set_cons_succ]
    refine wpAnyH_done (by kernel_rfl) ?_ _
    go_wp2
    refine wp_region_held_drew (S := fun x => Below (w1.drew.setCell ⟨B, 1, none⟩ (.int .i64 ((a : Int) + n))).heap.size (w1.drew.setCell ⟨B, 1, none⟩ (.int .i64 ((a : Int) + n))) x) (by kernel_rfl) (bdrewR _) (fun hHeld => ?_)
    refine' wpAnyH_take (i := 0) (oi := ({ dst := some 39, op := Op.move (Operand.tmp 0), type := 43, pos := "l4_stm.go:213", after := #[], guard := none } : Oper)) (v := _) rfl (by kernel_rfl) (by kernel_rfl) (by kernel_rfl) (fun _ _ _ h => h) (Or.inl ⟨by rfl, fun x hSw => ?hyz4_0⟩) hHeld ?restz4_0
    case hyz4_0 =>
      have k0 := keepB hSw e0; have k1 := keepB hSw e1
      go_simp
      try with_reducible rfl
    try simp only [Act.put, List.setIfInBounds_toArray, List.set_cons_zero, List.set_cons_succ]
    refine' wpAnyH_take (i := 1) (oi := ({ dst := some 40, op := Op.nilCheck (Operand.tmp 39), type := 0, pos := "l4_stm.go:213", after := #[{ on := 0, ground := Ground.data }], guard := none } : Oper)) (v := _) rfl (by kernel_rfl) (by kernel_rfl) (by kernel_rfl) (fun _ _ _ h => h) (Or.inl ⟨by rfl, fun x hSw => ?hyz4_1⟩) hHeld ?restz4_1
    case hyz4_1 =>
      have k0 := keepB hSw e0; have k1 := keepB hSw e1
      go_simp
      try with_reducible rfl
    try simp only [Act.put, List.setIfInBounds_toArray, List.set_cons_zero, List.set_cons_succ]
    refine' wpAnyH_take (i := 2) (oi := ({ dst := some 41, op := Op.fieldAddr 45 (Operand.tmp 40) 0, type := 0, pos := "l4_stm.go:213", after := #[{ on := 1, ground := Ground.data }], guard := none } : Oper)) (v := _) rfl (by kernel_rfl) (by kernel_rfl) (by kernel_rfl) (fun _ _ _ h => h) (Or.inl ⟨by rfl, fun x hSw => ?hyz4_2⟩) hHeld ?restz4_2
    case hyz4_2 =>
      have k0 := keepB hSw e0; have k1 := keepB hSw e1
      go_simp
      try with_reducible rfl
    try simp only [Act.put, List.setIfInBounds_toArray, List.set_cons_zero, List.set_cons_succ]
    refine' wpAnyH_take (i := 3) (oi := ({ dst := some 42, op := Op.load 9 (Operand.tmp 41), type := 9, pos := "l4_stm.go:213", after := #[{ on := 2, ground := Ground.data }], guard := none } : Oper)) (v := _) rfl (by kernel_rfl) (by kernel_rfl) (by kernel_rfl) (fun _ _ _ h => h) (Or.inl ⟨by rfl, fun x hSw => ?hyz4_3⟩) hHeld ?restz4_3
    case hyz4_3 =>
      have k0 := keepB hSw e0; have k1 := keepB hSw e1
      go_simp
      try with_reducible rfl
    try simp only [Act.put, List.setIfInBounds_toArray, List.set_cons_zero, List.set_cons_succ]
    refine' wpAnyH_take (i := 4) (oi := ({ dst := some 43, op := Op.move (Operand.tmp 0), type := 43, pos := "l4_stm.go:213", after := #[], guard := none } : Oper)) (v := _) rfl (by kernel_rfl) (by kernel_rfl) (by kernel_rfl) (fun _ _ _ h => h) (Or.inl ⟨by rfl, fun x hSw => ?hyz4_4⟩) hHeld ?restz4_4
    case hyz4_4 =>
      have k0 := keepB hSw e0; have k1 := keepB hSw e1
      go_simp
      try with_reducible rfl
    try simp only [Act.put, List.setIfInBounds_toArray, List.set_cons_zero, List.set_cons_succ]
    refine' wpAnyH_take (i := 5) (oi := ({ dst := some 44, op := Op.nilCheck (Operand.tmp 43), type := 0, pos := "l4_stm.go:213", after := #[{ on := 4, ground := Ground.data }], guard := none } : Oper)) (v := _) rfl (by kernel_rfl) (by kernel_rfl) (by kernel_rfl) (fun _ _ _ h => h) (Or.inl ⟨by rfl, fun x hSw => ?hyz4_5⟩) hHeld ?restz4_5
    case hyz4_5 =>
      have k0 := keepB hSw e0; have k1 := keepB hSw e1
      go_simp
      try with_reducible rfl
    try simp only [Act.put, List.setIfInBounds_toArray, List.set_cons_zero, List.set_cons_succ]
    refine' wpAnyH_take (i := 6) (oi := ({ dst := some 45, op := Op.fieldAddr 45 (Operand.tmp 44) 1, type := 0, pos := "l4_stm.go:213", after := #[{ on := 5, ground := Ground.data }], guard := none } : Oper)) (v := _) rfl (by kernel_rfl) (by kernel_rfl) (by kernel_rfl) (fun _ _ _ h => h) (Or.inl ⟨by rfl, fun x hSw => ?hyz4_6⟩) hHeld ?restz4_6
    case hyz4_6 =>
      have k0 := keepB hSw e0; have k1 := keepB hSw e1
      go_simp
      try with_reducible rfl
    try simp only [Act.put, List.setIfInBounds_toArray, List.set_cons_zero, List.set_cons_succ]
    refine' wpAnyH_take (i := 7) (oi := ({ dst := some 46, op := Op.load 3 (Operand.tmp 45), type := 3, pos := "l4_stm.go:213", after := #[{ on := 6, ground := Ground.data }], guard := none } : Oper)) (v := _) rfl (by kernel_rfl) (by kernel_rfl) (by kernel_rfl) (fun _ _ _ h => h) (Or.inl ⟨by rfl, fun x hSw => ?hyz4_7⟩) hHeld ?restz4_7
    case hyz4_7 =>
      have k0 := keepB hSw e0; have k1 := keepB hSw e1
      go_simp
      try with_reducible rfl
    try simp only [Act.put, List.setIfInBounds_toArray, List.set_cons_zero, List.set_cons_succ]
    refine' wpAnyH_take (i := 8) (oi := ({ dst := some 47, op := Op.move (Operand.tmp 5), type := 3, pos := "l4_stm.go:213", after := #[], guard := none } : Oper)) (v := _) rfl (by kernel_rfl) (by kernel_rfl) (by kernel_rfl) (fun _ _ _ h => h) (Or.inl ⟨by rfl, fun x hSw => ?hyz4_8⟩) hHeld ?restz4_8
    case hyz4_8 =>
      have k0 := keepB hSw e0; have k1 := keepB hSw e1
      go_simp
      try with_reducible rfl
    try simp only [Act.put, List.setIfInBounds_toArray, List.set_cons_zero, List.set_cons_succ]
    refine' wpAnyH_take (i := 9) (oi := ({ dst := some 48, op := Op.binOp BinOp.sub 3 (Operand.tmp 46) (Operand.tmp 47) 3, type := 3, pos := "l4_stm.go:213", after := #[{ on := 7, ground := Ground.data }, { on := 8, ground := Ground.data }], guard := none } : Oper)) (v := .int .i64 (a : Int)) rfl (by kernel_rfl) (by kernel_rfl) (by kernel_rfl) (fun _ _ _ h => h) (Or.inl ⟨by rfl, fun x hSw => ?hyz4_9⟩) hHeld ?restz4_9
    case hyz4_9 =>
      have k0 := keepB hSw e0; have k1 := keepB hSw e1
      go_simp
      try with_reducible rfl
    try simp only [Act.put, List.setIfInBounds_toArray, List.set_cons_zero, List.set_cons_succ]
    refine' wpAnyH_take (i := 10) (oi := ({ dst := some 49, op := Op.move (Operand.tmp 0), type := 43, pos := "l4_stm.go:213", after := #[], guard := none } : Oper)) (v := _) rfl (by kernel_rfl) (by kernel_rfl) (by kernel_rfl) (fun _ _ _ h => h) (Or.inl ⟨by rfl, fun x hSw => ?hyz4_10⟩) hHeld ?restz4_10
    case hyz4_10 =>
      have k0 := keepB hSw e0; have k1 := keepB hSw e1
      go_simp
      try with_reducible rfl
    try simp only [Act.put, List.setIfInBounds_toArray, List.set_cons_zero, List.set_cons_succ]
    refine' wpAnyH_take (i := 11) (oi := ({ dst := some 50, op := Op.nilCheck (Operand.tmp 49), type := 0, pos := "l4_stm.go:213", after := #[{ on := 10, ground := Ground.data }], guard := none } : Oper)) (v := _) rfl (by kernel_rfl) (by kernel_rfl) (by kernel_rfl) (fun _ _ _ h => h) (Or.inl ⟨by rfl, fun x hSw => ?hyz4_11⟩) hHeld ?restz4_11
    case hyz4_11 =>
      have k0 := keepB hSw e0; have k1 := keepB hSw e1
      go_simp
      try with_reducible rfl
    try simp only [Act.put, List.setIfInBounds_toArray, List.set_cons_zero, List.set_cons_succ]
    refine' wpAnyH_take (i := 12) (oi := ({ dst := some 51, op := Op.fieldAddr 45 (Operand.tmp 50) 1, type := 0, pos := "l4_stm.go:213", after := #[{ on := 11, ground := Ground.data }], guard := none } : Oper)) (v := _) rfl (by kernel_rfl) (by kernel_rfl) (by kernel_rfl) (fun _ _ _ h => h) (Or.inl ⟨by rfl, fun x hSw => ?hyz4_12⟩) hHeld ?restz4_12
    case hyz4_12 =>
      have k0 := keepB hSw e0; have k1 := keepB hSw e1
      go_simp
      try with_reducible rfl
    try simp only [Act.put, List.setIfInBounds_toArray, List.set_cons_zero, List.set_cons_succ]
    refine' wpAnyH_take (i := 13) (oi := ({ dst := some 52, op := Op.load 3 (Operand.tmp 51), type := 3, pos := "l4_stm.go:213", after := #[{ on := 12, ground := Ground.data }], guard := none } : Oper)) (v := _) rfl (by kernel_rfl) (by kernel_rfl) (by kernel_rfl) (fun _ _ _ h => h) (Or.inl ⟨by rfl, fun x hSw => ?hyz4_13⟩) hHeld ?restz4_13
    case hyz4_13 =>
      have k0 := keepB hSw e0; have k1 := keepB hSw e1
      go_simp
      try with_reducible rfl
    try simp only [Act.put, List.setIfInBounds_toArray, List.set_cons_zero, List.set_cons_succ]
    refine' wpAnyH_take (i := 14) (oi := ({ dst := some 53, op := Op.slice 9 (Operand.tmp 42) (some (Operand.tmp 48)) (some (Operand.tmp 52)) none, type := 9, pos := "l4_stm.go:213", after := #[{ on := 3, ground := Ground.data }, { on := 9, ground := Ground.data }, { on := 13, ground := Ground.data }], guard := none } : Oper)) (v := .string (s.extract a (a + n))) rfl (by kernel_rfl) (by kernel_rfl) (by kernel_rfl) (fun _ _ _ h => h) (Or.inl ⟨by rfl, fun x hSw => ?hyz4_14⟩) hHeld ?restz4_14
    case hyz4_14 =>
      have k0 := keepB hSw e0; have k1 := keepB hSw e1
      go_simp
      try with_reducible rfl
    try simp only [Act.put, List.setIfInBounds_toArray, List.set_cons_zero, List.set_cons_succ]
    refine' wpAnyH_take (i := 15) (oi := ({ dst := some 4, op := Op.assign (Operand.tmp 53), type := 9, pos := "l4_stm.go:213", after := #[{ on := 14, ground := Ground.data }, { on := 0, ground := Ground.phase }, { on := 1, ground := Ground.phase }, { on := 2, ground := Ground.phase }, { on := 3, ground := Ground.phase }, { on := 4, ground := Ground.phase }, { on := 5, ground := Ground.phase }, { on := 6, ground := Ground.phase }, { on := 7, ground := Ground.phase }, { on := 8, ground := Ground.phase }, { on := 9, ground := Ground.phase }, { on := 10, ground := Ground.phase }, { on := 11, ground := Ground.phase }, { on := 12, ground := Ground.phase }, { on := 13, ground := Ground.phase }, { on := 14, ground := Ground.phase }], guard := none } : Oper)) (v := _) rfl (by kernel_rfl) (by kernel_rfl) (by kernel_rfl) (fun _ _ _ h => h) (Or.inl ⟨by rfl, fun x hSw => ?hyz4_15⟩) hHeld ?restz4_15
    case hyz4_15 =>
      have k0 := keepB hSw e0; have k1 := keepB hSw e1
      go_simp
      try with_reducible rfl
    try simp only [Act.put, List.setIfInBounds_toArray, List.set_cons_zero, List.set_cons_succ]
    refine wpAnyH_done (by kernel_rfl) ?_ _
    go_wp2
    go_ret
    exact ⟨by rw [HV.out]; rfl, by rw [HP.out]; exact ⟨hc, by rw [Int.natCast_add]; exact HX.out.later (bdrewR _)⟩, gtrans hg (gtrans (gtrans (gdr w1 _) (gset _ _ _ _)) (gdr _ _))⟩
end Go.Proofs.YtnbgdfhfmbgbhaaGreatDoor
