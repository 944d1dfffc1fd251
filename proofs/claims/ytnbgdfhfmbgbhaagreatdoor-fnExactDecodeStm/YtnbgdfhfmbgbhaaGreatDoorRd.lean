/-
  Statements read: one way to say it for both sides.
-/
import Derived.Test.YtnbgdfhfmbgbhaaGreatDoorRb
import Derived.Deep.RegionHeld3
namespace Go.Proofs.YtnbgdfhfmbgbhaaGreatDoor
open Go.RowKit Go.Maps Go.WideMaps
theorem bdrewR (w : World) : Below w.heap.size w w.drew := ⟨rfl, rfl, rfl, Nat.le_refl _, fun _ _ => rfl⟩
/-- The number that j bytes from a place on are. -/
def beA (s : ByteArray) (a : Nat) : Nat → Nat
  | 0 => 0
  | j + 1 => beA s a j * 256 + at8 s (a + j)
theorem wrap_step (x y : Int) : wrap64 (wrap64 (wrap64 x * 256) + y) = wrap64 (x * 256 + y) := by
  unfold wrap64
  omega
set_option maxRecDepth 20000 in
set_option maxHeartbeats 4000000 in
theorem sGet (s : ByteArray) (a n : Nat) (w : World) (hs : s.size ≤ 1048576) (hn : n ≤ 8) (h : a + n ≤ s.size) : Calls Tryz.prog 54 #[.string s, .int .i64 a, .int .i64 n] w fun e w' => e = .returned (.int .i64 (wrap64 (beA s a n : Nat))) ∧ w' = w := by
  go_enter Tryz.func54, Tryz.ntmps54
  go_wp2
  go_loop [7, 8] (fun x i => ∃ j : Nat, j ≤ n ∧ i = .int .i64 j ∧ x = .int .i64 (wrap64 (beA s a j : Nat))) (fun _ i => n - (intOf i).toNat)
  case atStart => exact ⟨0, by omega, rfl, by simp [beA, wrap64]⟩
  case round =>
    obtain ⟨j, hj, rfl, rfl⟩ := hrel
    by_cases hlt : j < n
    · have hi : a + j < s.size := by omega
      have h2 := at8_lt s (a + j)
      have e8 : at8 s (a + j) = s[a + j].toNat := by unfold at8; rw [dif_pos hi]
      have HB : Hid (beA s a (j + 1) = beA s a j * 256 + at8 s (a + j)) := rfl
      have HW := wrap_step (beA s a j : Nat) (at8 s (a + j) : Nat)
      have HWW : Hid (wrap64 (wrap64 (wrap64 ((beA s a j : Nat) : Int) * 256) + ((at8 s (a + j) : Nat) : Int)) = wrap64 (((beA s a j : Nat) : Int) * 256 + ((at8 s (a + j) : Nat) : Int))) := HW
      clear HW
      rw [e8] at HB HWW h2
      clear e8
      have hw8 := wr8 s[a + j]
      go_wp2
      go_round
      case rel => exact ⟨j + 1, by omega, by go_num, by rw [HWW.out, HB.out]; simp⟩
      case measure => simp [intOf]; omega
    · obtain rfl : j = n := by omega
      go_wp2
      go_ret
      exact ⟨rfl, rfl⟩
/-- The specification's place in bytes lies in block B. -/
def BL (w : World) (B : Nat) (s : ByteArray) (a : Int) : Prop := w.heap[B]? = some (.cells #[.string s, .int .i64 a] 45 (0, 0))
theorem BL.lt {w : World} {B : Nat} {s : ByteArray} {a : Int} (h : BL w B s a) : B < w.heap.size := (Array.getElem?_eq_some_iff.1 h).1
theorem BL.later {w w' : World} {B : Nat} {s : ByteArray} {a : Int} (h : BL w B s a) (hb : Below w.heap.size w w') : BL w' B s a := (hb.block B h.lt).trans h
theorem BL.set {w : World} {B : Nat} {s : ByteArray} {a : Int} (h : BL w B s a) (a' : Int) : BL (w.setCell ⟨B, 1, none⟩ (.int .i64 a')) B s a' := heap_setCell_same _ _ 1 _ _ _ h
theorem BL.c0 {w : World} {B : Nat} {s : ByteArray} {a : Int} (h : BL w B s a) : w.cell? ⟨B, 0, none⟩ = some (.string s) := (cell_of_row _ _ 0 _ _ _ h).trans rfl
theorem BL.c1 {w : World} {B : Nat} {s : ByteArray} {a : Int} (h : BL w B s a) : w.cell? ⟨B, 1, none⟩ = some (.int .i64 a) := (cell_of_row _ _ 1 _ _ _ h).trans rfl
theorem BL.f1 {w : World} {B : Nat} {s : ByteArray} {a : Int} (h : BL w B s a) : w.frozen? ⟨B, 1, none⟩ = false := frozen_of_row _ _ 1 _ _ h
theorem gdr (w : World) (r : Option Nat) : w.grownBy w.drew r := gbelow (bdrewR w) r
set_option maxRecDepth 20000 in
set_option maxHeartbeats 4000000 in
theorem sNumBad (B : Nat) (s : ByteArray) (n : Nat) (w : World) (h : BL w B s (-1)) : Calls Tryz.prog 14 #[.pointer (some ⟨B, 0, none⟩), .int .i64 n] w fun e w' => e = .returned (.int .i64 0) ∧ BL w' B s (-1) ∧ w.grownBy w' (some B) := by
    have c0 := h.c0
    have c1 := h.c1
    have d1 : w.drew.cell? ⟨B, 1, none⟩ = some (.int .i64 (-1)) := c1
    have g1 : w.drew.frozen? ⟨B, 1, none⟩ = false := h.f1
    have HH : Hid (BL w.drew B s (-1)) := h
    clear h
    go_enter Tryz.func14, Tryz.ntmps14
    go_wp2
    refine wp_region_held_drew (S := fun x => Below w.heap.size w x) (by kernel_rfl) (bdrewR _) (fun hHeld => ?_)
    refine' wpAnyH_take (i := 0) (oi := ({ dst := some 5, op := Op.move (Operand.tmp 0), type := 43, pos := "l4_stm.go:198", after := #[], guard := none } : Oper)) (v := _) rfl (by kernel_rfl) (by kernel_rfl) (by kernel_rfl) (fun _ _ _ h => h) (Or.inl ⟨by rfl, fun x hSw => ?hyz2_0⟩) hHeld ?restz2_0
    case hyz2_0 =>
      have k0 := keepB hSw c0; have k1 := keepB hSw c1
      go_simp
      try with_reducible rfl
    try simp only [Act.put, List.setIfInBounds_toArray, List.set_cons_zero, List.set_cons_succ]
    refine' wpAnyH_take (i := 1) (oi := ({ dst := some 6, op := Op.nilCheck (Operand.tmp 5), type := 0, pos := "l4_stm.go:198", after := #[{ on := 0, ground := Ground.data }], guard := none } : Oper)) (v := _) rfl (by kernel_rfl) (by kernel_rfl) (by kernel_rfl) (fun _ _ _ h => h) (Or.inl ⟨by rfl, fun x hSw => ?hyz2_1⟩) hHeld ?restz2_1
    case hyz2_1 =>
      have k0 := keepB hSw c0; have k1 := keepB hSw c1
      go_simp
      try with_reducible rfl
    try simp only [Act.put, List.setIfInBounds_toArray, List.set_cons_zero, List.set_cons_succ]
    refine' wpAnyH_take (i := 2) (oi := ({ dst := some 7, op := Op.fieldAddr 45 (Operand.tmp 6) 1, type := 0, pos := "l4_stm.go:198", after := #[{ on := 1, ground := Ground.data }], guard := none } : Oper)) (v := _) rfl (by kernel_rfl) (by kernel_rfl) (by kernel_rfl) (fun _ _ _ h => h) (Or.inl ⟨by rfl, fun x hSw => ?hyz2_2⟩) hHeld ?restz2_2
    case hyz2_2 =>
      have k0 := keepB hSw c0; have k1 := keepB hSw c1
      go_simp
      try with_reducible rfl
    try simp only [Act.put, List.setIfInBounds_toArray, List.set_cons_zero, List.set_cons_succ]
    refine' wpAnyH_take (i := 3) (oi := ({ dst := some 8, op := Op.load 3 (Operand.tmp 7), type := 3, pos := "l4_stm.go:198", after := #[{ on := 2, ground := Ground.data }], guard := none } : Oper)) (v := _) rfl (by kernel_rfl) (by kernel_rfl) (by kernel_rfl) (fun _ _ _ h => h) (Or.inl ⟨by rfl, fun x hSw => ?hyz2_3⟩) hHeld ?restz2_3
    case hyz2_3 =>
      have k0 := keepB hSw c0; have k1 := keepB hSw c1
      go_simp
      try with_reducible rfl
    try simp only [Act.put, List.setIfInBounds_toArray, List.set_cons_zero, List.set_cons_succ]
    refine' wpAnyH_take (i := 4) (oi := ({ dst := some 9, op := Op.binOp BinOp.lss 3 (Operand.tmp 8) (Operand.const (Value.int IntKind.i64 0)) 3, type := 4, pos := "l4_stm.go:198", after := #[{ on := 3, ground := Ground.data }], guard := none } : Oper)) (v := _) rfl (by kernel_rfl) (by kernel_rfl) (by kernel_rfl) (fun _ _ _ h => h) (Or.inl ⟨by rfl, fun x hSw => ?hyz2_4⟩) hHeld ?restz2_4
    case hyz2_4 =>
      have k0 := keepB hSw c0; have k1 := keepB hSw c1
      go_simp
      try with_reducible rfl
    try simp only [Act.put, List.setIfInBounds_toArray, List.set_cons_zero, List.set_cons_succ]
    refine' wpAnyH_take (i := 5) (oi := ({ dst := some 10, op := Op.move (Operand.tmp 9), type := 4, pos := "l4_stm.go:198", after := #[{ on := 4, ground := Ground.data }], guard := none } : Oper)) (v := _) rfl (by kernel_rfl) (by kernel_rfl) (by kernel_rfl) (fun _ _ _ h => h) (Or.inl ⟨by rfl, fun x hSw => ?hyz2_5⟩) hHeld ?restz2_5
    case hyz2_5 =>
      have k0 := keepB hSw c0; have k1 := keepB hSw c1
      go_simp
      try with_reducible rfl
    try simp only [Act.put, List.setIfInBounds_toArray, List.set_cons_zero, List.set_cons_succ]
    refine wpAnyH_take (i := 6) (oi := ({ dst := some 11, op := Op.move (Operand.tmp 0), type := 43, pos := "l4_stm.go:198", after := #[{ on := 5, ground := Ground.guard }], guard := some (5, false) } : Oper)) (v := undef) rfl (by kernel_rfl) (by kernel_rfl) (by kernel_rfl) (fun _ _ _ h => h) (Or.inr ⟨by rfl, rfl⟩) hHeld ?_
    try simp only [Act.put, List.setIfInBounds_toArray, List.set_cons_zero, List.set_cons_succ]
    refine wpAnyH_take (i := 7) (oi := ({ dst := some 12, op := Op.nilCheck (Operand.tmp 11), type := 0, pos := "l4_stm.go:198", after := #[{ on := 6, ground := Ground.data }, { on := 5, ground := Ground.guard }], guard := some (5, false) } : Oper)) (v := undef) rfl (by kernel_rfl) (by kernel_rfl) (by kernel_rfl) (fun _ _ _ h => h) (Or.inr ⟨by rfl, rfl⟩) hHeld ?_
    try simp only [Act.put, List.setIfInBounds_toArray, List.set_cons_zero, List.set_cons_succ]
    refine wpAnyH_take (i := 8) (oi := ({ dst := some 13, op := Op.fieldAddr 45 (Operand.tmp 12) 1, type := 0, pos := "l4_stm.go:198", after := #[{ on := 7, ground := Ground.data }, { on := 5, ground := Ground.guard }], guard := some (5, false) } : Oper)) (v := undef) rfl (by kernel_rfl) (by kernel_rfl) (by kernel_rfl) (fun _ _ _ h => h) (Or.inr ⟨by rfl, rfl⟩) hHeld ?_
    try simp only [Act.put, List.setIfInBounds_toArray, List.set_cons_zero, List.set_cons_succ]
    refine wpAnyH_take (i := 9) (oi := ({ dst := some 14, op := Op.load 3 (Operand.tmp 13), type := 3, pos := "l4_stm.go:198", after := #[{ on := 8, ground := Ground.data }, { on := 5, ground := Ground.guard }], guard := some (5, false) } : Oper)) (v := undef) rfl (by kernel_rfl) (by kernel_rfl) (by kernel_rfl) (fun _ _ _ h => h) (Or.inr ⟨by rfl, rfl⟩) hHeld ?_
    try simp only [Act.put, List.setIfInBounds_toArray, List.set_cons_zero, List.set_cons_succ]
    refine wpAnyH_take (i := 10) (oi := ({ dst := some 15, op := Op.move (Operand.tmp 1), type := 3, pos := "l4_stm.go:198", after := #[{ on := 5, ground := Ground.guard }], guard := some (5, false) } : Oper)) (v := undef) rfl (by kernel_rfl) (by kernel_rfl) (by kernel_rfl) (fun _ _ _ h => h) (Or.inr ⟨by rfl, rfl⟩) hHeld ?_
    try simp only [Act.put, List.setIfInBounds_toArray, List.set_cons_zero, List.set_cons_succ]
    refine wpAnyH_take (i := 11) (oi := ({ dst := some 16, op := Op.binOp BinOp.add 3 (Operand.tmp 14) (Operand.tmp 15) 3, type := 3, pos := "l4_stm.go:198", after := #[{ on := 9, ground := Ground.data }, { on := 10, ground := Ground.data }, { on := 5, ground := Ground.guard }], guard := some (5, false) } : Oper)) (v := undef) rfl (by kernel_rfl) (by kernel_rfl) (by kernel_rfl) (fun _ _ _ h => h) (Or.inr ⟨by rfl, rfl⟩) hHeld ?_
    try simp only [Act.put, List.setIfInBounds_toArray, List.set_cons_zero, List.set_cons_succ]
    refine wpAnyH_take (i := 12) (oi := ({ dst := some 17, op := Op.move (Operand.tmp 0), type := 43, pos := "l4_stm.go:198", after := #[{ on := 5, ground := Ground.guard }], guard := some (5, false) } : Oper)) (v := undef) rfl (by kernel_rfl) (by kernel_rfl) (by kernel_rfl) (fun _ _ _ h => h) (Or.inr ⟨by rfl, rfl⟩) hHeld ?_
    try simp only [Act.put, List.setIfInBounds_toArray, List.set_cons_zero, List.set_cons_succ]
    refine wpAnyH_take (i := 13) (oi := ({ dst := some 18, op := Op.nilCheck (Operand.tmp 17), type := 0, pos := "l4_stm.go:198", after := #[{ on := 12, ground := Ground.data }, { on := 5, ground := Ground.guard }], guard := some (5, false) } : Oper)) (v := undef) rfl (by kernel_rfl) (by kernel_rfl) (by kernel_rfl) (fun _ _ _ h => h) (Or.inr ⟨by rfl, rfl⟩) hHeld ?_
    try simp only [Act.put, List.setIfInBounds_toArray, List.set_cons_zero, List.set_cons_succ]
    refine wpAnyH_take (i := 14) (oi := ({ dst := some 19, op := Op.fieldAddr 45 (Operand.tmp 18) 0, type := 0, pos := "l4_stm.go:198", after := #[{ on := 13, ground := Ground.data }, { on := 5, ground := Ground.guard }], guard := some (5, false) } : Oper)) (v := undef) rfl (by kernel_rfl) (by kernel_rfl) (by kernel_rfl) (fun _ _ _ h => h) (Or.inr ⟨by rfl, rfl⟩) hHeld ?_
    try simp only [Act.put, List.setIfInBounds_toArray, List.set_cons_zero, List.set_cons_succ]
    refine wpAnyH_take (i := 15) (oi := ({ dst := some 20, op := Op.load 9 (Operand.tmp 19), type := 9, pos := "l4_stm.go:198", after := #[{ on := 14, ground := Ground.data }, { on := 5, ground := Ground.guard }], guard := some (5, false) } : Oper)) (v := undef) rfl (by kernel_rfl) (by kernel_rfl) (by kernel_rfl) (fun _ _ _ h => h) (Or.inr ⟨by rfl, rfl⟩) hHeld ?_
    try simp only [Act.put, List.setIfInBounds_toArray, List.set_cons_zero, List.set_cons_succ]
    refine wpAnyH_take (i := 16) (oi := ({ dst := some 21, op := Op.call { callee := Callee.builtin Builtin.len, args := #[Operand.tmp 20], argTypes := #[9] }, type := 3, pos := "l4_stm.go:198", after := #[{ on := 15, ground := Ground.data }, { on := 5, ground := Ground.guard }], guard := some (5, false) } : Oper)) (v := undef) rfl (by kernel_rfl) (by kernel_rfl) (by kernel_rfl) (fun _ _ _ h => h) (Or.inr ⟨by rfl, rfl⟩) hHeld ?_
    try simp only [Act.put, List.setIfInBounds_toArray, List.set_cons_zero, List.set_cons_succ]
    refine wpAnyH_take (i := 17) (oi := ({ dst := some 22, op := Op.binOp BinOp.gtr 3 (Operand.tmp 16) (Operand.tmp 21) 3, type := 4, pos := "l4_stm.go:198", after := #[{ on := 11, ground := Ground.data }, { on := 16, ground := Ground.data }, { on := 5, ground := Ground.guard }], guard := some (5, false) } : Oper)) (v := undef) rfl (by kernel_rfl) (by kernel_rfl) (by kernel_rfl) (fun _ _ _ h => h) (Or.inr ⟨by rfl, rfl⟩) hHeld ?_
    try simp only [Act.put, List.setIfInBounds_toArray, List.set_cons_zero, List.set_cons_succ]
    refine' wpAnyH_take (i := 18) (oi := ({ dst := some 23, op := Op.pick (Operand.tmp 10) (Operand.const (Value.bool true)) (Operand.tmp 22), type := 4, pos := "l4_stm.go:198", after := #[{ on := 5, ground := Ground.data }, { on := 17, ground := Ground.data }], guard := none } : Oper)) (v := _) rfl (by kernel_rfl) (by kernel_rfl) (by kernel_rfl) (fun _ _ _ h => h) (Or.inl ⟨by rfl, fun x hSw => ?hyz2_18⟩) hHeld ?restz2_18
    case hyz2_18 =>
      have k0 := keepB hSw c0; have k1 := keepB hSw c1
      go_simp
      try with_reducible rfl
    try simp only [Act.put, List.setIfInBounds_toArray, List.set_cons_zero, List.set_cons_succ]
    refine wpAnyH_done (by kernel_rfl) ?_ _
    go_wp2
    go_ret
    exact ⟨rfl, HH.out.set _, gtrans (gdr w _) (gset _ _ _ _)⟩
set_option maxRecDepth 20000 in
set_option maxHeartbeats 4000000 in
theorem sNumShort (B : Nat) (s : ByteArray) (a' n : Nat) (w : World) (h : BL w B s (a' : Nat)) (hs : s.size ≤ 1048576) (ha : a' ≤ 1048576) (hn : n ≤ 8) (hl : s.size < a' + n) : Calls Tryz.prog 14 #[.pointer (some ⟨B, 0, none⟩), .int .i64 n] w fun e w' => e = .returned (.int .i64 0) ∧ BL w' B s (-1) ∧ w.grownBy w' (some B) := by
    have c0 := h.c0
    have c1 := h.c1
    have d1 : w.drew.cell? ⟨B, 1, none⟩ = some (.int .i64 (a' : Nat)) := c1
    have g1 : w.drew.frozen? ⟨B, 1, none⟩ = false := h.f1
    have HH : Hid (BL w.drew B s (a' : Nat)) := h
    clear h
    have i1 : ¬ (a' : Int) < 0 := by omega
    have i2 : IntKind.i64.wrap ((a' : Int) + n) = (a' : Int) + n := by rw [IntKind.wrap_i64]; omega
    have i3 : (s.size : Int) < (a' : Int) + n := by omega
    go_enter Tryz.func14, Tryz.ntmps14
    go_wp2
    refine wp_region_held_drew (S := fun x => Below w.heap.size w x) (by kernel_rfl) (bdrewR _) (fun hHeld => ?_)
    refine' wpAnyH_take (i := 0) (oi := ({ dst := some 5, op := Op.move (Operand.tmp 0), type := 43, pos := "l4_stm.go:198", after := #[], guard := none } : Oper)) (v := _) rfl (by kernel_rfl) (by kernel_rfl) (by kernel_rfl) (fun _ _ _ h => h) (Or.inl ⟨by rfl, fun x hSw => ?hyz3_0⟩) hHeld ?restz3_0
    case hyz3_0 =>
      have k0 := keepB hSw c0; have k1 := keepB hSw c1
      go_simp
      try with_reducible rfl
    try simp only [Act.put, List.setIfInBounds_toArray, List.set_cons_zero, List.set_cons_succ]
    refine' wpAnyH_take (i := 1) (oi := ({ dst := some 6, op := Op.nilCheck (Operand.tmp 5), type := 0, pos := "l4_stm.go:198", after := #[{ on := 0, ground := Ground.data }], guard := none } : Oper)) (v := _) rfl (by kernel_rfl) (by kernel_rfl) (by kernel_rfl) (fun _ _ _ h => h) (Or.inl ⟨by rfl, fun x hSw => ?hyz3_1⟩) hHeld ?restz3_1
    case hyz3_1 =>
      have k0 := keepB hSw c0; have k1 := keepB hSw c1
      go_simp
      try with_reducible rfl
    try simp only [Act.put, List.setIfInBounds_toArray, List.set_cons_zero, List.set_cons_succ]
    refine' wpAnyH_take (i := 2) (oi := ({ dst := some 7, op := Op.fieldAddr 45 (Operand.tmp 6) 1, type := 0, pos := "l4_stm.go:198", after := #[{ on := 1, ground := Ground.data }], guard := none } : Oper)) (v := _) rfl (by kernel_rfl) (by kernel_rfl) (by kernel_rfl) (fun _ _ _ h => h) (Or.inl ⟨by rfl, fun x hSw => ?hyz3_2⟩) hHeld ?restz3_2
    case hyz3_2 =>
      have k0 := keepB hSw c0; have k1 := keepB hSw c1
      go_simp
      try with_reducible rfl
    try simp only [Act.put, List.setIfInBounds_toArray, List.set_cons_zero, List.set_cons_succ]
    refine' wpAnyH_take (i := 3) (oi := ({ dst := some 8, op := Op.load 3 (Operand.tmp 7), type := 3, pos := "l4_stm.go:198", after := #[{ on := 2, ground := Ground.data }], guard := none } : Oper)) (v := _) rfl (by kernel_rfl) (by kernel_rfl) (by kernel_rfl) (fun _ _ _ h => h) (Or.inl ⟨by rfl, fun x hSw => ?hyz3_3⟩) hHeld ?restz3_3
    case hyz3_3 =>
      have k0 := keepB hSw c0; have k1 := keepB hSw c1
      go_simp
      try with_reducible rfl
    try simp only [Act.put, List.setIfInBounds_toArray, List.set_cons_zero, List.set_cons_succ]
    refine' wpAnyH_take (i := 4) (oi := ({ dst := some 9, op := Op.binOp BinOp.lss 3 (Operand.tmp 8) (Operand.const (Value.int IntKind.i64 0)) 3, type := 4, pos := "l4_stm.go:198", after := #[{ on := 3, ground := Ground.data }], guard := none } : Oper)) (v := _) rfl (by kernel_rfl) (by kernel_rfl) (by kernel_rfl) (fun _ _ _ h => h) (Or.inl ⟨by rfl, fun x hSw => ?hyz3_4⟩) hHeld ?restz3_4
    case hyz3_4 =>
      have k0 := keepB hSw c0; have k1 := keepB hSw c1
      go_simp
      try with_reducible rfl
    try simp only [Act.put, List.setIfInBounds_toArray, List.set_cons_zero, List.set_cons_succ]
    refine' wpAnyH_take (i := 5) (oi := ({ dst := some 10, op := Op.move (Operand.tmp 9), type := 4, pos := "l4_stm.go:198", after := #[{ on := 4, ground := Ground.data }], guard := none } : Oper)) (v := _) rfl (by kernel_rfl) (by kernel_rfl) (by kernel_rfl) (fun _ _ _ h => h) (Or.inl ⟨by rfl, fun x hSw => ?hyz3_5⟩) hHeld ?restz3_5
    case hyz3_5 =>
      have k0 := keepB hSw c0; have k1 := keepB hSw c1
      go_simp
      try with_reducible rfl
    try simp only [Act.put, List.setIfInBounds_toArray, List.set_cons_zero, List.set_cons_succ]
    refine' wpAnyH_take (i := 6) (oi := ({ dst := some 11, op := Op.move (Operand.tmp 0), type := 43, pos := "l4_stm.go:198", after := #[{ on := 5, ground := Ground.guard }], guard := some (5, false) } : Oper)) (v := _) rfl (by kernel_rfl) (by kernel_rfl) (by kernel_rfl) (fun _ _ _ h => h) (Or.inl ⟨by rfl, fun x hSw => ?hyz3_6⟩) hHeld ?restz3_6
    case hyz3_6 =>
      have k0 := keepB hSw c0; have k1 := keepB hSw c1
      go_simp
      try with_reducible rfl
    try simp only [Act.put, List.setIfInBounds_toArray, List.set_cons_zero, List.set_cons_succ]
    refine' wpAnyH_take (i := 7) (oi := ({ dst := some 12, op := Op.nilCheck (Operand.tmp 11), type := 0, pos := "l4_stm.go:198", after := #[{ on := 6, ground := Ground.data }, { on := 5, ground := Ground.guard }], guard := some (5, false) } : Oper)) (v := _) rfl (by kernel_rfl) (by kernel_rfl) (by kernel_rfl) (fun _ _ _ h => h) (Or.inl ⟨by rfl, fun x hSw => ?hyz3_7⟩) hHeld ?restz3_7
    case hyz3_7 =>
      have k0 := keepB hSw c0; have k1 := keepB hSw c1
      go_simp
      try with_reducible rfl
    try simp only [Act.put, List.setIfInBounds_toArray, List.set_cons_zero, List.set_cons_succ]
    refine' wpAnyH_take (i := 8) (oi := ({ dst := some 13, op := Op.fieldAddr 45 (Operand.tmp 12) 1, type := 0, pos := "l4_stm.go:198", after := #[{ on := 7, ground := Ground.data }, { on := 5, ground := Ground.guard }], guard := some (5, false) } : Oper)) (v := _) rfl (by kernel_rfl) (by kernel_rfl) (by kernel_rfl) (fun _ _ _ h => h) (Or.inl ⟨by rfl, fun x hSw => ?hyz3_8⟩) hHeld ?restz3_8
    case hyz3_8 =>
      have k0 := keepB hSw c0; have k1 := keepB hSw c1
      go_simp
      try with_reducible rfl
    try simp only [Act.put, List.setIfInBounds_toArray, List.set_cons_zero, List.set_cons_succ]
    refine' wpAnyH_take (i := 9) (oi := ({ dst := some 14, op := Op.load 3 (Operand.tmp 13), type := 3, pos := "l4_stm.go:198", after := #[{ on := 8, ground := Ground.data }, { on := 5, ground := Ground.guard }], guard := some (5, false) } : Oper)) (v := _) rfl (by kernel_rfl) (by kernel_rfl) (by kernel_rfl) (fun _ _ _ h => h) (Or.inl ⟨by rfl, fun x hSw => ?hyz3_9⟩) hHeld ?restz3_9
    case hyz3_9 =>
      have k0 := keepB hSw c0; have k1 := keepB hSw c1
      go_simp
      try with_reducible rfl
    try simp only [Act.put, List.setIfInBounds_toArray, List.set_cons_zero, List.set_cons_succ]
    refine' wpAnyH_take (i := 10) (oi := ({ dst := some 15, op := Op.move (Operand.tmp 1), type := 3, pos := "l4_stm.go:198", after := #[{ on := 5, ground := Ground.guard }], guard := some (5, false) } : Oper)) (v := _) rfl (by kernel_rfl) (by kernel_rfl) (by kernel_rfl) (fun _ _ _ h => h) (Or.inl ⟨by rfl, fun x hSw => ?hyz3_10⟩) hHeld ?restz3_10
    case hyz3_10 =>
      have k0 := keepB hSw c0; have k1 := keepB hSw c1
      go_simp
      try with_reducible rfl
    try simp only [Act.put, List.setIfInBounds_toArray, List.set_cons_zero, List.set_cons_succ]
    refine' wpAnyH_take (i := 11) (oi := ({ dst := some 16, op := Op.binOp BinOp.add 3 (Operand.tmp 14) (Operand.tmp 15) 3, type := 3, pos := "l4_stm.go:198", after := #[{ on := 9, ground := Ground.data }, { on := 10, ground := Ground.data }, { on := 5, ground := Ground.guard }], guard := some (5, false) } : Oper)) (v := .int .i64 ((a' : Int) + n)) rfl (by kernel_rfl) (by kernel_rfl) (by kernel_rfl) (fun _ _ _ h => h) (Or.inl ⟨by rfl, fun x hSw => ?hyz3_11⟩) hHeld ?restz3_11
    case hyz3_11 =>
      have k0 := keepB hSw c0; have k1 := keepB hSw c1
      go_simp
      try with_reducible rfl
    try simp only [Act.put, List.setIfInBounds_toArray, List.set_cons_zero, List.set_cons_succ]
    refine' wpAnyH_take (i := 12) (oi := ({ dst := some 17, op := Op.move (Operand.tmp 0), type := 43, pos := "l4_stm.go:198", after := #[{ on := 5, ground := Ground.guard }], guard := some (5, false) } : Oper)) (v := _) rfl (by kernel_rfl) (by kernel_rfl) (by kernel_rfl) (fun _ _ _ h => h) (Or.inl ⟨by rfl, fun x hSw => ?hyz3_12⟩) hHeld ?restz3_12
    case hyz3_12 =>
      have k0 := keepB hSw c0; have k1 := keepB hSw c1
      go_simp
      try with_reducible rfl
    try simp only [Act.put, List.setIfInBounds_toArray, List.set_cons_zero, List.set_cons_succ]
    refine' wpAnyH_take (i := 13) (oi := ({ dst := some 18, op := Op.nilCheck (Operand.tmp 17), type := 0, pos := "l4_stm.go:198", after := #[{ on := 12, ground := Ground.data }, { on := 5, ground := Ground.guard }], guard := some (5, false) } : Oper)) (v := _) rfl (by kernel_rfl) (by kernel_rfl) (by kernel_rfl) (fun _ _ _ h => h) (Or.inl ⟨by rfl, fun x hSw => ?hyz3_13⟩) hHeld ?restz3_13
    case hyz3_13 =>
      have k0 := keepB hSw c0; have k1 := keepB hSw c1
      go_simp
      try with_reducible rfl
    try simp only [Act.put, List.setIfInBounds_toArray, List.set_cons_zero, List.set_cons_succ]
    refine' wpAnyH_take (i := 14) (oi := ({ dst := some 19, op := Op.fieldAddr 45 (Operand.tmp 18) 0, type := 0, pos := "l4_stm.go:198", after := #[{ on := 13, ground := Ground.data }, { on := 5, ground := Ground.guard }], guard := some (5, false) } : Oper)) (v := _) rfl (by kernel_rfl) (by kernel_rfl) (by kernel_rfl) (fun _ _ _ h => h) (Or.inl ⟨by rfl, fun x hSw => ?hyz3_14⟩) hHeld ?restz3_14
    case hyz3_14 =>
      have k0 := keepB hSw c0; have k1 := keepB hSw c1
      go_simp
      try with_reducible rfl
    try simp only [Act.put, List.setIfInBounds_toArray, List.set_cons_zero, List.set_cons_succ]
    refine' wpAnyH_take (i := 15) (oi := ({ dst := some 20, op := Op.load 9 (Operand.tmp 19), type := 9, pos := "l4_stm.go:198", after := #[{ on := 14, ground := Ground.data }, { on := 5, ground := Ground.guard }], guard := some (5, false) } : Oper)) (v := _) rfl (by kernel_rfl) (by kernel_rfl) (by kernel_rfl) (fun _ _ _ h => h) (Or.inl ⟨by rfl, fun x hSw => ?hyz3_15⟩) hHeld ?restz3_15
    case hyz3_15 =>
      have k0 := keepB hSw c0; have k1 := keepB hSw c1
      go_simp
      try with_reducible rfl
    try simp only [Act.put, List.setIfInBounds_toArray, List.set_cons_zero, List.set_cons_succ]
    refine' wpAnyH_take (i := 16) (oi := ({ dst := some 21, op := Op.call { callee := Callee.builtin Builtin.len, args := #[Operand.tmp 20], argTypes := #[9] }, type := 3, pos := "l4_stm.go:198", after := #[{ on := 15, ground := Ground.data }, { on := 5, ground := Ground.guard }], guard := some (5, false) } : Oper)) (v := _) rfl (by kernel_rfl) (by kernel_rfl) (by kernel_rfl) (fun _ _ _ h => h) (Or.inl ⟨by rfl, fun x hSw => ?hyz3_16⟩) hHeld ?restz3_16
    case hyz3_16 =>
      have k0 := keepB hSw c0; have k1 := keepB hSw c1
      go_simp
      try with_reducible rfl
    try simp only [Act.put, List.setIfInBounds_toArray, List.set_cons_zero, List.set_cons_succ]
    refine' wpAnyH_take (i := 17) (oi := ({ dst := some 22, op := Op.binOp BinOp.gtr 3 (Operand.tmp 16) (Operand.tmp 21) 3, type := 4, pos := "l4_stm.go:198", after := #[{ on := 11, ground := Ground.data }, { on := 16, ground := Ground.data }, { on := 5, ground := Ground.guard }], guard := some (5, false) } : Oper)) (v := _) rfl (by kernel_rfl) (by kernel_rfl) (by kernel_rfl) (fun _ _ _ h => h) (Or.inl ⟨by rfl, fun x hSw => ?hyz3_17⟩) hHeld ?restz3_17
    case hyz3_17 =>
      have k0 := keepB hSw c0; have k1 := keepB hSw c1
      go_simp
      try with_reducible rfl
    try simp only [Act.put, List.setIfInBounds_toArray, List.set_cons_zero, List.set_cons_succ]
    refine' wpAnyH_take (i := 18) (oi := ({ dst := some 23, op := Op.pick (Operand.tmp 10) (Operand.const (Value.bool true)) (Operand.tmp 22), type := 4, pos := "l4_stm.go:198", after := #[{ on := 5, ground := Ground.data }, { on := 17, ground := Ground.data }], guard := none } : Oper)) (v := _) rfl (by kernel_rfl) (by kernel_rfl) (by kernel_rfl) (fun _ _ _ h => h) (Or.inl ⟨by rfl, fun x hSw => ?hyz3_18⟩) hHeld ?restz3_18
    case hyz3_18 =>
      have k0 := keepB hSw c0; have k1 := keepB hSw c1
      go_simp
      try with_reducible rfl
    try simp only [Act.put, List.setIfInBounds_toArray, List.set_cons_zero, List.set_cons_succ]
    refine wpAnyH_done (by kernel_rfl) ?_ _
    go_wp2
    go_ret
    exact ⟨rfl, HH.out.set _, gtrans (gdr w _) (gset _ _ _ _)⟩
set_option maxRecDepth 20000 in
set_option maxHeartbeats 4000000 in
theorem sNumOk (B : Nat) (s : ByteArray) (a' n : Nat) (w : World) (h : BL w B s (a' : Nat)) (hs : s.size ≤ 1048576) (hn : n ≤ 8) (hl : a' + n ≤ s.size) : Calls Tryz.prog 14 #[.pointer (some ⟨B, 0, none⟩), .int .i64 n] w fun e w' => e = .returned (.int .i64 (wrap64 (beA s a' n : Nat))) ∧ BL w' B s ((a' + n : Nat) : Int) ∧ w.grownBy w' (some B) := by
    have c0 := h.c0
    have c1 := h.c1
    have d1 : w.drew.cell? ⟨B, 1, none⟩ = some (.int .i64 (a' : Nat)) := c1
    have g1 : w.drew.frozen? ⟨B, 1, none⟩ = false := h.f1
    have HH : BL w.drew B s (a' : Nat) := h
    have HX : Hid (BL (w.drew.setCell ⟨B, 1, none⟩ (.int .i64 ((a' : Int) + n))) B s ((a' : Int) + n)) := HH.set _
    have e0 := HX.out.c0
    have e1 := HX.out.c1
    clear h HH
    have i1 : ¬ (a' : Int) < 0 := by omega
    have i2 : IntKind.i64.wrap ((a' : Int) + n) = (a' : Int) + n := by rw [IntKind.wrap_i64]; omega
    have i4 : wrap64 ((a' : Int) + n) = (a' : Int) + n := by unfold wrap64; omega
    have i3 : ¬ (s.size : Int) < (a' : Int) + n := by omega
    have i5 : IntKind.i64.wrap (a' : Int) = (a' : Int) := by rw [IntKind.wrap_i64]; omega
    go_enter Tryz.func14, Tryz.ntmps14
    go_wp2
    refine wp_region_held_drew (S := fun x => Below w.heap.size w x) (by kernel_rfl) (bdrewR _) (fun hHeld => ?_)
    refine' wpAnyH_take (i := 0) (oi := ({ dst := some 5, op := Op.move (Operand.tmp 0), type := 43, pos := "l4_stm.go:198", after := #[], guard := none } : Oper)) (v := _) rfl (by kernel_rfl) (by kernel_rfl) (by kernel_rfl) (fun _ _ _ h => h) (Or.inl ⟨by rfl, fun x hSw => ?hyz4_0⟩) hHeld ?restz4_0
    case hyz4_0 =>
      have k0 := keepB hSw c0; have k1 := keepB hSw c1
      go_simp
      try with_reducible rfl
    try simp only [Act.put, List.setIfInBounds_toArray, List.set_cons_zero, List.set_cons_succ]
    refine' wpAnyH_take (i := 1) (oi := ({ dst := some 6, op := Op.nilCheck (Operand.tmp 5), type := 0, pos := "l4_stm.go:198", after := #[{ on := 0, ground := Ground.data }], guard := none } : Oper)) (v := _) rfl (by kernel_rfl) (by kernel_rfl) (by kernel_rfl) (fun _ _ _ h => h) (Or.inl ⟨by rfl, fun x hSw => ?hyz4_1⟩) hHeld ?restz4_1
    case hyz4_1 =>
      have k0 := keepB hSw c0; have k1 := keepB hSw c1
      go_simp
      try with_reducible rfl
    try simp only [Act.put, List.setIfInBounds_toArray, List.set_cons_zero, List.set_cons_succ]
    refine' wpAnyH_take (i := 2) (oi := ({ dst := some 7, op := Op.fieldAddr 45 (Operand.tmp 6) 1, type := 0, pos := "l4_stm.go:198", after := #[{ on := 1, ground := Ground.data }], guard := none } : Oper)) (v := _) rfl (by kernel_rfl) (by kernel_rfl) (by kernel_rfl) (fun _ _ _ h => h) (Or.inl ⟨by rfl, fun x hSw => ?hyz4_2⟩) hHeld ?restz4_2
    case hyz4_2 =>
      have k0 := keepB hSw c0; have k1 := keepB hSw c1
      go_simp
      try with_reducible rfl
    try simp only [Act.put, List.setIfInBounds_toArray, List.set_cons_zero, List.set_cons_succ]
    refine' wpAnyH_take (i := 3) (oi := ({ dst := some 8, op := Op.load 3 (Operand.tmp 7), type := 3, pos := "l4_stm.go:198", after := #[{ on := 2, ground := Ground.data }], guard := none } : Oper)) (v := _) rfl (by kernel_rfl) (by kernel_rfl) (by kernel_rfl) (fun _ _ _ h => h) (Or.inl ⟨by rfl, fun x hSw => ?hyz4_3⟩) hHeld ?restz4_3
    case hyz4_3 =>
      have k0 := keepB hSw c0; have k1 := keepB hSw c1
      go_simp
      try with_reducible rfl
    try simp only [Act.put, List.setIfInBounds_toArray, List.set_cons_zero, List.set_cons_succ]
    refine' wpAnyH_take (i := 4) (oi := ({ dst := some 9, op := Op.binOp BinOp.lss 3 (Operand.tmp 8) (Operand.const (Value.int IntKind.i64 0)) 3, type := 4, pos := "l4_stm.go:198", after := #[{ on := 3, ground := Ground.data }], guard := none } : Oper)) (v := _) rfl (by kernel_rfl) (by kernel_rfl) (by kernel_rfl) (fun _ _ _ h => h) (Or.inl ⟨by rfl, fun x hSw => ?hyz4_4⟩) hHeld ?restz4_4
    case hyz4_4 =>
      have k0 := keepB hSw c0; have k1 := keepB hSw c1
      go_simp
      try with_reducible rfl
    try simp only [Act.put, List.setIfInBounds_toArray, List.set_cons_zero, List.set_cons_succ]
    refine' wpAnyH_take (i := 5) (oi := ({ dst := some 10, op := Op.move (Operand.tmp 9), type := 4, pos := "l4_stm.go:198", after := #[{ on := 4, ground := Ground.data }], guard := none } : Oper)) (v := _) rfl (by kernel_rfl) (by kernel_rfl) (by kernel_rfl) (fun _ _ _ h => h) (Or.inl ⟨by rfl, fun x hSw => ?hyz4_5⟩) hHeld ?restz4_5
    case hyz4_5 =>
      have k0 := keepB hSw c0; have k1 := keepB hSw c1
      go_simp
      try with_reducible rfl
    try simp only [Act.put, List.setIfInBounds_toArray, List.set_cons_zero, List.set_cons_succ]
    refine' wpAnyH_take (i := 6) (oi := ({ dst := some 11, op := Op.move (Operand.tmp 0), type := 43, pos := "l4_stm.go:198", after := #[{ on := 5, ground := Ground.guard }], guard := some (5, false) } : Oper)) (v := _) rfl (by kernel_rfl) (by kernel_rfl) (by kernel_rfl) (fun _ _ _ h => h) (Or.inl ⟨by rfl, fun x hSw => ?hyz4_6⟩) hHeld ?restz4_6
    case hyz4_6 =>
      have k0 := keepB hSw c0; have k1 := keepB hSw c1
      go_simp
      try with_reducible rfl
    try simp only [Act.put, List.setIfInBounds_toArray, List.set_cons_zero, List.set_cons_succ]
    refine' wpAnyH_take (i := 7) (oi := ({ dst := some 12, op := Op.nilCheck (Operand.tmp 11), type := 0, pos := "l4_stm.go:198", after := #[{ on := 6, ground := Ground.data }, { on := 5, ground := Ground.guard }], guard := some (5, false) } : Oper)) (v := _) rfl (by kernel_rfl) (by kernel_rfl) (by kernel_rfl) (fun _ _ _ h => h) (Or.inl ⟨by rfl, fun x hSw => ?hyz4_7⟩) hHeld ?restz4_7
    case hyz4_7 =>
      have k0 := keepB hSw c0; have k1 := keepB hSw c1
      go_simp
      try with_reducible rfl
    try simp only [Act.put, List.setIfInBounds_toArray, List.set_cons_zero, List.set_cons_succ]
    refine' wpAnyH_take (i := 8) (oi := ({ dst := some 13, op := Op.fieldAddr 45 (Operand.tmp 12) 1, type := 0, pos := "l4_stm.go:198", after := #[{ on := 7, ground := Ground.data }, { on := 5, ground := Ground.guard }], guard := some (5, false) } : Oper)) (v := _) rfl (by kernel_rfl) (by kernel_rfl) (by kernel_rfl) (fun _ _ _ h => h) (Or.inl ⟨by rfl, fun x hSw => ?hyz4_8⟩) hHeld ?restz4_8
    case hyz4_8 =>
      have k0 := keepB hSw c0; have k1 := keepB hSw c1
      go_simp
      try with_reducible rfl
    try simp only [Act.put, List.setIfInBounds_toArray, List.set_cons_zero, List.set_cons_succ]
    refine' wpAnyH_take (i := 9) (oi := ({ dst := some 14, op := Op.load 3 (Operand.tmp 13), type := 3, pos := "l4_stm.go:198", after := #[{ on := 8, ground := Ground.data }, { on := 5, ground := Ground.guard }], guard := some (5, false) } : Oper)) (v := _) rfl (by kernel_rfl) (by kernel_rfl) (by kernel_rfl) (fun _ _ _ h => h) (Or.inl ⟨by rfl, fun x hSw => ?hyz4_9⟩) hHeld ?restz4_9
    case hyz4_9 =>
      have k0 := keepB hSw c0; have k1 := keepB hSw c1
      go_simp
      try with_reducible rfl
    try simp only [Act.put, List.setIfInBounds_toArray, List.set_cons_zero, List.set_cons_succ]
    refine' wpAnyH_take (i := 10) (oi := ({ dst := some 15, op := Op.move (Operand.tmp 1), type := 3, pos := "l4_stm.go:198", after := #[{ on := 5, ground := Ground.guard }], guard := some (5, false) } : Oper)) (v := _) rfl (by kernel_rfl) (by kernel_rfl) (by kernel_rfl) (fun _ _ _ h => h) (Or.inl ⟨by rfl, fun x hSw => ?hyz4_10⟩) hHeld ?restz4_10
    case hyz4_10 =>
      have k0 := keepB hSw c0; have k1 := keepB hSw c1
      go_simp
      try with_reducible rfl
    try simp only [Act.put, List.setIfInBounds_toArray, List.set_cons_zero, List.set_cons_succ]
    refine' wpAnyH_take (i := 11) (oi := ({ dst := some 16, op := Op.binOp BinOp.add 3 (Operand.tmp 14) (Operand.tmp 15) 3, type := 3, pos := "l4_stm.go:198", after := #[{ on := 9, ground := Ground.data }, { on := 10, ground := Ground.data }, { on := 5, ground := Ground.guard }], guard := some (5, false) } : Oper)) (v := .int .i64 ((a' : Int) + n)) rfl (by kernel_rfl) (by kernel_rfl) (by kernel_rfl) (fun _ _ _ h => h) (Or.inl ⟨by rfl, fun x hSw => ?hyz4_11⟩) hHeld ?restz4_11
    case hyz4_11 =>
      have k0 := keepB hSw c0; have k1 := keepB hSw c1
      go_simp
      try with_reducible rfl
    try simp only [Act.put, List.setIfInBounds_toArray, List.set_cons_zero, List.set_cons_succ]
    refine' wpAnyH_take (i := 12) (oi := ({ dst := some 17, op := Op.move (Operand.tmp 0), type := 43, pos := "l4_stm.go:198", after := #[{ on := 5, ground := Ground.guard }], guard := some (5, false) } : Oper)) (v := _) rfl (by kernel_rfl) (by kernel_rfl) (by kernel_rfl) (fun _ _ _ h => h) (Or.inl ⟨by rfl, fun x hSw => ?hyz4_12⟩) hHeld ?restz4_12
    case hyz4_12 =>
      have k0 := keepB hSw c0; have k1 := keepB hSw c1
      go_simp
      try with_reducible rfl
    try simp only [Act.put, List.setIfInBounds_toArray, List.set_cons_zero, List.set_cons_succ]
    refine' wpAnyH_take (i := 13) (oi := ({ dst := some 18, op := Op.nilCheck (Operand.tmp 17), type := 0, pos := "l4_stm.go:198", after := #[{ on := 12, ground := Ground.data }, { on := 5, ground := Ground.guard }], guard := some (5, false) } : Oper)) (v := _) rfl (by kernel_rfl) (by kernel_rfl) (by kernel_rfl) (fun _ _ _ h => h) (Or.inl ⟨by rfl, fun x hSw => ?hyz4_13⟩) hHeld ?restz4_13
    case hyz4_13 =>
      have k0 := keepB hSw c0; have k1 := keepB hSw c1
      go_simp
      try with_reducible rfl
    try simp only [Act.put, List.setIfInBounds_toArray, List.set_cons_zero, List.set_cons_succ]
    refine' wpAnyH_take (i := 14) (oi := ({ dst := some 19, op := Op.fieldAddr 45 (Operand.tmp 18) 0, type := 0, pos := "l4_stm.go:198", after := #[{ on := 13, ground := Ground.data }, { on := 5, ground := Ground.guard }], guard := some (5, false) } : Oper)) (v := _) rfl (by kernel_rfl) (by kernel_rfl) (by kernel_rfl) (fun _ _ _ h => h) (Or.inl ⟨by rfl, fun x hSw => ?hyz4_14⟩) hHeld ?restz4_14
    case hyz4_14 =>
      have k0 := keepB hSw c0; have k1 := keepB hSw c1
      go_simp
      try with_reducible rfl
    try simp only [Act.put, List.setIfInBounds_toArray, List.set_cons_zero, List.set_cons_succ]
    refine' wpAnyH_take (i := 15) (oi := ({ dst := some 20, op := Op.load 9 (Operand.tmp 19), type := 9, pos := "l4_stm.go:198", after := #[{ on := 14, ground := Ground.data }, { on := 5, ground := Ground.guard }], guard := some (5, false) } : Oper)) (v := _) rfl (by kernel_rfl) (by kernel_rfl) (by kernel_rfl) (fun _ _ _ h => h) (Or.inl ⟨by rfl, fun x hSw => ?hyz4_15⟩) hHeld ?restz4_15
    case hyz4_15 =>
      have k0 := keepB hSw c0; have k1 := keepB hSw c1
      go_simp
      try with_reducible rfl
    try simp only [Act.put, List.setIfInBounds_toArray, List.set_cons_zero, List.set_cons_succ]
    refine' wpAnyH_take (i := 16) (oi := ({ dst := some 21, op := Op.call { callee := Callee.builtin Builtin.len, args := #[Operand.tmp 20], argTypes := #[9] }, type := 3, pos := "l4_stm.go:198", after := #[{ on := 15, ground := Ground.data }, { on := 5, ground := Ground.guard }], guard := some (5, false) } : Oper)) (v := _) rfl (by kernel_rfl) (by kernel_rfl) (by kernel_rfl) (fun _ _ _ h => h) (Or.inl ⟨by rfl, fun x hSw => ?hyz4_16⟩) hHeld ?restz4_16
    case hyz4_16 =>
      have k0 := keepB hSw c0; have k1 := keepB hSw c1
      go_simp
      try with_reducible rfl
    try simp only [Act.put, List.setIfInBounds_toArray, List.set_cons_zero, List.set_cons_succ]
    refine' wpAnyH_take (i := 17) (oi := ({ dst := some 22, op := Op.binOp BinOp.gtr 3 (Operand.tmp 16) (Operand.tmp 21) 3, type := 4, pos := "l4_stm.go:198", after := #[{ on := 11, ground := Ground.data }, { on := 16, ground := Ground.data }, { on := 5, ground := Ground.guard }], guard := some (5, false) } : Oper)) (v := _) rfl (by kernel_rfl) (by kernel_rfl) (by kernel_rfl) (fun _ _ _ h => h) (Or.inl ⟨by rfl, fun x hSw => ?hyz4_17⟩) hHeld ?restz4_17
    case hyz4_17 =>
      have k0 := keepB hSw c0; have k1 := keepB hSw c1
      go_simp
      try with_reducible rfl
    try simp only [Act.put, List.setIfInBounds_toArray, List.set_cons_zero, List.set_cons_succ]
    refine' wpAnyH_take (i := 18) (oi := ({ dst := some 23, op := Op.pick (Operand.tmp 10) (Operand.const (Value.bool true)) (Operand.tmp 22), type := 4, pos := "l4_stm.go:198", after := #[{ on := 5, ground := Ground.data }, { on := 17, ground := Ground.data }], guard := none } : Oper)) (v := _) rfl (by kernel_rfl) (by kernel_rfl) (by kernel_rfl) (fun _ _ _ h => h) (Or.inl ⟨by rfl, fun x hSw => ?hyz4_18⟩) hHeld ?restz4_18
    case hyz4_18 =>
      have k0 := keepB hSw c0; have k1 := keepB hSw c1
      go_simp
      try with_reducible rfl
    try simp only [Act.put, List.setIfInBounds_toArray, List.set_cons_zero, List.set_cons_succ]
    refine wpAnyH_done (by kernel_rfl) ?_ _
    go_wp2
    refine wp_region_held_drew (S := fun x => Below (w.drew.setCell ⟨B, 1, none⟩ (.int .i64 ((a' : Int) + n))).heap.size (w.drew.setCell ⟨B, 1, none⟩ (.int .i64 ((a' : Int) + n))) x) (by kernel_rfl) (bdrewR _) (fun hHeld => ?_)
    refine' wpAnyH_take (i := 0) (oi := ({ dst := some 35, op := Op.move (Operand.tmp 0), type := 43, pos := "l4_stm.go:203", after := #[], guard := none } : Oper)) (v := _) rfl (by kernel_rfl) (by kernel_rfl) (by kernel_rfl) (fun _ _ _ h => h) (Or.inl ⟨by rfl, fun x hSw => ?hyz1_0⟩) hHeld ?restz1_0
    case hyz1_0 =>
      have k0 := keepB hSw e0; have k1 := keepB hSw e1
      go_simp
      try with_reducible rfl
    try simp only [Act.put, List.setIfInBounds_toArray, List.set_cons_zero, List.set_cons_succ]
    refine' wpAnyH_take (i := 1) (oi := ({ dst := some 36, op := Op.nilCheck (Operand.tmp 35), type := 0, pos := "l4_stm.go:203", after := #[{ on := 0, ground := Ground.data }], guard := none } : Oper)) (v := _) rfl (by kernel_rfl) (by kernel_rfl) (by kernel_rfl) (fun _ _ _ h => h) (Or.inl ⟨by rfl, fun x hSw => ?hyz1_1⟩) hHeld ?restz1_1
    case hyz1_1 =>
      have k0 := keepB hSw e0; have k1 := keepB hSw e1
      go_simp
      try with_reducible rfl
    try simp only [Act.put, List.setIfInBounds_toArray, List.set_cons_zero, List.set_cons_succ]
    refine' wpAnyH_take (i := 2) (oi := ({ dst := some 37, op := Op.fieldAddr 45 (Operand.tmp 36) 0, type := 0, pos := "l4_stm.go:203", after := #[{ on := 1, ground := Ground.data }], guard := none } : Oper)) (v := _) rfl (by kernel_rfl) (by kernel_rfl) (by kernel_rfl) (fun _ _ _ h => h) (Or.inl ⟨by rfl, fun x hSw => ?hyz1_2⟩) hHeld ?restz1_2
    case hyz1_2 =>
      have k0 := keepB hSw e0; have k1 := keepB hSw e1
      go_simp
      try with_reducible rfl
    try simp only [Act.put, List.setIfInBounds_toArray, List.set_cons_zero, List.set_cons_succ]
    refine' wpAnyH_take (i := 3) (oi := ({ dst := some 38, op := Op.load 9 (Operand.tmp 37), type := 9, pos := "l4_stm.go:203", after := #[{ on := 2, ground := Ground.data }], guard := none } : Oper)) (v := _) rfl (by kernel_rfl) (by kernel_rfl) (by kernel_rfl) (fun _ _ _ h => h) (Or.inl ⟨by rfl, fun x hSw => ?hyz1_3⟩) hHeld ?restz1_3
    case hyz1_3 =>
      have k0 := keepB hSw e0; have k1 := keepB hSw e1
      go_simp
      try with_reducible rfl
    try simp only [Act.put, List.setIfInBounds_toArray, List.set_cons_zero, List.set_cons_succ]
    refine' wpAnyH_take (i := 4) (oi := ({ dst := some 39, op := Op.move (Operand.tmp 0), type := 43, pos := "l4_stm.go:203", after := #[], guard := none } : Oper)) (v := _) rfl (by kernel_rfl) (by kernel_rfl) (by kernel_rfl) (fun _ _ _ h => h) (Or.inl ⟨by rfl, fun x hSw => ?hyz1_4⟩) hHeld ?restz1_4
    case hyz1_4 =>
      have k0 := keepB hSw e0; have k1 := keepB hSw e1
      go_simp
      try with_reducible rfl
    try simp only [Act.put, List.setIfInBounds_toArray, List.set_cons_zero, List.set_cons_succ]
    refine' wpAnyH_take (i := 5) (oi := ({ dst := some 40, op := Op.nilCheck (Operand.tmp 39), type := 0, pos := "l4_stm.go:203", after := #[{ on := 4, ground := Ground.data }], guard := none } : Oper)) (v := _) rfl (by kernel_rfl) (by kernel_rfl) (by kernel_rfl) (fun _ _ _ h => h) (Or.inl ⟨by rfl, fun x hSw => ?hyz1_5⟩) hHeld ?restz1_5
    case hyz1_5 =>
      have k0 := keepB hSw e0; have k1 := keepB hSw e1
      go_simp
      try with_reducible rfl
    try simp only [Act.put, List.setIfInBounds_toArray, List.set_cons_zero, List.set_cons_succ]
    refine' wpAnyH_take (i := 6) (oi := ({ dst := some 41, op := Op.fieldAddr 45 (Operand.tmp 40) 1, type := 0, pos := "l4_stm.go:203", after := #[{ on := 5, ground := Ground.data }], guard := none } : Oper)) (v := _) rfl (by kernel_rfl) (by kernel_rfl) (by kernel_rfl) (fun _ _ _ h => h) (Or.inl ⟨by rfl, fun x hSw => ?hyz1_6⟩) hHeld ?restz1_6
    case hyz1_6 =>
      have k0 := keepB hSw e0; have k1 := keepB hSw e1
      go_simp
      try with_reducible rfl
    try simp only [Act.put, List.setIfInBounds_toArray, List.set_cons_zero, List.set_cons_succ]
    refine' wpAnyH_take (i := 7) (oi := ({ dst := some 42, op := Op.load 3 (Operand.tmp 41), type := 3, pos := "l4_stm.go:203", after := #[{ on := 6, ground := Ground.data }], guard := none } : Oper)) (v := _) rfl (by kernel_rfl) (by kernel_rfl) (by kernel_rfl) (fun _ _ _ h => h) (Or.inl ⟨by rfl, fun x hSw => ?hyz1_7⟩) hHeld ?restz1_7
    case hyz1_7 =>
      have k0 := keepB hSw e0; have k1 := keepB hSw e1
      go_simp
      try with_reducible rfl
    try simp only [Act.put, List.setIfInBounds_toArray, List.set_cons_zero, List.set_cons_succ]
    refine' wpAnyH_take (i := 8) (oi := ({ dst := some 43, op := Op.move (Operand.tmp 1), type := 3, pos := "l4_stm.go:203", after := #[], guard := none } : Oper)) (v := _) rfl (by kernel_rfl) (by kernel_rfl) (by kernel_rfl) (fun _ _ _ h => h) (Or.inl ⟨by rfl, fun x hSw => ?hyz1_8⟩) hHeld ?restz1_8
    case hyz1_8 =>
      have k0 := keepB hSw e0; have k1 := keepB hSw e1
      go_simp
      try with_reducible rfl
    try simp only [Act.put, List.setIfInBounds_toArray, List.set_cons_zero, List.set_cons_succ]
    refine' wpAnyH_take (i := 9) (oi := ({ dst := some 44, op := Op.binOp BinOp.sub 3 (Operand.tmp 42) (Operand.tmp 43) 3, type := 3, pos := "l4_stm.go:203", after := #[{ on := 7, ground := Ground.data }, { on := 8, ground := Ground.data }], guard := none } : Oper)) (v := .int .i64 (a' : Int)) rfl (by kernel_rfl) (by kernel_rfl) (by kernel_rfl) (fun _ _ _ h => h) (Or.inl ⟨by rfl, fun x hSw => ?hyz1_9⟩) hHeld ?restz1_9
    case hyz1_9 =>
      have k0 := keepB hSw e0; have k1 := keepB hSw e1
      go_simp
      try with_reducible rfl
    try simp only [Act.put, List.setIfInBounds_toArray, List.set_cons_zero, List.set_cons_succ]
    refine' wpAnyH_take (i := 10) (oi := ({ dst := some 45, op := Op.move (Operand.tmp 1), type := 3, pos := "l4_stm.go:203", after := #[], guard := none } : Oper)) (v := _) rfl (by kernel_rfl) (by kernel_rfl) (by kernel_rfl) (fun _ _ _ h => h) (Or.inl ⟨by rfl, fun x hSw => ?hyz1_10⟩) hHeld ?restz1_10
    case hyz1_10 =>
      have k0 := keepB hSw e0; have k1 := keepB hSw e1
      go_simp
      try with_reducible rfl
    try simp only [Act.put, List.setIfInBounds_toArray, List.set_cons_zero, List.set_cons_succ]
    refine wpAnyH_ready (rs := [11]) (by kernel_rfl) (by simp) ?_
    refine AllReadyH.cons (o := ({ dst := some 46, op := Op.call { callee := Callee.value (Operand.func 54), args := #[Operand.tmp 38, Operand.tmp 44, Operand.tmp 45], argTypes := #[9, 3, 3] }, type := 3, pos := "l4_stm.go:203", after := #[{ on := 3, ground := Ground.data }, { on := 9, ground := Ground.data }, { on := 10, ground := Ground.data }], guard := none } : Oper)) rfl (fun K hK => ?_) AllReadyH.nil
    go_simp
    refine (sGet s a' n _ hs hn hl).mono ?_
    rintro e w5 ⟨rfl, rfl⟩
    refine hK.out _ _ (hHeld) (fun hHeld => ?_)
    clear hK K
    try simp only [Act.put, List.setIfInBounds_toArray, List.set_cons_zero, List.set_cons_succ]
    refine' wpAnyH_take (i := 12) (oi := ({ dst := some 4, op := Op.assign (Operand.tmp 46), type := 3, pos := "l4_stm.go:203", after := #[{ on := 11, ground := Ground.data }, { on := 11, ground := Ground.chain }, { on := 0, ground := Ground.phase }, { on := 1, ground := Ground.phase }, { on := 2, ground := Ground.phase }, { on := 3, ground := Ground.phase }, { on := 4, ground := Ground.phase }, { on := 5, ground := Ground.phase }, { on := 6, ground := Ground.phase }, { on := 7, ground := Ground.phase }, { on := 8, ground := Ground.phase }, { on := 9, ground := Ground.phase }, { on := 10, ground := Ground.phase }, { on := 11, ground := Ground.phase }], guard := none } : Oper)) (v := _) rfl (by kernel_rfl) (by kernel_rfl) (by kernel_rfl) (fun _ _ _ h => h) (Or.inl ⟨by rfl, fun x hSw => ?hyz1_12⟩) hHeld ?restz1_12
    case hyz1_12 =>
      have k0 := keepB hSw e0; have k1 := keepB hSw e1
      go_simp
      try with_reducible rfl
    try simp only [Act.put, List.setIfInBounds_toArray, List.set_cons_zero, List.set_cons_succ]
    refine wpAnyH_done (by kernel_rfl) ?_ _
    go_wp2
    go_ret
    exact ⟨rfl, by rw [Int.natCast_add]; exact HX.out.later hHeld, gtrans (gtrans (gdr w _) (gset _ _ _ _)) (gbelow hHeld _)⟩
end Go.Proofs.YtnbgdfhfmbgbhaaGreatDoor
namespace Go.Proofs.YtnbgdfhfmbgbhaaGreatDoor
open Go.RowKit Go.Maps Go.WideMaps
/-- The place behind a number, and the number. -/
def numP (s : ByteArray) (k : Nat) : Option Nat → Option Nat
  | none => none
  | some a => if a + k ≤ s.size then some (a + k) else none
def numV (s : ByteArray) (k : Nat) : Option Nat → Int
  | none => 0
  | some a => if a + k ≤ s.size then wrap64 (beA s a k : Nat) else 0
/-- The program's reader stands at a place. -/
def PI (w : World) (B : Nat) (s : ByteArray) : Option Nat → Prop
  | none => RD w B ⟨#[]⟩ true
  | some a => a ≤ s.size ∧ RD w B (s.extract a s.size) false
def PS (w : World) (B : Nat) (s : ByteArray) : Option Nat → Prop
  | none => BL w B s (-1)
  | some a => a ≤ s.size ∧ BL w B s (a : Nat)
theorem at8_ext {s : ByteArray} {a b j : Nat} (hb : b ≤ s.size) (hj : a + j < b) : at8 (s.extract a b) j = at8 s (a + j) := by
  unfold at8
  have h1 : j < (s.extract a b).size := by rw [ByteArray.size_extract]; omega
  rw [dif_pos h1, dif_pos (show a + j < s.size by omega)]
  rw [ByteArray.getElem_extract]
theorem beN_ext {s : ByteArray} {a k : Nat} (h : a + k ≤ s.size) : ∀ j, j ≤ k → beN (s.extract a (a + k)) j = beA s a j
  | 0, _ => rfl
  | j + 1, hj => by rw [beN, beA, beN_ext h j (by omega), at8_ext h (by omega)]
theorem ext_ext {s : ByteArray} {a n : Nat} (h : a + n ≤ s.size) : (s.extract a s.size).extract 0 n = s.extract a (a + n) ∧ (s.extract a s.size).extract n (s.extract a s.size).size = s.extract (a + n) s.size := by
  constructor
  · rw [ByteArray.extract_extract]
    congr 1
    omega
  · rw [ByteArray.extract_extract, ByteArray.size_extract]
    congr 1
    omega
theorem tk_nil (k : Nat) : tkR ⟨#[]⟩ k = ⟨#[]⟩ ∧ drR ⟨#[]⟩ k = ⟨#[]⟩ := by
  unfold tkR drR
  have e : (⟨#[]⟩ : ByteArray).size = 0 := rfl
  rw [e]
  by_cases h : 0 < k
  · rw [if_pos h, if_pos h]; exact ⟨rfl, rfl⟩
  · obtain rfl : k = 0 := by omega
    exact ⟨rfl, rfl⟩
theorem tk_some {s : ByteArray} {a n : Nat} (h : a + n ≤ s.size) : tkR (s.extract a s.size) n = s.extract a (a + n) ∧ drR (s.extract a s.size) n = s.extract (a + n) s.size ∧ decide ((s.extract a s.size).size < n) = false := by
  have e : ¬ (s.extract a s.size).size < n := by rw [ByteArray.size_extract]; omega
  unfold tkR drR
  rw [if_neg e, if_neg e]
  exact ⟨(ext_ext h).1, (ext_ext h).2, decide_eq_false e⟩
theorem tk_none {s : ByteArray} {a n : Nat} (ha : a ≤ s.size) (h : ¬ a + n ≤ s.size) : tkR (s.extract a s.size) n = ⟨#[]⟩ ∧ drR (s.extract a s.size) n = ⟨#[]⟩ ∧ decide ((s.extract a s.size).size < n) = true := by
  have e : (s.extract a s.size).size < n := by rw [ByteArray.size_extract]; omega
  unfold tkR drR
  rw [if_pos e, if_pos e]
  exact ⟨rfl, rfl, decide_eq_true e⟩
theorem be_nil : wrap64 ((beN ⟨#[]⟩ (⟨#[]⟩ : ByteArray).size : Nat) : Int) = 0 := by
  rw [show (⟨#[]⟩ : ByteArray).size = 0 from rfl]
  simp [beN, wrap64]
theorem iNumP (B : Nat) (s : ByteArray) (p : Option Nat) (k : Nat) (w : World) (h : PI w B s p) (hk : k ≤ 8) :
    Calls Tryz.prog 59 #[.pointer (some ⟨B, 0, none⟩), .int .i64 k] w fun e w' => e = .returned (.int .i64 (numV s k p)) ∧ PI w' B s (numP s k p) ∧ w.grownBy w' (some B) := by
  cases p with
  | none =>
    refine (iNum B ⟨#[]⟩ true k w h hk).mono ?_
    rintro e w1 ⟨rfl, hR, hg⟩
    rw [(tk_nil k).2, Bool.true_or] at hR
    refine ⟨?_, hR, hg⟩
    rw [(tk_nil k).1, be_nil]
    rfl
  | some a =>
    obtain ⟨ha, h⟩ := h
    refine (iNum B _ false k w h hk).mono ?_
    rintro e w1 ⟨rfl, hR, hg⟩
    by_cases hc : a + k ≤ s.size
    · obtain ⟨e1, e2, e3⟩ := tk_some hc
      rw [e2, e3] at hR
      simp only [numV, numP, if_pos hc]
      refine ⟨?_, ⟨hc, hR⟩, hg⟩
      rw [e1, ByteArray.size_extract, show min (a + k) s.size - a = k by omega, beN_ext hc k (Nat.le_refl _)]
    · obtain ⟨e1, e2, e3⟩ := tk_none ha hc
      rw [e2, e3] at hR
      simp only [numV, numP, if_neg hc]
      refine ⟨?_, hR, hg⟩
      rw [e1, be_nil]
theorem sNumP (B : Nat) (s : ByteArray) (p : Option Nat) (k : Nat) (w : World) (h : PS w B s p) (hs : s.size ≤ 1048576) (hk : k ≤ 8) :
    Calls Tryz.prog 14 #[.pointer (some ⟨B, 0, none⟩), .int .i64 k] w fun e w' => e = .returned (.int .i64 (numV s k p)) ∧ PS w' B s (numP s k p) ∧ w.grownBy w' (some B) := by
  cases p with
  | none => exact sNumBad B s k w h
  | some a =>
    obtain ⟨ha, h⟩ := h
    by_cases hc : a + k ≤ s.size
    · simp only [numV, numP, if_pos hc]
      refine (sNumOk B s a k w h hs hk hc).mono ?_
      rintro e w1 ⟨rfl, hR, hg⟩
      exact ⟨rfl, ⟨hc, hR⟩, hg⟩
    · simp only [numV, numP, if_neg hc]
      exact sNumShort B s a k w h hs (by omega) hk (by omega)
end Go.Proofs.YtnbgdfhfmbgbhaaGreatDoor
