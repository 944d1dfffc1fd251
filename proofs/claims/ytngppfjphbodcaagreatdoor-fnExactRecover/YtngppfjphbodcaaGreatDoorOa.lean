/-
  FsStep, the program's side: the meter ticks.
-/
import Derived.Test.YtngppfjphbodcaaGreatDoorKg
namespace Go.Proofs.YtngppfjphbodcaaGreatDoor
open Go.RowKit
theorem grown_below {w wr W : World} {r : Option Nat} (h : w.grownBy wr r) (hb : Below wr.heap.size wr W) : w.grownBy W r :=
  ⟨hb.os.trans h.os, hb.tape.trans h.tape, hb.output.trans h.output, Nat.le_trans h.size hb.size, fun i hi hne => (hb.block i (Nat.lt_of_lt_of_le hi h.size)).trans (h.block i hi hne)⟩
/-- What a tick answers: Count, Down, the code. -/
def tk (x2 x3 x4 : Int) (x5 : Bool) : Int × Bool × Int :=
  if x5 then (x2, x5, 11)
  else if x2 = 1000000000000000 then (x2, x5, 12)
  else if x2 + 1 = x3 then (x2 + 1, true, 11)
  else if x2 + 1 = x4 then (x2 + 1, x5, 12)
  else (x2 + 1, x5, 0)
def Ticked (w w' : World) (p : Nat) (v : Value) (x1 x3 x4 : Int) (T : Int × Bool × Int) (e : Ending) : Prop := e = .returned (.int .i64 T.2.2) ∧ DkAt w' p v x1 T.1 x3 x4 T.2.1 ∧ w.grownBy w' (some p)
set_option maxRecDepth 20000 in
set_option maxHeartbeats 4000000 in
theorem iTick (p : Nat) (v : Value) (x1 x2 x3 x4 : Int) (x5 : Bool) (w : World) (h : DkAt w p v x1 x2 x3 x4 x5) (hx0 : 0 ≤ x2) (hx1 : x2 ≤ 1000000000000000) : Calls Tryz.prog 74 #[.pointer (some ⟨p, 0, none⟩)] w fun e w' => Ticked w w' p v x1 x3 x4 (tk x2 x3 x4 x5) e := by
  have dc0 : w.cell? ⟨p, 0, none⟩ = some (.int .i64 x2) := (cell_of_row _ _ 0 _ _ _ h).trans rfl
  have df0 : w.frozen? ⟨p, 0, none⟩ = false := frozen_of_row _ _ 0 _ _ h
  have dc1 : w.cell? ⟨p, 1, none⟩ = some (.int .i64 x3) := (cell_of_row _ _ 1 _ _ _ h).trans rfl
  have df1 : w.frozen? ⟨p, 1, none⟩ = false := frozen_of_row _ _ 1 _ _ h
  have dc2 : w.cell? ⟨p, 2, none⟩ = some (.int .i64 x4) := (cell_of_row _ _ 2 _ _ _ h).trans rfl
  have df2 : w.frozen? ⟨p, 2, none⟩ = false := frozen_of_row _ _ 2 _ _ h
  have dc3 : w.cell? ⟨p, 3, none⟩ = some (.bool x5) := (cell_of_row _ _ 3 _ _ _ h).trans rfl
  have df3 : w.frozen? ⟨p, 3, none⟩ = false := frozen_of_row _ _ 3 _ _ h
  cases x5
  rotate_left
  · have hst : Hid (tk x2 x3 x4 true = (x2, true, 11)) := by simp [Hid, tk]
    go_enter Tryz.func74, Tryz.ntmps74
    go_wp2
    go_ret
    exact (by rw [hst.out]; exact ⟨rfl, h, grown_refl _ _⟩)
  by_cases hmx : x2 = 1000000000000000
  · have hst : Hid (tk x2 x3 x4 false = (x2, false, 12)) := by simp [Hid, tk, hmx]
    have hq : (x2 == 1000000000000000) = true := by simp [hmx]
    clear hmx
    go_enter Tryz.func74, Tryz.ntmps74
    go_wp2
    go_ret
    exact (by rw [hst.out]; exact ⟨rfl, h, grown_refl _ _⟩)
  have hq : (x2 == 1000000000000000) = false := by simp [hmx]
  have HM : Hid (¬ x2 = 1000000000000000) := hmx
  clear hmx
  go_enter Tryz.func74, Tryz.ntmps74
  go_upto_region 6 with fail
  have hD3 : DkAt (w.setCell ⟨p, 0, none⟩ (.int .i64 (x2 + 1))) p v x1 (x2 + 1) x3 x4 false := heap_setCell_same _ _ 0 _ _ _ h
  have hg3 : w.grownBy (w.setCell ⟨p, 0, none⟩ (.int .i64 (x2 + 1))) (some p) := grown_step (grown_refl _ _) (Below.refl _ _)
  obtain ⟨W3, hW3⟩ : ∃ W3, w.setCell ⟨p, 0, none⟩ (.int .i64 (x2 + 1)) = W3 := ⟨_, rfl⟩
  rw [hW3] at hD3 hg3 ⊢
  clear hW3 dc0 df0 dc1 df1 dc2 df2 dc3 df3
  have ec0 : W3.cell? ⟨p, 0, none⟩ = some (.int .i64 (x2 + 1)) := (cell_of_row _ _ 0 _ _ _ hD3).trans rfl
  have ef0 : W3.frozen? ⟨p, 0, none⟩ = false := frozen_of_row _ _ 0 _ _ hD3
  have ec1 : W3.cell? ⟨p, 1, none⟩ = some (.int .i64 x3) := (cell_of_row _ _ 1 _ _ _ hD3).trans rfl
  have ef1 : W3.frozen? ⟨p, 1, none⟩ = false := frozen_of_row _ _ 1 _ _ hD3
  have ec2 : W3.cell? ⟨p, 2, none⟩ = some (.int .i64 x4) := (cell_of_row _ _ 2 _ _ _ hD3).trans rfl
  have ef2 : W3.frozen? ⟨p, 2, none⟩ = false := frozen_of_row _ _ 2 _ _ hD3
  have ec3 : W3.cell? ⟨p, 3, none⟩ = some (.bool false) := (cell_of_row _ _ 3 _ _ _ hD3).trans rfl
  have ef3 : W3.frozen? ⟨p, 3, none⟩ = false := frozen_of_row _ _ 3 _ _ hD3
  by_cases hcr : x2 + 1 = x3
  · have hst : Hid (tk x2 x3 x4 false = (x2 + 1, true, 11)) := by
      show _ = _
      unfold tk
      rw [if_neg (by simp), if_neg HM.out, if_pos hcr]
    have q2 : (x2 + 1 == x3) = true := by simp [hcr]
    clear hcr
    refine wp_region_held_drew (S := fun x => Below W3.heap.size W3 x) (by kernel_rfl) (bdrew1 _) (fun hHeld => ?_)
    refine' wpAnyH_take (i := 0) (oi := ({ dst := some 19, op := Op.move (Operand.tmp 0), type := 120, pos := "l6_journal.go:240", after := #[], guard := none } : Oper)) (v := _) rfl (by kernel_rfl) (by kernel_rfl) (by kernel_rfl) (fun _ _ _ h => h) (Or.inl ⟨by rfl, fun x hSw => ?hyz1_0⟩) hHeld ?restz1_0
    case hyz1_0 =>
      have k0 := keepB hSw ec0; have k1 := keepB hSw ec1; have k2 := keepB hSw ec2; have k3 := keepB hSw ec3
      go_simp
      try with_reducible rfl
    try simp only [Act.put, List.setIfInBounds_toArray, List.set_cons_zero, List.set_cons_succ]
    refine' wpAnyH_take (i := 1) (oi := ({ dst := some 20, op := Op.nilCheck (Operand.tmp 19), type := 0, pos := "l6_journal.go:240", after := #[{ on := 0, ground := Ground.data }], guard := none } : Oper)) (v := _) rfl (by kernel_rfl) (by kernel_rfl) (by kernel_rfl) (fun _ _ _ h => h) (Or.inl ⟨by rfl, fun x hSw => ?hyz1_1⟩) hHeld ?restz1_1
    case hyz1_1 =>
      have k0 := keepB hSw ec0; have k1 := keepB hSw ec1; have k2 := keepB hSw ec2; have k3 := keepB hSw ec3
      go_simp
      try with_reducible rfl
    try simp only [Act.put, List.setIfInBounds_toArray, List.set_cons_zero, List.set_cons_succ]
    refine' wpAnyH_take (i := 2) (oi := ({ dst := some 21, op := Op.fieldAddr 77 (Operand.tmp 20) 0, type := 0, pos := "l6_journal.go:240", after := #[{ on := 1, ground := Ground.data }], guard := none } : Oper)) (v := _) rfl (by kernel_rfl) (by kernel_rfl) (by kernel_rfl) (fun _ _ _ h => h) (Or.inl ⟨by rfl, fun x hSw => ?hyz1_2⟩) hHeld ?restz1_2
    case hyz1_2 =>
      have k0 := keepB hSw ec0; have k1 := keepB hSw ec1; have k2 := keepB hSw ec2; have k3 := keepB hSw ec3
      go_simp
      try with_reducible rfl
    try simp only [Act.put, List.setIfInBounds_toArray, List.set_cons_zero, List.set_cons_succ]
    refine' wpAnyH_take (i := 3) (oi := ({ dst := some 22, op := Op.load 3 (Operand.tmp 21), type := 3, pos := "l6_journal.go:240", after := #[{ on := 2, ground := Ground.data }], guard := none } : Oper)) (v := _) rfl (by kernel_rfl) (by kernel_rfl) (by kernel_rfl) (fun _ _ _ h => h) (Or.inl ⟨by rfl, fun x hSw => ?hyz1_3⟩) hHeld ?restz1_3
    case hyz1_3 =>
      have k0 := keepB hSw ec0; have k1 := keepB hSw ec1; have k2 := keepB hSw ec2; have k3 := keepB hSw ec3
      go_simp
      try with_reducible rfl
    try simp only [Act.put, List.setIfInBounds_toArray, List.set_cons_zero, List.set_cons_succ]
    refine' wpAnyH_take (i := 4) (oi := ({ dst := some 23, op := Op.move (Operand.tmp 0), type := 120, pos := "l6_journal.go:240", after := #[], guard := none } : Oper)) (v := _) rfl (by kernel_rfl) (by kernel_rfl) (by kernel_rfl) (fun _ _ _ h => h) (Or.inl ⟨by rfl, fun x hSw => ?hyz1_4⟩) hHeld ?restz1_4
    case hyz1_4 =>
      have k0 := keepB hSw ec0; have k1 := keepB hSw ec1; have k2 := keepB hSw ec2; have k3 := keepB hSw ec3
      go_simp
      try with_reducible rfl
    try simp only [Act.put, List.setIfInBounds_toArray, List.set_cons_zero, List.set_cons_succ]
    refine' wpAnyH_take (i := 5) (oi := ({ dst := some 24, op := Op.nilCheck (Operand.tmp 23), type := 0, pos := "l6_journal.go:240", after := #[{ on := 4, ground := Ground.data }], guard := none } : Oper)) (v := _) rfl (by kernel_rfl) (by kernel_rfl) (by kernel_rfl) (fun _ _ _ h => h) (Or.inl ⟨by rfl, fun x hSw => ?hyz1_5⟩) hHeld ?restz1_5
    case hyz1_5 =>
      have k0 := keepB hSw ec0; have k1 := keepB hSw ec1; have k2 := keepB hSw ec2; have k3 := keepB hSw ec3
      go_simp
      try with_reducible rfl
    try simp only [Act.put, List.setIfInBounds_toArray, List.set_cons_zero, List.set_cons_succ]
    refine' wpAnyH_take (i := 6) (oi := ({ dst := some 25, op := Op.fieldAddr 77 (Operand.tmp 24) 1, type := 0, pos := "l6_journal.go:240", after := #[{ on := 5, ground := Ground.data }], guard := none } : Oper)) (v := _) rfl (by kernel_rfl) (by kernel_rfl) (by kernel_rfl) (fun _ _ _ h => h) (Or.inl ⟨by rfl, fun x hSw => ?hyz1_6⟩) hHeld ?restz1_6
    case hyz1_6 =>
      have k0 := keepB hSw ec0; have k1 := keepB hSw ec1; have k2 := keepB hSw ec2; have k3 := keepB hSw ec3
      go_simp
      try with_reducible rfl
    try simp only [Act.put, List.setIfInBounds_toArray, List.set_cons_zero, List.set_cons_succ]
    refine' wpAnyH_take (i := 7) (oi := ({ dst := some 26, op := Op.load 3 (Operand.tmp 25), type := 3, pos := "l6_journal.go:240", after := #[{ on := 6, ground := Ground.data }], guard := none } : Oper)) (v := _) rfl (by kernel_rfl) (by kernel_rfl) (by kernel_rfl) (fun _ _ _ h => h) (Or.inl ⟨by rfl, fun x hSw => ?hyz1_7⟩) hHeld ?restz1_7
    case hyz1_7 =>
      have k0 := keepB hSw ec0; have k1 := keepB hSw ec1; have k2 := keepB hSw ec2; have k3 := keepB hSw ec3
      go_simp
      try with_reducible rfl
    try simp only [Act.put, List.setIfInBounds_toArray, List.set_cons_zero, List.set_cons_succ]
    refine' wpAnyH_take (i := 8) (oi := ({ dst := some 27, op := Op.binOp BinOp.eql 3 (Operand.tmp 22) (Operand.tmp 26) 3, type := 4, pos := "l6_journal.go:240", after := #[{ on := 3, ground := Ground.data }, { on := 7, ground := Ground.data }], guard := none } : Oper)) (v := .bool true) rfl (by kernel_rfl) (by kernel_rfl) (by kernel_rfl) (fun _ _ _ h => h) (Or.inl ⟨by rfl, fun x hSw => ?hyz1_8⟩) hHeld ?restz1_8
    case hyz1_8 =>
      have k0 := keepB hSw ec0; have k1 := keepB hSw ec1; have k2 := keepB hSw ec2; have k3 := keepB hSw ec3
      go_simp
      try with_reducible rfl
    try simp only [Act.put, List.setIfInBounds_toArray, List.set_cons_zero, List.set_cons_succ]
    refine wpAnyH_done (by kernel_rfl) ?_ _
    have hD4 := hD3.later hHeld
    have gc0 : W3.drew.cell? ⟨p, 0, none⟩ = some (.int .i64 (x2 + 1)) := (cell_of_row _ _ 0 _ _ _ hD4).trans rfl
    have gf0 : W3.drew.frozen? ⟨p, 0, none⟩ = false := frozen_of_row _ _ 0 _ _ hD4
    have gc1 : W3.drew.cell? ⟨p, 1, none⟩ = some (.int .i64 x3) := (cell_of_row _ _ 1 _ _ _ hD4).trans rfl
    have gf1 : W3.drew.frozen? ⟨p, 1, none⟩ = false := frozen_of_row _ _ 1 _ _ hD4
    have gc2 : W3.drew.cell? ⟨p, 2, none⟩ = some (.int .i64 x4) := (cell_of_row _ _ 2 _ _ _ hD4).trans rfl
    have gf2 : W3.drew.frozen? ⟨p, 2, none⟩ = false := frozen_of_row _ _ 2 _ _ hD4
    have gc3 : W3.drew.cell? ⟨p, 3, none⟩ = some (.bool false) := (cell_of_row _ _ 3 _ _ _ hD4).trans rfl
    have gf3 : W3.drew.frozen? ⟨p, 3, none⟩ = false := frozen_of_row _ _ 3 _ _ hD4
    go_wp2
    go_ret
    exact (by rw [hst.out]; exact ⟨rfl, heap_setCell_same _ _ 3 _ _ _ hD4, grown_step hg3 hHeld⟩)
  have q2 : (x2 + 1 == x3) = false := by simp [hcr]
  have HC : Hid (¬ x2 + 1 = x3) := hcr
  clear hcr
  refine wp_region_held_drew (S := fun x => Below W3.heap.size W3 x) (by kernel_rfl) (bdrew1 _) (fun hHeld => ?_)
  refine' wpAnyH_take (i := 0) (oi := ({ dst := some 19, op := Op.move (Operand.tmp 0), type := 120, pos := "l6_journal.go:240", after := #[], guard := none } : Oper)) (v := _) rfl (by kernel_rfl) (by kernel_rfl) (by kernel_rfl) (fun _ _ _ h => h) (Or.inl ⟨by rfl, fun x hSw => ?hyz2_0⟩) hHeld ?restz2_0
  case hyz2_0 =>
    have k0 := keepB hSw ec0; have k1 := keepB hSw ec1; have k2 := keepB hSw ec2; have k3 := keepB hSw ec3
    go_simp
    try with_reducible rfl
  try simp only [Act.put, List.setIfInBounds_toArray, List.set_cons_zero, List.set_cons_succ]
  refine' wpAnyH_take (i := 1) (oi := ({ dst := some 20, op := Op.nilCheck (Operand.tmp 19), type := 0, pos := "l6_journal.go:240", after := #[{ on := 0, ground := Ground.data }], guard := none } : Oper)) (v := _) rfl (by kernel_rfl) (by kernel_rfl) (by kernel_rfl) (fun _ _ _ h => h) (Or.inl ⟨by rfl, fun x hSw => ?hyz2_1⟩) hHeld ?restz2_1
  case hyz2_1 =>
    have k0 := keepB hSw ec0; have k1 := keepB hSw ec1; have k2 := keepB hSw ec2; have k3 := keepB hSw ec3
    go_simp
    try with_reducible rfl
  try simp only [Act.put, List.setIfInBounds_toArray, List.set_cons_zero, List.set_cons_succ]
  refine' wpAnyH_take (i := 2) (oi := ({ dst := some 21, op := Op.fieldAddr 77 (Operand.tmp 20) 0, type := 0, pos := "l6_journal.go:240", after := #[{ on := 1, ground := Ground.data }], guard := none } : Oper)) (v := _) rfl (by kernel_rfl) (by kernel_rfl) (by kernel_rfl) (fun _ _ _ h => h) (Or.inl ⟨by rfl, fun x hSw => ?hyz2_2⟩) hHeld ?restz2_2
  case hyz2_2 =>
    have k0 := keepB hSw ec0; have k1 := keepB hSw ec1; have k2 := keepB hSw ec2; have k3 := keepB hSw ec3
    go_simp
    try with_reducible rfl
  try simp only [Act.put, List.setIfInBounds_toArray, List.set_cons_zero, List.set_cons_succ]
  refine' wpAnyH_take (i := 3) (oi := ({ dst := some 22, op := Op.load 3 (Operand.tmp 21), type := 3, pos := "l6_journal.go:240", after := #[{ on := 2, ground := Ground.data }], guard := none } : Oper)) (v := _) rfl (by kernel_rfl) (by kernel_rfl) (by kernel_rfl) (fun _ _ _ h => h) (Or.inl ⟨by rfl, fun x hSw => ?hyz2_3⟩) hHeld ?restz2_3
  case hyz2_3 =>
    have k0 := keepB hSw ec0; have k1 := keepB hSw ec1; have k2 := keepB hSw ec2; have k3 := keepB hSw ec3
    go_simp
    try with_reducible rfl
  try simp only [Act.put, List.setIfInBounds_toArray, List.set_cons_zero, List.set_cons_succ]
  refine' wpAnyH_take (i := 4) (oi := ({ dst := some 23, op := Op.move (Operand.tmp 0), type := 120, pos := "l6_journal.go:240", after := #[], guard := none } : Oper)) (v := _) rfl (by kernel_rfl) (by kernel_rfl) (by kernel_rfl) (fun _ _ _ h => h) (Or.inl ⟨by rfl, fun x hSw => ?hyz2_4⟩) hHeld ?restz2_4
  case hyz2_4 =>
    have k0 := keepB hSw ec0; have k1 := keepB hSw ec1; have k2 := keepB hSw ec2; have k3 := keepB hSw ec3
    go_simp
    try with_reducible rfl
  try simp only [Act.put, List.setIfInBounds_toArray, List.set_cons_zero, List.set_cons_succ]
  refine' wpAnyH_take (i := 5) (oi := ({ dst := some 24, op := Op.nilCheck (Operand.tmp 23), type := 0, pos := "l6_journal.go:240", after := #[{ on := 4, ground := Ground.data }], guard := none } : Oper)) (v := _) rfl (by kernel_rfl) (by kernel_rfl) (by kernel_rfl) (fun _ _ _ h => h) (Or.inl ⟨by rfl, fun x hSw => ?hyz2_5⟩) hHeld ?restz2_5
  case hyz2_5 =>
    have k0 := keepB hSw ec0; have k1 := keepB hSw ec1; have k2 := keepB hSw ec2; have k3 := keepB hSw ec3
    go_simp
    try with_reducible rfl
  try simp only [Act.put, List.setIfInBounds_toArray, List.set_cons_zero, List.set_cons_succ]
  refine' wpAnyH_take (i := 6) (oi := ({ dst := some 25, op := Op.fieldAddr 77 (Operand.tmp 24) 1, type := 0, pos := "l6_journal.go:240", after := #[{ on := 5, ground := Ground.data }], guard := none } : Oper)) (v := _) rfl (by kernel_rfl) (by kernel_rfl) (by kernel_rfl) (fun _ _ _ h => h) (Or.inl ⟨by rfl, fun x hSw => ?hyz2_6⟩) hHeld ?restz2_6
  case hyz2_6 =>
    have k0 := keepB hSw ec0; have k1 := keepB hSw ec1; have k2 := keepB hSw ec2; have k3 := keepB hSw ec3
    go_simp
    try with_reducible rfl
  try simp only [Act.put, List.setIfInBounds_toArray, List.set_cons_zero, List.set_cons_succ]
  refine' wpAnyH_take (i := 7) (oi := ({ dst := some 26, op := Op.load 3 (Operand.tmp 25), type := 3, pos := "l6_journal.go:240", after := #[{ on := 6, ground := Ground.data }], guard := none } : Oper)) (v := _) rfl (by kernel_rfl) (by kernel_rfl) (by kernel_rfl) (fun _ _ _ h => h) (Or.inl ⟨by rfl, fun x hSw => ?hyz2_7⟩) hHeld ?restz2_7
  case hyz2_7 =>
    have k0 := keepB hSw ec0; have k1 := keepB hSw ec1; have k2 := keepB hSw ec2; have k3 := keepB hSw ec3
    go_simp
    try with_reducible rfl
  try simp only [Act.put, List.setIfInBounds_toArray, List.set_cons_zero, List.set_cons_succ]
  refine' wpAnyH_take (i := 8) (oi := ({ dst := some 27, op := Op.binOp BinOp.eql 3 (Operand.tmp 22) (Operand.tmp 26) 3, type := 4, pos := "l6_journal.go:240", after := #[{ on := 3, ground := Ground.data }, { on := 7, ground := Ground.data }], guard := none } : Oper)) (v := .bool false) rfl (by kernel_rfl) (by kernel_rfl) (by kernel_rfl) (fun _ _ _ h => h) (Or.inl ⟨by rfl, fun x hSw => ?hyz2_8⟩) hHeld ?restz2_8
  case hyz2_8 =>
    have k0 := keepB hSw ec0; have k1 := keepB hSw ec1; have k2 := keepB hSw ec2; have k3 := keepB hSw ec3
    go_simp
    try with_reducible rfl
  try simp only [Act.put, List.setIfInBounds_toArray, List.set_cons_zero, List.set_cons_succ]
  refine wpAnyH_done (by kernel_rfl) ?_ _
  have hH := hHeld
  go_wp2
  by_cases hfa : x2 + 1 = x4
  · have hst : Hid (tk x2 x3 x4 false = (x2 + 1, false, 12)) := by
      show _ = _
      unfold tk
      rw [if_neg (by simp), if_neg HM.out, if_neg HC.out, if_pos hfa]
    have q3 : (x2 + 1 == x4) = true := by simp [hfa]
    clear hfa
    refine wp_region_held_drew (S := fun x => Below W3.heap.size W3 x) (by kernel_rfl) (bstep hH (bdrew1 _)) (fun hHeld => ?_)
    refine' wpAnyH_take (i := 0) (oi := ({ dst := some 31, op := Op.move (Operand.tmp 0), type := 120, pos := "l6_journal.go:244", after := #[], guard := none } : Oper)) (v := _) rfl (by kernel_rfl) (by kernel_rfl) (by kernel_rfl) (fun _ _ _ h => h) (Or.inl ⟨by rfl, fun x hSw => ?hyz3_0⟩) hHeld ?restz3_0
    case hyz3_0 =>
      have k0 := keepB hSw ec0; have k1 := keepB hSw ec1; have k2 := keepB hSw ec2; have k3 := keepB hSw ec3
      go_simp
      try with_reducible rfl
    try simp only [Act.put, List.setIfInBounds_toArray, List.set_cons_zero, List.set_cons_succ]
    refine' wpAnyH_take (i := 1) (oi := ({ dst := some 32, op := Op.nilCheck (Operand.tmp 31), type := 0, pos := "l6_journal.go:244", after := #[{ on := 0, ground := Ground.data }], guard := none } : Oper)) (v := _) rfl (by kernel_rfl) (by kernel_rfl) (by kernel_rfl) (fun _ _ _ h => h) (Or.inl ⟨by rfl, fun x hSw => ?hyz3_1⟩) hHeld ?restz3_1
    case hyz3_1 =>
      have k0 := keepB hSw ec0; have k1 := keepB hSw ec1; have k2 := keepB hSw ec2; have k3 := keepB hSw ec3
      go_simp
      try with_reducible rfl
    try simp only [Act.put, List.setIfInBounds_toArray, List.set_cons_zero, List.set_cons_succ]
    refine' wpAnyH_take (i := 2) (oi := ({ dst := some 33, op := Op.fieldAddr 77 (Operand.tmp 32) 0, type := 0, pos := "l6_journal.go:244", after := #[{ on := 1, ground := Ground.data }], guard := none } : Oper)) (v := _) rfl (by kernel_rfl) (by kernel_rfl) (by kernel_rfl) (fun _ _ _ h => h) (Or.inl ⟨by rfl, fun x hSw => ?hyz3_2⟩) hHeld ?restz3_2
    case hyz3_2 =>
      have k0 := keepB hSw ec0; have k1 := keepB hSw ec1; have k2 := keepB hSw ec2; have k3 := keepB hSw ec3
      go_simp
      try with_reducible rfl
    try simp only [Act.put, List.setIfInBounds_toArray, List.set_cons_zero, List.set_cons_succ]
    refine' wpAnyH_take (i := 3) (oi := ({ dst := some 34, op := Op.load 3 (Operand.tmp 33), type := 3, pos := "l6_journal.go:244", after := #[{ on := 2, ground := Ground.data }], guard := none } : Oper)) (v := _) rfl (by kernel_rfl) (by kernel_rfl) (by kernel_rfl) (fun _ _ _ h => h) (Or.inl ⟨by rfl, fun x hSw => ?hyz3_3⟩) hHeld ?restz3_3
    case hyz3_3 =>
      have k0 := keepB hSw ec0; have k1 := keepB hSw ec1; have k2 := keepB hSw ec2; have k3 := keepB hSw ec3
      go_simp
      try with_reducible rfl
    try simp only [Act.put, List.setIfInBounds_toArray, List.set_cons_zero, List.set_cons_succ]
    refine' wpAnyH_take (i := 4) (oi := ({ dst := some 35, op := Op.move (Operand.tmp 0), type := 120, pos := "l6_journal.go:244", after := #[], guard := none } : Oper)) (v := _) rfl (by kernel_rfl) (by kernel_rfl) (by kernel_rfl) (fun _ _ _ h => h) (Or.inl ⟨by rfl, fun x hSw => ?hyz3_4⟩) hHeld ?restz3_4
    case hyz3_4 =>
      have k0 := keepB hSw ec0; have k1 := keepB hSw ec1; have k2 := keepB hSw ec2; have k3 := keepB hSw ec3
      go_simp
      try with_reducible rfl
    try simp only [Act.put, List.setIfInBounds_toArray, List.set_cons_zero, List.set_cons_succ]
    refine' wpAnyH_take (i := 5) (oi := ({ dst := some 36, op := Op.nilCheck (Operand.tmp 35), type := 0, pos := "l6_journal.go:244", after := #[{ on := 4, ground := Ground.data }], guard := none } : Oper)) (v := _) rfl (by kernel_rfl) (by kernel_rfl) (by kernel_rfl) (fun _ _ _ h => h) (Or.inl ⟨by rfl, fun x hSw => ?hyz3_5⟩) hHeld ?restz3_5
    case hyz3_5 =>
      have k0 := keepB hSw ec0; have k1 := keepB hSw ec1; have k2 := keepB hSw ec2; have k3 := keepB hSw ec3
      go_simp
      try with_reducible rfl
    try simp only [Act.put, List.setIfInBounds_toArray, List.set_cons_zero, List.set_cons_succ]
    refine' wpAnyH_take (i := 6) (oi := ({ dst := some 37, op := Op.fieldAddr 77 (Operand.tmp 36) 2, type := 0, pos := "l6_journal.go:244", after := #[{ on := 5, ground := Ground.data }], guard := none } : Oper)) (v := _) rfl (by kernel_rfl) (by kernel_rfl) (by kernel_rfl) (fun _ _ _ h => h) (Or.inl ⟨by rfl, fun x hSw => ?hyz3_6⟩) hHeld ?restz3_6
    case hyz3_6 =>
      have k0 := keepB hSw ec0; have k1 := keepB hSw ec1; have k2 := keepB hSw ec2; have k3 := keepB hSw ec3
      go_simp
      try with_reducible rfl
    try simp only [Act.put, List.setIfInBounds_toArray, List.set_cons_zero, List.set_cons_succ]
    refine' wpAnyH_take (i := 7) (oi := ({ dst := some 38, op := Op.load 3 (Operand.tmp 37), type := 3, pos := "l6_journal.go:244", after := #[{ on := 6, ground := Ground.data }], guard := none } : Oper)) (v := _) rfl (by kernel_rfl) (by kernel_rfl) (by kernel_rfl) (fun _ _ _ h => h) (Or.inl ⟨by rfl, fun x hSw => ?hyz3_7⟩) hHeld ?restz3_7
    case hyz3_7 =>
      have k0 := keepB hSw ec0; have k1 := keepB hSw ec1; have k2 := keepB hSw ec2; have k3 := keepB hSw ec3
      go_simp
      try with_reducible rfl
    try simp only [Act.put, List.setIfInBounds_toArray, List.set_cons_zero, List.set_cons_succ]
    refine' wpAnyH_take (i := 8) (oi := ({ dst := some 39, op := Op.binOp BinOp.eql 3 (Operand.tmp 34) (Operand.tmp 38) 3, type := 4, pos := "l6_journal.go:244", after := #[{ on := 3, ground := Ground.data }, { on := 7, ground := Ground.data }], guard := none } : Oper)) (v := .bool true) rfl (by kernel_rfl) (by kernel_rfl) (by kernel_rfl) (fun _ _ _ h => h) (Or.inl ⟨by rfl, fun x hSw => ?hyz3_8⟩) hHeld ?restz3_8
    case hyz3_8 =>
      have k0 := keepB hSw ec0; have k1 := keepB hSw ec1; have k2 := keepB hSw ec2; have k3 := keepB hSw ec3
      go_simp
      try with_reducible rfl
    try simp only [Act.put, List.setIfInBounds_toArray, List.set_cons_zero, List.set_cons_succ]
    refine wpAnyH_done (by kernel_rfl) ?_ _
    go_wp2
    go_ret
    exact (by rw [hst.out]; exact ⟨rfl, hD3.later hHeld, grown_below hg3 hHeld⟩)
  · have hst : Hid (tk x2 x3 x4 false = (x2 + 1, false, 0)) := by
      show _ = _
      unfold tk
      rw [if_neg (by simp), if_neg HM.out, if_neg HC.out, if_neg hfa]
    have q3 : (x2 + 1 == x4) = false := by simp [hfa]
    clear hfa
    refine wp_region_held_drew (S := fun x => Below W3.heap.size W3 x) (by kernel_rfl) (bstep hH (bdrew1 _)) (fun hHeld => ?_)
    refine' wpAnyH_take (i := 0) (oi := ({ dst := some 31, op := Op.move (Operand.tmp 0), type := 120, pos := "l6_journal.go:244", after := #[], guard := none } : Oper)) (v := _) rfl (by kernel_rfl) (by kernel_rfl) (by kernel_rfl) (fun _ _ _ h => h) (Or.inl ⟨by rfl, fun x hSw => ?hyz4_0⟩) hHeld ?restz4_0
    case hyz4_0 =>
      have k0 := keepB hSw ec0; have k1 := keepB hSw ec1; have k2 := keepB hSw ec2; have k3 := keepB hSw ec3
      go_simp
      try with_reducible rfl
    try simp only [Act.put, List.setIfInBounds_toArray, List.set_cons_zero, List.set_cons_succ]
    refine' wpAnyH_take (i := 1) (oi := ({ dst := some 32, op := Op.nilCheck (Operand.tmp 31), type := 0, pos := "l6_journal.go:244", after := #[{ on := 0, ground := Ground.data }], guard := none } : Oper)) (v := _) rfl (by kernel_rfl) (by kernel_rfl) (by kernel_rfl) (fun _ _ _ h => h) (Or.inl ⟨by rfl, fun x hSw => ?hyz4_1⟩) hHeld ?restz4_1
    case hyz4_1 =>
      have k0 := keepB hSw ec0; have k1 := keepB hSw ec1; have k2 := keepB hSw ec2; have k3 := keepB hSw ec3
      go_simp
      try with_reducible rfl
    try simp only [Act.put, List.setIfInBounds_toArray, List.set_cons_zero, List.set_cons_succ]
    refine' wpAnyH_take (i := 2) (oi := ({ dst := some 33, op := Op.fieldAddr 77 (Operand.tmp 32) 0, type := 0, pos := "l6_journal.go:244", after := #[{ on := 1, ground := Ground.data }], guard := none } : Oper)) (v := _) rfl (by kernel_rfl) (by kernel_rfl) (by kernel_rfl) (fun _ _ _ h => h) (Or.inl ⟨by rfl, fun x hSw => ?hyz4_2⟩) hHeld ?restz4_2
    case hyz4_2 =>
      have k0 := keepB hSw ec0; have k1 := keepB hSw ec1; have k2 := keepB hSw ec2; have k3 := keepB hSw ec3
      go_simp
      try with_reducible rfl
    try simp only [Act.put, List.setIfInBounds_toArray, List.set_cons_zero, List.set_cons_succ]
    refine' wpAnyH_take (i := 3) (oi := ({ dst := some 34, op := Op.load 3 (Operand.tmp 33), type := 3, pos := "l6_journal.go:244", after := #[{ on := 2, ground := Ground.data }], guard := none } : Oper)) (v := _) rfl (by kernel_rfl) (by kernel_rfl) (by kernel_rfl) (fun _ _ _ h => h) (Or.inl ⟨by rfl, fun x hSw => ?hyz4_3⟩) hHeld ?restz4_3
    case hyz4_3 =>
      have k0 := keepB hSw ec0; have k1 := keepB hSw ec1; have k2 := keepB hSw ec2; have k3 := keepB hSw ec3
      go_simp
      try with_reducible rfl
    try simp only [Act.put, List.setIfInBounds_toArray, List.set_cons_zero, List.set_cons_succ]
    refine' wpAnyH_take (i := 4) (oi := ({ dst := some 35, op := Op.move (Operand.tmp 0), type := 120, pos := "l6_journal.go:244", after := #[], guard := none } : Oper)) (v := _) rfl (by kernel_rfl) (by kernel_rfl) (by kernel_rfl) (fun _ _ _ h => h) (Or.inl ⟨by rfl, fun x hSw => ?hyz4_4⟩) hHeld ?restz4_4
    case hyz4_4 =>
      have k0 := keepB hSw ec0; have k1 := keepB hSw ec1; have k2 := keepB hSw ec2; have k3 := keepB hSw ec3
      go_simp
      try with_reducible rfl
    try simp only [Act.put, List.setIfInBounds_toArray, List.set_cons_zero, List.set_cons_succ]
    refine' wpAnyH_take (i := 5) (oi := ({ dst := some 36, op := Op.nilCheck (Operand.tmp 35), type := 0, pos := "l6_journal.go:244", after := #[{ on := 4, ground := Ground.data }], guard := none } : Oper)) (v := _) rfl (by kernel_rfl) (by kernel_rfl) (by kernel_rfl) (fun _ _ _ h => h) (Or.inl ⟨by rfl, fun x hSw => ?hyz4_5⟩) hHeld ?restz4_5
    case hyz4_5 =>
      have k0 := keepB hSw ec0; have k1 := keepB hSw ec1; have k2 := keepB hSw ec2; have k3 := keepB hSw ec3
      go_simp
      try with_reducible rfl
    try simp only [Act.put, List.setIfInBounds_toArray, List.set_cons_zero, List.set_cons_succ]
    refine' wpAnyH_take (i := 6) (oi := ({ dst := some 37, op := Op.fieldAddr 77 (Operand.tmp 36) 2, type := 0, pos := "l6_journal.go:244", after := #[{ on := 5, ground := Ground.data }], guard := none } : Oper)) (v := _) rfl (by kernel_rfl) (by kernel_rfl) (by kernel_rfl) (fun _ _ _ h => h) (Or.inl ⟨by rfl, fun x hSw => ?hyz4_6⟩) hHeld ?restz4_6
    case hyz4_6 =>
      have k0 := keepB hSw ec0; have k1 := keepB hSw ec1; have k2 := keepB hSw ec2; have k3 := keepB hSw ec3
      go_simp
      try with_reducible rfl
    try simp only [Act.put, List.setIfInBounds_toArray, List.set_cons_zero, List.set_cons_succ]
    refine' wpAnyH_take (i := 7) (oi := ({ dst := some 38, op := Op.load 3 (Operand.tmp 37), type := 3, pos := "l6_journal.go:244", after := #[{ on := 6, ground := Ground.data }], guard := none } : Oper)) (v := _) rfl (by kernel_rfl) (by kernel_rfl) (by kernel_rfl) (fun _ _ _ h => h) (Or.inl ⟨by rfl, fun x hSw => ?hyz4_7⟩) hHeld ?restz4_7
    case hyz4_7 =>
      have k0 := keepB hSw ec0; have k1 := keepB hSw ec1; have k2 := keepB hSw ec2; have k3 := keepB hSw ec3
      go_simp
      try with_reducible rfl
    try simp only [Act.put, List.setIfInBounds_toArray, List.set_cons_zero, List.set_cons_succ]
    refine' wpAnyH_take (i := 8) (oi := ({ dst := some 39, op := Op.binOp BinOp.eql 3 (Operand.tmp 34) (Operand.tmp 38) 3, type := 4, pos := "l6_journal.go:244", after := #[{ on := 3, ground := Ground.data }, { on := 7, ground := Ground.data }], guard := none } : Oper)) (v := .bool false) rfl (by kernel_rfl) (by kernel_rfl) (by kernel_rfl) (fun _ _ _ h => h) (Or.inl ⟨by rfl, fun x hSw => ?hyz4_8⟩) hHeld ?restz4_8
    case hyz4_8 =>
      have k0 := keepB hSw ec0; have k1 := keepB hSw ec1; have k2 := keepB hSw ec2; have k3 := keepB hSw ec3
      go_simp
      try with_reducible rfl
    try simp only [Act.put, List.setIfInBounds_toArray, List.set_cons_zero, List.set_cons_succ]
    refine wpAnyH_done (by kernel_rfl) ?_ _
    go_wp2
    go_ret
    exact (by rw [hst.out]; exact ⟨rfl, hD3.later hHeld, grown_below hg3 hHeld⟩)
end Go.Proofs.YtngppfjphbodcaaGreatDoor
