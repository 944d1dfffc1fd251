/-
  FsStep, the program's side: the meter ticks.
-/
import Derived.Test.YtdbcihebhgpblaaDoorKg
namespace Go.Proofs.YtdbcihebhgpblaaDoor
open Go.RowKit
abbrev qOa0 : Oper := { dst := some 19, op := Op.move (Operand.tmp 0), type := 151, pos := "l6_journal.go:240", after := #[], guard := none }
abbrev qOa1 : Oper := { dst := some 20, op := Op.nilCheck (Operand.tmp 19), type := 0, pos := "l6_journal.go:240", after := #[{ on := 0, ground := Ground.data }], guard := none }
abbrev qOa2 : Oper := { dst := some 21, op := Op.fieldAddr 102 (Operand.tmp 20) 0, type := 0, pos := "l6_journal.go:240", after := #[{ on := 1, ground := Ground.data }], guard := none }
abbrev qOa3 : Oper := { dst := some 22, op := Op.load 3 (Operand.tmp 21), type := 3, pos := "l6_journal.go:240", after := #[{ on := 2, ground := Ground.data }], guard := none }
abbrev qOa4 : Oper := { dst := some 23, op := Op.move (Operand.tmp 0), type := 151, pos := "l6_journal.go:240", after := #[], guard := none }
abbrev qOa5 : Oper := { dst := some 24, op := Op.nilCheck (Operand.tmp 23), type := 0, pos := "l6_journal.go:240", after := #[{ on := 4, ground := Ground.data }], guard := none }
abbrev qOa6 : Oper := { dst := some 25, op := Op.fieldAddr 102 (Operand.tmp 24) 1, type := 0, pos := "l6_journal.go:240", after := #[{ on := 5, ground := Ground.data }], guard := none }
abbrev qOa7 : Oper := { dst := some 26, op := Op.load 3 (Operand.tmp 25), type := 3, pos := "l6_journal.go:240", after := #[{ on := 6, ground := Ground.data }], guard := none }
abbrev qOa8 : Oper := { dst := some 27, op := Op.binOp BinOp.eql 3 (Operand.tmp 22) (Operand.tmp 26) 3, type := 4, pos := "l6_journal.go:240", after := #[{ on := 3, ground := Ground.data }, { on := 7, ground := Ground.data }], guard := none }
abbrev qOa9 : Oper := { dst := some 31, op := Op.move (Operand.tmp 0), type := 151, pos := "l6_journal.go:244", after := #[], guard := none }
abbrev qOa10 : Oper := { dst := some 32, op := Op.nilCheck (Operand.tmp 31), type := 0, pos := "l6_journal.go:244", after := #[{ on := 0, ground := Ground.data }], guard := none }
abbrev qOa11 : Oper := { dst := some 33, op := Op.fieldAddr 102 (Operand.tmp 32) 0, type := 0, pos := "l6_journal.go:244", after := #[{ on := 1, ground := Ground.data }], guard := none }
abbrev qOa12 : Oper := { dst := some 34, op := Op.load 3 (Operand.tmp 33), type := 3, pos := "l6_journal.go:244", after := #[{ on := 2, ground := Ground.data }], guard := none }
abbrev qOa13 : Oper := { dst := some 35, op := Op.move (Operand.tmp 0), type := 151, pos := "l6_journal.go:244", after := #[], guard := none }
abbrev qOa14 : Oper := { dst := some 36, op := Op.nilCheck (Operand.tmp 35), type := 0, pos := "l6_journal.go:244", after := #[{ on := 4, ground := Ground.data }], guard := none }
abbrev qOa15 : Oper := { dst := some 37, op := Op.fieldAddr 102 (Operand.tmp 36) 2, type := 0, pos := "l6_journal.go:244", after := #[{ on := 5, ground := Ground.data }], guard := none }
abbrev qOa16 : Oper := { dst := some 38, op := Op.load 3 (Operand.tmp 37), type := 3, pos := "l6_journal.go:244", after := #[{ on := 6, ground := Ground.data }], guard := none }
abbrev qOa17 : Oper := { dst := some 39, op := Op.binOp BinOp.eql 3 (Operand.tmp 34) (Operand.tmp 38) 3, type := 4, pos := "l6_journal.go:244", after := #[{ on := 3, ground := Ground.data }, { on := 7, ground := Ground.data }], guard := none }
theorem grown_below {w wr W : World} {r : Option Nat} (h : w.grownBy wr r) (hb : Below wr.heap.size wr W) : w.grownBy W r :=
  ⟨hb.os.trans h.os, hb.tape.trans h.tape, hb.output.trans h.output, Nat.le_trans h.size hb.size, fun i hi hne => (hb.block i (Nat.lt_of_lt_of_le hi h.size)).trans (h.block i hi hne)⟩
/-- What a tick answers: Count, Down, the code. -/
def tk (x2 x3 x4 : Int) (x5 : Bool) : Int × Bool × Int :=
  if x5 then (x2, x5, 11)
  else if x2 = 1000000000000000 then (x2, x5, 12)
  else if x2 + 1 = x3 then (x2 + 1, true, 11)
  else if x2 + 1 = x4 then (x2 + 1, x5, 12)
  else (x2 + 1, x5, 0)
def Ticked (w w' : World) (p : Nat) (v : Value) (x1 x3 x4 : Int) (T : Int × Bool × Int) (e : Ending) : Prop := e = .returned (.int .i64 T.2.2) ∧ DkAt w' p v x1 T.1 x3 x4 T.2.1 ∧ w.grownBy w' (some p)
set_option maxRecDepth 20000 in
set_option maxHeartbeats 4000000 in
theorem iTick (p : Nat) (v : Value) (x1 x2 x3 x4 : Int) (x5 : Bool) (w : World) (h : DkAt w p v x1 x2 x3 x4 x5) (hx0 : 0 ≤ x2) (hx1 : x2 ≤ 1000000000000000) : Calls Tryd.prog 63 #[.pointer (some ⟨p, 0, none⟩)] w fun e w' => Ticked w w' p v x1 x3 x4 (tk x2 x3 x4 x5) e := by
  have dc0 : w.cell? ⟨p, 0, none⟩ = some (.int .i64 x2) := (cell_of_row _ _ 0 _ _ _ h).trans rfl
  have df0 : w.frozen? ⟨p, 0, none⟩ = false := frozen_of_row _ _ 0 _ _ h
  have dc1 : w.cell? ⟨p, 1, none⟩ = some (.int .i64 x3) := (cell_of_row _ _ 1 _ _ _ h).trans rfl
  have df1 : w.frozen? ⟨p, 1, none⟩ = false := frozen_of_row _ _ 1 _ _ h
  have dc2 : w.cell? ⟨p, 2, none⟩ = some (.int .i64 x4) := (cell_of_row _ _ 2 _ _ _ h).trans rfl
  have df2 : w.frozen? ⟨p, 2, none⟩ = false := frozen_of_row _ _ 2 _ _ h
  have dc3 : w.cell? ⟨p, 3, none⟩ = some (.bool x5) := (cell_of_row _ _ 3 _ _ _ h).trans rfl
  have df3 : w.frozen? ⟨p, 3, none⟩ = false := frozen_of_row _ _ 3 _ _ h
  cases x5
  rotate_left
  · have hst : Hid (tk x2 x3 x4 true = (x2, true, 11)) := by simp [Hid, tk]
    go_enter Tryd.func63, Tryd.ntmps63
    go_wp2
    go_ret
    exact (by rw [hst.out]; exact ⟨rfl, h, grown_refl _ _⟩)
  by_cases hmx : x2 = 1000000000000000
  · have hst : Hid (tk x2 x3 x4 false = (x2, false, 12)) := by simp [Hid, tk, hmx]
    have hq : (x2 == 1000000000000000) = true := by simp [hmx]
    clear hmx
    go_enter Tryd.func63, Tryd.ntmps63
    go_wp2
    go_ret
    exact (by rw [hst.out]; exact ⟨rfl, h, grown_refl _ _⟩)
  have hq : (x2 == 1000000000000000) = false := by simp [hmx]
  have HM : Hid (¬ x2 = 1000000000000000) := hmx
  clear hmx
  go_enter Tryd.func63, Tryd.ntmps63
  go_upto_region 6 with fail
  have hD3 : DkAt (w.setCell ⟨p, 0, none⟩ (.int .i64 (x2 + 1))) p v x1 (x2 + 1) x3 x4 false := heap_setCell_same _ _ 0 _ _ _ h
  have hg3 : w.grownBy (w.setCell ⟨p, 0, none⟩ (.int .i64 (x2 + 1))) (some p) := grown_step (grown_refl _ _) (Below.refl _ _)
  obtain ⟨W3, hW3⟩ : ∃ W3, w.setCell ⟨p, 0, none⟩ (.int .i64 (x2 + 1)) = W3 := ⟨_, rfl⟩
  rw [hW3] at hD3 hg3 ⊢
  clear hW3 dc0 df0 dc1 df1 dc2 df2 dc3 df3
  have ec0 : W3.cell? ⟨p, 0, none⟩ = some (.int .i64 (x2 + 1)) := (cell_of_row _ _ 0 _ _ _ hD3).trans rfl
  have ef0 : W3.frozen? ⟨p, 0, none⟩ = false := frozen_of_row _ _ 0 _ _ hD3
  have ec1 : W3.cell? ⟨p, 1, none⟩ = some (.int .i64 x3) := (cell_of_row _ _ 1 _ _ _ hD3).trans rfl
  have ef1 : W3.frozen? ⟨p, 1, none⟩ = false := frozen_of_row _ _ 1 _ _ hD3
  have ec2 : W3.cell? ⟨p, 2, none⟩ = some (.int .i64 x4) := (cell_of_row _ _ 2 _ _ _ hD3).trans rfl
  have ef2 : W3.frozen? ⟨p, 2, none⟩ = false := frozen_of_row _ _ 2 _ _ hD3
  have ec3 : W3.cell? ⟨p, 3, none⟩ = some (.bool false) := (cell_of_row _ _ 3 _ _ _ hD3).trans rfl
  have ef3 : W3.frozen? ⟨p, 3, none⟩ = false := frozen_of_row _ _ 3 _ _ hD3
  by_cases hcr : x2 + 1 = x3
  · have hst : Hid (tk x2 x3 x4 false = (x2 + 1, true, 11)) := by
      show _ = _
      unfold tk
      rw [if_neg (by simp), if_neg HM.out, if_pos hcr]
    have q2 : (x2 + 1 == x3) = true := by simp [hcr]
    clear hcr
    refine wp_region_held_drew (S := fun x => Below W3.heap.size W3 x) (by kernel_rfl) (bdrew1 _) (fun hHeld => ?_)
    refine' takeF (i := 0) (oi := qOa0) rfl ⟨by rfl, fun x hSw => ?h1⟩ hHeld ?r1
    case h1 =>
      go_simp
      try with_reducible rfl
    try simp only [Act.put, List.setIfInBounds_toArray, List.set_cons_zero, List.set_cons_succ]
    refine' takeF (i := 1) (oi := qOa1) rfl ⟨by rfl, fun x hSw => ?h2⟩ hHeld ?r2
    case h2 =>
      go_simp
      try with_reducible rfl
    try simp only [Act.put, List.setIfInBounds_toArray, List.set_cons_zero, List.set_cons_succ]
    refine' takeF (i := 2) (oi := qOa2) rfl ⟨by rfl, fun x hSw => ?h3⟩ hHeld ?r3
    case h3 =>
      go_simp
      try with_reducible rfl
    try simp only [Act.put, List.setIfInBounds_toArray, List.set_cons_zero, List.set_cons_succ]
    refine' takeF (i := 3) (oi := qOa3) rfl ⟨by rfl, fun x hSw => ?h4⟩ hHeld ?r4
    case h4 =>
      have k0 := keepB hSw ec0; have k1 := keepB hSw ec1; have k2 := keepB hSw ec2; have k3 := keepB hSw ec3
      go_simp
      try with_reducible rfl
    try simp only [Act.put, List.setIfInBounds_toArray, List.set_cons_zero, List.set_cons_succ]
    refine' takeF (i := 4) (oi := qOa4) rfl ⟨by rfl, fun x hSw => ?h5⟩ hHeld ?r5
    case h5 =>
      go_simp
      try with_reducible rfl
    try simp only [Act.put, List.setIfInBounds_toArray, List.set_cons_zero, List.set_cons_succ]
    refine' takeF (i := 5) (oi := qOa5) rfl ⟨by rfl, fun x hSw => ?h6⟩ hHeld ?r6
    case h6 =>
      go_simp
      try with_reducible rfl
    try simp only [Act.put, List.setIfInBounds_toArray, List.set_cons_zero, List.set_cons_succ]
    refine' takeF (i := 6) (oi := qOa6) rfl ⟨by rfl, fun x hSw => ?h7⟩ hHeld ?r7
    case h7 =>
      go_simp
      try with_reducible rfl
    try simp only [Act.put, List.setIfInBounds_toArray, List.set_cons_zero, List.set_cons_succ]
    refine' takeF (i := 7) (oi := qOa7) rfl ⟨by rfl, fun x hSw => ?h8⟩ hHeld ?r8
    case h8 =>
      have k0 := keepB hSw ec0; have k1 := keepB hSw ec1; have k2 := keepB hSw ec2; have k3 := keepB hSw ec3
      go_simp
      try with_reducible rfl
    try simp only [Act.put, List.setIfInBounds_toArray, List.set_cons_zero, List.set_cons_succ]
    refine' wpAnyH_take (i := 8) (oi := qOa8) (v := .bool true) rfl (by kernel_rfl) (by kernel_rfl) (by kernel_rfl) (fun _ _ _ h => h) (Or.inl ⟨by rfl, fun x hSw => ?hyz1_8⟩) hHeld ?restz1_8
    case hyz1_8 =>
      have k0 := keepB hSw ec0; have k1 := keepB hSw ec1; have k2 := keepB hSw ec2; have k3 := keepB hSw ec3
      go_simp
      try with_reducible rfl
    try simp only [Act.put, List.setIfInBounds_toArray, List.set_cons_zero, List.set_cons_succ]
    refine wpAnyH_done (by kernel_rfl) ?_ _
    have hD4 := hD3.later hHeld
    have gc0 : W3.drew.cell? ⟨p, 0, none⟩ = some (.int .i64 (x2 + 1)) := (cell_of_row _ _ 0 _ _ _ hD4).trans rfl
    have gf0 : W3.drew.frozen? ⟨p, 0, none⟩ = false := frozen_of_row _ _ 0 _ _ hD4
    have gc1 : W3.drew.cell? ⟨p, 1, none⟩ = some (.int .i64 x3) := (cell_of_row _ _ 1 _ _ _ hD4).trans rfl
    have gf1 : W3.drew.frozen? ⟨p, 1, none⟩ = false := frozen_of_row _ _ 1 _ _ hD4
    have gc2 : W3.drew.cell? ⟨p, 2, none⟩ = some (.int .i64 x4) := (cell_of_row _ _ 2 _ _ _ hD4).trans rfl
    have gf2 : W3.drew.frozen? ⟨p, 2, none⟩ = false := frozen_of_row _ _ 2 _ _ hD4
    have gc3 : W3.drew.cell? ⟨p, 3, none⟩ = some (.bool false) := (cell_of_row _ _ 3 _ _ _ hD4).trans rfl
    have gf3 : W3.drew.frozen? ⟨p, 3, none⟩ = false := frozen_of_row _ _ 3 _ _ hD4
    go_wp2
    go_ret
    exact (by rw [hst.out]; exact ⟨rfl, heap_setCell_same _ _ 3 _ _ _ hD4, grown_step hg3 hHeld⟩)
  have q2 : (x2 + 1 == x3) = false := by simp [hcr]
  have HC : Hid (¬ x2 + 1 = x3) := hcr
  clear hcr
  refine wp_region_held_drew (S := fun x => Below W3.heap.size W3 x) (by kernel_rfl) (bdrew1 _) (fun hHeld => ?_)
  refine' takeF (i := 0) (oi := qOa0) rfl ⟨by rfl, fun x hSw => ?h9⟩ hHeld ?r9
  case h9 =>
    go_simp
    try with_reducible rfl
  try simp only [Act.put, List.setIfInBounds_toArray, List.set_cons_zero, List.set_cons_succ]
  refine' takeF (i := 1) (oi := qOa1) rfl ⟨by rfl, fun x hSw => ?h10⟩ hHeld ?r10
  case h10 =>
    go_simp
    try with_reducible rfl
  try simp only [Act.put, List.setIfInBounds_toArray, List.set_cons_zero, List.set_cons_succ]
  refine' takeF (i := 2) (oi := qOa2) rfl ⟨by rfl, fun x hSw => ?h11⟩ hHeld ?r11
  case h11 =>
    go_simp
    try with_reducible rfl
  try simp only [Act.put, List.setIfInBounds_toArray, List.set_cons_zero, List.set_cons_succ]
  refine' takeF (i := 3) (oi := qOa3) rfl ⟨by rfl, fun x hSw => ?h12⟩ hHeld ?r12
  case h12 =>
    have k0 := keepB hSw ec0; have k1 := keepB hSw ec1; have k2 := keepB hSw ec2; have k3 := keepB hSw ec3
    go_simp
    try with_reducible rfl
  try simp only [Act.put, List.setIfInBounds_toArray, List.set_cons_zero, List.set_cons_succ]
  refine' takeF (i := 4) (oi := qOa4) rfl ⟨by rfl, fun x hSw => ?h13⟩ hHeld ?r13
  case h13 =>
    go_simp
    try with_reducible rfl
  try simp only [Act.put, List.setIfInBounds_toArray, List.set_cons_zero, List.set_cons_succ]
  refine' takeF (i := 5) (oi := qOa5) rfl ⟨by rfl, fun x hSw => ?h14⟩ hHeld ?r14
  case h14 =>
    go_simp
    try with_reducible rfl
  try simp only [Act.put, List.setIfInBounds_toArray, List.set_cons_zero, List.set_cons_succ]
  refine' takeF (i := 6) (oi := qOa6) rfl ⟨by rfl, fun x hSw => ?h15⟩ hHeld ?r15
  case h15 =>
    go_simp
    try with_reducible rfl
  try simp only [Act.put, List.setIfInBounds_toArray, List.set_cons_zero, List.set_cons_succ]
  refine' takeF (i := 7) (oi := qOa7) rfl ⟨by rfl, fun x hSw => ?h16⟩ hHeld ?r16
  case h16 =>
    have k0 := keepB hSw ec0; have k1 := keepB hSw ec1; have k2 := keepB hSw ec2; have k3 := keepB hSw ec3
    go_simp
    try with_reducible rfl
  try simp only [Act.put, List.setIfInBounds_toArray, List.set_cons_zero, List.set_cons_succ]
  refine' wpAnyH_take (i := 8) (oi := qOa8) (v := .bool false) rfl (by kernel_rfl) (by kernel_rfl) (by kernel_rfl) (fun _ _ _ h => h) (Or.inl ⟨by rfl, fun x hSw => ?hyz2_8⟩) hHeld ?restz2_8
  case hyz2_8 =>
    have k0 := keepB hSw ec0; have k1 := keepB hSw ec1; have k2 := keepB hSw ec2; have k3 := keepB hSw ec3
    go_simp
    try with_reducible rfl
  try simp only [Act.put, List.setIfInBounds_toArray, List.set_cons_zero, List.set_cons_succ]
  refine wpAnyH_done (by kernel_rfl) ?_ _
  have hH := hHeld
  go_wp2
  by_cases hfa : x2 + 1 = x4
  · have hst : Hid (tk x2 x3 x4 false = (x2 + 1, false, 12)) := by
      show _ = _
      unfold tk
      rw [if_neg (by simp), if_neg HM.out, if_neg HC.out, if_pos hfa]
    have q3 : (x2 + 1 == x4) = true := by simp [hfa]
    clear hfa
    refine wp_region_held_drew (S := fun x => Below W3.heap.size W3 x) (by kernel_rfl) (bstep hH (bdrew1 _)) (fun hHeld => ?_)
    refine' takeF (i := 0) (oi := qOa9) rfl ⟨by rfl, fun x hSw => ?h17⟩ hHeld ?r17
    case h17 =>
      go_simp
      try with_reducible rfl
    try simp only [Act.put, List.setIfInBounds_toArray, List.set_cons_zero, List.set_cons_succ]
    refine' takeF (i := 1) (oi := qOa10) rfl ⟨by rfl, fun x hSw => ?h18⟩ hHeld ?r18
    case h18 =>
      go_simp
      try with_reducible rfl
    try simp only [Act.put, List.setIfInBounds_toArray, List.set_cons_zero, List.set_cons_succ]
    refine' takeF (i := 2) (oi := qOa11) rfl ⟨by rfl, fun x hSw => ?h19⟩ hHeld ?r19
    case h19 =>
      go_simp
      try with_reducible rfl
    try simp only [Act.put, List.setIfInBounds_toArray, List.set_cons_zero, List.set_cons_succ]
    refine' takeF (i := 3) (oi := qOa12) rfl ⟨by rfl, fun x hSw => ?h20⟩ hHeld ?r20
    case h20 =>
      have k0 := keepB hSw ec0; have k1 := keepB hSw ec1; have k2 := keepB hSw ec2; have k3 := keepB hSw ec3
      go_simp
      try with_reducible rfl
    try simp only [Act.put, List.setIfInBounds_toArray, List.set_cons_zero, List.set_cons_succ]
    refine' takeF (i := 4) (oi := qOa13) rfl ⟨by rfl, fun x hSw => ?h21⟩ hHeld ?r21
    case h21 =>
      go_simp
      try with_reducible rfl
    try simp only [Act.put, List.setIfInBounds_toArray, List.set_cons_zero, List.set_cons_succ]
    refine' takeF (i := 5) (oi := qOa14) rfl ⟨by rfl, fun x hSw => ?h22⟩ hHeld ?r22
    case h22 =>
      go_simp
      try with_reducible rfl
    try simp only [Act.put, List.setIfInBounds_toArray, List.set_cons_zero, List.set_cons_succ]
    refine' takeF (i := 6) (oi := qOa15) rfl ⟨by rfl, fun x hSw => ?h23⟩ hHeld ?r23
    case h23 =>
      go_simp
      try with_reducible rfl
    try simp only [Act.put, List.setIfInBounds_toArray, List.set_cons_zero, List.set_cons_succ]
    refine' takeF (i := 7) (oi := qOa16) rfl ⟨by rfl, fun x hSw => ?h24⟩ hHeld ?r24
    case h24 =>
      have k0 := keepB hSw ec0; have k1 := keepB hSw ec1; have k2 := keepB hSw ec2; have k3 := keepB hSw ec3
      go_simp
      try with_reducible rfl
    try simp only [Act.put, List.setIfInBounds_toArray, List.set_cons_zero, List.set_cons_succ]
    refine' wpAnyH_take (i := 8) (oi := qOa17) (v := .bool true) rfl (by kernel_rfl) (by kernel_rfl) (by kernel_rfl) (fun _ _ _ h => h) (Or.inl ⟨by rfl, fun x hSw => ?hyz3_8⟩) hHeld ?restz3_8
    case hyz3_8 =>
      have k0 := keepB hSw ec0; have k1 := keepB hSw ec1; have k2 := keepB hSw ec2; have k3 := keepB hSw ec3
      go_simp
      try with_reducible rfl
    try simp only [Act.put, List.setIfInBounds_toArray, List.set_cons_zero, List.set_cons_succ]
    refine wpAnyH_done (by kernel_rfl) ?_ _
    go_wp2
    go_ret
    exact (by rw [hst.out]; exact ⟨rfl, hD3.later hHeld, grown_below hg3 hHeld⟩)
  · have hst : Hid (tk x2 x3 x4 false = (x2 + 1, false, 0)) := by
      show _ = _
      unfold tk
      rw [if_neg (by simp), if_neg HM.out, if_neg HC.out, if_neg hfa]
    have q3 : (x2 + 1 == x4) = false := by simp [hfa]
    clear hfa
    refine wp_region_held_drew (S := fun x => Below W3.heap.size W3 x) (by kernel_rfl) (bstep hH (bdrew1 _)) (fun hHeld => ?_)
    refine' takeF (i := 0) (oi := qOa9) rfl ⟨by rfl, fun x hSw => ?h25⟩ hHeld ?r25
    case h25 =>
      go_simp
      try with_reducible rfl
    try simp only [Act.put, List.setIfInBounds_toArray, List.set_cons_zero, List.set_cons_succ]
    refine' takeF (i := 1) (oi := qOa10) rfl ⟨by rfl, fun x hSw => ?h26⟩ hHeld ?r26
    case h26 =>
      go_simp
      try with_reducible rfl
    try simp only [Act.put, List.setIfInBounds_toArray, List.set_cons_zero, List.set_cons_succ]
    refine' takeF (i := 2) (oi := qOa11) rfl ⟨by rfl, fun x hSw => ?h27⟩ hHeld ?r27
    case h27 =>
      go_simp
      try with_reducible rfl
    try simp only [Act.put, List.setIfInBounds_toArray, List.set_cons_zero, List.set_cons_succ]
    refine' takeF (i := 3) (oi := qOa12) rfl ⟨by rfl, fun x hSw => ?h28⟩ hHeld ?r28
    case h28 =>
      have k0 := keepB hSw ec0; have k1 := keepB hSw ec1; have k2 := keepB hSw ec2; have k3 := keepB hSw ec3
      go_simp
      try with_reducible rfl
    try simp only [Act.put, List.setIfInBounds_toArray, List.set_cons_zero, List.set_cons_succ]
    refine' takeF (i := 4) (oi := qOa13) rfl ⟨by rfl, fun x hSw => ?h29⟩ hHeld ?r29
    case h29 =>
      go_simp
      try with_reducible rfl
    try simp only [Act.put, List.setIfInBounds_toArray, List.set_cons_zero, List.set_cons_succ]
    refine' takeF (i := 5) (oi := qOa14) rfl ⟨by rfl, fun x hSw => ?h30⟩ hHeld ?r30
    case h30 =>
      go_simp
      try with_reducible rfl
    try simp only [Act.put, List.setIfInBounds_toArray, List.set_cons_zero, List.set_cons_succ]
    refine' takeF (i := 6) (oi := qOa15) rfl ⟨by rfl, fun x hSw => ?h31⟩ hHeld ?r31
    case h31 =>
      go_simp
      try with_reducible rfl
    try simp only [Act.put, List.setIfInBounds_toArray, List.set_cons_zero, List.set_cons_succ]
    refine' takeF (i := 7) (oi := qOa16) rfl ⟨by rfl, fun x hSw => ?h32⟩ hHeld ?r32
    case h32 =>
      have k0 := keepB hSw ec0; have k1 := keepB hSw ec1; have k2 := keepB hSw ec2; have k3 := keepB hSw ec3
      go_simp
      try with_reducible rfl
    try simp only [Act.put, List.setIfInBounds_toArray, List.set_cons_zero, List.set_cons_succ]
    refine' wpAnyH_take (i := 8) (oi := qOa17) (v := .bool false) rfl (by kernel_rfl) (by kernel_rfl) (by kernel_rfl) (fun _ _ _ h => h) (Or.inl ⟨by rfl, fun x hSw => ?hyz4_8⟩) hHeld ?restz4_8
    case hyz4_8 =>
      have k0 := keepB hSw ec0; have k1 := keepB hSw ec1; have k2 := keepB hSw ec2; have k3 := keepB hSw ec3
      go_simp
      try with_reducible rfl
    try simp only [Act.put, List.setIfInBounds_toArray, List.set_cons_zero, List.set_cons_succ]
    refine wpAnyH_done (by kernel_rfl) ?_ _
    go_wp2
    go_ret
    exact (by rw [hst.out]; exact ⟨rfl, hD3.later hHeld, grown_below hg3 hHeld⟩)
end Go.Proofs.YtdbcihebhgpblaaDoor
