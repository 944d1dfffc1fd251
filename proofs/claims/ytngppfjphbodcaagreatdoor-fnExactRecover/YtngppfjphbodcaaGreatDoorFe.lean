/-
  FsValid: both sides.
-/
import Derived.Test.YtngppfjphbodcaaGreatDoorFc
import Derived.Deep.RegionHeld3
namespace Go.Proofs.YtngppfjphbodcaaGreatDoor
open Go.RowKit
theorem bdrew (w : World) : Below w.heap.size w w.drew := undrew (Below.refl _ _)
/-- A file may stand at place k. -/
def ltN (F : Nat → Fil) (k : Nat) : Bool := decide (k = 0) || Op.bytesLess (F (k - 1)).s.toList (F k).s.toList
def okFl (F : Nat → Fil) (k : Nat) : Bool := okFn (F k).s && btw (F k).y 0 (F k).d.size
def okFs (n : Nat) (F : Nat → Fil) (x1 x2 x3 x4 : Int) : Bool := decide (n ≤ 300) && btw x1 0 1000000000 && decide ((sumD F n : Int) ≤ x1) && allN n (fun k => okFl F k && ltN F k) && btw x2 0 1000000000000000 && btw x3 0 1000000000000000 && btw x4 0 1000000000000000
set_option maxRecDepth 20000 in
set_option maxHeartbeats 2000000 in
theorem sBytes (a : Option Addr) (n c : Nat) (F : Nat → Fil) (x1 x2 x3 x4 : Int) (x5 : Bool) (w : World) (h : FL w a n F) (hS : Small n F) : Calls Tryz.prog 34 #[.agg #[.slice a n c, .int .i64 x1, .int .i64 x2, .int .i64 x3, .int .i64 x4, .bool x5]] w fun e w' => e = .returned (.int .i64 (sumD F n : Nat)) ∧ Below w.heap.size w w' := by
  have hn := hS.n
  have hb0 := bal w (.cells #[.slice a n c, .int .i64 x1, .int .i64 x2, .int .i64 x3, .int .i64 x4, .bool x5] 28)
  go_enter Tryz.func34, Tryz.ntmps34
  go_wp2
  go_loopw [3, 5, 9] (fun s _ i wr => ∃ k : Nat, k ≤ n ∧ i = .int .i64 k ∧ s = .int .i64 (sumD F k : Nat) ∧ Below w.heap.size w wr) (fun _ _ i _ => n - (intOf i).toNat)
  case atStart => exact ⟨0, by omega, rfl, rfl, hb0⟩
  case round =>
    obtain ⟨k, hk, rfl, rfl, hb⟩ := hrel
    by_cases hlt : k < n
    · obtain ⟨b, off, rfl, c0, c1, c2⟩ := h.later hb k hlt
      have z1 := hS.d k hlt
      have z2 := hS.sum k hk
      have HS : Hid (sumD F (k + 1) = sumD F k + (F k).d.size) := rfl
      go_wp2
      go_roundw
      case rel => exact ⟨k + 1, by omega, by go_num, by rw [HS.out]; go_num, bj hb (Below.refl _ _)⟩
      case measure => simp [intOf]; omega
    · obtain rfl : k = n := by omega
      go_wp2
      go_ret
      exact ⟨rfl, hb⟩
set_option maxRecDepth 20000 in
set_option maxHeartbeats 2000000 in
theorem iBytes (a : Option Addr) (n c : Nat) (F : Nat → Fil) (w : World) (h : FL w a n F) (hS : Small n F) : Calls Tryz.prog 43 #[.slice a n c] w fun e w' => e = .returned (.int .i64 (sumD F n : Nat)) ∧ Below w.heap.size w w' := by
  have hn := hS.n
  have hb0 := Below.refl w.heap.size w
  go_enter Tryz.func43, Tryz.ntmps43
  go_wp2
  go_loopw [3, 5, 8] (fun s _ i wr => ∃ k : Nat, k ≤ n ∧ i = .int .i64 k ∧ s = .int .i64 (sumD F k : Nat) ∧ Below w.heap.size w wr) (fun _ _ i _ => n - (intOf i).toNat)
  case atStart => exact ⟨0, by omega, rfl, rfl, hb0⟩
  case round =>
    obtain ⟨k, hk, rfl, rfl, hb⟩ := hrel
    by_cases hlt : k < n
    · obtain ⟨b, off, rfl, c0, c1, c2⟩ := h.later hb k hlt
      have z1 := hS.d k hlt
      have z2 := hS.sum k hk
      have HS : Hid (sumD F (k + 1) = sumD F k + (F k).d.size) := rfl
      go_wp2
      go_roundw
      case rel => exact ⟨k + 1, by omega, by go_num, by rw [HS.out]; go_num, bj hb (Below.refl _ _)⟩
      case measure => simp [intOf]; omega
    · obtain rfl : k = n := by omega
      go_wp2
      go_ret
      exact ⟨rfl, hb⟩
set_option maxRecDepth 20000 in
set_option maxHeartbeats 1000000 in
theorem isNaN (s : ByteArray) (w : World) : Calls Tryz.prog 62 #[.string s] w fun e w' => e = .returned (.bool false) ∧ w' = w := by
  have hq := eqS_same s
  go_enter Tryz.func62, Tryz.ntmps62
  go_wp2
  go_ret
  exact ⟨rfl, rfl⟩
set_option maxRecDepth 20000 in
set_option maxHeartbeats 1000000 in
theorem cmpLess (s s' : ByteArray) (w : World) : Calls Tryz.prog 52 #[.string s, .string s'] w fun e w' => e = .returned (.bool (Op.bytesLess s.toList s'.toList)) ∧ w' = w := by
  rcases hl : Op.bytesLess s.toList s'.toList
  all_goals
    go_enter Tryz.func52, Tryz.ntmps52
    go_wp2_with (go_at_call 62; refine (isNaN _ _).mono ?_; rintro e w1 ⟨rfl, rfl⟩)
    go_ret
    exact ⟨rfl, rfl⟩
set_option maxRecDepth 20000 in
set_option maxHeartbeats 1000000 in
theorem iFileNm (s d : ByteArray) (y : Int) (w : World) : Calls Tryz.prog 40 #[.agg #[.string s, .string d, .int .i64 y]] w fun e w' => e = .returned (.string s) ∧ Below w.heap.size w w' := by
  go_enter Tryz.func40, Tryz.ntmps40
  go_wp2
  go_ret
  exact ⟨rfl, bal _ _⟩
set_option maxRecDepth 20000 in
set_option maxHeartbeats 8000000 in
theorem sValid (a : Option Addr) (n c : Nat) (F : Nat → Fil) (x1 x2 x3 x4 : Int) (x5 : Bool) (w : World) (h : FL w a n F) (hS : Small n F) : Calls Tryz.prog 16 #[.agg #[.slice a n c, .int .i64 x1, .int .i64 x2, .int .i64 x3, .int .i64 x4, .bool x5]] w fun e w' => e = .returned (.bool (okFs n F x1 x2 x3 x4)) ∧ Below w.heap.size w w' := by
  have hn := hS.n
  have hb0 := bal w (.cells #[.slice a n c, .int .i64 x1, .int .i64 x2, .int .i64 x3, .int .i64 x4, .bool x5] 28)
  have B0 : (w.alloc (.cells #[.slice a n c, .int .i64 x1, .int .i64 x2, .int .i64 x3, .int .i64 x4, .bool x5] 28)).cell? ⟨w.heap.size, 0, none⟩ = some (.slice a n c) := cell_of_row _ _ 0 _ _ _ (heap_alloc_new w _)
  have B1 : (w.alloc (.cells #[.slice a n c, .int .i64 x1, .int .i64 x2, .int .i64 x3, .int .i64 x4, .bool x5] 28)).cell? ⟨w.heap.size, 1, none⟩ = some (.int .i64 x1) := cell_of_row _ _ 1 _ _ _ (heap_alloc_new w _)
  have B2 : (w.alloc (.cells #[.slice a n c, .int .i64 x1, .int .i64 x2, .int .i64 x3, .int .i64 x4, .bool x5] 28)).cell? ⟨w.heap.size, 2, none⟩ = some (.int .i64 x2) := cell_of_row _ _ 2 _ _ _ (heap_alloc_new w _)
  have B3 : (w.alloc (.cells #[.slice a n c, .int .i64 x1, .int .i64 x2, .int .i64 x3, .int .i64 x4, .bool x5] 28)).cell? ⟨w.heap.size, 3, none⟩ = some (.int .i64 x3) := cell_of_row _ _ 3 _ _ _ (heap_alloc_new w _)
  have B4 : (w.alloc (.cells #[.slice a n c, .int .i64 x1, .int .i64 x2, .int .i64 x3, .int .i64 x4, .bool x5] 28)).cell? ⟨w.heap.size, 4, none⟩ = some (.int .i64 x4) := cell_of_row _ _ 4 _ _ _ (heap_alloc_new w _)
  have B5 : (w.alloc (.cells #[.slice a n c, .int .i64 x1, .int .i64 x2, .int .i64 x3, .int .i64 x4, .bool x5] 28)).cell? ⟨w.heap.size, 5, none⟩ = some (.bool x5) := cell_of_row _ _ 5 _ _ _ (heap_alloc_new w _)
  by_cases h1 : 300 < n
  · have d1 : decide ((300 : Int) < (n : Int)) = true := by simp; omega
    have HF : Hid (okFs n F x1 x2 x3 x4 = false) := by simp [Hid, okFs]; omega
    go_enter Tryz.func16, Tryz.ntmps16
    go_wp2
    refine wp_region_held_drew (S := fun x => Below (w.alloc (.cells #[.slice a n c, .int .i64 x1, .int .i64 x2, .int .i64 x3, .int .i64 x4, .bool x5] 28)).heap.size (w.alloc (.cells #[.slice a n c, .int .i64 x1, .int .i64 x2, .int .i64 x3, .int .i64 x4, .bool x5] 28)) x) (by kernel_rfl) (bdrew _) (fun hHeld => ?_)
    refine' wpAnyH_take (i := 0) (oi := ({ dst := some 5, op := Op.fieldAddr 28 (Operand.tmp 1) 0, type := 0, pos := "l6_journal.go:26", after := #[], guard := none } : Oper)) (v := _) rfl (by kernel_rfl) (by kernel_rfl) (by kernel_rfl) (fun _ _ _ h => h) (Or.inl ⟨by rfl, fun x hSw => ?hyz1_0⟩) hHeld ?restz1_0
    case hyz1_0 =>
      have k0 := keepB hSw B0; have k1 := keepB hSw B1; have k2 := keepB hSw B2; have k3 := keepB hSw B3; have k4 := keepB hSw B4; have k5 := keepB hSw B5
      go_simp
      try with_reducible rfl
    try simp only [Act.put, List.setIfInBounds_toArray, List.set_cons_zero, List.set_cons_succ]
    refine' wpAnyH_take (i := 1) (oi := ({ dst := some 6, op := Op.load 26 (Operand.tmp 5), type := 26, pos := "l6_journal.go:26", after := #[{ on := 0, ground := Ground.data }], guard := none } : Oper)) (v := _) rfl (by kernel_rfl) (by kernel_rfl) (by kernel_rfl) (fun _ _ _ h => h) (Or.inl ⟨by rfl, fun x hSw => ?hyz1_1⟩) hHeld ?restz1_1
    case hyz1_1 =>
      have k0 := keepB hSw B0; have k1 := keepB hSw B1; have k2 := keepB hSw B2; have k3 := keepB hSw B3; have k4 := keepB hSw B4; have k5 := keepB hSw B5
      go_simp
      try with_reducible rfl
    try simp only [Act.put, List.setIfInBounds_toArray, List.set_cons_zero, List.set_cons_succ]
    refine' wpAnyH_take (i := 2) (oi := ({ dst := some 7, op := Op.call { callee := Callee.builtin Builtin.len, args := #[Operand.tmp 6], argTypes := #[26] }, type := 3, pos := "l6_journal.go:26", after := #[{ on := 1, ground := Ground.data }], guard := none } : Oper)) (v := _) rfl (by kernel_rfl) (by kernel_rfl) (by kernel_rfl) (fun _ _ _ h => h) (Or.inl ⟨by rfl, fun x hSw => ?hyz1_2⟩) hHeld ?restz1_2
    case hyz1_2 =>
      have k0 := keepB hSw B0; have k1 := keepB hSw B1; have k2 := keepB hSw B2; have k3 := keepB hSw B3; have k4 := keepB hSw B4; have k5 := keepB hSw B5
      go_simp
      try with_reducible rfl
    try simp only [Act.put, List.setIfInBounds_toArray, List.set_cons_zero, List.set_cons_succ]
    refine' wpAnyH_take (i := 3) (oi := ({ dst := some 8, op := Op.binOp BinOp.gtr 3 (Operand.tmp 7) (Operand.const (Value.int IntKind.i64 300)) 3, type := 4, pos := "l6_journal.go:26", after := #[{ on := 2, ground := Ground.data }], guard := none } : Oper)) (v := _) rfl (by kernel_rfl) (by kernel_rfl) (by kernel_rfl) (fun _ _ _ h => h) (Or.inl ⟨by rfl, fun x hSw => ?hyz1_3⟩) hHeld ?restz1_3
    case hyz1_3 =>
      have k0 := keepB hSw B0; have k1 := keepB hSw B1; have k2 := keepB hSw B2; have k3 := keepB hSw B3; have k4 := keepB hSw B4; have k5 := keepB hSw B5
      go_simp
      try with_reducible rfl
    try simp only [Act.put, List.setIfInBounds_toArray, List.set_cons_zero, List.set_cons_succ]
    refine' wpAnyH_take (i := 4) (oi := ({ dst := some 9, op := Op.move (Operand.tmp 8), type := 4, pos := "l6_journal.go:26", after := #[{ on := 3, ground := Ground.data }], guard := none } : Oper)) (v := _) rfl (by kernel_rfl) (by kernel_rfl) (by kernel_rfl) (fun _ _ _ h => h) (Or.inl ⟨by rfl, fun x hSw => ?hyz1_4⟩) hHeld ?restz1_4
    case hyz1_4 =>
      have k0 := keepB hSw B0; have k1 := keepB hSw B1; have k2 := keepB hSw B2; have k3 := keepB hSw B3; have k4 := keepB hSw B4; have k5 := keepB hSw B5
      go_simp
      try with_reducible rfl
    try simp only [Act.put, List.setIfInBounds_toArray, List.set_cons_zero, List.set_cons_succ]
    refine wpAnyH_take (i := 5) (oi := ({ dst := some 10, op := Op.fieldAddr 28 (Operand.tmp 1) 1, type := 0, pos := "l6_journal.go:26", after := #[{ on := 4, ground := Ground.guard }], guard := some (4, false) } : Oper)) (v := undef) rfl (by kernel_rfl) (by kernel_rfl) (by kernel_rfl) (fun _ _ _ h => h) (Or.inr ⟨by rfl, rfl⟩) hHeld ?_
    try simp only [Act.put, List.setIfInBounds_toArray, List.set_cons_zero, List.set_cons_succ]
    refine wpAnyH_take (i := 6) (oi := ({ dst := some 11, op := Op.load 3 (Operand.tmp 10), type := 3, pos := "l6_journal.go:26", after := #[{ on := 5, ground := Ground.data }, { on := 4, ground := Ground.guard }], guard := some (4, false) } : Oper)) (v := undef) rfl (by kernel_rfl) (by kernel_rfl) (by kernel_rfl) (fun _ _ _ h => h) (Or.inr ⟨by rfl, rfl⟩) hHeld ?_
    try simp only [Act.put, List.setIfInBounds_toArray, List.set_cons_zero, List.set_cons_succ]
    refine wpAnyH_take (i := 7) (oi := ({ dst := some 12, op := Op.call { callee := Callee.value (Operand.func 33), args := #[Operand.tmp 11, Operand.const (Value.int IntKind.i64 0), Operand.const (Value.int IntKind.i64 1000000000)], argTypes := #[3, 3, 3] }, type := 4, pos := "l6_journal.go:26", after := #[{ on := 6, ground := Ground.data }, { on := 4, ground := Ground.chain }, { on := 4, ground := Ground.guard }], guard := some (4, false) } : Oper)) (v := undef) rfl (by kernel_rfl) (by kernel_rfl) (by kernel_rfl) (fun _ _ _ h => h) (Or.inr ⟨by rfl, rfl⟩) hHeld ?_
    try simp only [Act.put, List.setIfInBounds_toArray, List.set_cons_zero, List.set_cons_succ]
    refine wpAnyH_take (i := 8) (oi := ({ dst := some 13, op := Op.unOp UnOp.not 4 (Operand.tmp 12), type := 4, pos := "l6_journal.go:26", after := #[{ on := 7, ground := Ground.data }, { on := 4, ground := Ground.guard }], guard := some (4, false) } : Oper)) (v := undef) rfl (by kernel_rfl) (by kernel_rfl) (by kernel_rfl) (fun _ _ _ h => h) (Or.inr ⟨by rfl, rfl⟩) hHeld ?_
    try simp only [Act.put, List.setIfInBounds_toArray, List.set_cons_zero, List.set_cons_succ]
    refine' wpAnyH_take (i := 9) (oi := ({ dst := some 14, op := Op.pick (Operand.tmp 9) (Operand.const (Value.bool true)) (Operand.tmp 13), type := 4, pos := "l6_journal.go:26", after := #[{ on := 4, ground := Ground.data }, { on := 8, ground := Ground.data }], guard := none } : Oper)) (v := _) rfl (by kernel_rfl) (by kernel_rfl) (by kernel_rfl) (fun _ _ _ h => h) (Or.inl ⟨by rfl, fun x hSw => ?hyz1_9⟩) hHeld ?restz1_9
    case hyz1_9 =>
      have k0 := keepB hSw B0; have k1 := keepB hSw B1; have k2 := keepB hSw B2; have k3 := keepB hSw B3; have k4 := keepB hSw B4; have k5 := keepB hSw B5
      go_simp
      try with_reducible rfl
    try simp only [Act.put, List.setIfInBounds_toArray, List.set_cons_zero, List.set_cons_succ]
    refine' wpAnyH_take (i := 10) (oi := ({ dst := some 15, op := Op.move (Operand.tmp 14), type := 4, pos := "l6_journal.go:26", after := #[{ on := 9, ground := Ground.data }, { on := 7, ground := Ground.chain }], guard := none } : Oper)) (v := _) rfl (by kernel_rfl) (by kernel_rfl) (by kernel_rfl) (fun _ _ _ h => h) (Or.inl ⟨by rfl, fun x hSw => ?hyz1_10⟩) hHeld ?restz1_10
    case hyz1_10 =>
      have k0 := keepB hSw B0; have k1 := keepB hSw B1; have k2 := keepB hSw B2; have k3 := keepB hSw B3; have k4 := keepB hSw B4; have k5 := keepB hSw B5
      go_simp
      try with_reducible rfl
    try simp only [Act.put, List.setIfInBounds_toArray, List.set_cons_zero, List.set_cons_succ]
    refine wpAnyH_take (i := 11) (oi := ({ dst := some 16, op := Op.load 28 (Operand.tmp 1), type := 28, pos := "l6_journal.go:26", after := #[{ on := 10, ground := Ground.guard }], guard := some (10, false) } : Oper)) (v := undef) rfl (by kernel_rfl) (by kernel_rfl) (by kernel_rfl) (fun _ _ _ h => h) (Or.inr ⟨by rfl, rfl⟩) hHeld ?_
    try simp only [Act.put, List.setIfInBounds_toArray, List.set_cons_zero, List.set_cons_succ]
    refine wpAnyH_take (i := 12) (oi := ({ dst := some 17, op := Op.call { callee := Callee.value (Operand.func 34), args := #[Operand.tmp 16], argTypes := #[28] }, type := 3, pos := "l6_journal.go:26", after := #[{ on := 11, ground := Ground.data }, { on := 10, ground := Ground.chain }, { on := 10, ground := Ground.guard }], guard := some (10, false) } : Oper)) (v := undef) rfl (by kernel_rfl) (by kernel_rfl) (by kernel_rfl) (fun _ _ _ h => h) (Or.inr ⟨by rfl, rfl⟩) hHeld ?_
    try simp only [Act.put, List.setIfInBounds_toArray, List.set_cons_zero, List.set_cons_succ]
    refine wpAnyH_take (i := 13) (oi := ({ dst := some 18, op := Op.fieldAddr 28 (Operand.tmp 1) 1, type := 0, pos := "l6_journal.go:26", after := #[{ on := 10, ground := Ground.guard }], guard := some (10, false) } : Oper)) (v := undef) rfl (by kernel_rfl) (by kernel_rfl) (by kernel_rfl) (fun _ _ _ h => h) (Or.inr ⟨by rfl, rfl⟩) hHeld ?_
    try simp only [Act.put, List.setIfInBounds_toArray, List.set_cons_zero, List.set_cons_succ]
    refine wpAnyH_take (i := 14) (oi := ({ dst := some 19, op := Op.load 3 (Operand.tmp 18), type := 3, pos := "l6_journal.go:26", after := #[{ on := 13, ground := Ground.data }, { on := 10, ground := Ground.guard }], guard := some (10, false) } : Oper)) (v := undef) rfl (by kernel_rfl) (by kernel_rfl) (by kernel_rfl) (fun _ _ _ h => h) (Or.inr ⟨by rfl, rfl⟩) hHeld ?_
    try simp only [Act.put, List.setIfInBounds_toArray, List.set_cons_zero, List.set_cons_succ]
    refine wpAnyH_take (i := 15) (oi := ({ dst := some 20, op := Op.binOp BinOp.gtr 3 (Operand.tmp 17) (Operand.tmp 19) 3, type := 4, pos := "l6_journal.go:26", after := #[{ on := 12, ground := Ground.data }, { on := 14, ground := Ground.data }, { on := 10, ground := Ground.guard }], guard := some (10, false) } : Oper)) (v := undef) rfl (by kernel_rfl) (by kernel_rfl) (by kernel_rfl) (fun _ _ _ h => h) (Or.inr ⟨by rfl, rfl⟩) hHeld ?_
    try simp only [Act.put, List.setIfInBounds_toArray, List.set_cons_zero, List.set_cons_succ]
    refine' wpAnyH_take (i := 16) (oi := ({ dst := some 21, op := Op.pick (Operand.tmp 15) (Operand.const (Value.bool true)) (Operand.tmp 20), type := 4, pos := "l6_journal.go:26", after := #[{ on := 10, ground := Ground.data }, { on := 15, ground := Ground.data }], guard := none } : Oper)) (v := _) rfl (by kernel_rfl) (by kernel_rfl) (by kernel_rfl) (fun _ _ _ h => h) (Or.inl ⟨by rfl, fun x hSw => ?hyz1_16⟩) hHeld ?restz1_16
    case hyz1_16 =>
      have k0 := keepB hSw B0; have k1 := keepB hSw B1; have k2 := keepB hSw B2; have k3 := keepB hSw B3; have k4 := keepB hSw B4; have k5 := keepB hSw B5
      go_simp
      try with_reducible rfl
    try simp only [Act.put, List.setIfInBounds_toArray, List.set_cons_zero, List.set_cons_succ]
    refine wpAnyH_done (by kernel_rfl) ?_ _
    go_wp2
    go_ret
    exact ⟨by rw [HF.out]; rfl, bstep hb0 hHeld⟩
  have d1 : decide ((300 : Int) < (n : Int)) = false := by simp; omega
  rcases h2 : btw x1 0 1000000000
  · have HF : Hid (okFs n F x1 x2 x3 x4 = false) := by simp [Hid, okFs, h2]
    go_enter Tryz.func16, Tryz.ntmps16
    go_wp2
    refine wp_region_held_drew (S := fun x => Below (w.alloc (.cells #[.slice a n c, .int .i64 x1, .int .i64 x2, .int .i64 x3, .int .i64 x4, .bool x5] 28)).heap.size (w.alloc (.cells #[.slice a n c, .int .i64 x1, .int .i64 x2, .int .i64 x3, .int .i64 x4, .bool x5] 28)) x) (by kernel_rfl) (bdrew _) (fun hHeld => ?_)
    refine' wpAnyH_take (i := 0) (oi := ({ dst := some 5, op := Op.fieldAddr 28 (Operand.tmp 1) 0, type := 0, pos := "l6_journal.go:26", after := #[], guard := none } : Oper)) (v := _) rfl (by kernel_rfl) (by kernel_rfl) (by kernel_rfl) (fun _ _ _ h => h) (Or.inl ⟨by rfl, fun x hSw => ?hyz2_0⟩) hHeld ?restz2_0
    case hyz2_0 =>
      have k0 := keepB hSw B0; have k1 := keepB hSw B1; have k2 := keepB hSw B2; have k3 := keepB hSw B3; have k4 := keepB hSw B4; have k5 := keepB hSw B5
      go_simp
      try with_reducible rfl
    try simp only [Act.put, List.setIfInBounds_toArray, List.set_cons_zero, List.set_cons_succ]
    refine' wpAnyH_take (i := 1) (oi := ({ dst := some 6, op := Op.load 26 (Operand.tmp 5), type := 26, pos := "l6_journal.go:26", after := #[{ on := 0, ground := Ground.data }], guard := none } : Oper)) (v := _) rfl (by kernel_rfl) (by kernel_rfl) (by kernel_rfl) (fun _ _ _ h => h) (Or.inl ⟨by rfl, fun x hSw => ?hyz2_1⟩) hHeld ?restz2_1
    case hyz2_1 =>
      have k0 := keepB hSw B0; have k1 := keepB hSw B1; have k2 := keepB hSw B2; have k3 := keepB hSw B3; have k4 := keepB hSw B4; have k5 := keepB hSw B5
      go_simp
      try with_reducible rfl
    try simp only [Act.put, List.setIfInBounds_toArray, List.set_cons_zero, List.set_cons_succ]
    refine' wpAnyH_take (i := 2) (oi := ({ dst := some 7, op := Op.call { callee := Callee.builtin Builtin.len, args := #[Operand.tmp 6], argTypes := #[26] }, type := 3, pos := "l6_journal.go:26", after := #[{ on := 1, ground := Ground.data }], guard := none } : Oper)) (v := _) rfl (by kernel_rfl) (by kernel_rfl) (by kernel_rfl) (fun _ _ _ h => h) (Or.inl ⟨by rfl, fun x hSw => ?hyz2_2⟩) hHeld ?restz2_2
    case hyz2_2 =>
      have k0 := keepB hSw B0; have k1 := keepB hSw B1; have k2 := keepB hSw B2; have k3 := keepB hSw B3; have k4 := keepB hSw B4; have k5 := keepB hSw B5
      go_simp
      try with_reducible rfl
    try simp only [Act.put, List.setIfInBounds_toArray, List.set_cons_zero, List.set_cons_succ]
    refine' wpAnyH_take (i := 3) (oi := ({ dst := some 8, op := Op.binOp BinOp.gtr 3 (Operand.tmp 7) (Operand.const (Value.int IntKind.i64 300)) 3, type := 4, pos := "l6_journal.go:26", after := #[{ on := 2, ground := Ground.data }], guard := none } : Oper)) (v := _) rfl (by kernel_rfl) (by kernel_rfl) (by kernel_rfl) (fun _ _ _ h => h) (Or.inl ⟨by rfl, fun x hSw => ?hyz2_3⟩) hHeld ?restz2_3
    case hyz2_3 =>
      have k0 := keepB hSw B0; have k1 := keepB hSw B1; have k2 := keepB hSw B2; have k3 := keepB hSw B3; have k4 := keepB hSw B4; have k5 := keepB hSw B5
      go_simp
      try with_reducible rfl
    try simp only [Act.put, List.setIfInBounds_toArray, List.set_cons_zero, List.set_cons_succ]
    refine' wpAnyH_take (i := 4) (oi := ({ dst := some 9, op := Op.move (Operand.tmp 8), type := 4, pos := "l6_journal.go:26", after := #[{ on := 3, ground := Ground.data }], guard := none } : Oper)) (v := _) rfl (by kernel_rfl) (by kernel_rfl) (by kernel_rfl) (fun _ _ _ h => h) (Or.inl ⟨by rfl, fun x hSw => ?hyz2_4⟩) hHeld ?restz2_4
    case hyz2_4 =>
      have k0 := keepB hSw B0; have k1 := keepB hSw B1; have k2 := keepB hSw B2; have k3 := keepB hSw B3; have k4 := keepB hSw B4; have k5 := keepB hSw B5
      go_simp
      try with_reducible rfl
    try simp only [Act.put, List.setIfInBounds_toArray, List.set_cons_zero, List.set_cons_succ]
    refine' wpAnyH_take (i := 5) (oi := ({ dst := some 10, op := Op.fieldAddr 28 (Operand.tmp 1) 1, type := 0, pos := "l6_journal.go:26", after := #[{ on := 4, ground := Ground.guard }], guard := some (4, false) } : Oper)) (v := _) rfl (by kernel_rfl) (by kernel_rfl) (by kernel_rfl) (fun _ _ _ h => h) (Or.inl ⟨by rfl, fun x hSw => ?hyz2_5⟩) hHeld ?restz2_5
    case hyz2_5 =>
      have k0 := keepB hSw B0; have k1 := keepB hSw B1; have k2 := keepB hSw B2; have k3 := keepB hSw B3; have k4 := keepB hSw B4; have k5 := keepB hSw B5
      go_simp
      try with_reducible rfl
    try simp only [Act.put, List.setIfInBounds_toArray, List.set_cons_zero, List.set_cons_succ]
    refine' wpAnyH_take (i := 6) (oi := ({ dst := some 11, op := Op.load 3 (Operand.tmp 10), type := 3, pos := "l6_journal.go:26", after := #[{ on := 5, ground := Ground.data }, { on := 4, ground := Ground.guard }], guard := some (4, false) } : Oper)) (v := _) rfl (by kernel_rfl) (by kernel_rfl) (by kernel_rfl) (fun _ _ _ h => h) (Or.inl ⟨by rfl, fun x hSw => ?hyz2_6⟩) hHeld ?restz2_6
    case hyz2_6 =>
      have k0 := keepB hSw B0; have k1 := keepB hSw B1; have k2 := keepB hSw B2; have k3 := keepB hSw B3; have k4 := keepB hSw B4; have k5 := keepB hSw B5
      go_simp
      try with_reducible rfl
    try simp only [Act.put, List.setIfInBounds_toArray, List.set_cons_zero, List.set_cons_succ]
    refine wpAnyH_ready (rs := [7]) (by kernel_rfl) (by simp) ?_
    refine AllReadyH.cons (o := ({ dst := some 12, op := Op.call { callee := Callee.value (Operand.func 33), args := #[Operand.tmp 11, Operand.const (Value.int IntKind.i64 0), Operand.const (Value.int IntKind.i64 1000000000)], argTypes := #[3, 3, 3] }, type := 4, pos := "l6_journal.go:26", after := #[{ on := 6, ground := Ground.data }, { on := 4, ground := Ground.chain }, { on := 4, ground := Ground.guard }], guard := some (4, false) } : Oper)) rfl (fun K hK => ?_) AllReadyH.nil
    go_simp
    refine (sBetween x1 0 1000000000 _).mono ?_
    rw [h2]; rintro e w1 ⟨rfl, rfl⟩
    refine hK.out _ _ (hHeld) (fun hHeld => ?_)
    clear hK K
    try simp only [Act.put, List.setIfInBounds_toArray, List.set_cons_zero, List.set_cons_succ]
    refine' wpAnyH_take (i := 8) (oi := ({ dst := some 13, op := Op.unOp UnOp.not 4 (Operand.tmp 12), type := 4, pos := "l6_journal.go:26", after := #[{ on := 7, ground := Ground.data }, { on := 4, ground := Ground.guard }], guard := some (4, false) } : Oper)) (v := _) rfl (by kernel_rfl) (by kernel_rfl) (by kernel_rfl) (fun _ _ _ h => h) (Or.inl ⟨by rfl, fun x hSw => ?hyz2_8⟩) hHeld ?restz2_8
    case hyz2_8 =>
      have k0 := keepB hSw B0; have k1 := keepB hSw B1; have k2 := keepB hSw B2; have k3 := keepB hSw B3; have k4 := keepB hSw B4; have k5 := keepB hSw B5
      go_simp
      try with_reducible rfl
    try simp only [Act.put, List.setIfInBounds_toArray, List.set_cons_zero, List.set_cons_succ]
    refine' wpAnyH_take (i := 9) (oi := ({ dst := some 14, op := Op.pick (Operand.tmp 9) (Operand.const (Value.bool true)) (Operand.tmp 13), type := 4, pos := "l6_journal.go:26", after := #[{ on := 4, ground := Ground.data }, { on := 8, ground := Ground.data }], guard := none } : Oper)) (v := _) rfl (by kernel_rfl) (by kernel_rfl) (by kernel_rfl) (fun _ _ _ h => h) (Or.inl ⟨by rfl, fun x hSw => ?hyz2_9⟩) hHeld ?restz2_9
    case hyz2_9 =>
      have k0 := keepB hSw B0; have k1 := keepB hSw B1; have k2 := keepB hSw B2; have k3 := keepB hSw B3; have k4 := keepB hSw B4; have k5 := keepB hSw B5
      go_simp
      try with_reducible rfl
    try simp only [Act.put, List.setIfInBounds_toArray, List.set_cons_zero, List.set_cons_succ]
    refine' wpAnyH_take (i := 10) (oi := ({ dst := some 15, op := Op.move (Operand.tmp 14), type := 4, pos := "l6_journal.go:26", after := #[{ on := 9, ground := Ground.data }, { on := 7, ground := Ground.chain }], guard := none } : Oper)) (v := _) rfl (by kernel_rfl) (by kernel_rfl) (by kernel_rfl) (fun _ _ _ h => h) (Or.inl ⟨by rfl, fun x hSw => ?hyz2_10⟩) hHeld ?restz2_10
    case hyz2_10 =>
      have k0 := keepB hSw B0; have k1 := keepB hSw B1; have k2 := keepB hSw B2; have k3 := keepB hSw B3; have k4 := keepB hSw B4; have k5 := keepB hSw B5
      go_simp
      try with_reducible rfl
    try simp only [Act.put, List.setIfInBounds_toArray, List.set_cons_zero, List.set_cons_succ]
    refine wpAnyH_take (i := 11) (oi := ({ dst := some 16, op := Op.load 28 (Operand.tmp 1), type := 28, pos := "l6_journal.go:26", after := #[{ on := 10, ground := Ground.guard }], guard := some (10, false) } : Oper)) (v := undef) rfl (by kernel_rfl) (by kernel_rfl) (by kernel_rfl) (fun _ _ _ h => h) (Or.inr ⟨by rfl, rfl⟩) hHeld ?_
    try simp only [Act.put, List.setIfInBounds_toArray, List.set_cons_zero, List.set_cons_succ]
    refine wpAnyH_take (i := 12) (oi := ({ dst := some 17, op := Op.call { callee := Callee.value (Operand.func 34), args := #[Operand.tmp 16], argTypes := #[28] }, type := 3, pos := "l6_journal.go:26", after := #[{ on := 11, ground := Ground.data }, { on := 10, ground := Ground.chain }, { on := 10, ground := Ground.guard }], guard := some (10, false) } : Oper)) (v := undef) rfl (by kernel_rfl) (by kernel_rfl) (by kernel_rfl) (fun _ _ _ h => h) (Or.inr ⟨by rfl, rfl⟩) hHeld ?_
    try simp only [Act.put, List.setIfInBounds_toArray, List.set_cons_zero, List.set_cons_succ]
    refine wpAnyH_take (i := 13) (oi := ({ dst := some 18, op := Op.fieldAddr 28 (Operand.tmp 1) 1, type := 0, pos := "l6_journal.go:26", after := #[{ on := 10, ground := Ground.guard }], guard := some (10, false) } : Oper)) (v := undef) rfl (by kernel_rfl) (by kernel_rfl) (by kernel_rfl) (fun _ _ _ h => h) (Or.inr ⟨by rfl, rfl⟩) hHeld ?_
    try simp only [Act.put, List.setIfInBounds_toArray, List.set_cons_zero, List.set_cons_succ]
    refine wpAnyH_take (i := 14) (oi := ({ dst := some 19, op := Op.load 3 (Operand.tmp 18), type := 3, pos := "l6_journal.go:26", after := #[{ on := 13, ground := Ground.data }, { on := 10, ground := Ground.guard }], guard := some (10, false) } : Oper)) (v := undef) rfl (by kernel_rfl) (by kernel_rfl) (by kernel_rfl) (fun _ _ _ h => h) (Or.inr ⟨by rfl, rfl⟩) hHeld ?_
    try simp only [Act.put, List.setIfInBounds_toArray, List.set_cons_zero, List.set_cons_succ]
    refine wpAnyH_take (i := 15) (oi := ({ dst := some 20, op := Op.binOp BinOp.gtr 3 (Operand.tmp 17) (Operand.tmp 19) 3, type := 4, pos := "l6_journal.go:26", after := #[{ on := 12, ground := Ground.data }, { on := 14, ground := Ground.data }, { on := 10, ground := Ground.guard }], guard := some (10, false) } : Oper)) (v := undef) rfl (by kernel_rfl) (by kernel_rfl) (by kernel_rfl) (fun _ _ _ h => h) (Or.inr ⟨by rfl, rfl⟩) hHeld ?_
    try simp only [Act.put, List.setIfInBounds_toArray, List.set_cons_zero, List.set_cons_succ]
    refine' wpAnyH_take (i := 16) (oi := ({ dst := some 21, op := Op.pick (Operand.tmp 15) (Operand.const (Value.bool true)) (Operand.tmp 20), type := 4, pos := "l6_journal.go:26", after := #[{ on := 10, ground := Ground.data }, { on := 15, ground := Ground.data }], guard := none } : Oper)) (v := _) rfl (by kernel_rfl) (by kernel_rfl) (by kernel_rfl) (fun _ _ _ h => h) (Or.inl ⟨by rfl, fun x hSw => ?hyz2_16⟩) hHeld ?restz2_16
    case hyz2_16 =>
      have k0 := keepB hSw B0; have k1 := keepB hSw B1; have k2 := keepB hSw B2; have k3 := keepB hSw B3; have k4 := keepB hSw B4; have k5 := keepB hSw B5
      go_simp
      try with_reducible rfl
    try simp only [Act.put, List.setIfInBounds_toArray, List.set_cons_zero, List.set_cons_succ]
    refine wpAnyH_done (by kernel_rfl) ?_ _
    go_wp2
    go_ret
    exact ⟨by rw [HF.out]; rfl, bstep hb0 hHeld⟩
  by_cases h3 : x1 < (sumD F n : Int)
  · have d3 : decide (x1 < (sumD F n : Int)) = true := by simp; omega
    have HF : Hid (okFs n F x1 x2 x3 x4 = false) := by
      have : decide ((sumD F n : Int) ≤ x1) = false := by simp; omega
      simp [Hid, okFs, this]
    go_enter Tryz.func16, Tryz.ntmps16
    go_wp2
    refine wp_region_held_drew (S := fun x => Below (w.alloc (.cells #[.slice a n c, .int .i64 x1, .int .i64 x2, .int .i64 x3, .int .i64 x4, .bool x5] 28)).heap.size (w.alloc (.cells #[.slice a n c, .int .i64 x1, .int .i64 x2, .int .i64 x3, .int .i64 x4, .bool x5] 28)) x) (by kernel_rfl) (bdrew _) (fun hHeld => ?_)
    refine' wpAnyH_take (i := 0) (oi := ({ dst := some 5, op := Op.fieldAddr 28 (Operand.tmp 1) 0, type := 0, pos := "l6_journal.go:26", after := #[], guard := none } : Oper)) (v := _) rfl (by kernel_rfl) (by kernel_rfl) (by kernel_rfl) (fun _ _ _ h => h) (Or.inl ⟨by rfl, fun x hSw => ?hyz3_0⟩) hHeld ?restz3_0
    case hyz3_0 =>
      have k0 := keepB hSw B0; have k1 := keepB hSw B1; have k2 := keepB hSw B2; have k3 := keepB hSw B3; have k4 := keepB hSw B4; have k5 := keepB hSw B5
      go_simp
      try with_reducible rfl
    try simp only [Act.put, List.setIfInBounds_toArray, List.set_cons_zero, List.set_cons_succ]
    refine' wpAnyH_take (i := 1) (oi := ({ dst := some 6, op := Op.load 26 (Operand.tmp 5), type := 26, pos := "l6_journal.go:26", after := #[{ on := 0, ground := Ground.data }], guard := none } : Oper)) (v := _) rfl (by kernel_rfl) (by kernel_rfl) (by kernel_rfl) (fun _ _ _ h => h) (Or.inl ⟨by rfl, fun x hSw => ?hyz3_1⟩) hHeld ?restz3_1
    case hyz3_1 =>
      have k0 := keepB hSw B0; have k1 := keepB hSw B1; have k2 := keepB hSw B2; have k3 := keepB hSw B3; have k4 := keepB hSw B4; have k5 := keepB hSw B5
      go_simp
      try with_reducible rfl
    try simp only [Act.put, List.setIfInBounds_toArray, List.set_cons_zero, List.set_cons_succ]
    refine' wpAnyH_take (i := 2) (oi := ({ dst := some 7, op := Op.call { callee := Callee.builtin Builtin.len, args := #[Operand.tmp 6], argTypes := #[26] }, type := 3, pos := "l6_journal.go:26", after := #[{ on := 1, ground := Ground.data }], guard := none } : Oper)) (v := _) rfl (by kernel_rfl) (by kernel_rfl) (by kernel_rfl) (fun _ _ _ h => h) (Or.inl ⟨by rfl, fun x hSw => ?hyz3_2⟩) hHeld ?restz3_2
    case hyz3_2 =>
      have k0 := keepB hSw B0; have k1 := keepB hSw B1; have k2 := keepB hSw B2; have k3 := keepB hSw B3; have k4 := keepB hSw B4; have k5 := keepB hSw B5
      go_simp
      try with_reducible rfl
    try simp only [Act.put, List.setIfInBounds_toArray, List.set_cons_zero, List.set_cons_succ]
    refine' wpAnyH_take (i := 3) (oi := ({ dst := some 8, op := Op.binOp BinOp.gtr 3 (Operand.tmp 7) (Operand.const (Value.int IntKind.i64 300)) 3, type := 4, pos := "l6_journal.go:26", after := #[{ on := 2, ground := Ground.data }], guard := none } : Oper)) (v := _) rfl (by kernel_rfl) (by kernel_rfl) (by kernel_rfl) (fun _ _ _ h => h) (Or.inl ⟨by rfl, fun x hSw => ?hyz3_3⟩) hHeld ?restz3_3
    case hyz3_3 =>
      have k0 := keepB hSw B0; have k1 := keepB hSw B1; have k2 := keepB hSw B2; have k3 := keepB hSw B3; have k4 := keepB hSw B4; have k5 := keepB hSw B5
      go_simp
      try with_reducible rfl
    try simp only [Act.put, List.setIfInBounds_toArray, List.set_cons_zero, List.set_cons_succ]
    refine' wpAnyH_take (i := 4) (oi := ({ dst := some 9, op := Op.move (Operand.tmp 8), type := 4, pos := "l6_journal.go:26", after := #[{ on := 3, ground := Ground.data }], guard := none } : Oper)) (v := _) rfl (by kernel_rfl) (by kernel_rfl) (by kernel_rfl) (fun _ _ _ h => h) (Or.inl ⟨by rfl, fun x hSw => ?hyz3_4⟩) hHeld ?restz3_4
    case hyz3_4 =>
      have k0 := keepB hSw B0; have k1 := keepB hSw B1; have k2 := keepB hSw B2; have k3 := keepB hSw B3; have k4 := keepB hSw B4; have k5 := keepB hSw B5
      go_simp
      try with_reducible rfl
    try simp only [Act.put, List.setIfInBounds_toArray, List.set_cons_zero, List.set_cons_succ]
    refine' wpAnyH_take (i := 5) (oi := ({ dst := some 10, op := Op.fieldAddr 28 (Operand.tmp 1) 1, type := 0, pos := "l6_journal.go:26", after := #[{ on := 4, ground := Ground.guard }], guard := some (4, false) } : Oper)) (v := _) rfl (by kernel_rfl) (by kernel_rfl) (by kernel_rfl) (fun _ _ _ h => h) (Or.inl ⟨by rfl, fun x hSw => ?hyz3_5⟩) hHeld ?restz3_5
    case hyz3_5 =>
      have k0 := keepB hSw B0; have k1 := keepB hSw B1; have k2 := keepB hSw B2; have k3 := keepB hSw B3; have k4 := keepB hSw B4; have k5 := keepB hSw B5
      go_simp
      try with_reducible rfl
    try simp only [Act.put, List.setIfInBounds_toArray, List.set_cons_zero, List.set_cons_succ]
    refine' wpAnyH_take (i := 6) (oi := ({ dst := some 11, op := Op.load 3 (Operand.tmp 10), type := 3, pos := "l6_journal.go:26", after := #[{ on := 5, ground := Ground.data }, { on := 4, ground := Ground.guard }], guard := some (4, false) } : Oper)) (v := _) rfl (by kernel_rfl) (by kernel_rfl) (by kernel_rfl) (fun _ _ _ h => h) (Or.inl ⟨by rfl, fun x hSw => ?hyz3_6⟩) hHeld ?restz3_6
    case hyz3_6 =>
      have k0 := keepB hSw B0; have k1 := keepB hSw B1; have k2 := keepB hSw B2; have k3 := keepB hSw B3; have k4 := keepB hSw B4; have k5 := keepB hSw B5
      go_simp
      try with_reducible rfl
    try simp only [Act.put, List.setIfInBounds_toArray, List.set_cons_zero, List.set_cons_succ]
    refine wpAnyH_ready (rs := [7]) (by kernel_rfl) (by simp) ?_
    refine AllReadyH.cons (o := ({ dst := some 12, op := Op.call { callee := Callee.value (Operand.func 33), args := #[Operand.tmp 11, Operand.const (Value.int IntKind.i64 0), Operand.const (Value.int IntKind.i64 1000000000)], argTypes := #[3, 3, 3] }, type := 4, pos := "l6_journal.go:26", after := #[{ on := 6, ground := Ground.data }, { on := 4, ground := Ground.chain }, { on := 4, ground := Ground.guard }], guard := some (4, false) } : Oper)) rfl (fun K hK => ?_) AllReadyH.nil
    go_simp
    refine (sBetween x1 0 1000000000 _).mono ?_
    rw [h2]; rintro e w1 ⟨rfl, rfl⟩
    refine hK.out _ _ (hHeld) (fun hHeld => ?_)
    clear hK K
    try simp only [Act.put, List.setIfInBounds_toArray, List.set_cons_zero, List.set_cons_succ]
    refine' wpAnyH_take (i := 8) (oi := ({ dst := some 13, op := Op.unOp UnOp.not 4 (Operand.tmp 12), type := 4, pos := "l6_journal.go:26", after := #[{ on := 7, ground := Ground.data }, { on := 4, ground := Ground.guard }], guard := some (4, false) } : Oper)) (v := _) rfl (by kernel_rfl) (by kernel_rfl) (by kernel_rfl) (fun _ _ _ h => h) (Or.inl ⟨by rfl, fun x hSw => ?hyz3_8⟩) hHeld ?restz3_8
    case hyz3_8 =>
      have k0 := keepB hSw B0; have k1 := keepB hSw B1; have k2 := keepB hSw B2; have k3 := keepB hSw B3; have k4 := keepB hSw B4; have k5 := keepB hSw B5
      go_simp
      try with_reducible rfl
    try simp only [Act.put, List.setIfInBounds_toArray, List.set_cons_zero, List.set_cons_succ]
    refine' wpAnyH_take (i := 9) (oi := ({ dst := some 14, op := Op.pick (Operand.tmp 9) (Operand.const (Value.bool true)) (Operand.tmp 13), type := 4, pos := "l6_journal.go:26", after := #[{ on := 4, ground := Ground.data }, { on := 8, ground := Ground.data }], guard := none } : Oper)) (v := _) rfl (by kernel_rfl) (by kernel_rfl) (by kernel_rfl) (fun _ _ _ h => h) (Or.inl ⟨by rfl, fun x hSw => ?hyz3_9⟩) hHeld ?restz3_9
    case hyz3_9 =>
      have k0 := keepB hSw B0; have k1 := keepB hSw B1; have k2 := keepB hSw B2; have k3 := keepB hSw B3; have k4 := keepB hSw B4; have k5 := keepB hSw B5
      go_simp
      try with_reducible rfl
    try simp only [Act.put, List.setIfInBounds_toArray, List.set_cons_zero, List.set_cons_succ]
    refine' wpAnyH_take (i := 10) (oi := ({ dst := some 15, op := Op.move (Operand.tmp 14), type := 4, pos := "l6_journal.go:26", after := #[{ on := 9, ground := Ground.data }, { on := 7, ground := Ground.chain }], guard := none } : Oper)) (v := _) rfl (by kernel_rfl) (by kernel_rfl) (by kernel_rfl) (fun _ _ _ h => h) (Or.inl ⟨by rfl, fun x hSw => ?hyz3_10⟩) hHeld ?restz3_10
    case hyz3_10 =>
      have k0 := keepB hSw B0; have k1 := keepB hSw B1; have k2 := keepB hSw B2; have k3 := keepB hSw B3; have k4 := keepB hSw B4; have k5 := keepB hSw B5
      go_simp
      try with_reducible rfl
    try simp only [Act.put, List.setIfInBounds_toArray, List.set_cons_zero, List.set_cons_succ]
    refine' wpAnyH_take (i := 11) (oi := ({ dst := some 16, op := Op.load 28 (Operand.tmp 1), type := 28, pos := "l6_journal.go:26", after := #[{ on := 10, ground := Ground.guard }], guard := some (10, false) } : Oper)) (v := _) rfl (by kernel_rfl) (by kernel_rfl) (by kernel_rfl) (fun _ _ _ h => h) (Or.inl ⟨by rfl, fun x hSw => ?hyz3_11⟩) hHeld ?restz3_11
    case hyz3_11 =>
      have k0 := keepB hSw B0; have k1 := keepB hSw B1; have k2 := keepB hSw B2; have k3 := keepB hSw B3; have k4 := keepB hSw B4; have k5 := keepB hSw B5
      go_simp
      try with_reducible rfl
    try simp only [Act.put, List.setIfInBounds_toArray, List.set_cons_zero, List.set_cons_succ]
    refine' wpAnyH_take (i := 13) (oi := ({ dst := some 18, op := Op.fieldAddr 28 (Operand.tmp 1) 1, type := 0, pos := "l6_journal.go:26", after := #[{ on := 10, ground := Ground.guard }], guard := some (10, false) } : Oper)) (v := _) rfl (by kernel_rfl) (by kernel_rfl) (by kernel_rfl) (fun _ _ _ h => h) (Or.inl ⟨by rfl, fun x hSw => ?hyz3_13⟩) hHeld ?restz3_13
    case hyz3_13 =>
      have k0 := keepB hSw B0; have k1 := keepB hSw B1; have k2 := keepB hSw B2; have k3 := keepB hSw B3; have k4 := keepB hSw B4; have k5 := keepB hSw B5
      go_simp
      try with_reducible rfl
    try simp only [Act.put, List.setIfInBounds_toArray, List.set_cons_zero, List.set_cons_succ]
    refine' wpAnyH_take (i := 14) (oi := ({ dst := some 19, op := Op.load 3 (Operand.tmp 18), type := 3, pos := "l6_journal.go:26", after := #[{ on := 13, ground := Ground.data }, { on := 10, ground := Ground.guard }], guard := some (10, false) } : Oper)) (v := _) rfl (by kernel_rfl) (by kernel_rfl) (by kernel_rfl) (fun _ _ _ h => h) (Or.inl ⟨by rfl, fun x hSw => ?hyz3_14⟩) hHeld ?restz3_14
    case hyz3_14 =>
      have k0 := keepB hSw B0; have k1 := keepB hSw B1; have k2 := keepB hSw B2; have k3 := keepB hSw B3; have k4 := keepB hSw B4; have k5 := keepB hSw B5
      go_simp
      try with_reducible rfl
    try simp only [Act.put, List.setIfInBounds_toArray, List.set_cons_zero, List.set_cons_succ]
    refine wpAnyH_ready (rs := [12]) (by kernel_rfl) (by simp) ?_
    refine AllReadyH.cons (o := ({ dst := some 17, op := Op.call { callee := Callee.value (Operand.func 34), args := #[Operand.tmp 16], argTypes := #[28] }, type := 3, pos := "l6_journal.go:26", after := #[{ on := 11, ground := Ground.data }, { on := 10, ground := Ground.chain }, { on := 10, ground := Ground.guard }], guard := some (10, false) } : Oper)) rfl (fun K hK => ?_) AllReadyH.nil
    go_simp
    refine (sBytes a n c F x1 x2 x3 x4 x5 _ (h.later (bstep hb0 hHeld)) hS).mono ?_
    rintro e w2 ⟨rfl, hb2⟩
    refine hK.out _ _ (bstep hHeld hb2) (fun hHeld => ?_)
    clear hK K
    try simp only [Act.put, List.setIfInBounds_toArray, List.set_cons_zero, List.set_cons_succ]
    refine' wpAnyH_take (i := 15) (oi := ({ dst := some 20, op := Op.binOp BinOp.gtr 3 (Operand.tmp 17) (Operand.tmp 19) 3, type := 4, pos := "l6_journal.go:26", after := #[{ on := 12, ground := Ground.data }, { on := 14, ground := Ground.data }, { on := 10, ground := Ground.guard }], guard := some (10, false) } : Oper)) (v := _) rfl (by kernel_rfl) (by kernel_rfl) (by kernel_rfl) (fun _ _ _ h => h) (Or.inl ⟨by rfl, fun x hSw => ?hyz3_15⟩) hHeld ?restz3_15
    case hyz3_15 =>
      have k0 := keepB hSw B0; have k1 := keepB hSw B1; have k2 := keepB hSw B2; have k3 := keepB hSw B3; have k4 := keepB hSw B4; have k5 := keepB hSw B5
      go_simp
      try with_reducible rfl
    try simp only [Act.put, List.setIfInBounds_toArray, List.set_cons_zero, List.set_cons_succ]
    refine' wpAnyH_take (i := 16) (oi := ({ dst := some 21, op := Op.pick (Operand.tmp 15) (Operand.const (Value.bool true)) (Operand.tmp 20), type := 4, pos := "l6_journal.go:26", after := #[{ on := 10, ground := Ground.data }, { on := 15, ground := Ground.data }], guard := none } : Oper)) (v := _) rfl (by kernel_rfl) (by kernel_rfl) (by kernel_rfl) (fun _ _ _ h => h) (Or.inl ⟨by rfl, fun x hSw => ?hyz3_16⟩) hHeld ?restz3_16
    case hyz3_16 =>
      have k0 := keepB hSw B0; have k1 := keepB hSw B1; have k2 := keepB hSw B2; have k3 := keepB hSw B3; have k4 := keepB hSw B4; have k5 := keepB hSw B5
      go_simp
      try with_reducible rfl
    try simp only [Act.put, List.setIfInBounds_toArray, List.set_cons_zero, List.set_cons_succ]
    refine wpAnyH_done (by kernel_rfl) ?_ _
    go_wp2
    go_ret
    exact ⟨by rw [HF.out]; rfl, bstep hb0 hHeld⟩
  have d3 : decide (x1 < (sumD F n : Int)) = false := by simp; omega
  go_enter Tryz.func16, Tryz.ntmps16
  go_wp2
  refine wp_region_held_drew (S := fun x => Below (w.alloc (.cells #[.slice a n c, .int .i64 x1, .int .i64 x2, .int .i64 x3, .int .i64 x4, .bool x5] 28)).heap.size (w.alloc (.cells #[.slice a n c, .int .i64 x1, .int .i64 x2, .int .i64 x3, .int .i64 x4, .bool x5] 28)) x) (by kernel_rfl) (bdrew _) (fun hHeld => ?_)
  refine' wpAnyH_take (i := 0) (oi := ({ dst := some 5, op := Op.fieldAddr 28 (Operand.tmp 1) 0, type := 0, pos := "l6_journal.go:26", after := #[], guard := none } : Oper)) (v := _) rfl (by kernel_rfl) (by kernel_rfl) (by kernel_rfl) (fun _ _ _ h => h) (Or.inl ⟨by rfl, fun x hSw => ?hyz4_0⟩) hHeld ?restz4_0
  case hyz4_0 =>
    have k0 := keepB hSw B0; have k1 := keepB hSw B1; have k2 := keepB hSw B2; have k3 := keepB hSw B3; have k4 := keepB hSw B4; have k5 := keepB hSw B5
    go_simp
    try with_reducible rfl
  try simp only [Act.put, List.setIfInBounds_toArray, List.set_cons_zero, List.set_cons_succ]
  refine' wpAnyH_take (i := 1) (oi := ({ dst := some 6, op := Op.load 26 (Operand.tmp 5), type := 26, pos := "l6_journal.go:26", after := #[{ on := 0, ground := Ground.data }], guard := none } : Oper)) (v := _) rfl (by kernel_rfl) (by kernel_rfl) (by kernel_rfl) (fun _ _ _ h => h) (Or.inl ⟨by rfl, fun x hSw => ?hyz4_1⟩) hHeld ?restz4_1
  case hyz4_1 =>
    have k0 := keepB hSw B0; have k1 := keepB hSw B1; have k2 := keepB hSw B2; have k3 := keepB hSw B3; have k4 := keepB hSw B4; have k5 := keepB hSw B5
    go_simp
    try with_reducible rfl
  try simp only [Act.put, List.setIfInBounds_toArray, List.set_cons_zero, List.set_cons_succ]
  refine' wpAnyH_take (i := 2) (oi := ({ dst := some 7, op := Op.call { callee := Callee.builtin Builtin.len, args := #[Operand.tmp 6], argTypes := #[26] }, type := 3, pos := "l6_journal.go:26", after := #[{ on := 1, ground := Ground.data }], guard := none } : Oper)) (v := _) rfl (by kernel_rfl) (by kernel_rfl) (by kernel_rfl) (fun _ _ _ h => h) (Or.inl ⟨by rfl, fun x hSw => ?hyz4_2⟩) hHeld ?restz4_2
  case hyz4_2 =>
    have k0 := keepB hSw B0; have k1 := keepB hSw B1; have k2 := keepB hSw B2; have k3 := keepB hSw B3; have k4 := keepB hSw B4; have k5 := keepB hSw B5
    go_simp
    try with_reducible rfl
  try simp only [Act.put, List.setIfInBounds_toArray, List.set_cons_zero, List.set_cons_succ]
  refine' wpAnyH_take (i := 3) (oi := ({ dst := some 8, op := Op.binOp BinOp.gtr 3 (Operand.tmp 7) (Operand.const (Value.int IntKind.i64 300)) 3, type := 4, pos := "l6_journal.go:26", after := #[{ on := 2, ground := Ground.data }], guard := none } : Oper)) (v := _) rfl (by kernel_rfl) (by kernel_rfl) (by kernel_rfl) (fun _ _ _ h => h) (Or.inl ⟨by rfl, fun x hSw => ?hyz4_3⟩) hHeld ?restz4_3
  case hyz4_3 =>
    have k0 := keepB hSw B0; have k1 := keepB hSw B1; have k2 := keepB hSw B2; have k3 := keepB hSw B3; have k4 := keepB hSw B4; have k5 := keepB hSw B5
    go_simp
    try with_reducible rfl
  try simp only [Act.put, List.setIfInBounds_toArray, List.set_cons_zero, List.set_cons_succ]
  refine' wpAnyH_take (i := 4) (oi := ({ dst := some 9, op := Op.move (Operand.tmp 8), type := 4, pos := "l6_journal.go:26", after := #[{ on := 3, ground := Ground.data }], guard := none } : Oper)) (v := _) rfl (by kernel_rfl) (by kernel_rfl) (by kernel_rfl) (fun _ _ _ h => h) (Or.inl ⟨by rfl, fun x hSw => ?hyz4_4⟩) hHeld ?restz4_4
  case hyz4_4 =>
    have k0 := keepB hSw B0; have k1 := keepB hSw B1; have k2 := keepB hSw B2; have k3 := keepB hSw B3; have k4 := keepB hSw B4; have k5 := keepB hSw B5
    go_simp
    try with_reducible rfl
  try simp only [Act.put, List.setIfInBounds_toArray, List.set_cons_zero, List.set_cons_succ]
  refine' wpAnyH_take (i := 5) (oi := ({ dst := some 10, op := Op.fieldAddr 28 (Operand.tmp 1) 1, type := 0, pos := "l6_journal.go:26", after := #[{ on := 4, ground := Ground.guard }], guard := some (4, false) } : Oper)) (v := _) rfl (by kernel_rfl) (by kernel_rfl) (by kernel_rfl) (fun _ _ _ h => h) (Or.inl ⟨by rfl, fun x hSw => ?hyz4_5⟩) hHeld ?restz4_5
  case hyz4_5 =>
    have k0 := keepB hSw B0; have k1 := keepB hSw B1; have k2 := keepB hSw B2; have k3 := keepB hSw B3; have k4 := keepB hSw B4; have k5 := keepB hSw B5
    go_simp
    try with_reducible rfl
  try simp only [Act.put, List.setIfInBounds_toArray, List.set_cons_zero, List.set_cons_succ]
  refine' wpAnyH_take (i := 6) (oi := ({ dst := some 11, op := Op.load 3 (Operand.tmp 10), type := 3, pos := "l6_journal.go:26", after := #[{ on := 5, ground := Ground.data }, { on := 4, ground := Ground.guard }], guard := some (4, false) } : Oper)) (v := _) rfl (by kernel_rfl) (by kernel_rfl) (by kernel_rfl) (fun _ _ _ h => h) (Or.inl ⟨by rfl, fun x hSw => ?hyz4_6⟩) hHeld ?restz4_6
  case hyz4_6 =>
    have k0 := keepB hSw B0; have k1 := keepB hSw B1; have k2 := keepB hSw B2; have k3 := keepB hSw B3; have k4 := keepB hSw B4; have k5 := keepB hSw B5
    go_simp
    try with_reducible rfl
  try simp only [Act.put, List.setIfInBounds_toArray, List.set_cons_zero, List.set_cons_succ]
  refine wpAnyH_ready (rs := [7]) (by kernel_rfl) (by simp) ?_
  refine AllReadyH.cons (o := ({ dst := some 12, op := Op.call { callee := Callee.value (Operand.func 33), args := #[Operand.tmp 11, Operand.const (Value.int IntKind.i64 0), Operand.const (Value.int IntKind.i64 1000000000)], argTypes := #[3, 3, 3] }, type := 4, pos := "l6_journal.go:26", after := #[{ on := 6, ground := Ground.data }, { on := 4, ground := Ground.chain }, { on := 4, ground := Ground.guard }], guard := some (4, false) } : Oper)) rfl (fun K hK => ?_) AllReadyH.nil
  go_simp
  refine (sBetween x1 0 1000000000 _).mono ?_
  rw [h2]; rintro e w1 ⟨rfl, rfl⟩
  refine hK.out _ _ (hHeld) (fun hHeld => ?_)
  clear hK K
  try simp only [Act.put, List.setIfInBounds_toArray, List.set_cons_zero, List.set_cons_succ]
  refine' wpAnyH_take (i := 8) (oi := ({ dst := some 13, op := Op.unOp UnOp.not 4 (Operand.tmp 12), type := 4, pos := "l6_journal.go:26", after := #[{ on := 7, ground := Ground.data }, { on := 4, ground := Ground.guard }], guard := some (4, false) } : Oper)) (v := _) rfl (by kernel_rfl) (by kernel_rfl) (by kernel_rfl) (fun _ _ _ h => h) (Or.inl ⟨by rfl, fun x hSw => ?hyz4_8⟩) hHeld ?restz4_8
  case hyz4_8 =>
    have k0 := keepB hSw B0; have k1 := keepB hSw B1; have k2 := keepB hSw B2; have k3 := keepB hSw B3; have k4 := keepB hSw B4; have k5 := keepB hSw B5
    go_simp
    try with_reducible rfl
  try simp only [Act.put, List.setIfInBounds_toArray, List.set_cons_zero, List.set_cons_succ]
  refine' wpAnyH_take (i := 9) (oi := ({ dst := some 14, op := Op.pick (Operand.tmp 9) (Operand.const (Value.bool true)) (Operand.tmp 13), type := 4, pos := "l6_journal.go:26", after := #[{ on := 4, ground := Ground.data }, { on := 8, ground := Ground.data }], guard := none } : Oper)) (v := _) rfl (by kernel_rfl) (by kernel_rfl) (by kernel_rfl) (fun _ _ _ h => h) (Or.inl ⟨by rfl, fun x hSw => ?hyz4_9⟩) hHeld ?restz4_9
  case hyz4_9 =>
    have k0 := keepB hSw B0; have k1 := keepB hSw B1; have k2 := keepB hSw B2; have k3 := keepB hSw B3; have k4 := keepB hSw B4; have k5 := keepB hSw B5
    go_simp
    try with_reducible rfl
  try simp only [Act.put, List.setIfInBounds_toArray, List.set_cons_zero, List.set_cons_succ]
  refine' wpAnyH_take (i := 10) (oi := ({ dst := some 15, op := Op.move (Operand.tmp 14), type := 4, pos := "l6_journal.go:26", after := #[{ on := 9, ground := Ground.data }, { on := 7, ground := Ground.chain }], guard := none } : Oper)) (v := _) rfl (by kernel_rfl) (by kernel_rfl) (by kernel_rfl) (fun _ _ _ h => h) (Or.inl ⟨by rfl, fun x hSw => ?hyz4_10⟩) hHeld ?restz4_10
  case hyz4_10 =>
    have k0 := keepB hSw B0; have k1 := keepB hSw B1; have k2 := keepB hSw B2; have k3 := keepB hSw B3; have k4 := keepB hSw B4; have k5 := keepB hSw B5
    go_simp
    try with_reducible rfl
  try simp only [Act.put, List.setIfInBounds_toArray, List.set_cons_zero, List.set_cons_succ]
  refine' wpAnyH_take (i := 11) (oi := ({ dst := some 16, op := Op.load 28 (Operand.tmp 1), type := 28, pos := "l6_journal.go:26", after := #[{ on := 10, ground := Ground.guard }], guard := some (10, false) } : Oper)) (v := _) rfl (by kernel_rfl) (by kernel_rfl) (by kernel_rfl) (fun _ _ _ h => h) (Or.inl ⟨by rfl, fun x hSw => ?hyz4_11⟩) hHeld ?restz4_11
  case hyz4_11 =>
    have k0 := keepB hSw B0; have k1 := keepB hSw B1; have k2 := keepB hSw B2; have k3 := keepB hSw B3; have k4 := keepB hSw B4; have k5 := keepB hSw B5
    go_simp
    try with_reducible rfl
  try simp only [Act.put, List.setIfInBounds_toArray, List.set_cons_zero, List.set_cons_succ]
  refine' wpAnyH_take (i := 13) (oi := ({ dst := some 18, op := Op.fieldAddr 28 (Operand.tmp 1) 1, type := 0, pos := "l6_journal.go:26", after := #[{ on := 10, ground := Ground.guard }], guard := some (10, false) } : Oper)) (v := _) rfl (by kernel_rfl) (by kernel_rfl) (by kernel_rfl) (fun _ _ _ h => h) (Or.inl ⟨by rfl, fun x hSw => ?hyz4_13⟩) hHeld ?restz4_13
  case hyz4_13 =>
    have k0 := keepB hSw B0; have k1 := keepB hSw B1; have k2 := keepB hSw B2; have k3 := keepB hSw B3; have k4 := keepB hSw B4; have k5 := keepB hSw B5
    go_simp
    try with_reducible rfl
  try simp only [Act.put, List.setIfInBounds_toArray, List.set_cons_zero, List.set_cons_succ]
  refine' wpAnyH_take (i := 14) (oi := ({ dst := some 19, op := Op.load 3 (Operand.tmp 18), type := 3, pos := "l6_journal.go:26", after := #[{ on := 13, ground := Ground.data }, { on := 10, ground := Ground.guard }], guard := some (10, false) } : Oper)) (v := _) rfl (by kernel_rfl) (by kernel_rfl) (by kernel_rfl) (fun _ _ _ h => h) (Or.inl ⟨by rfl, fun x hSw => ?hyz4_14⟩) hHeld ?restz4_14
  case hyz4_14 =>
    have k0 := keepB hSw B0; have k1 := keepB hSw B1; have k2 := keepB hSw B2; have k3 := keepB hSw B3; have k4 := keepB hSw B4; have k5 := keepB hSw B5
    go_simp
    try with_reducible rfl
  try simp only [Act.put, List.setIfInBounds_toArray, List.set_cons_zero, List.set_cons_succ]
  refine wpAnyH_ready (rs := [12]) (by kernel_rfl) (by simp) ?_
  refine AllReadyH.cons (o := ({ dst := some 17, op := Op.call { callee := Callee.value (Operand.func 34), args := #[Operand.tmp 16], argTypes := #[28] }, type := 3, pos := "l6_journal.go:26", after := #[{ on := 11, ground := Ground.data }, { on := 10, ground := Ground.chain }, { on := 10, ground := Ground.guard }], guard := some (10, false) } : Oper)) rfl (fun K hK => ?_) AllReadyH.nil
  go_simp
  refine (sBytes a n c F x1 x2 x3 x4 x5 _ (h.later (bstep hb0 hHeld)) hS).mono ?_
  rintro e w2 ⟨rfl, hb2⟩
  refine hK.out _ _ (bstep hHeld hb2) (fun hHeld => ?_)
  clear hK K
  try simp only [Act.put, List.setIfInBounds_toArray, List.set_cons_zero, List.set_cons_succ]
  refine' wpAnyH_take (i := 15) (oi := ({ dst := some 20, op := Op.binOp BinOp.gtr 3 (Operand.tmp 17) (Operand.tmp 19) 3, type := 4, pos := "l6_journal.go:26", after := #[{ on := 12, ground := Ground.data }, { on := 14, ground := Ground.data }, { on := 10, ground := Ground.guard }], guard := some (10, false) } : Oper)) (v := _) rfl (by kernel_rfl) (by kernel_rfl) (by kernel_rfl) (fun _ _ _ h => h) (Or.inl ⟨by rfl, fun x hSw => ?hyz4_15⟩) hHeld ?restz4_15
  case hyz4_15 =>
    have k0 := keepB hSw B0; have k1 := keepB hSw B1; have k2 := keepB hSw B2; have k3 := keepB hSw B3; have k4 := keepB hSw B4; have k5 := keepB hSw B5
    go_simp
    try with_reducible rfl
  try simp only [Act.put, List.setIfInBounds_toArray, List.set_cons_zero, List.set_cons_succ]
  refine' wpAnyH_take (i := 16) (oi := ({ dst := some 21, op := Op.pick (Operand.tmp 15) (Operand.const (Value.bool true)) (Operand.tmp 20), type := 4, pos := "l6_journal.go:26", after := #[{ on := 10, ground := Ground.data }, { on := 15, ground := Ground.data }], guard := none } : Oper)) (v := _) rfl (by kernel_rfl) (by kernel_rfl) (by kernel_rfl) (fun _ _ _ h => h) (Or.inl ⟨by rfl, fun x hSw => ?hyz4_16⟩) hHeld ?restz4_16
  case hyz4_16 =>
    have k0 := keepB hSw B0; have k1 := keepB hSw B1; have k2 := keepB hSw B2; have k3 := keepB hSw B3; have k4 := keepB hSw B4; have k5 := keepB hSw B5
    go_simp
    try with_reducible rfl
  try simp only [Act.put, List.setIfInBounds_toArray, List.set_cons_zero, List.set_cons_succ]
  refine wpAnyH_done (by kernel_rfl) ?_ _
  have k0 := keepB hHeld B0
  go_wp2
  go_loopw [3, 4, 25] (fun _ _ i wr => ∃ k : Nat, k ≤ n ∧ i = .int .i64 k ∧ (∀ j, j < k → (okFl F j && ltN F j) = true) ∧ Below (w.alloc (.cells #[.slice a n c, .int .i64 x1, .int .i64 x2, .int .i64 x3, .int .i64 x4, .bool x5] 28)).heap.size (w.alloc (.cells #[.slice a n c, .int .i64 x1, .int .i64 x2, .int .i64 x3, .int .i64 x4, .bool x5] 28)) wr) (fun _ _ i _ => n - (intOf i).toNat)
  case atStart => exact ⟨0, by omega, rfl, fun j hj => by omega, hHeld⟩
  case round =>
    obtain ⟨k, hk, rfl, hall, hb⟩ := hrel
    have hbw := bstep hb0 hb
    by_cases hlt : k < n
    · obtain ⟨b, off, rfl, c0, c1, c2⟩ := h.later hbw k hlt
      have z1 := hS.s k hlt
      have z2 := hS.d k hlt
      have hb6 := bal wr (.cells #[.string (F k).s, .string (F k).d, .int .i64 (F k).y] 49)
      have G0 : (wr.alloc (.cells #[.string (F k).s, .string (F k).d, .int .i64 (F k).y] 49)).cell? ⟨wr.heap.size, 0, none⟩ = some (.string (F k).s) := cell_of_row _ _ 0 _ _ _ (heap_alloc_new wr _)
      have G1 : (wr.alloc (.cells #[.string (F k).s, .string (F k).d, .int .i64 (F k).y] 49)).cell? ⟨wr.heap.size, 1, none⟩ = some (.string (F k).d) := cell_of_row _ _ 1 _ _ _ (heap_alloc_new wr _)
      have G2 : (wr.alloc (.cells #[.string (F k).s, .string (F k).d, .int .i64 (F k).y] 49)).cell? ⟨wr.heap.size, 2, none⟩ = some (.int .i64 (F k).y) := cell_of_row _ _ 2 _ _ _ (heap_alloc_new wr _)
      have GB := keepB hb6 (keepB hb B0)
      clear B0 B1 B2 B3 B4 B5 k0
      rcases h4 : okFn (F k).s
      · have HF : Hid (okFs n F x1 x2 x3 x4 = false) := by simp [Hid, okFs, allN_false (p := fun k => okFl F k && ltN F k) hlt (by simp [okFl, h4])]
        go_wp2
        refine wp_region_held_drew (S := fun x => Below (wr.alloc (.cells #[.string (F k).s, .string (F k).d, .int .i64 (F k).y] 49)).heap.size (wr.alloc (.cells #[.string (F k).s, .string (F k).d, .int .i64 (F k).y] 49)) x) (by kernel_rfl) (bdrew _) (fun hHeld => ?_)
        refine' wpAnyH_take (i := 0) (oi := ({ dst := some 30, op := Op.fieldAddr 49 (Operand.tmp 4) 0, type := 0, pos := "l6_journal.go:30", after := #[], guard := none } : Oper)) (v := _) rfl (by kernel_rfl) (by kernel_rfl) (by kernel_rfl) (fun _ _ _ h => h) (Or.inl ⟨by rfl, fun x hSw => ?hyz5_0⟩) hHeld ?restz5_0
        case hyz5_0 =>
          have k0 := keepB hSw G0; have k1 := keepB hSw G1; have k2 := keepB hSw G2; have k3 := keepB hSw GB
          go_simp
          try with_reducible rfl
        try simp only [Act.put, List.setIfInBounds_toArray, List.set_cons_zero, List.set_cons_succ]
        refine' wpAnyH_take (i := 1) (oi := ({ dst := some 31, op := Op.load 9 (Operand.tmp 30), type := 9, pos := "l6_journal.go:30", after := #[{ on := 0, ground := Ground.data }], guard := none } : Oper)) (v := _) rfl (by kernel_rfl) (by kernel_rfl) (by kernel_rfl) (fun _ _ _ h => h) (Or.inl ⟨by rfl, fun x hSw => ?hyz5_1⟩) hHeld ?restz5_1
        case hyz5_1 =>
          have k0 := keepB hSw G0; have k1 := keepB hSw G1; have k2 := keepB hSw G2; have k3 := keepB hSw GB
          go_simp
          try with_reducible rfl
        try simp only [Act.put, List.setIfInBounds_toArray, List.set_cons_zero, List.set_cons_succ]
        refine wpAnyH_ready (rs := [2]) (by kernel_rfl) (by simp) ?_
        refine AllReadyH.cons (o := ({ dst := some 32, op := Op.call { callee := Callee.value (Operand.func 35), args := #[Operand.tmp 31], argTypes := #[9] }, type := 4, pos := "l6_journal.go:30", after := #[{ on := 1, ground := Ground.data }], guard := none } : Oper)) rfl (fun K hK => ?_) AllReadyH.nil
        go_simp
        refine (sFileName (F k).s _ z1).mono ?_
        rw [h4]; rintro e w1 ⟨rfl, rfl⟩
        refine hK.out _ _ (hHeld) (fun hHeld => ?_)
        clear hK K
        try simp only [Act.put, List.setIfInBounds_toArray, List.set_cons_zero, List.set_cons_succ]
        refine' wpAnyH_take (i := 3) (oi := ({ dst := some 33, op := Op.unOp UnOp.not 4 (Operand.tmp 32), type := 4, pos := "l6_journal.go:30", after := #[{ on := 2, ground := Ground.data }], guard := none } : Oper)) (v := _) rfl (by kernel_rfl) (by kernel_rfl) (by kernel_rfl) (fun _ _ _ h => h) (Or.inl ⟨by rfl, fun x hSw => ?hyz5_3⟩) hHeld ?restz5_3
        case hyz5_3 =>
          have k0 := keepB hSw G0; have k1 := keepB hSw G1; have k2 := keepB hSw G2; have k3 := keepB hSw GB
          go_simp
          try with_reducible rfl
        try simp only [Act.put, List.setIfInBounds_toArray, List.set_cons_zero, List.set_cons_succ]
        refine' wpAnyH_take (i := 4) (oi := ({ dst := some 34, op := Op.move (Operand.tmp 33), type := 4, pos := "l6_journal.go:30", after := #[{ on := 3, ground := Ground.data }, { on := 2, ground := Ground.chain }], guard := none } : Oper)) (v := _) rfl (by kernel_rfl) (by kernel_rfl) (by kernel_rfl) (fun _ _ _ h => h) (Or.inl ⟨by rfl, fun x hSw => ?hyz5_4⟩) hHeld ?restz5_4
        case hyz5_4 =>
          have k0 := keepB hSw G0; have k1 := keepB hSw G1; have k2 := keepB hSw G2; have k3 := keepB hSw GB
          go_simp
          try with_reducible rfl
        try simp only [Act.put, List.setIfInBounds_toArray, List.set_cons_zero, List.set_cons_succ]
        refine wpAnyH_take (i := 5) (oi := ({ dst := some 35, op := Op.fieldAddr 49 (Operand.tmp 4) 2, type := 0, pos := "l6_journal.go:30", after := #[{ on := 4, ground := Ground.guard }], guard := some (4, false) } : Oper)) (v := undef) rfl (by kernel_rfl) (by kernel_rfl) (by kernel_rfl) (fun _ _ _ h => h) (Or.inr ⟨by rfl, rfl⟩) hHeld ?_
        try simp only [Act.put, List.setIfInBounds_toArray, List.set_cons_zero, List.set_cons_succ]
        refine wpAnyH_take (i := 6) (oi := ({ dst := some 36, op := Op.load 3 (Operand.tmp 35), type := 3, pos := "l6_journal.go:30", after := #[{ on := 5, ground := Ground.data }, { on := 4, ground := Ground.guard }], guard := some (4, false) } : Oper)) (v := undef) rfl (by kernel_rfl) (by kernel_rfl) (by kernel_rfl) (fun _ _ _ h => h) (Or.inr ⟨by rfl, rfl⟩) hHeld ?_
        try simp only [Act.put, List.setIfInBounds_toArray, List.set_cons_zero, List.set_cons_succ]
        refine wpAnyH_take (i := 7) (oi := ({ dst := some 37, op := Op.fieldAddr 49 (Operand.tmp 4) 1, type := 0, pos := "l6_journal.go:30", after := #[{ on := 4, ground := Ground.guard }], guard := some (4, false) } : Oper)) (v := undef) rfl (by kernel_rfl) (by kernel_rfl) (by kernel_rfl) (fun _ _ _ h => h) (Or.inr ⟨by rfl, rfl⟩) hHeld ?_
        try simp only [Act.put, List.setIfInBounds_toArray, List.set_cons_zero, List.set_cons_succ]
        refine wpAnyH_take (i := 8) (oi := ({ dst := some 38, op := Op.load 9 (Operand.tmp 37), type := 9, pos := "l6_journal.go:30", after := #[{ on := 7, ground := Ground.data }, { on := 4, ground := Ground.guard }], guard := some (4, false) } : Oper)) (v := undef) rfl (by kernel_rfl) (by kernel_rfl) (by kernel_rfl) (fun _ _ _ h => h) (Or.inr ⟨by rfl, rfl⟩) hHeld ?_
        try simp only [Act.put, List.setIfInBounds_toArray, List.set_cons_zero, List.set_cons_succ]
        refine wpAnyH_take (i := 9) (oi := ({ dst := some 39, op := Op.call { callee := Callee.builtin Builtin.len, args := #[Operand.tmp 38], argTypes := #[9] }, type := 3, pos := "l6_journal.go:30", after := #[{ on := 8, ground := Ground.data }, { on := 4, ground := Ground.guard }], guard := some (4, false) } : Oper)) (v := undef) rfl (by kernel_rfl) (by kernel_rfl) (by kernel_rfl) (fun _ _ _ h => h) (Or.inr ⟨by rfl, rfl⟩) hHeld ?_
        try simp only [Act.put, List.setIfInBounds_toArray, List.set_cons_zero, List.set_cons_succ]
        refine wpAnyH_take (i := 10) (oi := ({ dst := some 40, op := Op.call { callee := Callee.value (Operand.func 33), args := #[Operand.tmp 36, Operand.const (Value.int IntKind.i64 0), Operand.tmp 39], argTypes := #[3, 3, 3] }, type := 4, pos := "l6_journal.go:30", after := #[{ on := 6, ground := Ground.data }, { on := 9, ground := Ground.data }, { on := 4, ground := Ground.chain }, { on := 4, ground := Ground.guard }], guard := some (4, false) } : Oper)) (v := undef) rfl (by kernel_rfl) (by kernel_rfl) (by kernel_rfl) (fun _ _ _ h => h) (Or.inr ⟨by rfl, rfl⟩) hHeld ?_
        try simp only [Act.put, List.setIfInBounds_toArray, List.set_cons_zero, List.set_cons_succ]
        refine wpAnyH_take (i := 11) (oi := ({ dst := some 41, op := Op.unOp UnOp.not 4 (Operand.tmp 40), type := 4, pos := "l6_journal.go:30", after := #[{ on := 10, ground := Ground.data }, { on := 4, ground := Ground.guard }], guard := some (4, false) } : Oper)) (v := undef) rfl (by kernel_rfl) (by kernel_rfl) (by kernel_rfl) (fun _ _ _ h => h) (Or.inr ⟨by rfl, rfl⟩) hHeld ?_
        try simp only [Act.put, List.setIfInBounds_toArray, List.set_cons_zero, List.set_cons_succ]
        refine' wpAnyH_take (i := 12) (oi := ({ dst := some 42, op := Op.pick (Operand.tmp 34) (Operand.const (Value.bool true)) (Operand.tmp 41), type := 4, pos := "l6_journal.go:30", after := #[{ on := 4, ground := Ground.data }, { on := 11, ground := Ground.data }], guard := none } : Oper)) (v := _) rfl (by kernel_rfl) (by kernel_rfl) (by kernel_rfl) (fun _ _ _ h => h) (Or.inl ⟨by rfl, fun x hSw => ?hyz5_12⟩) hHeld ?restz5_12
        case hyz5_12 =>
          have k0 := keepB hSw G0; have k1 := keepB hSw G1; have k2 := keepB hSw G2; have k3 := keepB hSw GB
          go_simp
          try with_reducible rfl
        try simp only [Act.put, List.setIfInBounds_toArray, List.set_cons_zero, List.set_cons_succ]
        refine' wpAnyH_take (i := 13) (oi := ({ dst := some 43, op := Op.move (Operand.tmp 42), type := 4, pos := "l6_journal.go:30", after := #[{ on := 12, ground := Ground.data }, { on := 10, ground := Ground.chain }], guard := none } : Oper)) (v := _) rfl (by kernel_rfl) (by kernel_rfl) (by kernel_rfl) (fun _ _ _ h => h) (Or.inl ⟨by rfl, fun x hSw => ?hyz5_13⟩) hHeld ?restz5_13
        case hyz5_13 =>
          have k0 := keepB hSw G0; have k1 := keepB hSw G1; have k2 := keepB hSw G2; have k3 := keepB hSw GB
          go_simp
          try with_reducible rfl
        try simp only [Act.put, List.setIfInBounds_toArray, List.set_cons_zero, List.set_cons_succ]
        refine wpAnyH_take (i := 14) (oi := ({ dst := some 44, op := Op.move (Operand.tmp 3), type := 3, pos := "l6_journal.go:30", after := #[{ on := 13, ground := Ground.guard }], guard := some (13, false) } : Oper)) (v := undef) rfl (by kernel_rfl) (by kernel_rfl) (by kernel_rfl) (fun _ _ _ h => h) (Or.inr ⟨by rfl, rfl⟩) hHeld ?_
        try simp only [Act.put, List.setIfInBounds_toArray, List.set_cons_zero, List.set_cons_succ]
        refine wpAnyH_take (i := 15) (oi := ({ dst := some 45, op := Op.binOp BinOp.gtr 3 (Operand.tmp 44) (Operand.const (Value.int IntKind.i64 0)) 3, type := 4, pos := "l6_journal.go:30", after := #[{ on := 14, ground := Ground.data }, { on := 13, ground := Ground.guard }], guard := some (13, false) } : Oper)) (v := undef) rfl (by kernel_rfl) (by kernel_rfl) (by kernel_rfl) (fun _ _ _ h => h) (Or.inr ⟨by rfl, rfl⟩) hHeld ?_
        try simp only [Act.put, List.setIfInBounds_toArray, List.set_cons_zero, List.set_cons_succ]
        refine wpAnyH_take (i := 16) (oi := ({ dst := some 46, op := Op.move (Operand.tmp 45), type := 4, pos := "l6_journal.go:30", after := #[{ on := 15, ground := Ground.data }, { on := 13, ground := Ground.chain }, { on := 13, ground := Ground.guard }], guard := some (13, false) } : Oper)) (v := undef) rfl (by kernel_rfl) (by kernel_rfl) (by kernel_rfl) (fun _ _ _ h => h) (Or.inr ⟨by rfl, rfl⟩) hHeld ?_
        try simp only [Act.put, List.setIfInBounds_toArray, List.set_cons_zero, List.set_cons_succ]
        refine wpAnyH_take (i := 17) (oi := ({ dst := some 47, op := Op.fieldAddr 28 (Operand.tmp 1) 0, type := 0, pos := "l6_journal.go:30", after := #[{ on := 16, ground := Ground.guard }], guard := some (16, true) } : Oper)) (v := undef) rfl (by kernel_rfl) (by kernel_rfl) (by kernel_rfl) (fun _ _ _ h => h) (Or.inr ⟨by rfl, rfl⟩) hHeld ?_
        try simp only [Act.put, List.setIfInBounds_toArray, List.set_cons_zero, List.set_cons_succ]
        refine wpAnyH_take (i := 18) (oi := ({ dst := some 48, op := Op.load 26 (Operand.tmp 47), type := 26, pos := "l6_journal.go:30", after := #[{ on := 17, ground := Ground.data }, { on := 16, ground := Ground.guard }], guard := some (16, true) } : Oper)) (v := undef) rfl (by kernel_rfl) (by kernel_rfl) (by kernel_rfl) (fun _ _ _ h => h) (Or.inr ⟨by rfl, rfl⟩) hHeld ?_
        try simp only [Act.put, List.setIfInBounds_toArray, List.set_cons_zero, List.set_cons_succ]
        refine wpAnyH_take (i := 19) (oi := ({ dst := some 49, op := Op.move (Operand.tmp 3), type := 3, pos := "l6_journal.go:30", after := #[{ on := 16, ground := Ground.guard }], guard := some (16, true) } : Oper)) (v := undef) rfl (by kernel_rfl) (by kernel_rfl) (by kernel_rfl) (fun _ _ _ h => h) (Or.inr ⟨by rfl, rfl⟩) hHeld ?_
        try simp only [Act.put, List.setIfInBounds_toArray, List.set_cons_zero, List.set_cons_succ]
        refine wpAnyH_take (i := 20) (oi := ({ dst := some 50, op := Op.binOp BinOp.sub 3 (Operand.tmp 49) (Operand.const (Value.int IntKind.i64 1)) 3, type := 3, pos := "l6_journal.go:30", after := #[{ on := 19, ground := Ground.data }, { on := 16, ground := Ground.guard }], guard := some (16, true) } : Oper)) (v := undef) rfl (by kernel_rfl) (by kernel_rfl) (by kernel_rfl) (fun _ _ _ h => h) (Or.inr ⟨by rfl, rfl⟩) hHeld ?_
        try simp only [Act.put, List.setIfInBounds_toArray, List.set_cons_zero, List.set_cons_succ]
        refine wpAnyH_take (i := 21) (oi := ({ dst := some 51, op := Op.indexAddr 26 (Operand.tmp 48) (Operand.tmp 50), type := 0, pos := "l6_journal.go:30", after := #[{ on := 18, ground := Ground.data }, { on := 20, ground := Ground.data }, { on := 16, ground := Ground.guard }], guard := some (16, true) } : Oper)) (v := undef) rfl (by kernel_rfl) (by kernel_rfl) (by kernel_rfl) (fun _ _ _ h => h) (Or.inr ⟨by rfl, rfl⟩) hHeld ?_
        try simp only [Act.put, List.setIfInBounds_toArray, List.set_cons_zero, List.set_cons_succ]
        refine wpAnyH_take (i := 22) (oi := ({ dst := some 52, op := Op.fieldAddr 49 (Operand.tmp 51) 0, type := 0, pos := "l6_journal.go:30", after := #[{ on := 21, ground := Ground.data }, { on := 16, ground := Ground.guard }], guard := some (16, true) } : Oper)) (v := undef) rfl (by kernel_rfl) (by kernel_rfl) (by kernel_rfl) (fun _ _ _ h => h) (Or.inr ⟨by rfl, rfl⟩) hHeld ?_
        try simp only [Act.put, List.setIfInBounds_toArray, List.set_cons_zero, List.set_cons_succ]
        refine wpAnyH_take (i := 23) (oi := ({ dst := some 53, op := Op.load 9 (Operand.tmp 52), type := 9, pos := "l6_journal.go:30", after := #[{ on := 22, ground := Ground.data }, { on := 16, ground := Ground.guard }], guard := some (16, true) } : Oper)) (v := undef) rfl (by kernel_rfl) (by kernel_rfl) (by kernel_rfl) (fun _ _ _ h => h) (Or.inr ⟨by rfl, rfl⟩) hHeld ?_
        try simp only [Act.put, List.setIfInBounds_toArray, List.set_cons_zero, List.set_cons_succ]
        refine wpAnyH_take (i := 24) (oi := ({ dst := some 54, op := Op.fieldAddr 49 (Operand.tmp 4) 0, type := 0, pos := "l6_journal.go:30", after := #[{ on := 16, ground := Ground.guard }], guard := some (16, true) } : Oper)) (v := undef) rfl (by kernel_rfl) (by kernel_rfl) (by kernel_rfl) (fun _ _ _ h => h) (Or.inr ⟨by rfl, rfl⟩) hHeld ?_
        try simp only [Act.put, List.setIfInBounds_toArray, List.set_cons_zero, List.set_cons_succ]
        refine wpAnyH_take (i := 25) (oi := ({ dst := some 55, op := Op.load 9 (Operand.tmp 54), type := 9, pos := "l6_journal.go:30", after := #[{ on := 24, ground := Ground.data }, { on := 16, ground := Ground.guard }], guard := some (16, true) } : Oper)) (v := undef) rfl (by kernel_rfl) (by kernel_rfl) (by kernel_rfl) (fun _ _ _ h => h) (Or.inr ⟨by rfl, rfl⟩) hHeld ?_
        try simp only [Act.put, List.setIfInBounds_toArray, List.set_cons_zero, List.set_cons_succ]
        refine wpAnyH_take (i := 26) (oi := ({ dst := some 56, op := Op.binOp BinOp.geq 9 (Operand.tmp 53) (Operand.tmp 55) 9, type := 4, pos := "l6_journal.go:30", after := #[{ on := 23, ground := Ground.data }, { on := 25, ground := Ground.data }, { on := 16, ground := Ground.guard }], guard := some (16, true) } : Oper)) (v := undef) rfl (by kernel_rfl) (by kernel_rfl) (by kernel_rfl) (fun _ _ _ h => h) (Or.inr ⟨by rfl, rfl⟩) hHeld ?_
        try simp only [Act.put, List.setIfInBounds_toArray, List.set_cons_zero, List.set_cons_succ]
        refine wpAnyH_take (i := 27) (oi := ({ dst := some 57, op := Op.pick (Operand.tmp 46) (Operand.tmp 56) (Operand.const (Value.bool false)), type := 4, pos := "l6_journal.go:30", after := #[{ on := 16, ground := Ground.data }, { on := 26, ground := Ground.data }, { on := 13, ground := Ground.guard }], guard := some (13, false) } : Oper)) (v := undef) rfl (by kernel_rfl) (by kernel_rfl) (by kernel_rfl) (fun _ _ _ h => h) (Or.inr ⟨by rfl, rfl⟩) hHeld ?_
        try simp only [Act.put, List.setIfInBounds_toArray, List.set_cons_zero, List.set_cons_succ]
        refine' wpAnyH_take (i := 28) (oi := ({ dst := some 58, op := Op.pick (Operand.tmp 43) (Operand.const (Value.bool true)) (Operand.tmp 57), type := 4, pos := "l6_journal.go:30", after := #[{ on := 13, ground := Ground.data }, { on := 27, ground := Ground.data }], guard := none } : Oper)) (v := _) rfl (by kernel_rfl) (by kernel_rfl) (by kernel_rfl) (fun _ _ _ h => h) (Or.inl ⟨by rfl, fun x hSw => ?hyz5_28⟩) hHeld ?restz5_28
        case hyz5_28 =>
          have k0 := keepB hSw G0; have k1 := keepB hSw G1; have k2 := keepB hSw G2; have k3 := keepB hSw GB
          go_simp
          try with_reducible rfl
        try simp only [Act.put, List.setIfInBounds_toArray, List.set_cons_zero, List.set_cons_succ]
        refine wpAnyH_done (by kernel_rfl) ?_ _
        go_wp2
        go_ret
        exact ⟨by rw [HF.out]; rfl, bstep hbw (bstep hb6 hHeld)⟩
      rcases h5 : btw (F k).y 0 (F k).d.size
      · have HF : Hid (okFs n F x1 x2 x3 x4 = false) := by simp [Hid, okFs, allN_false (p := fun k => okFl F k && ltN F k) hlt (by simp [okFl, h5])]
        go_wp2
        refine wp_region_held_drew (S := fun x => Below (wr.alloc (.cells #[.string (F k).s, .string (F k).d, .int .i64 (F k).y] 49)).heap.size (wr.alloc (.cells #[.string (F k).s, .string (F k).d, .int .i64 (F k).y] 49)) x) (by kernel_rfl) (bdrew _) (fun hHeld => ?_)
        refine' wpAnyH_take (i := 0) (oi := ({ dst := some 30, op := Op.fieldAddr 49 (Operand.tmp 4) 0, type := 0, pos := "l6_journal.go:30", after := #[], guard := none } : Oper)) (v := _) rfl (by kernel_rfl) (by kernel_rfl) (by kernel_rfl) (fun _ _ _ h => h) (Or.inl ⟨by rfl, fun x hSw => ?hyz6_0⟩) hHeld ?restz6_0
        case hyz6_0 =>
          have k0 := keepB hSw G0; have k1 := keepB hSw G1; have k2 := keepB hSw G2; have k3 := keepB hSw GB
          go_simp
          try with_reducible rfl
        try simp only [Act.put, List.setIfInBounds_toArray, List.set_cons_zero, List.set_cons_succ]
        refine' wpAnyH_take (i := 1) (oi := ({ dst := some 31, op := Op.load 9 (Operand.tmp 30), type := 9, pos := "l6_journal.go:30", after := #[{ on := 0, ground := Ground.data }], guard := none } : Oper)) (v := _) rfl (by kernel_rfl) (by kernel_rfl) (by kernel_rfl) (fun _ _ _ h => h) (Or.inl ⟨by rfl, fun x hSw => ?hyz6_1⟩) hHeld ?restz6_1
        case hyz6_1 =>
          have k0 := keepB hSw G0; have k1 := keepB hSw G1; have k2 := keepB hSw G2; have k3 := keepB hSw GB
          go_simp
          try with_reducible rfl
        try simp only [Act.put, List.setIfInBounds_toArray, List.set_cons_zero, List.set_cons_succ]
        refine wpAnyH_ready (rs := [2]) (by kernel_rfl) (by simp) ?_
        refine AllReadyH.cons (o := ({ dst := some 32, op := Op.call { callee := Callee.value (Operand.func 35), args := #[Operand.tmp 31], argTypes := #[9] }, type := 4, pos := "l6_journal.go:30", after := #[{ on := 1, ground := Ground.data }], guard := none } : Oper)) rfl (fun K hK => ?_) AllReadyH.nil
        go_simp
        refine (sFileName (F k).s _ z1).mono ?_
        rw [h4]; rintro e w1 ⟨rfl, rfl⟩
        refine hK.out _ _ (hHeld) (fun hHeld => ?_)
        clear hK K
        try simp only [Act.put, List.setIfInBounds_toArray, List.set_cons_zero, List.set_cons_succ]
        refine' wpAnyH_take (i := 3) (oi := ({ dst := some 33, op := Op.unOp UnOp.not 4 (Operand.tmp 32), type := 4, pos := "l6_journal.go:30", after := #[{ on := 2, ground := Ground.data }], guard := none } : Oper)) (v := _) rfl (by kernel_rfl) (by kernel_rfl) (by kernel_rfl) (fun _ _ _ h => h) (Or.inl ⟨by rfl, fun x hSw => ?hyz6_3⟩) hHeld ?restz6_3
        case hyz6_3 =>
          have k0 := keepB hSw G0; have k1 := keepB hSw G1; have k2 := keepB hSw G2; have k3 := keepB hSw GB
          go_simp
          try with_reducible rfl
        try simp only [Act.put, List.setIfInBounds_toArray, List.set_cons_zero, List.set_cons_succ]
        refine' wpAnyH_take (i := 4) (oi := ({ dst := some 34, op := Op.move (Operand.tmp 33), type := 4, pos := "l6_journal.go:30", after := #[{ on := 3, ground := Ground.data }, { on := 2, ground := Ground.chain }], guard := none } : Oper)) (v := _) rfl (by kernel_rfl) (by kernel_rfl) (by kernel_rfl) (fun _ _ _ h => h) (Or.inl ⟨by rfl, fun x hSw => ?hyz6_4⟩) hHeld ?restz6_4
        case hyz6_4 =>
          have k0 := keepB hSw G0; have k1 := keepB hSw G1; have k2 := keepB hSw G2; have k3 := keepB hSw GB
          go_simp
          try with_reducible rfl
        try simp only [Act.put, List.setIfInBounds_toArray, List.set_cons_zero, List.set_cons_succ]
        refine' wpAnyH_take (i := 5) (oi := ({ dst := some 35, op := Op.fieldAddr 49 (Operand.tmp 4) 2, type := 0, pos := "l6_journal.go:30", after := #[{ on := 4, ground := Ground.guard }], guard := some (4, false) } : Oper)) (v := _) rfl (by kernel_rfl) (by kernel_rfl) (by kernel_rfl) (fun _ _ _ h => h) (Or.inl ⟨by rfl, fun x hSw => ?hyz6_5⟩) hHeld ?restz6_5
        case hyz6_5 =>
          have k0 := keepB hSw G0; have k1 := keepB hSw G1; have k2 := keepB hSw G2; have k3 := keepB hSw GB
          go_simp
          try with_reducible rfl
        try simp only [Act.put, List.setIfInBounds_toArray, List.set_cons_zero, List.set_cons_succ]
        refine' wpAnyH_take (i := 6) (oi := ({ dst := some 36, op := Op.load 3 (Operand.tmp 35), type := 3, pos := "l6_journal.go:30", after := #[{ on := 5, ground := Ground.data }, { on := 4, ground := Ground.guard }], guard := some (4, false) } : Oper)) (v := _) rfl (by kernel_rfl) (by kernel_rfl) (by kernel_rfl) (fun _ _ _ h => h) (Or.inl ⟨by rfl, fun x hSw => ?hyz6_6⟩) hHeld ?restz6_6
        case hyz6_6 =>
          have k0 := keepB hSw G0; have k1 := keepB hSw G1; have k2 := keepB hSw G2; have k3 := keepB hSw GB
          go_simp
          try with_reducible rfl
        try simp only [Act.put, List.setIfInBounds_toArray, List.set_cons_zero, List.set_cons_succ]
        refine' wpAnyH_take (i := 7) (oi := ({ dst := some 37, op := Op.fieldAddr 49 (Operand.tmp 4) 1, type := 0, pos := "l6_journal.go:30", after := #[{ on := 4, ground := Ground.guard }], guard := some (4, false) } : Oper)) (v := _) rfl (by kernel_rfl) (by kernel_rfl) (by kernel_rfl) (fun _ _ _ h => h) (Or.inl ⟨by rfl, fun x hSw => ?hyz6_7⟩) hHeld ?restz6_7
        case hyz6_7 =>
          have k0 := keepB hSw G0; have k1 := keepB hSw G1; have k2 := keepB hSw G2; have k3 := keepB hSw GB
          go_simp
          try with_reducible rfl
        try simp only [Act.put, List.setIfInBounds_toArray, List.set_cons_zero, List.set_cons_succ]
        refine' wpAnyH_take (i := 8) (oi := ({ dst := some 38, op := Op.load 9 (Operand.tmp 37), type := 9, pos := "l6_journal.go:30", after := #[{ on := 7, ground := Ground.data }, { on := 4, ground := Ground.guard }], guard := some (4, false) } : Oper)) (v := _) rfl (by kernel_rfl) (by kernel_rfl) (by kernel_rfl) (fun _ _ _ h => h) (Or.inl ⟨by rfl, fun x hSw => ?hyz6_8⟩) hHeld ?restz6_8
        case hyz6_8 =>
          have k0 := keepB hSw G0; have k1 := keepB hSw G1; have k2 := keepB hSw G2; have k3 := keepB hSw GB
          go_simp
          try with_reducible rfl
        try simp only [Act.put, List.setIfInBounds_toArray, List.set_cons_zero, List.set_cons_succ]
        refine' wpAnyH_take (i := 9) (oi := ({ dst := some 39, op := Op.call { callee := Callee.builtin Builtin.len, args := #[Operand.tmp 38], argTypes := #[9] }, type := 3, pos := "l6_journal.go:30", after := #[{ on := 8, ground := Ground.data }, { on := 4, ground := Ground.guard }], guard := some (4, false) } : Oper)) (v := _) rfl (by kernel_rfl) (by kernel_rfl) (by kernel_rfl) (fun _ _ _ h => h) (Or.inl ⟨by rfl, fun x hSw => ?hyz6_9⟩) hHeld ?restz6_9
        case hyz6_9 =>
          have k0 := keepB hSw G0; have k1 := keepB hSw G1; have k2 := keepB hSw G2; have k3 := keepB hSw GB
          go_simp
          try with_reducible rfl
        try simp only [Act.put, List.setIfInBounds_toArray, List.set_cons_zero, List.set_cons_succ]
        refine wpAnyH_ready (rs := [10]) (by kernel_rfl) (by simp) ?_
        refine AllReadyH.cons (o := ({ dst := some 40, op := Op.call { callee := Callee.value (Operand.func 33), args := #[Operand.tmp 36, Operand.const (Value.int IntKind.i64 0), Operand.tmp 39], argTypes := #[3, 3, 3] }, type := 4, pos := "l6_journal.go:30", after := #[{ on := 6, ground := Ground.data }, { on := 9, ground := Ground.data }, { on := 4, ground := Ground.chain }, { on := 4, ground := Ground.guard }], guard := some (4, false) } : Oper)) rfl (fun K hK => ?_) AllReadyH.nil
        go_simp
        refine (sBetween (F k).y 0 (F k).d.size _).mono ?_
        rw [h5]; rintro e w1 ⟨rfl, rfl⟩
        refine hK.out _ _ (hHeld) (fun hHeld => ?_)
        clear hK K
        try simp only [Act.put, List.setIfInBounds_toArray, List.set_cons_zero, List.set_cons_succ]
        refine' wpAnyH_take (i := 11) (oi := ({ dst := some 41, op := Op.unOp UnOp.not 4 (Operand.tmp 40), type := 4, pos := "l6_journal.go:30", after := #[{ on := 10, ground := Ground.data }, { on := 4, ground := Ground.guard }], guard := some (4, false) } : Oper)) (v := _) rfl (by kernel_rfl) (by kernel_rfl) (by kernel_rfl) (fun _ _ _ h => h) (Or.inl ⟨by rfl, fun x hSw => ?hyz6_11⟩) hHeld ?restz6_11
        case hyz6_11 =>
          have k0 := keepB hSw G0; have k1 := keepB hSw G1; have k2 := keepB hSw G2; have k3 := keepB hSw GB
          go_simp
          try with_reducible rfl
        try simp only [Act.put, List.setIfInBounds_toArray, List.set_cons_zero, List.set_cons_succ]
        refine' wpAnyH_take (i := 12) (oi := ({ dst := some 42, op := Op.pick (Operand.tmp 34) (Operand.const (Value.bool true)) (Operand.tmp 41), type := 4, pos := "l6_journal.go:30", after := #[{ on := 4, ground := Ground.data }, { on := 11, ground := Ground.data }], guard := none } : Oper)) (v := _) rfl (by kernel_rfl) (by kernel_rfl) (by kernel_rfl) (fun _ _ _ h => h) (Or.inl ⟨by rfl, fun x hSw => ?hyz6_12⟩) hHeld ?restz6_12
        case hyz6_12 =>
          have k0 := keepB hSw G0; have k1 := keepB hSw G1; have k2 := keepB hSw G2; have k3 := keepB hSw GB
          go_simp
          try with_reducible rfl
        try simp only [Act.put, List.setIfInBounds_toArray, List.set_cons_zero, List.set_cons_succ]
        refine' wpAnyH_take (i := 13) (oi := ({ dst := some 43, op := Op.move (Operand.tmp 42), type := 4, pos := "l6_journal.go:30", after := #[{ on := 12, ground := Ground.data }, { on := 10, ground := Ground.chain }], guard := none } : Oper)) (v := _) rfl (by kernel_rfl) (by kernel_rfl) (by kernel_rfl) (fun _ _ _ h => h) (Or.inl ⟨by rfl, fun x hSw => ?hyz6_13⟩) hHeld ?restz6_13
        case hyz6_13 =>
          have k0 := keepB hSw G0; have k1 := keepB hSw G1; have k2 := keepB hSw G2; have k3 := keepB hSw GB
          go_simp
          try with_reducible rfl
        try simp only [Act.put, List.setIfInBounds_toArray, List.set_cons_zero, List.set_cons_succ]
        refine wpAnyH_take (i := 14) (oi := ({ dst := some 44, op := Op.move (Operand.tmp 3), type := 3, pos := "l6_journal.go:30", after := #[{ on := 13, ground := Ground.guard }], guard := some (13, false) } : Oper)) (v := undef) rfl (by kernel_rfl) (by kernel_rfl) (by kernel_rfl) (fun _ _ _ h => h) (Or.inr ⟨by rfl, rfl⟩) hHeld ?_
        try simp only [Act.put, List.setIfInBounds_toArray, List.set_cons_zero, List.set_cons_succ]
        refine wpAnyH_take (i := 15) (oi := ({ dst := some 45, op := Op.binOp BinOp.gtr 3 (Operand.tmp 44) (Operand.const (Value.int IntKind.i64 0)) 3, type := 4, pos := "l6_journal.go:30", after := #[{ on := 14, ground := Ground.data }, { on := 13, ground := Ground.guard }], guard := some (13, false) } : Oper)) (v := undef) rfl (by kernel_rfl) (by kernel_rfl) (by kernel_rfl) (fun _ _ _ h => h) (Or.inr ⟨by rfl, rfl⟩) hHeld ?_
        try simp only [Act.put, List.setIfInBounds_toArray, List.set_cons_zero, List.set_cons_succ]
        refine wpAnyH_take (i := 16) (oi := ({ dst := some 46, op := Op.move (Operand.tmp 45), type := 4, pos := "l6_journal.go:30", after := #[{ on := 15, ground := Ground.data }, { on := 13, ground := Ground.chain }, { on := 13, ground := Ground.guard }], guard := some (13, false) } : Oper)) (v := undef) rfl (by kernel_rfl) (by kernel_rfl) (by kernel_rfl) (fun _ _ _ h => h) (Or.inr ⟨by rfl, rfl⟩) hHeld ?_
        try simp only [Act.put, List.setIfInBounds_toArray, List.set_cons_zero, List.set_cons_succ]
        refine wpAnyH_take (i := 17) (oi := ({ dst := some 47, op := Op.fieldAddr 28 (Operand.tmp 1) 0, type := 0, pos := "l6_journal.go:30", after := #[{ on := 16, ground := Ground.guard }], guard := some (16, true) } : Oper)) (v := undef) rfl (by kernel_rfl) (by kernel_rfl) (by kernel_rfl) (fun _ _ _ h => h) (Or.inr ⟨by rfl, rfl⟩) hHeld ?_
        try simp only [Act.put, List.setIfInBounds_toArray, List.set_cons_zero, List.set_cons_succ]
        refine wpAnyH_take (i := 18) (oi := ({ dst := some 48, op := Op.load 26 (Operand.tmp 47), type := 26, pos := "l6_journal.go:30", after := #[{ on := 17, ground := Ground.data }, { on := 16, ground := Ground.guard }], guard := some (16, true) } : Oper)) (v := undef) rfl (by kernel_rfl) (by kernel_rfl) (by kernel_rfl) (fun _ _ _ h => h) (Or.inr ⟨by rfl, rfl⟩) hHeld ?_
        try simp only [Act.put, List.setIfInBounds_toArray, List.set_cons_zero, List.set_cons_succ]
        refine wpAnyH_take (i := 19) (oi := ({ dst := some 49, op := Op.move (Operand.tmp 3), type := 3, pos := "l6_journal.go:30", after := #[{ on := 16, ground := Ground.guard }], guard := some (16, true) } : Oper)) (v := undef) rfl (by kernel_rfl) (by kernel_rfl) (by kernel_rfl) (fun _ _ _ h => h) (Or.inr ⟨by rfl, rfl⟩) hHeld ?_
        try simp only [Act.put, List.setIfInBounds_toArray, List.set_cons_zero, List.set_cons_succ]
        refine wpAnyH_take (i := 20) (oi := ({ dst := some 50, op := Op.binOp BinOp.sub 3 (Operand.tmp 49) (Operand.const (Value.int IntKind.i64 1)) 3, type := 3, pos := "l6_journal.go:30", after := #[{ on := 19, ground := Ground.data }, { on := 16, ground := Ground.guard }], guard := some (16, true) } : Oper)) (v := undef) rfl (by kernel_rfl) (by kernel_rfl) (by kernel_rfl) (fun _ _ _ h => h) (Or.inr ⟨by rfl, rfl⟩) hHeld ?_
        try simp only [Act.put, List.setIfInBounds_toArray, List.set_cons_zero, List.set_cons_succ]
        refine wpAnyH_take (i := 21) (oi := ({ dst := some 51, op := Op.indexAddr 26 (Operand.tmp 48) (Operand.tmp 50), type := 0, pos := "l6_journal.go:30", after := #[{ on := 18, ground := Ground.data }, { on := 20, ground := Ground.data }, { on := 16, ground := Ground.guard }], guard := some (16, true) } : Oper)) (v := undef) rfl (by kernel_rfl) (by kernel_rfl) (by kernel_rfl) (fun _ _ _ h => h) (Or.inr ⟨by rfl, rfl⟩) hHeld ?_
        try simp only [Act.put, List.setIfInBounds_toArray, List.set_cons_zero, List.set_cons_succ]
        refine wpAnyH_take (i := 22) (oi := ({ dst := some 52, op := Op.fieldAddr 49 (Operand.tmp 51) 0, type := 0, pos := "l6_journal.go:30", after := #[{ on := 21, ground := Ground.data }, { on := 16, ground := Ground.guard }], guard := some (16, true) } : Oper)) (v := undef) rfl (by kernel_rfl) (by kernel_rfl) (by kernel_rfl) (fun _ _ _ h => h) (Or.inr ⟨by rfl, rfl⟩) hHeld ?_
        try simp only [Act.put, List.setIfInBounds_toArray, List.set_cons_zero, List.set_cons_succ]
        refine wpAnyH_take (i := 23) (oi := ({ dst := some 53, op := Op.load 9 (Operand.tmp 52), type := 9, pos := "l6_journal.go:30", after := #[{ on := 22, ground := Ground.data }, { on := 16, ground := Ground.guard }], guard := some (16, true) } : Oper)) (v := undef) rfl (by kernel_rfl) (by kernel_rfl) (by kernel_rfl) (fun _ _ _ h => h) (Or.inr ⟨by rfl, rfl⟩) hHeld ?_
        try simp only [Act.put, List.setIfInBounds_toArray, List.set_cons_zero, List.set_cons_succ]
        refine wpAnyH_take (i := 24) (oi := ({ dst := some 54, op := Op.fieldAddr 49 (Operand.tmp 4) 0, type := 0, pos := "l6_journal.go:30", after := #[{ on := 16, ground := Ground.guard }], guard := some (16, true) } : Oper)) (v := undef) rfl (by kernel_rfl) (by kernel_rfl) (by kernel_rfl) (fun _ _ _ h => h) (Or.inr ⟨by rfl, rfl⟩) hHeld ?_
        try simp only [Act.put, List.setIfInBounds_toArray, List.set_cons_zero, List.set_cons_succ]
        refine wpAnyH_take (i := 25) (oi := ({ dst := some 55, op := Op.load 9 (Operand.tmp 54), type := 9, pos := "l6_journal.go:30", after := #[{ on := 24, ground := Ground.data }, { on := 16, ground := Ground.guard }], guard := some (16, true) } : Oper)) (v := undef) rfl (by kernel_rfl) (by kernel_rfl) (by kernel_rfl) (fun _ _ _ h => h) (Or.inr ⟨by rfl, rfl⟩) hHeld ?_
        try simp only [Act.put, List.setIfInBounds_toArray, List.set_cons_zero, List.set_cons_succ]
        refine wpAnyH_take (i := 26) (oi := ({ dst := some 56, op := Op.binOp BinOp.geq 9 (Operand.tmp 53) (Operand.tmp 55) 9, type := 4, pos := "l6_journal.go:30", after := #[{ on := 23, ground := Ground.data }, { on := 25, ground := Ground.data }, { on := 16, ground := Ground.guard }], guard := some (16, true) } : Oper)) (v := undef) rfl (by kernel_rfl) (by kernel_rfl) (by kernel_rfl) (fun _ _ _ h => h) (Or.inr ⟨by rfl, rfl⟩) hHeld ?_
        try simp only [Act.put, List.setIfInBounds_toArray, List.set_cons_zero, List.set_cons_succ]
        refine wpAnyH_take (i := 27) (oi := ({ dst := some 57, op := Op.pick (Operand.tmp 46) (Operand.tmp 56) (Operand.const (Value.bool false)), type := 4, pos := "l6_journal.go:30", after := #[{ on := 16, ground := Ground.data }, { on := 26, ground := Ground.data }, { on := 13, ground := Ground.guard }], guard := some (13, false) } : Oper)) (v := undef) rfl (by kernel_rfl) (by kernel_rfl) (by kernel_rfl) (fun _ _ _ h => h) (Or.inr ⟨by rfl, rfl⟩) hHeld ?_
        try simp only [Act.put, List.setIfInBounds_toArray, List.set_cons_zero, List.set_cons_succ]
        refine' wpAnyH_take (i := 28) (oi := ({ dst := some 58, op := Op.pick (Operand.tmp 43) (Operand.const (Value.bool true)) (Operand.tmp 57), type := 4, pos := "l6_journal.go:30", after := #[{ on := 13, ground := Ground.data }, { on := 27, ground := Ground.data }], guard := none } : Oper)) (v := _) rfl (by kernel_rfl) (by kernel_rfl) (by kernel_rfl) (fun _ _ _ h => h) (Or.inl ⟨by rfl, fun x hSw => ?hyz6_28⟩) hHeld ?restz6_28
        case hyz6_28 =>
          have k0 := keepB hSw G0; have k1 := keepB hSw G1; have k2 := keepB hSw G2; have k3 := keepB hSw GB
          go_simp
          try with_reducible rfl
        try simp only [Act.put, List.setIfInBounds_toArray, List.set_cons_zero, List.set_cons_succ]
        refine wpAnyH_done (by kernel_rfl) ?_ _
        go_wp2
        go_ret
        exact ⟨by rw [HF.out]; rfl, bstep hbw (bstep hb6 hHeld)⟩
      by_cases hk0 : k = 0
      · have d6 : decide ((0 : Int) < (k : Int)) = false := by simp; omega
        have d7 : decide (0 < k) = false := by simp; omega
        have d8 : ¬ 0 < k := by omega
        have HK : Hid (k = 0) := hk0
        clear hk0
        go_wp2
        refine wp_region_held_drew (S := fun x => Below (wr.alloc (.cells #[.string (F k).s, .string (F k).d, .int .i64 (F k).y] 49)).heap.size (wr.alloc (.cells #[.string (F k).s, .string (F k).d, .int .i64 (F k).y] 49)) x) (by kernel_rfl) (bdrew _) (fun hHeld => ?_)
        refine' wpAnyH_take (i := 0) (oi := ({ dst := some 30, op := Op.fieldAddr 49 (Operand.tmp 4) 0, type := 0, pos := "l6_journal.go:30", after := #[], guard := none } : Oper)) (v := _) rfl (by kernel_rfl) (by kernel_rfl) (by kernel_rfl) (fun _ _ _ h => h) (Or.inl ⟨by rfl, fun x hSw => ?hyz7_0⟩) hHeld ?restz7_0
        case hyz7_0 =>
          have k0 := keepB hSw G0; have k1 := keepB hSw G1; have k2 := keepB hSw G2; have k3 := keepB hSw GB
          go_simp
          try with_reducible rfl
        try simp only [Act.put, List.setIfInBounds_toArray, List.set_cons_zero, List.set_cons_succ]
        refine' wpAnyH_take (i := 1) (oi := ({ dst := some 31, op := Op.load 9 (Operand.tmp 30), type := 9, pos := "l6_journal.go:30", after := #[{ on := 0, ground := Ground.data }], guard := none } : Oper)) (v := _) rfl (by kernel_rfl) (by kernel_rfl) (by kernel_rfl) (fun _ _ _ h => h) (Or.inl ⟨by rfl, fun x hSw => ?hyz7_1⟩) hHeld ?restz7_1
        case hyz7_1 =>
          have k0 := keepB hSw G0; have k1 := keepB hSw G1; have k2 := keepB hSw G2; have k3 := keepB hSw GB
          go_simp
          try with_reducible rfl
        try simp only [Act.put, List.setIfInBounds_toArray, List.set_cons_zero, List.set_cons_succ]
        refine wpAnyH_ready (rs := [2]) (by kernel_rfl) (by simp) ?_
        refine AllReadyH.cons (o := ({ dst := some 32, op := Op.call { callee := Callee.value (Operand.func 35), args := #[Operand.tmp 31], argTypes := #[9] }, type := 4, pos := "l6_journal.go:30", after := #[{ on := 1, ground := Ground.data }], guard := none } : Oper)) rfl (fun K hK => ?_) AllReadyH.nil
        go_simp
        refine (sFileName (F k).s _ z1).mono ?_
        rw [h4]; rintro e w1 ⟨rfl, rfl⟩
        refine hK.out _ _ (hHeld) (fun hHeld => ?_)
        clear hK K
        try simp only [Act.put, List.setIfInBounds_toArray, List.set_cons_zero, List.set_cons_succ]
        refine' wpAnyH_take (i := 3) (oi := ({ dst := some 33, op := Op.unOp UnOp.not 4 (Operand.tmp 32), type := 4, pos := "l6_journal.go:30", after := #[{ on := 2, ground := Ground.data }], guard := none } : Oper)) (v := _) rfl (by kernel_rfl) (by kernel_rfl) (by kernel_rfl) (fun _ _ _ h => h) (Or.inl ⟨by rfl, fun x hSw => ?hyz7_3⟩) hHeld ?restz7_3
        case hyz7_3 =>
          have k0 := keepB hSw G0; have k1 := keepB hSw G1; have k2 := keepB hSw G2; have k3 := keepB hSw GB
          go_simp
          try with_reducible rfl
        try simp only [Act.put, List.setIfInBounds_toArray, List.set_cons_zero, List.set_cons_succ]
        refine' wpAnyH_take (i := 4) (oi := ({ dst := some 34, op := Op.move (Operand.tmp 33), type := 4, pos := "l6_journal.go:30", after := #[{ on := 3, ground := Ground.data }, { on := 2, ground := Ground.chain }], guard := none } : Oper)) (v := _) rfl (by kernel_rfl) (by kernel_rfl) (by kernel_rfl) (fun _ _ _ h => h) (Or.inl ⟨by rfl, fun x hSw => ?hyz7_4⟩) hHeld ?restz7_4
        case hyz7_4 =>
          have k0 := keepB hSw G0; have k1 := keepB hSw G1; have k2 := keepB hSw G2; have k3 := keepB hSw GB
          go_simp
          try with_reducible rfl
        try simp only [Act.put, List.setIfInBounds_toArray, List.set_cons_zero, List.set_cons_succ]
        refine' wpAnyH_take (i := 5) (oi := ({ dst := some 35, op := Op.fieldAddr 49 (Operand.tmp 4) 2, type := 0, pos := "l6_journal.go:30", after := #[{ on := 4, ground := Ground.guard }], guard := some (4, false) } : Oper)) (v := _) rfl (by kernel_rfl) (by kernel_rfl) (by kernel_rfl) (fun _ _ _ h => h) (Or.inl ⟨by rfl, fun x hSw => ?hyz7_5⟩) hHeld ?restz7_5
        case hyz7_5 =>
          have k0 := keepB hSw G0; have k1 := keepB hSw G1; have k2 := keepB hSw G2; have k3 := keepB hSw GB
          go_simp
          try with_reducible rfl
        try simp only [Act.put, List.setIfInBounds_toArray, List.set_cons_zero, List.set_cons_succ]
        refine' wpAnyH_take (i := 6) (oi := ({ dst := some 36, op := Op.load 3 (Operand.tmp 35), type := 3, pos := "l6_journal.go:30", after := #[{ on := 5, ground := Ground.data }, { on := 4, ground := Ground.guard }], guard := some (4, false) } : Oper)) (v := _) rfl (by kernel_rfl) (by kernel_rfl) (by kernel_rfl) (fun _ _ _ h => h) (Or.inl ⟨by rfl, fun x hSw => ?hyz7_6⟩) hHeld ?restz7_6
        case hyz7_6 =>
          have k0 := keepB hSw G0; have k1 := keepB hSw G1; have k2 := keepB hSw G2; have k3 := keepB hSw GB
          go_simp
          try with_reducible rfl
        try simp only [Act.put, List.setIfInBounds_toArray, List.set_cons_zero, List.set_cons_succ]
        refine' wpAnyH_take (i := 7) (oi := ({ dst := some 37, op := Op.fieldAddr 49 (Operand.tmp 4) 1, type := 0, pos := "l6_journal.go:30", after := #[{ on := 4, ground := Ground.guard }], guard := some (4, false) } : Oper)) (v := _) rfl (by kernel_rfl) (by kernel_rfl) (by kernel_rfl) (fun _ _ _ h => h) (Or.inl ⟨by rfl, fun x hSw => ?hyz7_7⟩) hHeld ?restz7_7
        case hyz7_7 =>
          have k0 := keepB hSw G0; have k1 := keepB hSw G1; have k2 := keepB hSw G2; have k3 := keepB hSw GB
          go_simp
          try with_reducible rfl
        try simp only [Act.put, List.setIfInBounds_toArray, List.set_cons_zero, List.set_cons_succ]
        refine' wpAnyH_take (i := 8) (oi := ({ dst := some 38, op := Op.load 9 (Operand.tmp 37), type := 9, pos := "l6_journal.go:30", after := #[{ on := 7, ground := Ground.data }, { on := 4, ground := Ground.guard }], guard := some (4, false) } : Oper)) (v := _) rfl (by kernel_rfl) (by kernel_rfl) (by kernel_rfl) (fun _ _ _ h => h) (Or.inl ⟨by rfl, fun x hSw => ?hyz7_8⟩) hHeld ?restz7_8
        case hyz7_8 =>
          have k0 := keepB hSw G0; have k1 := keepB hSw G1; have k2 := keepB hSw G2; have k3 := keepB hSw GB
          go_simp
          try with_reducible rfl
        try simp only [Act.put, List.setIfInBounds_toArray, List.set_cons_zero, List.set_cons_succ]
        refine' wpAnyH_take (i := 9) (oi := ({ dst := some 39, op := Op.call { callee := Callee.builtin Builtin.len, args := #[Operand.tmp 38], argTypes := #[9] }, type := 3, pos := "l6_journal.go:30", after := #[{ on := 8, ground := Ground.data }, { on := 4, ground := Ground.guard }], guard := some (4, false) } : Oper)) (v := _) rfl (by kernel_rfl) (by kernel_rfl) (by kernel_rfl) (fun _ _ _ h => h) (Or.inl ⟨by rfl, fun x hSw => ?hyz7_9⟩) hHeld ?restz7_9
        case hyz7_9 =>
          have k0 := keepB hSw G0; have k1 := keepB hSw G1; have k2 := keepB hSw G2; have k3 := keepB hSw GB
          go_simp
          try with_reducible rfl
        try simp only [Act.put, List.setIfInBounds_toArray, List.set_cons_zero, List.set_cons_succ]
        refine wpAnyH_ready (rs := [10]) (by kernel_rfl) (by simp) ?_
        refine AllReadyH.cons (o := ({ dst := some 40, op := Op.call { callee := Callee.value (Operand.func 33), args := #[Operand.tmp 36, Operand.const (Value.int IntKind.i64 0), Operand.tmp 39], argTypes := #[3, 3, 3] }, type := 4, pos := "l6_journal.go:30", after := #[{ on := 6, ground := Ground.data }, { on := 9, ground := Ground.data }, { on := 4, ground := Ground.chain }, { on := 4, ground := Ground.guard }], guard := some (4, false) } : Oper)) rfl (fun K hK => ?_) AllReadyH.nil
        go_simp
        refine (sBetween (F k).y 0 (F k).d.size _).mono ?_
        rw [h5]; rintro e w1 ⟨rfl, rfl⟩
        refine hK.out _ _ (hHeld) (fun hHeld => ?_)
        clear hK K
        try simp only [Act.put, List.setIfInBounds_toArray, List.set_cons_zero, List.set_cons_succ]
        refine' wpAnyH_take (i := 11) (oi := ({ dst := some 41, op := Op.unOp UnOp.not 4 (Operand.tmp 40), type := 4, pos := "l6_journal.go:30", after := #[{ on := 10, ground := Ground.data }, { on := 4, ground := Ground.guard }], guard := some (4, false) } : Oper)) (v := _) rfl (by kernel_rfl) (by kernel_rfl) (by kernel_rfl) (fun _ _ _ h => h) (Or.inl ⟨by rfl, fun x hSw => ?hyz7_11⟩) hHeld ?restz7_11
        case hyz7_11 =>
          have k0 := keepB hSw G0; have k1 := keepB hSw G1; have k2 := keepB hSw G2; have k3 := keepB hSw GB
          go_simp
          try with_reducible rfl
        try simp only [Act.put, List.setIfInBounds_toArray, List.set_cons_zero, List.set_cons_succ]
        refine' wpAnyH_take (i := 12) (oi := ({ dst := some 42, op := Op.pick (Operand.tmp 34) (Operand.const (Value.bool true)) (Operand.tmp 41), type := 4, pos := "l6_journal.go:30", after := #[{ on := 4, ground := Ground.data }, { on := 11, ground := Ground.data }], guard := none } : Oper)) (v := _) rfl (by kernel_rfl) (by kernel_rfl) (by kernel_rfl) (fun _ _ _ h => h) (Or.inl ⟨by rfl, fun x hSw => ?hyz7_12⟩) hHeld ?restz7_12
        case hyz7_12 =>
          have k0 := keepB hSw G0; have k1 := keepB hSw G1; have k2 := keepB hSw G2; have k3 := keepB hSw GB
          go_simp
          try with_reducible rfl
        try simp only [Act.put, List.setIfInBounds_toArray, List.set_cons_zero, List.set_cons_succ]
        refine' wpAnyH_take (i := 13) (oi := ({ dst := some 43, op := Op.move (Operand.tmp 42), type := 4, pos := "l6_journal.go:30", after := #[{ on := 12, ground := Ground.data }, { on := 10, ground := Ground.chain }], guard := none } : Oper)) (v := _) rfl (by kernel_rfl) (by kernel_rfl) (by kernel_rfl) (fun _ _ _ h => h) (Or.inl ⟨by rfl, fun x hSw => ?hyz7_13⟩) hHeld ?restz7_13
        case hyz7_13 =>
          have k0 := keepB hSw G0; have k1 := keepB hSw G1; have k2 := keepB hSw G2; have k3 := keepB hSw GB
          go_simp
          try with_reducible rfl
        try simp only [Act.put, List.setIfInBounds_toArray, List.set_cons_zero, List.set_cons_succ]
        refine' wpAnyH_take (i := 14) (oi := ({ dst := some 44, op := Op.move (Operand.tmp 3), type := 3, pos := "l6_journal.go:30", after := #[{ on := 13, ground := Ground.guard }], guard := some (13, false) } : Oper)) (v := _) rfl (by kernel_rfl) (by kernel_rfl) (by kernel_rfl) (fun _ _ _ h => h) (Or.inl ⟨by rfl, fun x hSw => ?hyz7_14⟩) hHeld ?restz7_14
        case hyz7_14 =>
          have k0 := keepB hSw G0; have k1 := keepB hSw G1; have k2 := keepB hSw G2; have k3 := keepB hSw GB
          go_simp
          try with_reducible rfl
        try simp only [Act.put, List.setIfInBounds_toArray, List.set_cons_zero, List.set_cons_succ]
        refine' wpAnyH_take (i := 15) (oi := ({ dst := some 45, op := Op.binOp BinOp.gtr 3 (Operand.tmp 44) (Operand.const (Value.int IntKind.i64 0)) 3, type := 4, pos := "l6_journal.go:30", after := #[{ on := 14, ground := Ground.data }, { on := 13, ground := Ground.guard }], guard := some (13, false) } : Oper)) (v := .bool false) rfl (by kernel_rfl) (by kernel_rfl) (by kernel_rfl) (fun _ _ _ h => h) (Or.inl ⟨by rfl, fun x hSw => ?hyz7_15⟩) hHeld ?restz7_15
        case hyz7_15 =>
          have k0 := keepB hSw G0; have k1 := keepB hSw G1; have k2 := keepB hSw G2; have k3 := keepB hSw GB
          go_simp
          try with_reducible rfl
        try simp only [Act.put, List.setIfInBounds_toArray, List.set_cons_zero, List.set_cons_succ]
        refine' wpAnyH_take (i := 16) (oi := ({ dst := some 46, op := Op.move (Operand.tmp 45), type := 4, pos := "l6_journal.go:30", after := #[{ on := 15, ground := Ground.data }, { on := 13, ground := Ground.chain }, { on := 13, ground := Ground.guard }], guard := some (13, false) } : Oper)) (v := _) rfl (by kernel_rfl) (by kernel_rfl) (by kernel_rfl) (fun _ _ _ h => h) (Or.inl ⟨by rfl, fun x hSw => ?hyz7_16⟩) hHeld ?restz7_16
        case hyz7_16 =>
          have k0 := keepB hSw G0; have k1 := keepB hSw G1; have k2 := keepB hSw G2; have k3 := keepB hSw GB
          go_simp
          try with_reducible rfl
        try simp only [Act.put, List.setIfInBounds_toArray, List.set_cons_zero, List.set_cons_succ]
        refine wpAnyH_take (i := 17) (oi := ({ dst := some 47, op := Op.fieldAddr 28 (Operand.tmp 1) 0, type := 0, pos := "l6_journal.go:30", after := #[{ on := 16, ground := Ground.guard }], guard := some (16, true) } : Oper)) (v := undef) rfl (by kernel_rfl) (by kernel_rfl) (by kernel_rfl) (fun _ _ _ h => h) (Or.inr ⟨by rfl, rfl⟩) hHeld ?_
        try simp only [Act.put, List.setIfInBounds_toArray, List.set_cons_zero, List.set_cons_succ]
        refine wpAnyH_take (i := 18) (oi := ({ dst := some 48, op := Op.load 26 (Operand.tmp 47), type := 26, pos := "l6_journal.go:30", after := #[{ on := 17, ground := Ground.data }, { on := 16, ground := Ground.guard }], guard := some (16, true) } : Oper)) (v := undef) rfl (by kernel_rfl) (by kernel_rfl) (by kernel_rfl) (fun _ _ _ h => h) (Or.inr ⟨by rfl, rfl⟩) hHeld ?_
        try simp only [Act.put, List.setIfInBounds_toArray, List.set_cons_zero, List.set_cons_succ]
        refine wpAnyH_take (i := 19) (oi := ({ dst := some 49, op := Op.move (Operand.tmp 3), type := 3, pos := "l6_journal.go:30", after := #[{ on := 16, ground := Ground.guard }], guard := some (16, true) } : Oper)) (v := undef) rfl (by kernel_rfl) (by kernel_rfl) (by kernel_rfl) (fun _ _ _ h => h) (Or.inr ⟨by rfl, rfl⟩) hHeld ?_
        try simp only [Act.put, List.setIfInBounds_toArray, List.set_cons_zero, List.set_cons_succ]
        refine wpAnyH_take (i := 20) (oi := ({ dst := some 50, op := Op.binOp BinOp.sub 3 (Operand.tmp 49) (Operand.const (Value.int IntKind.i64 1)) 3, type := 3, pos := "l6_journal.go:30", after := #[{ on := 19, ground := Ground.data }, { on := 16, ground := Ground.guard }], guard := some (16, true) } : Oper)) (v := undef) rfl (by kernel_rfl) (by kernel_rfl) (by kernel_rfl) (fun _ _ _ h => h) (Or.inr ⟨by rfl, rfl⟩) hHeld ?_
        try simp only [Act.put, List.setIfInBounds_toArray, List.set_cons_zero, List.set_cons_succ]
        refine wpAnyH_take (i := 21) (oi := ({ dst := some 51, op := Op.indexAddr 26 (Operand.tmp 48) (Operand.tmp 50), type := 0, pos := "l6_journal.go:30", after := #[{ on := 18, ground := Ground.data }, { on := 20, ground := Ground.data }, { on := 16, ground := Ground.guard }], guard := some (16, true) } : Oper)) (v := undef) rfl (by kernel_rfl) (by kernel_rfl) (by kernel_rfl) (fun _ _ _ h => h) (Or.inr ⟨by rfl, rfl⟩) hHeld ?_
        try simp only [Act.put, List.setIfInBounds_toArray, List.set_cons_zero, List.set_cons_succ]
        refine wpAnyH_take (i := 22) (oi := ({ dst := some 52, op := Op.fieldAddr 49 (Operand.tmp 51) 0, type := 0, pos := "l6_journal.go:30", after := #[{ on := 21, ground := Ground.data }, { on := 16, ground := Ground.guard }], guard := some (16, true) } : Oper)) (v := undef) rfl (by kernel_rfl) (by kernel_rfl) (by kernel_rfl) (fun _ _ _ h => h) (Or.inr ⟨by rfl, rfl⟩) hHeld ?_
        try simp only [Act.put, List.setIfInBounds_toArray, List.set_cons_zero, List.set_cons_succ]
        refine wpAnyH_take (i := 23) (oi := ({ dst := some 53, op := Op.load 9 (Operand.tmp 52), type := 9, pos := "l6_journal.go:30", after := #[{ on := 22, ground := Ground.data }, { on := 16, ground := Ground.guard }], guard := some (16, true) } : Oper)) (v := undef) rfl (by kernel_rfl) (by kernel_rfl) (by kernel_rfl) (fun _ _ _ h => h) (Or.inr ⟨by rfl, rfl⟩) hHeld ?_
        try simp only [Act.put, List.setIfInBounds_toArray, List.set_cons_zero, List.set_cons_succ]
        refine wpAnyH_take (i := 24) (oi := ({ dst := some 54, op := Op.fieldAddr 49 (Operand.tmp 4) 0, type := 0, pos := "l6_journal.go:30", after := #[{ on := 16, ground := Ground.guard }], guard := some (16, true) } : Oper)) (v := undef) rfl (by kernel_rfl) (by kernel_rfl) (by kernel_rfl) (fun _ _ _ h => h) (Or.inr ⟨by rfl, rfl⟩) hHeld ?_
        try simp only [Act.put, List.setIfInBounds_toArray, List.set_cons_zero, List.set_cons_succ]
        refine wpAnyH_take (i := 25) (oi := ({ dst := some 55, op := Op.load 9 (Operand.tmp 54), type := 9, pos := "l6_journal.go:30", after := #[{ on := 24, ground := Ground.data }, { on := 16, ground := Ground.guard }], guard := some (16, true) } : Oper)) (v := undef) rfl (by kernel_rfl) (by kernel_rfl) (by kernel_rfl) (fun _ _ _ h => h) (Or.inr ⟨by rfl, rfl⟩) hHeld ?_
        try simp only [Act.put, List.setIfInBounds_toArray, List.set_cons_zero, List.set_cons_succ]
        refine wpAnyH_take (i := 26) (oi := ({ dst := some 56, op := Op.binOp BinOp.geq 9 (Operand.tmp 53) (Operand.tmp 55) 9, type := 4, pos := "l6_journal.go:30", after := #[{ on := 23, ground := Ground.data }, { on := 25, ground := Ground.data }, { on := 16, ground := Ground.guard }], guard := some (16, true) } : Oper)) (v := undef) rfl (by kernel_rfl) (by kernel_rfl) (by kernel_rfl) (fun _ _ _ h => h) (Or.inr ⟨by rfl, rfl⟩) hHeld ?_
        try simp only [Act.put, List.setIfInBounds_toArray, List.set_cons_zero, List.set_cons_succ]
        refine' wpAnyH_take (i := 27) (oi := ({ dst := some 57, op := Op.pick (Operand.tmp 46) (Operand.tmp 56) (Operand.const (Value.bool false)), type := 4, pos := "l6_journal.go:30", after := #[{ on := 16, ground := Ground.data }, { on := 26, ground := Ground.data }, { on := 13, ground := Ground.guard }], guard := some (13, false) } : Oper)) (v := _) rfl (by kernel_rfl) (by kernel_rfl) (by kernel_rfl) (fun _ _ _ h => h) (Or.inl ⟨by rfl, fun x hSw => ?hyz7_27⟩) hHeld ?restz7_27
        case hyz7_27 =>
          have k0 := keepB hSw G0; have k1 := keepB hSw G1; have k2 := keepB hSw G2; have k3 := keepB hSw GB
          go_simp
          try with_reducible rfl
        try simp only [Act.put, List.setIfInBounds_toArray, List.set_cons_zero, List.set_cons_succ]
        refine' wpAnyH_take (i := 28) (oi := ({ dst := some 58, op := Op.pick (Operand.tmp 43) (Operand.const (Value.bool true)) (Operand.tmp 57), type := 4, pos := "l6_journal.go:30", after := #[{ on := 13, ground := Ground.data }, { on := 27, ground := Ground.data }], guard := none } : Oper)) (v := _) rfl (by kernel_rfl) (by kernel_rfl) (by kernel_rfl) (fun _ _ _ h => h) (Or.inl ⟨by rfl, fun x hSw => ?hyz7_28⟩) hHeld ?restz7_28
        case hyz7_28 =>
          have k0 := keepB hSw G0; have k1 := keepB hSw G1; have k2 := keepB hSw G2; have k3 := keepB hSw GB
          go_simp
          try with_reducible rfl
        try simp only [Act.put, List.setIfInBounds_toArray, List.set_cons_zero, List.set_cons_succ]
        refine wpAnyH_done (by kernel_rfl) ?_ _
        go_wp2
        go_roundw
        case rel => exact ⟨k + 1, by omega, by go_num, fun j hj => by
          have hk0 := HK.out
          obtain rfl : j = k := by omega
          have hl0 : ltN F j = true := by simp [ltN, hk0]
          rw [hl0, okFl, h4, h5]; rfl, bstep hb (bstep hb6 hHeld)⟩
        case measure => simp [intOf]; omega
      obtain ⟨p, rfl⟩ : ∃ p, k = p + 1 := ⟨k - 1, by omega⟩
      obtain ⟨b', off', e', c0', _, _⟩ := h.later hbw p (by omega)
      obtain ⟨rfl, rfl⟩ : b = b' ∧ off = off' := by simpa using e'
      have GP := keepB hb6 c0'
      have d6 : decide ((0 : Int) < ((p + 1 : Nat) : Int)) = true := by simp
      have i2 : IntKind.i64.wrap (p : Int) = (p : Int) := by rw [IntKind.wrap_i64]; omega
      have i0 : (0 : Int) ≤ (p : Int) := by omega
      have i1 : (p : Int) < (n : Int) := by omega
      rcases h7 : Op.bytesLess (F p).s.toList (F (p + 1)).s.toList
      · have HF : Hid (okFs n F x1 x2 x3 x4 = false) := by simp [Hid, okFs, allN_false (p := fun k => okFl F k && ltN F k) hlt (by simp [ltN, h7])]
        go_wp2
        refine wp_region_held_drew (S := fun x => Below (wr.alloc (.cells #[.string (F (p + 1)).s, .string (F (p + 1)).d, .int .i64 (F (p + 1)).y] 49)).heap.size (wr.alloc (.cells #[.string (F (p + 1)).s, .string (F (p + 1)).d, .int .i64 (F (p + 1)).y] 49)) x) (by kernel_rfl) (bdrew _) (fun hHeld => ?_)
        refine' wpAnyH_take (i := 0) (oi := ({ dst := some 30, op := Op.fieldAddr 49 (Operand.tmp 4) 0, type := 0, pos := "l6_journal.go:30", after := #[], guard := none } : Oper)) (v := _) rfl (by kernel_rfl) (by kernel_rfl) (by kernel_rfl) (fun _ _ _ h => h) (Or.inl ⟨by rfl, fun x hSw => ?hyz8_0⟩) hHeld ?restz8_0
        case hyz8_0 =>
          have k0 := keepB hSw G0; have k1 := keepB hSw G1; have k2 := keepB hSw G2; have k3 := keepB hSw GB; have k4 := keepB hSw GP
          go_simp
          try with_reducible rfl
        try simp only [Act.put, List.setIfInBounds_toArray, List.set_cons_zero, List.set_cons_succ]
        refine' wpAnyH_take (i := 1) (oi := ({ dst := some 31, op := Op.load 9 (Operand.tmp 30), type := 9, pos := "l6_journal.go:30", after := #[{ on := 0, ground := Ground.data }], guard := none } : Oper)) (v := _) rfl (by kernel_rfl) (by kernel_rfl) (by kernel_rfl) (fun _ _ _ h => h) (Or.inl ⟨by rfl, fun x hSw => ?hyz8_1⟩) hHeld ?restz8_1
        case hyz8_1 =>
          have k0 := keepB hSw G0; have k1 := keepB hSw G1; have k2 := keepB hSw G2; have k3 := keepB hSw GB; have k4 := keepB hSw GP
          go_simp
          try with_reducible rfl
        try simp only [Act.put, List.setIfInBounds_toArray, List.set_cons_zero, List.set_cons_succ]
        refine wpAnyH_ready (rs := [2]) (by kernel_rfl) (by simp) ?_
        refine AllReadyH.cons (o := ({ dst := some 32, op := Op.call { callee := Callee.value (Operand.func 35), args := #[Operand.tmp 31], argTypes := #[9] }, type := 4, pos := "l6_journal.go:30", after := #[{ on := 1, ground := Ground.data }], guard := none } : Oper)) rfl (fun K hK => ?_) AllReadyH.nil
        go_simp
        refine (sFileName (F (p + 1)).s _ z1).mono ?_
        rw [h4]; rintro e w1 ⟨rfl, rfl⟩
        refine hK.out _ _ (hHeld) (fun hHeld => ?_)
        clear hK K
        try simp only [Act.put, List.setIfInBounds_toArray, List.set_cons_zero, List.set_cons_succ]
        refine' wpAnyH_take (i := 3) (oi := ({ dst := some 33, op := Op.unOp UnOp.not 4 (Operand.tmp 32), type := 4, pos := "l6_journal.go:30", after := #[{ on := 2, ground := Ground.data }], guard := none } : Oper)) (v := _) rfl (by kernel_rfl) (by kernel_rfl) (by kernel_rfl) (fun _ _ _ h => h) (Or.inl ⟨by rfl, fun x hSw => ?hyz8_3⟩) hHeld ?restz8_3
        case hyz8_3 =>
          have k0 := keepB hSw G0; have k1 := keepB hSw G1; have k2 := keepB hSw G2; have k3 := keepB hSw GB; have k4 := keepB hSw GP
          go_simp
          try with_reducible rfl
        try simp only [Act.put, List.setIfInBounds_toArray, List.set_cons_zero, List.set_cons_succ]
        refine' wpAnyH_take (i := 4) (oi := ({ dst := some 34, op := Op.move (Operand.tmp 33), type := 4, pos := "l6_journal.go:30", after := #[{ on := 3, ground := Ground.data }, { on := 2, ground := Ground.chain }], guard := none } : Oper)) (v := _) rfl (by kernel_rfl) (by kernel_rfl) (by kernel_rfl) (fun _ _ _ h => h) (Or.inl ⟨by rfl, fun x hSw => ?hyz8_4⟩) hHeld ?restz8_4
        case hyz8_4 =>
          have k0 := keepB hSw G0; have k1 := keepB hSw G1; have k2 := keepB hSw G2; have k3 := keepB hSw GB; have k4 := keepB hSw GP
          go_simp
          try with_reducible rfl
        try simp only [Act.put, List.setIfInBounds_toArray, List.set_cons_zero, List.set_cons_succ]
        refine' wpAnyH_take (i := 5) (oi := ({ dst := some 35, op := Op.fieldAddr 49 (Operand.tmp 4) 2, type := 0, pos := "l6_journal.go:30", after := #[{ on := 4, ground := Ground.guard }], guard := some (4, false) } : Oper)) (v := _) rfl (by kernel_rfl) (by kernel_rfl) (by kernel_rfl) (fun _ _ _ h => h) (Or.inl ⟨by rfl, fun x hSw => ?hyz8_5⟩) hHeld ?restz8_5
        case hyz8_5 =>
          have k0 := keepB hSw G0; have k1 := keepB hSw G1; have k2 := keepB hSw G2; have k3 := keepB hSw GB; have k4 := keepB hSw GP
          go_simp
          try with_reducible rfl
        try simp only [Act.put, List.setIfInBounds_toArray, List.set_cons_zero, List.set_cons_succ]
        refine' wpAnyH_take (i := 6) (oi := ({ dst := some 36, op := Op.load 3 (Operand.tmp 35), type := 3, pos := "l6_journal.go:30", after := #[{ on := 5, ground := Ground.data }, { on := 4, ground := Ground.guard }], guard := some (4, false) } : Oper)) (v := _) rfl (by kernel_rfl) (by kernel_rfl) (by kernel_rfl) (fun _ _ _ h => h) (Or.inl ⟨by rfl, fun x hSw => ?hyz8_6⟩) hHeld ?restz8_6
        case hyz8_6 =>
          have k0 := keepB hSw G0; have k1 := keepB hSw G1; have k2 := keepB hSw G2; have k3 := keepB hSw GB; have k4 := keepB hSw GP
          go_simp
          try with_reducible rfl
        try simp only [Act.put, List.setIfInBounds_toArray, List.set_cons_zero, List.set_cons_succ]
        refine' wpAnyH_take (i := 7) (oi := ({ dst := some 37, op := Op.fieldAddr 49 (Operand.tmp 4) 1, type := 0, pos := "l6_journal.go:30", after := #[{ on := 4, ground := Ground.guard }], guard := some (4, false) } : Oper)) (v := _) rfl (by kernel_rfl) (by kernel_rfl) (by kernel_rfl) (fun _ _ _ h => h) (Or.inl ⟨by rfl, fun x hSw => ?hyz8_7⟩) hHeld ?restz8_7
        case hyz8_7 =>
          have k0 := keepB hSw G0; have k1 := keepB hSw G1; have k2 := keepB hSw G2; have k3 := keepB hSw GB; have k4 := keepB hSw GP
          go_simp
          try with_reducible rfl
        try simp only [Act.put, List.setIfInBounds_toArray, List.set_cons_zero, List.set_cons_succ]
        refine' wpAnyH_take (i := 8) (oi := ({ dst := some 38, op := Op.load 9 (Operand.tmp 37), type := 9, pos := "l6_journal.go:30", after := #[{ on := 7, ground := Ground.data }, { on := 4, ground := Ground.guard }], guard := some (4, false) } : Oper)) (v := _) rfl (by kernel_rfl) (by kernel_rfl) (by kernel_rfl) (fun _ _ _ h => h) (Or.inl ⟨by rfl, fun x hSw => ?hyz8_8⟩) hHeld ?restz8_8
        case hyz8_8 =>
          have k0 := keepB hSw G0; have k1 := keepB hSw G1; have k2 := keepB hSw G2; have k3 := keepB hSw GB; have k4 := keepB hSw GP
          go_simp
          try with_reducible rfl
        try simp only [Act.put, List.setIfInBounds_toArray, List.set_cons_zero, List.set_cons_succ]
        refine' wpAnyH_take (i := 9) (oi := ({ dst := some 39, op := Op.call { callee := Callee.builtin Builtin.len, args := #[Operand.tmp 38], argTypes := #[9] }, type := 3, pos := "l6_journal.go:30", after := #[{ on := 8, ground := Ground.data }, { on := 4, ground := Ground.guard }], guard := some (4, false) } : Oper)) (v := _) rfl (by kernel_rfl) (by kernel_rfl) (by kernel_rfl) (fun _ _ _ h => h) (Or.inl ⟨by rfl, fun x hSw => ?hyz8_9⟩) hHeld ?restz8_9
        case hyz8_9 =>
          have k0 := keepB hSw G0; have k1 := keepB hSw G1; have k2 := keepB hSw G2; have k3 := keepB hSw GB; have k4 := keepB hSw GP
          go_simp
          try with_reducible rfl
        try simp only [Act.put, List.setIfInBounds_toArray, List.set_cons_zero, List.set_cons_succ]
        refine wpAnyH_ready (rs := [10]) (by kernel_rfl) (by simp) ?_
        refine AllReadyH.cons (o := ({ dst := some 40, op := Op.call { callee := Callee.value (Operand.func 33), args := #[Operand.tmp 36, Operand.const (Value.int IntKind.i64 0), Operand.tmp 39], argTypes := #[3, 3, 3] }, type := 4, pos := "l6_journal.go:30", after := #[{ on := 6, ground := Ground.data }, { on := 9, ground := Ground.data }, { on := 4, ground := Ground.chain }, { on := 4, ground := Ground.guard }], guard := some (4, false) } : Oper)) rfl (fun K hK => ?_) AllReadyH.nil
        go_simp
        refine (sBetween (F (p + 1)).y 0 (F (p + 1)).d.size _).mono ?_
        rw [h5]; rintro e w1 ⟨rfl, rfl⟩
        refine hK.out _ _ (hHeld) (fun hHeld => ?_)
        clear hK K
        try simp only [Act.put, List.setIfInBounds_toArray, List.set_cons_zero, List.set_cons_succ]
        refine' wpAnyH_take (i := 11) (oi := ({ dst := some 41, op := Op.unOp UnOp.not 4 (Operand.tmp 40), type := 4, pos := "l6_journal.go:30", after := #[{ on := 10, ground := Ground.data }, { on := 4, ground := Ground.guard }], guard := some (4, false) } : Oper)) (v := _) rfl (by kernel_rfl) (by kernel_rfl) (by kernel_rfl) (fun _ _ _ h => h) (Or.inl ⟨by rfl, fun x hSw => ?hyz8_11⟩) hHeld ?restz8_11
        case hyz8_11 =>
          have k0 := keepB hSw G0; have k1 := keepB hSw G1; have k2 := keepB hSw G2; have k3 := keepB hSw GB; have k4 := keepB hSw GP
          go_simp
          try with_reducible rfl
        try simp only [Act.put, List.setIfInBounds_toArray, List.set_cons_zero, List.set_cons_succ]
        refine' wpAnyH_take (i := 12) (oi := ({ dst := some 42, op := Op.pick (Operand.tmp 34) (Operand.const (Value.bool true)) (Operand.tmp 41), type := 4, pos := "l6_journal.go:30", after := #[{ on := 4, ground := Ground.data }, { on := 11, ground := Ground.data }], guard := none } : Oper)) (v := _) rfl (by kernel_rfl) (by kernel_rfl) (by kernel_rfl) (fun _ _ _ h => h) (Or.inl ⟨by rfl, fun x hSw => ?hyz8_12⟩) hHeld ?restz8_12
        case hyz8_12 =>
          have k0 := keepB hSw G0; have k1 := keepB hSw G1; have k2 := keepB hSw G2; have k3 := keepB hSw GB; have k4 := keepB hSw GP
          go_simp
          try with_reducible rfl
        try simp only [Act.put, List.setIfInBounds_toArray, List.set_cons_zero, List.set_cons_succ]
        refine' wpAnyH_take (i := 13) (oi := ({ dst := some 43, op := Op.move (Operand.tmp 42), type := 4, pos := "l6_journal.go:30", after := #[{ on := 12, ground := Ground.data }, { on := 10, ground := Ground.chain }], guard := none } : Oper)) (v := _) rfl (by kernel_rfl) (by kernel_rfl) (by kernel_rfl) (fun _ _ _ h => h) (Or.inl ⟨by rfl, fun x hSw => ?hyz8_13⟩) hHeld ?restz8_13
        case hyz8_13 =>
          have k0 := keepB hSw G0; have k1 := keepB hSw G1; have k2 := keepB hSw G2; have k3 := keepB hSw GB; have k4 := keepB hSw GP
          go_simp
          try with_reducible rfl
        try simp only [Act.put, List.setIfInBounds_toArray, List.set_cons_zero, List.set_cons_succ]
        refine' wpAnyH_take (i := 14) (oi := ({ dst := some 44, op := Op.move (Operand.tmp 3), type := 3, pos := "l6_journal.go:30", after := #[{ on := 13, ground := Ground.guard }], guard := some (13, false) } : Oper)) (v := _) rfl (by kernel_rfl) (by kernel_rfl) (by kernel_rfl) (fun _ _ _ h => h) (Or.inl ⟨by rfl, fun x hSw => ?hyz8_14⟩) hHeld ?restz8_14
        case hyz8_14 =>
          have k0 := keepB hSw G0; have k1 := keepB hSw G1; have k2 := keepB hSw G2; have k3 := keepB hSw GB; have k4 := keepB hSw GP
          go_simp
          try with_reducible rfl
        try simp only [Act.put, List.setIfInBounds_toArray, List.set_cons_zero, List.set_cons_succ]
        refine' wpAnyH_take (i := 15) (oi := ({ dst := some 45, op := Op.binOp BinOp.gtr 3 (Operand.tmp 44) (Operand.const (Value.int IntKind.i64 0)) 3, type := 4, pos := "l6_journal.go:30", after := #[{ on := 14, ground := Ground.data }, { on := 13, ground := Ground.guard }], guard := some (13, false) } : Oper)) (v := _) rfl (by kernel_rfl) (by kernel_rfl) (by kernel_rfl) (fun _ _ _ h => h) (Or.inl ⟨by rfl, fun x hSw => ?hyz8_15⟩) hHeld ?restz8_15
        case hyz8_15 =>
          have k0 := keepB hSw G0; have k1 := keepB hSw G1; have k2 := keepB hSw G2; have k3 := keepB hSw GB; have k4 := keepB hSw GP
          go_simp
          try with_reducible rfl
        try simp only [Act.put, List.setIfInBounds_toArray, List.set_cons_zero, List.set_cons_succ]
        refine' wpAnyH_take (i := 16) (oi := ({ dst := some 46, op := Op.move (Operand.tmp 45), type := 4, pos := "l6_journal.go:30", after := #[{ on := 15, ground := Ground.data }, { on := 13, ground := Ground.chain }, { on := 13, ground := Ground.guard }], guard := some (13, false) } : Oper)) (v := _) rfl (by kernel_rfl) (by kernel_rfl) (by kernel_rfl) (fun _ _ _ h => h) (Or.inl ⟨by rfl, fun x hSw => ?hyz8_16⟩) hHeld ?restz8_16
        case hyz8_16 =>
          have k0 := keepB hSw G0; have k1 := keepB hSw G1; have k2 := keepB hSw G2; have k3 := keepB hSw GB; have k4 := keepB hSw GP
          go_simp
          try with_reducible rfl
        try simp only [Act.put, List.setIfInBounds_toArray, List.set_cons_zero, List.set_cons_succ]
        refine' wpAnyH_take (i := 17) (oi := ({ dst := some 47, op := Op.fieldAddr 28 (Operand.tmp 1) 0, type := 0, pos := "l6_journal.go:30", after := #[{ on := 16, ground := Ground.guard }], guard := some (16, true) } : Oper)) (v := _) rfl (by kernel_rfl) (by kernel_rfl) (by kernel_rfl) (fun _ _ _ h => h) (Or.inl ⟨by rfl, fun x hSw => ?hyz8_17⟩) hHeld ?restz8_17
        case hyz8_17 =>
          have k0 := keepB hSw G0; have k1 := keepB hSw G1; have k2 := keepB hSw G2; have k3 := keepB hSw GB; have k4 := keepB hSw GP
          go_simp
          try with_reducible rfl
        try simp only [Act.put, List.setIfInBounds_toArray, List.set_cons_zero, List.set_cons_succ]
        refine' wpAnyH_take (i := 18) (oi := ({ dst := some 48, op := Op.load 26 (Operand.tmp 47), type := 26, pos := "l6_journal.go:30", after := #[{ on := 17, ground := Ground.data }, { on := 16, ground := Ground.guard }], guard := some (16, true) } : Oper)) (v := _) rfl (by kernel_rfl) (by kernel_rfl) (by kernel_rfl) (fun _ _ _ h => h) (Or.inl ⟨by rfl, fun x hSw => ?hyz8_18⟩) hHeld ?restz8_18
        case hyz8_18 =>
          have k0 := keepB hSw G0; have k1 := keepB hSw G1; have k2 := keepB hSw G2; have k3 := keepB hSw GB; have k4 := keepB hSw GP
          go_simp
          try with_reducible rfl
        try simp only [Act.put, List.setIfInBounds_toArray, List.set_cons_zero, List.set_cons_succ]
        refine' wpAnyH_take (i := 19) (oi := ({ dst := some 49, op := Op.move (Operand.tmp 3), type := 3, pos := "l6_journal.go:30", after := #[{ on := 16, ground := Ground.guard }], guard := some (16, true) } : Oper)) (v := _) rfl (by kernel_rfl) (by kernel_rfl) (by kernel_rfl) (fun _ _ _ h => h) (Or.inl ⟨by rfl, fun x hSw => ?hyz8_19⟩) hHeld ?restz8_19
        case hyz8_19 =>
          have k0 := keepB hSw G0; have k1 := keepB hSw G1; have k2 := keepB hSw G2; have k3 := keepB hSw GB; have k4 := keepB hSw GP
          go_simp
          try with_reducible rfl
        try simp only [Act.put, List.setIfInBounds_toArray, List.set_cons_zero, List.set_cons_succ]
        refine' wpAnyH_take (i := 20) (oi := ({ dst := some 50, op := Op.binOp BinOp.sub 3 (Operand.tmp 49) (Operand.const (Value.int IntKind.i64 1)) 3, type := 3, pos := "l6_journal.go:30", after := #[{ on := 19, ground := Ground.data }, { on := 16, ground := Ground.guard }], guard := some (16, true) } : Oper)) (v := .int .i64 (p : Int)) rfl (by kernel_rfl) (by kernel_rfl) (by kernel_rfl) (fun _ _ _ h => h) (Or.inl ⟨by rfl, fun x hSw => ?hyz8_20⟩) hHeld ?restz8_20
        case hyz8_20 =>
          have k0 := keepB hSw G0; have k1 := keepB hSw G1; have k2 := keepB hSw G2; have k3 := keepB hSw GB; have k4 := keepB hSw GP
          go_simp
          try with_reducible rfl
        try simp only [Act.put, List.setIfInBounds_toArray, List.set_cons_zero, List.set_cons_succ]
        refine' wpAnyH_take (i := 21) (oi := ({ dst := some 51, op := Op.indexAddr 26 (Operand.tmp 48) (Operand.tmp 50), type := 0, pos := "l6_journal.go:30", after := #[{ on := 18, ground := Ground.data }, { on := 20, ground := Ground.data }, { on := 16, ground := Ground.guard }], guard := some (16, true) } : Oper)) (v := .pointer (some ⟨b, off + p * 3, none⟩)) rfl (by kernel_rfl) (by kernel_rfl) (by kernel_rfl) (fun _ _ _ h => h) (Or.inl ⟨by rfl, fun x hSw => ?hyz8_21⟩) hHeld ?restz8_21
        case hyz8_21 =>
          have k0 := keepB hSw G0; have k1 := keepB hSw G1; have k2 := keepB hSw G2; have k3 := keepB hSw GB; have k4 := keepB hSw GP
          go_simp
          try with_reducible rfl
        try simp only [Act.put, List.setIfInBounds_toArray, List.set_cons_zero, List.set_cons_succ]
        refine' wpAnyH_take (i := 22) (oi := ({ dst := some 52, op := Op.fieldAddr 49 (Operand.tmp 51) 0, type := 0, pos := "l6_journal.go:30", after := #[{ on := 21, ground := Ground.data }, { on := 16, ground := Ground.guard }], guard := some (16, true) } : Oper)) (v := _) rfl (by kernel_rfl) (by kernel_rfl) (by kernel_rfl) (fun _ _ _ h => h) (Or.inl ⟨by rfl, fun x hSw => ?hyz8_22⟩) hHeld ?restz8_22
        case hyz8_22 =>
          have k0 := keepB hSw G0; have k1 := keepB hSw G1; have k2 := keepB hSw G2; have k3 := keepB hSw GB; have k4 := keepB hSw GP
          go_simp
          try with_reducible rfl
        try simp only [Act.put, List.setIfInBounds_toArray, List.set_cons_zero, List.set_cons_succ]
        refine' wpAnyH_take (i := 23) (oi := ({ dst := some 53, op := Op.load 9 (Operand.tmp 52), type := 9, pos := "l6_journal.go:30", after := #[{ on := 22, ground := Ground.data }, { on := 16, ground := Ground.guard }], guard := some (16, true) } : Oper)) (v := _) rfl (by kernel_rfl) (by kernel_rfl) (by kernel_rfl) (fun _ _ _ h => h) (Or.inl ⟨by rfl, fun x hSw => ?hyz8_23⟩) hHeld ?restz8_23
        case hyz8_23 =>
          have k0 := keepB hSw G0; have k1 := keepB hSw G1; have k2 := keepB hSw G2; have k3 := keepB hSw GB; have k4 := keepB hSw GP
          go_simp
          try with_reducible rfl
        try simp only [Act.put, List.setIfInBounds_toArray, List.set_cons_zero, List.set_cons_succ]
        refine' wpAnyH_take (i := 24) (oi := ({ dst := some 54, op := Op.fieldAddr 49 (Operand.tmp 4) 0, type := 0, pos := "l6_journal.go:30", after := #[{ on := 16, ground := Ground.guard }], guard := some (16, true) } : Oper)) (v := _) rfl (by kernel_rfl) (by kernel_rfl) (by kernel_rfl) (fun _ _ _ h => h) (Or.inl ⟨by rfl, fun x hSw => ?hyz8_24⟩) hHeld ?restz8_24
        case hyz8_24 =>
          have k0 := keepB hSw G0; have k1 := keepB hSw G1; have k2 := keepB hSw G2; have k3 := keepB hSw GB; have k4 := keepB hSw GP
          go_simp
          try with_reducible rfl
        try simp only [Act.put, List.setIfInBounds_toArray, List.set_cons_zero, List.set_cons_succ]
        refine' wpAnyH_take (i := 25) (oi := ({ dst := some 55, op := Op.load 9 (Operand.tmp 54), type := 9, pos := "l6_journal.go:30", after := #[{ on := 24, ground := Ground.data }, { on := 16, ground := Ground.guard }], guard := some (16, true) } : Oper)) (v := _) rfl (by kernel_rfl) (by kernel_rfl) (by kernel_rfl) (fun _ _ _ h => h) (Or.inl ⟨by rfl, fun x hSw => ?hyz8_25⟩) hHeld ?restz8_25
        case hyz8_25 =>
          have k0 := keepB hSw G0; have k1 := keepB hSw G1; have k2 := keepB hSw G2; have k3 := keepB hSw GB; have k4 := keepB hSw GP
          go_simp
          try with_reducible rfl
        try simp only [Act.put, List.setIfInBounds_toArray, List.set_cons_zero, List.set_cons_succ]
        refine' wpAnyH_take (i := 26) (oi := ({ dst := some 56, op := Op.binOp BinOp.geq 9 (Operand.tmp 53) (Operand.tmp 55) 9, type := 4, pos := "l6_journal.go:30", after := #[{ on := 23, ground := Ground.data }, { on := 25, ground := Ground.data }, { on := 16, ground := Ground.guard }], guard := some (16, true) } : Oper)) (v := _) rfl (by kernel_rfl) (by kernel_rfl) (by kernel_rfl) (fun _ _ _ h => h) (Or.inl ⟨by rfl, fun x hSw => ?hyz8_26⟩) hHeld ?restz8_26
        case hyz8_26 =>
          have k0 := keepB hSw G0; have k1 := keepB hSw G1; have k2 := keepB hSw G2; have k3 := keepB hSw GB; have k4 := keepB hSw GP
          go_simp
          try with_reducible rfl
        try simp only [Act.put, List.setIfInBounds_toArray, List.set_cons_zero, List.set_cons_succ]
        refine' wpAnyH_take (i := 27) (oi := ({ dst := some 57, op := Op.pick (Operand.tmp 46) (Operand.tmp 56) (Operand.const (Value.bool false)), type := 4, pos := "l6_journal.go:30", after := #[{ on := 16, ground := Ground.data }, { on := 26, ground := Ground.data }, { on := 13, ground := Ground.guard }], guard := some (13, false) } : Oper)) (v := _) rfl (by kernel_rfl) (by kernel_rfl) (by kernel_rfl) (fun _ _ _ h => h) (Or.inl ⟨by rfl, fun x hSw => ?hyz8_27⟩) hHeld ?restz8_27
        case hyz8_27 =>
          have k0 := keepB hSw G0; have k1 := keepB hSw G1; have k2 := keepB hSw G2; have k3 := keepB hSw GB; have k4 := keepB hSw GP
          go_simp
          try with_reducible rfl
        try simp only [Act.put, List.setIfInBounds_toArray, List.set_cons_zero, List.set_cons_succ]
        refine' wpAnyH_take (i := 28) (oi := ({ dst := some 58, op := Op.pick (Operand.tmp 43) (Operand.const (Value.bool true)) (Operand.tmp 57), type := 4, pos := "l6_journal.go:30", after := #[{ on := 13, ground := Ground.data }, { on := 27, ground := Ground.data }], guard := none } : Oper)) (v := _) rfl (by kernel_rfl) (by kernel_rfl) (by kernel_rfl) (fun _ _ _ h => h) (Or.inl ⟨by rfl, fun x hSw => ?hyz8_28⟩) hHeld ?restz8_28
        case hyz8_28 =>
          have k0 := keepB hSw G0; have k1 := keepB hSw G1; have k2 := keepB hSw G2; have k3 := keepB hSw GB; have k4 := keepB hSw GP
          go_simp
          try with_reducible rfl
        try simp only [Act.put, List.setIfInBounds_toArray, List.set_cons_zero, List.set_cons_succ]
        refine wpAnyH_done (by kernel_rfl) ?_ _
        go_wp2
        go_ret
        exact ⟨by rw [HF.out]; rfl, bstep hbw (bstep hb6 hHeld)⟩
      · go_wp2
        refine wp_region_held_drew (S := fun x => Below (wr.alloc (.cells #[.string (F (p + 1)).s, .string (F (p + 1)).d, .int .i64 (F (p + 1)).y] 49)).heap.size (wr.alloc (.cells #[.string (F (p + 1)).s, .string (F (p + 1)).d, .int .i64 (F (p + 1)).y] 49)) x) (by kernel_rfl) (bdrew _) (fun hHeld => ?_)
        refine' wpAnyH_take (i := 0) (oi := ({ dst := some 30, op := Op.fieldAddr 49 (Operand.tmp 4) 0, type := 0, pos := "l6_journal.go:30", after := #[], guard := none } : Oper)) (v := _) rfl (by kernel_rfl) (by kernel_rfl) (by kernel_rfl) (fun _ _ _ h => h) (Or.inl ⟨by rfl, fun x hSw => ?hyz9_0⟩) hHeld ?restz9_0
        case hyz9_0 =>
          have k0 := keepB hSw G0; have k1 := keepB hSw G1; have k2 := keepB hSw G2; have k3 := keepB hSw GB; have k4 := keepB hSw GP
          go_simp
          try with_reducible rfl
        try simp only [Act.put, List.setIfInBounds_toArray, List.set_cons_zero, List.set_cons_succ]
        refine' wpAnyH_take (i := 1) (oi := ({ dst := some 31, op := Op.load 9 (Operand.tmp 30), type := 9, pos := "l6_journal.go:30", after := #[{ on := 0, ground := Ground.data }], guard := none } : Oper)) (v := _) rfl (by kernel_rfl) (by kernel_rfl) (by kernel_rfl) (fun _ _ _ h => h) (Or.inl ⟨by rfl, fun x hSw => ?hyz9_1⟩) hHeld ?restz9_1
        case hyz9_1 =>
          have k0 := keepB hSw G0; have k1 := keepB hSw G1; have k2 := keepB hSw G2; have k3 := keepB hSw GB; have k4 := keepB hSw GP
          go_simp
          try with_reducible rfl
        try simp only [Act.put, List.setIfInBounds_toArray, List.set_cons_zero, List.set_cons_succ]
        refine wpAnyH_ready (rs := [2]) (by kernel_rfl) (by simp) ?_
        refine AllReadyH.cons (o := ({ dst := some 32, op := Op.call { callee := Callee.value (Operand.func 35), args := #[Operand.tmp 31], argTypes := #[9] }, type := 4, pos := "l6_journal.go:30", after := #[{ on := 1, ground := Ground.data }], guard := none } : Oper)) rfl (fun K hK => ?_) AllReadyH.nil
        go_simp
        refine (sFileName (F (p + 1)).s _ z1).mono ?_
        rw [h4]; rintro e w1 ⟨rfl, rfl⟩
        refine hK.out _ _ (hHeld) (fun hHeld => ?_)
        clear hK K
        try simp only [Act.put, List.setIfInBounds_toArray, List.set_cons_zero, List.set_cons_succ]
        refine' wpAnyH_take (i := 3) (oi := ({ dst := some 33, op := Op.unOp UnOp.not 4 (Operand.tmp 32), type := 4, pos := "l6_journal.go:30", after := #[{ on := 2, ground := Ground.data }], guard := none } : Oper)) (v := _) rfl (by kernel_rfl) (by kernel_rfl) (by kernel_rfl) (fun _ _ _ h => h) (Or.inl ⟨by rfl, fun x hSw => ?hyz9_3⟩) hHeld ?restz9_3
        case hyz9_3 =>
          have k0 := keepB hSw G0; have k1 := keepB hSw G1; have k2 := keepB hSw G2; have k3 := keepB hSw GB; have k4 := keepB hSw GP
          go_simp
          try with_reducible rfl
        try simp only [Act.put, List.setIfInBounds_toArray, List.set_cons_zero, List.set_cons_succ]
        refine' wpAnyH_take (i := 4) (oi := ({ dst := some 34, op := Op.move (Operand.tmp 33), type := 4, pos := "l6_journal.go:30", after := #[{ on := 3, ground := Ground.data }, { on := 2, ground := Ground.chain }], guard := none } : Oper)) (v := _) rfl (by kernel_rfl) (by kernel_rfl) (by kernel_rfl) (fun _ _ _ h => h) (Or.inl ⟨by rfl, fun x hSw => ?hyz9_4⟩) hHeld ?restz9_4
        case hyz9_4 =>
          have k0 := keepB hSw G0; have k1 := keepB hSw G1; have k2 := keepB hSw G2; have k3 := keepB hSw GB; have k4 := keepB hSw GP
          go_simp
          try with_reducible rfl
        try simp only [Act.put, List.setIfInBounds_toArray, List.set_cons_zero, List.set_cons_succ]
        refine' wpAnyH_take (i := 5) (oi := ({ dst := some 35, op := Op.fieldAddr 49 (Operand.tmp 4) 2, type := 0, pos := "l6_journal.go:30", after := #[{ on := 4, ground := Ground.guard }], guard := some (4, false) } : Oper)) (v := _) rfl (by kernel_rfl) (by kernel_rfl) (by kernel_rfl) (fun _ _ _ h => h) (Or.inl ⟨by rfl, fun x hSw => ?hyz9_5⟩) hHeld ?restz9_5
        case hyz9_5 =>
          have k0 := keepB hSw G0; have k1 := keepB hSw G1; have k2 := keepB hSw G2; have k3 := keepB hSw GB; have k4 := keepB hSw GP
          go_simp
          try with_reducible rfl
        try simp only [Act.put, List.setIfInBounds_toArray, List.set_cons_zero, List.set_cons_succ]
        refine' wpAnyH_take (i := 6) (oi := ({ dst := some 36, op := Op.load 3 (Operand.tmp 35), type := 3, pos := "l6_journal.go:30", after := #[{ on := 5, ground := Ground.data }, { on := 4, ground := Ground.guard }], guard := some (4, false) } : Oper)) (v := _) rfl (by kernel_rfl) (by kernel_rfl) (by kernel_rfl) (fun _ _ _ h => h) (Or.inl ⟨by rfl, fun x hSw => ?hyz9_6⟩) hHeld ?restz9_6
        case hyz9_6 =>
          have k0 := keepB hSw G0; have k1 := keepB hSw G1; have k2 := keepB hSw G2; have k3 := keepB hSw GB; have k4 := keepB hSw GP
          go_simp
          try with_reducible rfl
        try simp only [Act.put, List.setIfInBounds_toArray, List.set_cons_zero, List.set_cons_succ]
        refine' wpAnyH_take (i := 7) (oi := ({ dst := some 37, op := Op.fieldAddr 49 (Operand.tmp 4) 1, type := 0, pos := "l6_journal.go:30", after := #[{ on := 4, ground := Ground.guard }], guard := some (4, false) } : Oper)) (v := _) rfl (by kernel_rfl) (by kernel_rfl) (by kernel_rfl) (fun _ _ _ h => h) (Or.inl ⟨by rfl, fun x hSw => ?hyz9_7⟩) hHeld ?restz9_7
        case hyz9_7 =>
          have k0 := keepB hSw G0; have k1 := keepB hSw G1; have k2 := keepB hSw G2; have k3 := keepB hSw GB; have k4 := keepB hSw GP
          go_simp
          try with_reducible rfl
        try simp only [Act.put, List.setIfInBounds_toArray, List.set_cons_zero, List.set_cons_succ]
        refine' wpAnyH_take (i := 8) (oi := ({ dst := some 38, op := Op.load 9 (Operand.tmp 37), type := 9, pos := "l6_journal.go:30", after := #[{ on := 7, ground := Ground.data }, { on := 4, ground := Ground.guard }], guard := some (4, false) } : Oper)) (v := _) rfl (by kernel_rfl) (by kernel_rfl) (by kernel_rfl) (fun _ _ _ h => h) (Or.inl ⟨by rfl, fun x hSw => ?hyz9_8⟩) hHeld ?restz9_8
        case hyz9_8 =>
          have k0 := keepB hSw G0; have k1 := keepB hSw G1; have k2 := keepB hSw G2; have k3 := keepB hSw GB; have k4 := keepB hSw GP
          go_simp
          try with_reducible rfl
        try simp only [Act.put, List.setIfInBounds_toArray, List.set_cons_zero, List.set_cons_succ]
        refine' wpAnyH_take (i := 9) (oi := ({ dst := some 39, op := Op.call { callee := Callee.builtin Builtin.len, args := #[Operand.tmp 38], argTypes := #[9] }, type := 3, pos := "l6_journal.go:30", after := #[{ on := 8, ground := Ground.data }, { on := 4, ground := Ground.guard }], guard := some (4, false) } : Oper)) (v := _) rfl (by kernel_rfl) (by kernel_rfl) (by kernel_rfl) (fun _ _ _ h => h) (Or.inl ⟨by rfl, fun x hSw => ?hyz9_9⟩) hHeld ?restz9_9
        case hyz9_9 =>
          have k0 := keepB hSw G0; have k1 := keepB hSw G1; have k2 := keepB hSw G2; have k3 := keepB hSw GB; have k4 := keepB hSw GP
          go_simp
          try with_reducible rfl
        try simp only [Act.put, List.setIfInBounds_toArray, List.set_cons_zero, List.set_cons_succ]
        refine wpAnyH_ready (rs := [10]) (by kernel_rfl) (by simp) ?_
        refine AllReadyH.cons (o := ({ dst := some 40, op := Op.call { callee := Callee.value (Operand.func 33), args := #[Operand.tmp 36, Operand.const (Value.int IntKind.i64 0), Operand.tmp 39], argTypes := #[3, 3, 3] }, type := 4, pos := "l6_journal.go:30", after := #[{ on := 6, ground := Ground.data }, { on := 9, ground := Ground.data }, { on := 4, ground := Ground.chain }, { on := 4, ground := Ground.guard }], guard := some (4, false) } : Oper)) rfl (fun K hK => ?_) AllReadyH.nil
        go_simp
        refine (sBetween (F (p + 1)).y 0 (F (p + 1)).d.size _).mono ?_
        rw [h5]; rintro e w1 ⟨rfl, rfl⟩
        refine hK.out _ _ (hHeld) (fun hHeld => ?_)
        clear hK K
        try simp only [Act.put, List.setIfInBounds_toArray, List.set_cons_zero, List.set_cons_succ]
        refine' wpAnyH_take (i := 11) (oi := ({ dst := some 41, op := Op.unOp UnOp.not 4 (Operand.tmp 40), type := 4, pos := "l6_journal.go:30", after := #[{ on := 10, ground := Ground.data }, { on := 4, ground := Ground.guard }], guard := some (4, false) } : Oper)) (v := _) rfl (by kernel_rfl) (by kernel_rfl) (by kernel_rfl) (fun _ _ _ h => h) (Or.inl ⟨by rfl, fun x hSw => ?hyz9_11⟩) hHeld ?restz9_11
        case hyz9_11 =>
          have k0 := keepB hSw G0; have k1 := keepB hSw G1; have k2 := keepB hSw G2; have k3 := keepB hSw GB; have k4 := keepB hSw GP
          go_simp
          try with_reducible rfl
        try simp only [Act.put, List.setIfInBounds_toArray, List.set_cons_zero, List.set_cons_succ]
        refine' wpAnyH_take (i := 12) (oi := ({ dst := some 42, op := Op.pick (Operand.tmp 34) (Operand.const (Value.bool true)) (Operand.tmp 41), type := 4, pos := "l6_journal.go:30", after := #[{ on := 4, ground := Ground.data }, { on := 11, ground := Ground.data }], guard := none } : Oper)) (v := _) rfl (by kernel_rfl) (by kernel_rfl) (by kernel_rfl) (fun _ _ _ h => h) (Or.inl ⟨by rfl, fun x hSw => ?hyz9_12⟩) hHeld ?restz9_12
        case hyz9_12 =>
          have k0 := keepB hSw G0; have k1 := keepB hSw G1; have k2 := keepB hSw G2; have k3 := keepB hSw GB; have k4 := keepB hSw GP
          go_simp
          try with_reducible rfl
        try simp only [Act.put, List.setIfInBounds_toArray, List.set_cons_zero, List.set_cons_succ]
        refine' wpAnyH_take (i := 13) (oi := ({ dst := some 43, op := Op.move (Operand.tmp 42), type := 4, pos := "l6_journal.go:30", after := #[{ on := 12, ground := Ground.data }, { on := 10, ground := Ground.chain }], guard := none } : Oper)) (v := _) rfl (by kernel_rfl) (by kernel_rfl) (by kernel_rfl) (fun _ _ _ h => h) (Or.inl ⟨by rfl, fun x hSw => ?hyz9_13⟩) hHeld ?restz9_13
        case hyz9_13 =>
          have k0 := keepB hSw G0; have k1 := keepB hSw G1; have k2 := keepB hSw G2; have k3 := keepB hSw GB; have k4 := keepB hSw GP
          go_simp
          try with_reducible rfl
        try simp only [Act.put, List.setIfInBounds_toArray, List.set_cons_zero, List.set_cons_succ]
        refine' wpAnyH_take (i := 14) (oi := ({ dst := some 44, op := Op.move (Operand.tmp 3), type := 3, pos := "l6_journal.go:30", after := #[{ on := 13, ground := Ground.guard }], guard := some (13, false) } : Oper)) (v := _) rfl (by kernel_rfl) (by kernel_rfl) (by kernel_rfl) (fun _ _ _ h => h) (Or.inl ⟨by rfl, fun x hSw => ?hyz9_14⟩) hHeld ?restz9_14
        case hyz9_14 =>
          have k0 := keepB hSw G0; have k1 := keepB hSw G1; have k2 := keepB hSw G2; have k3 := keepB hSw GB; have k4 := keepB hSw GP
          go_simp
          try with_reducible rfl
        try simp only [Act.put, List.setIfInBounds_toArray, List.set_cons_zero, List.set_cons_succ]
        refine' wpAnyH_take (i := 15) (oi := ({ dst := some 45, op := Op.binOp BinOp.gtr 3 (Operand.tmp 44) (Operand.const (Value.int IntKind.i64 0)) 3, type := 4, pos := "l6_journal.go:30", after := #[{ on := 14, ground := Ground.data }, { on := 13, ground := Ground.guard }], guard := some (13, false) } : Oper)) (v := _) rfl (by kernel_rfl) (by kernel_rfl) (by kernel_rfl) (fun _ _ _ h => h) (Or.inl ⟨by rfl, fun x hSw => ?hyz9_15⟩) hHeld ?restz9_15
        case hyz9_15 =>
          have k0 := keepB hSw G0; have k1 := keepB hSw G1; have k2 := keepB hSw G2; have k3 := keepB hSw GB; have k4 := keepB hSw GP
          go_simp
          try with_reducible rfl
        try simp only [Act.put, List.setIfInBounds_toArray, List.set_cons_zero, List.set_cons_succ]
        refine' wpAnyH_take (i := 16) (oi := ({ dst := some 46, op := Op.move (Operand.tmp 45), type := 4, pos := "l6_journal.go:30", after := #[{ on := 15, ground := Ground.data }, { on := 13, ground := Ground.chain }, { on := 13, ground := Ground.guard }], guard := some (13, false) } : Oper)) (v := _) rfl (by kernel_rfl) (by kernel_rfl) (by kernel_rfl) (fun _ _ _ h => h) (Or.inl ⟨by rfl, fun x hSw => ?hyz9_16⟩) hHeld ?restz9_16
        case hyz9_16 =>
          have k0 := keepB hSw G0; have k1 := keepB hSw G1; have k2 := keepB hSw G2; have k3 := keepB hSw GB; have k4 := keepB hSw GP
          go_simp
          try with_reducible rfl
        try simp only [Act.put, List.setIfInBounds_toArray, List.set_cons_zero, List.set_cons_succ]
        refine' wpAnyH_take (i := 17) (oi := ({ dst := some 47, op := Op.fieldAddr 28 (Operand.tmp 1) 0, type := 0, pos := "l6_journal.go:30", after := #[{ on := 16, ground := Ground.guard }], guard := some (16, true) } : Oper)) (v := _) rfl (by kernel_rfl) (by kernel_rfl) (by kernel_rfl) (fun _ _ _ h => h) (Or.inl ⟨by rfl, fun x hSw => ?hyz9_17⟩) hHeld ?restz9_17
        case hyz9_17 =>
          have k0 := keepB hSw G0; have k1 := keepB hSw G1; have k2 := keepB hSw G2; have k3 := keepB hSw GB; have k4 := keepB hSw GP
          go_simp
          try with_reducible rfl
        try simp only [Act.put, List.setIfInBounds_toArray, List.set_cons_zero, List.set_cons_succ]
        refine' wpAnyH_take (i := 18) (oi := ({ dst := some 48, op := Op.load 26 (Operand.tmp 47), type := 26, pos := "l6_journal.go:30", after := #[{ on := 17, ground := Ground.data }, { on := 16, ground := Ground.guard }], guard := some (16, true) } : Oper)) (v := _) rfl (by kernel_rfl) (by kernel_rfl) (by kernel_rfl) (fun _ _ _ h => h) (Or.inl ⟨by rfl, fun x hSw => ?hyz9_18⟩) hHeld ?restz9_18
        case hyz9_18 =>
          have k0 := keepB hSw G0; have k1 := keepB hSw G1; have k2 := keepB hSw G2; have k3 := keepB hSw GB; have k4 := keepB hSw GP
          go_simp
          try with_reducible rfl
        try simp only [Act.put, List.setIfInBounds_toArray, List.set_cons_zero, List.set_cons_succ]
        refine' wpAnyH_take (i := 19) (oi := ({ dst := some 49, op := Op.move (Operand.tmp 3), type := 3, pos := "l6_journal.go:30", after := #[{ on := 16, ground := Ground.guard }], guard := some (16, true) } : Oper)) (v := _) rfl (by kernel_rfl) (by kernel_rfl) (by kernel_rfl) (fun _ _ _ h => h) (Or.inl ⟨by rfl, fun x hSw => ?hyz9_19⟩) hHeld ?restz9_19
        case hyz9_19 =>
          have k0 := keepB hSw G0; have k1 := keepB hSw G1; have k2 := keepB hSw G2; have k3 := keepB hSw GB; have k4 := keepB hSw GP
          go_simp
          try with_reducible rfl
        try simp only [Act.put, List.setIfInBounds_toArray, List.set_cons_zero, List.set_cons_succ]
        refine' wpAnyH_take (i := 20) (oi := ({ dst := some 50, op := Op.binOp BinOp.sub 3 (Operand.tmp 49) (Operand.const (Value.int IntKind.i64 1)) 3, type := 3, pos := "l6_journal.go:30", after := #[{ on := 19, ground := Ground.data }, { on := 16, ground := Ground.guard }], guard := some (16, true) } : Oper)) (v := .int .i64 (p : Int)) rfl (by kernel_rfl) (by kernel_rfl) (by kernel_rfl) (fun _ _ _ h => h) (Or.inl ⟨by rfl, fun x hSw => ?hyz9_20⟩) hHeld ?restz9_20
        case hyz9_20 =>
          have k0 := keepB hSw G0; have k1 := keepB hSw G1; have k2 := keepB hSw G2; have k3 := keepB hSw GB; have k4 := keepB hSw GP
          go_simp
          try with_reducible rfl
        try simp only [Act.put, List.setIfInBounds_toArray, List.set_cons_zero, List.set_cons_succ]
        refine' wpAnyH_take (i := 21) (oi := ({ dst := some 51, op := Op.indexAddr 26 (Operand.tmp 48) (Operand.tmp 50), type := 0, pos := "l6_journal.go:30", after := #[{ on := 18, ground := Ground.data }, { on := 20, ground := Ground.data }, { on := 16, ground := Ground.guard }], guard := some (16, true) } : Oper)) (v := .pointer (some ⟨b, off + p * 3, none⟩)) rfl (by kernel_rfl) (by kernel_rfl) (by kernel_rfl) (fun _ _ _ h => h) (Or.inl ⟨by rfl, fun x hSw => ?hyz9_21⟩) hHeld ?restz9_21
        case hyz9_21 =>
          have k0 := keepB hSw G0; have k1 := keepB hSw G1; have k2 := keepB hSw G2; have k3 := keepB hSw GB; have k4 := keepB hSw GP
          go_simp
          try with_reducible rfl
        try simp only [Act.put, List.setIfInBounds_toArray, List.set_cons_zero, List.set_cons_succ]
        refine' wpAnyH_take (i := 22) (oi := ({ dst := some 52, op := Op.fieldAddr 49 (Operand.tmp 51) 0, type := 0, pos := "l6_journal.go:30", after := #[{ on := 21, ground := Ground.data }, { on := 16, ground := Ground.guard }], guard := some (16, true) } : Oper)) (v := _) rfl (by kernel_rfl) (by kernel_rfl) (by kernel_rfl) (fun _ _ _ h => h) (Or.inl ⟨by rfl, fun x hSw => ?hyz9_22⟩) hHeld ?restz9_22
        case hyz9_22 =>
          have k0 := keepB hSw G0; have k1 := keepB hSw G1; have k2 := keepB hSw G2; have k3 := keepB hSw GB; have k4 := keepB hSw GP
          go_simp
          try with_reducible rfl
        try simp only [Act.put, List.setIfInBounds_toArray, List.set_cons_zero, List.set_cons_succ]
        refine' wpAnyH_take (i := 23) (oi := ({ dst := some 53, op := Op.load 9 (Operand.tmp 52), type := 9, pos := "l6_journal.go:30", after := #[{ on := 22, ground := Ground.data }, { on := 16, ground := Ground.guard }], guard := some (16, true) } : Oper)) (v := _) rfl (by kernel_rfl) (by kernel_rfl) (by kernel_rfl) (fun _ _ _ h => h) (Or.inl ⟨by rfl, fun x hSw => ?hyz9_23⟩) hHeld ?restz9_23
        case hyz9_23 =>
          have k0 := keepB hSw G0; have k1 := keepB hSw G1; have k2 := keepB hSw G2; have k3 := keepB hSw GB; have k4 := keepB hSw GP
          go_simp
          try with_reducible rfl
        try simp only [Act.put, List.setIfInBounds_toArray, List.set_cons_zero, List.set_cons_succ]
        refine' wpAnyH_take (i := 24) (oi := ({ dst := some 54, op := Op.fieldAddr 49 (Operand.tmp 4) 0, type := 0, pos := "l6_journal.go:30", after := #[{ on := 16, ground := Ground.guard }], guard := some (16, true) } : Oper)) (v := _) rfl (by kernel_rfl) (by kernel_rfl) (by kernel_rfl) (fun _ _ _ h => h) (Or.inl ⟨by rfl, fun x hSw => ?hyz9_24⟩) hHeld ?restz9_24
        case hyz9_24 =>
          have k0 := keepB hSw G0; have k1 := keepB hSw G1; have k2 := keepB hSw G2; have k3 := keepB hSw GB; have k4 := keepB hSw GP
          go_simp
          try with_reducible rfl
        try simp only [Act.put, List.setIfInBounds_toArray, List.set_cons_zero, List.set_cons_succ]
        refine' wpAnyH_take (i := 25) (oi := ({ dst := some 55, op := Op.load 9 (Operand.tmp 54), type := 9, pos := "l6_journal.go:30", after := #[{ on := 24, ground := Ground.data }, { on := 16, ground := Ground.guard }], guard := some (16, true) } : Oper)) (v := _) rfl (by kernel_rfl) (by kernel_rfl) (by kernel_rfl) (fun _ _ _ h => h) (Or.inl ⟨by rfl, fun x hSw => ?hyz9_25⟩) hHeld ?restz9_25
        case hyz9_25 =>
          have k0 := keepB hSw G0; have k1 := keepB hSw G1; have k2 := keepB hSw G2; have k3 := keepB hSw GB; have k4 := keepB hSw GP
          go_simp
          try with_reducible rfl
        try simp only [Act.put, List.setIfInBounds_toArray, List.set_cons_zero, List.set_cons_succ]
        refine' wpAnyH_take (i := 26) (oi := ({ dst := some 56, op := Op.binOp BinOp.geq 9 (Operand.tmp 53) (Operand.tmp 55) 9, type := 4, pos := "l6_journal.go:30", after := #[{ on := 23, ground := Ground.data }, { on := 25, ground := Ground.data }, { on := 16, ground := Ground.guard }], guard := some (16, true) } : Oper)) (v := _) rfl (by kernel_rfl) (by kernel_rfl) (by kernel_rfl) (fun _ _ _ h => h) (Or.inl ⟨by rfl, fun x hSw => ?hyz9_26⟩) hHeld ?restz9_26
        case hyz9_26 =>
          have k0 := keepB hSw G0; have k1 := keepB hSw G1; have k2 := keepB hSw G2; have k3 := keepB hSw GB; have k4 := keepB hSw GP
          go_simp
          try with_reducible rfl
        try simp only [Act.put, List.setIfInBounds_toArray, List.set_cons_zero, List.set_cons_succ]
        refine' wpAnyH_take (i := 27) (oi := ({ dst := some 57, op := Op.pick (Operand.tmp 46) (Operand.tmp 56) (Operand.const (Value.bool false)), type := 4, pos := "l6_journal.go:30", after := #[{ on := 16, ground := Ground.data }, { on := 26, ground := Ground.data }, { on := 13, ground := Ground.guard }], guard := some (13, false) } : Oper)) (v := _) rfl (by kernel_rfl) (by kernel_rfl) (by kernel_rfl) (fun _ _ _ h => h) (Or.inl ⟨by rfl, fun x hSw => ?hyz9_27⟩) hHeld ?restz9_27
        case hyz9_27 =>
          have k0 := keepB hSw G0; have k1 := keepB hSw G1; have k2 := keepB hSw G2; have k3 := keepB hSw GB; have k4 := keepB hSw GP
          go_simp
          try with_reducible rfl
        try simp only [Act.put, List.setIfInBounds_toArray, List.set_cons_zero, List.set_cons_succ]
        refine' wpAnyH_take (i := 28) (oi := ({ dst := some 58, op := Op.pick (Operand.tmp 43) (Operand.const (Value.bool true)) (Operand.tmp 57), type := 4, pos := "l6_journal.go:30", after := #[{ on := 13, ground := Ground.data }, { on := 27, ground := Ground.data }], guard := none } : Oper)) (v := _) rfl (by kernel_rfl) (by kernel_rfl) (by kernel_rfl) (fun _ _ _ h => h) (Or.inl ⟨by rfl, fun x hSw => ?hyz9_28⟩) hHeld ?restz9_28
        case hyz9_28 =>
          have k0 := keepB hSw G0; have k1 := keepB hSw G1; have k2 := keepB hSw G2; have k3 := keepB hSw GB; have k4 := keepB hSw GP
          go_simp
          try with_reducible rfl
        try simp only [Act.put, List.setIfInBounds_toArray, List.set_cons_zero, List.set_cons_succ]
        refine wpAnyH_done (by kernel_rfl) ?_ _
        go_wp2
        go_roundw
        case rel => exact ⟨p + 1 + 1, by omega, by go_num, fun j hj => by
          by_cases e : j = p + 1
          · subst e; simp [okFl, ltN, h4, h5, h7]
          · exact hall j (by omega), bstep hb (bstep hb6 hHeld)⟩
        case measure => simp [intOf]; omega
    · obtain rfl : k = n := by omega
      have HA : allN k (fun k => okFl F k && ltN F k) = true := allN_true hall
      have k2 := keepB hb B2
      have k3 := keepB hb B3
      have k4 := keepB hb B4
      rcases g2 : btw x2 0 1000000000000000
      all_goals rcases g3 : btw x3 0 1000000000000000
      all_goals rcases g4 : btw x4 0 1000000000000000
      all_goals
        go_wp2_with (go_at_call 33; refine (sBetween _ _ _ _).mono ?_; simp only [g2, g3, g4]; rintro e w1 ⟨rfl, rfl⟩)
        go_ret
        exact ⟨retB (by
          have e1 : decide (k ≤ 300) = true := by simp; omega
          have e3 : decide ((sumD F k : Int) ≤ x1) = true := by simp; omega
          simp only [okFs, h2, e1, e3, HA, g2, g3, g4]; rfl), bstep hb0 hb⟩
end Go.Proofs.YtngppfjphbodcaaGreatDoor
