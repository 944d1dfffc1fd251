/-
  FsValid: both sides.
-/
import Derived.Test.YtdbcihebhgpblaaDoorFc
import Derived.Deep.RegionHeld3
namespace Go.Proofs.YtdbcihebhgpblaaDoor
open Go.RowKit
abbrev qFe0 : Oper := { dst := some 5, op := Op.fieldAddr 30 (Operand.tmp 1) 0, type := 0, pos := "l6_journal.go:26", after := #[], guard := none }
abbrev qFe1 : Oper := { dst := some 6, op := Op.load 28 (Operand.tmp 5), type := 28, pos := "l6_journal.go:26", after := #[{ on := 0, ground := Ground.data }], guard := none }
abbrev qFe2 : Oper := { dst := some 7, op := Op.call { callee := Callee.builtin Builtin.len, args := #[Operand.tmp 6], argTypes := #[28] }, type := 3, pos := "l6_journal.go:26", after := #[{ on := 1, ground := Ground.data }], guard := none }
abbrev qFe3 : Oper := { dst := some 8, op := Op.binOp BinOp.gtr 3 (Operand.tmp 7) (Operand.const (Value.int IntKind.i64 300)) 3, type := 4, pos := "l6_journal.go:26", after := #[{ on := 2, ground := Ground.data }], guard := none }
abbrev qFe4 : Oper := { dst := some 9, op := Op.move (Operand.tmp 8), type := 4, pos := "l6_journal.go:26", after := #[{ on := 3, ground := Ground.data }], guard := none }
abbrev qFe5 : Oper := { dst := some 10, op := Op.fieldAddr 30 (Operand.tmp 1) 1, type := 0, pos := "l6_journal.go:26", after := #[{ on := 4, ground := Ground.guard }], guard := some (4, false) }
abbrev qFe6 : Oper := { dst := some 11, op := Op.load 3 (Operand.tmp 10), type := 3, pos := "l6_journal.go:26", after := #[{ on := 5, ground := Ground.data }, { on := 4, ground := Ground.guard }], guard := some (4, false) }
abbrev qFe7 : Oper := { dst := some 12, op := Op.call { callee := Callee.value (Operand.func 21), args := #[Operand.tmp 11, Operand.const (Value.int IntKind.i64 0), Operand.const (Value.int IntKind.i64 1000000000)], argTypes := #[3, 3, 3] }, type := 4, pos := "l6_journal.go:26", after := #[{ on := 6, ground := Ground.data }, { on := 4, ground := Ground.chain }, { on := 4, ground := Ground.guard }], guard := some (4, false) }
abbrev qFe8 : Oper := { dst := some 13, op := Op.unOp UnOp.not 4 (Operand.tmp 12), type := 4, pos := "l6_journal.go:26", after := #[{ on := 7, ground := Ground.data }, { on := 4, ground := Ground.guard }], guard := some (4, false) }
abbrev qFe9 : Oper := { dst := some 14, op := Op.pick (Operand.tmp 9) (Operand.const (Value.bool true)) (Operand.tmp 13), type := 4, pos := "l6_journal.go:26", after := #[{ on := 4, ground := Ground.data }, { on := 8, ground := Ground.data }], guard := none }
abbrev qFe10 : Oper := { dst := some 15, op := Op.move (Operand.tmp 14), type := 4, pos := "l6_journal.go:26", after := #[{ on := 9, ground := Ground.data }, { on := 7, ground := Ground.chain }], guard := none }
abbrev qFe11 : Oper := { dst := some 16, op := Op.load 30 (Operand.tmp 1), type := 30, pos := "l6_journal.go:26", after := #[{ on := 10, ground := Ground.guard }], guard := some (10, false) }
abbrev qFe12 : Oper := { dst := some 17, op := Op.call { callee := Callee.value (Operand.func 92), args := #[Operand.tmp 16], argTypes := #[30] }, type := 3, pos := "l6_journal.go:26", after := #[{ on := 11, ground := Ground.data }, { on := 10, ground := Ground.chain }, { on := 10, ground := Ground.guard }], guard := some (10, false) }
abbrev qFe13 : Oper := { dst := some 18, op := Op.fieldAddr 30 (Operand.tmp 1) 1, type := 0, pos := "l6_journal.go:26", after := #[{ on := 10, ground := Ground.guard }], guard := some (10, false) }
abbrev qFe14 : Oper := { dst := some 19, op := Op.load 3 (Operand.tmp 18), type := 3, pos := "l6_journal.go:26", after := #[{ on := 13, ground := Ground.data }, { on := 10, ground := Ground.guard }], guard := some (10, false) }
abbrev qFe15 : Oper := { dst := some 20, op := Op.binOp BinOp.gtr 3 (Operand.tmp 17) (Operand.tmp 19) 3, type := 4, pos := "l6_journal.go:26", after := #[{ on := 12, ground := Ground.data }, { on := 14, ground := Ground.data }, { on := 10, ground := Ground.guard }], guard := some (10, false) }
abbrev qFe16 : Oper := { dst := some 21, op := Op.pick (Operand.tmp 15) (Operand.const (Value.bool true)) (Operand.tmp 20), type := 4, pos := "l6_journal.go:26", after := #[{ on := 10, ground := Ground.data }, { on := 15, ground := Ground.data }], guard := none }
abbrev qFe17 : Oper := { dst := some 30, op := Op.fieldAddr 92 (Operand.tmp 4) 0, type := 0, pos := "l6_journal.go:30", after := #[], guard := none }
abbrev qFe18 : Oper := { dst := some 31, op := Op.load 9 (Operand.tmp 30), type := 9, pos := "l6_journal.go:30", after := #[{ on := 0, ground := Ground.data }], guard := none }
abbrev qFe19 : Oper := { dst := some 32, op := Op.call { callee := Callee.value (Operand.func 52), args := #[Operand.tmp 31], argTypes := #[9] }, type := 4, pos := "l6_journal.go:30", after := #[{ on := 1, ground := Ground.data }], guard := none }
abbrev qFe20 : Oper := { dst := some 33, op := Op.unOp UnOp.not 4 (Operand.tmp 32), type := 4, pos := "l6_journal.go:30", after := #[{ on := 2, ground := Ground.data }], guard := none }
abbrev qFe21 : Oper := { dst := some 34, op := Op.move (Operand.tmp 33), type := 4, pos := "l6_journal.go:30", after := #[{ on := 3, ground := Ground.data }, { on := 2, ground := Ground.chain }], guard := none }
abbrev qFe22 : Oper := { dst := some 35, op := Op.fieldAddr 92 (Operand.tmp 4) 2, type := 0, pos := "l6_journal.go:30", after := #[{ on := 4, ground := Ground.guard }], guard := some (4, false) }
abbrev qFe23 : Oper := { dst := some 36, op := Op.load 3 (Operand.tmp 35), type := 3, pos := "l6_journal.go:30", after := #[{ on := 5, ground := Ground.data }, { on := 4, ground := Ground.guard }], guard := some (4, false) }
abbrev qFe24 : Oper := { dst := some 37, op := Op.fieldAddr 92 (Operand.tmp 4) 1, type := 0, pos := "l6_journal.go:30", after := #[{ on := 4, ground := Ground.guard }], guard := some (4, false) }
abbrev qFe25 : Oper := { dst := some 38, op := Op.load 9 (Operand.tmp 37), type := 9, pos := "l6_journal.go:30", after := #[{ on := 7, ground := Ground.data }, { on := 4, ground := Ground.guard }], guard := some (4, false) }
abbrev qFe26 : Oper := { dst := some 39, op := Op.call { callee := Callee.builtin Builtin.len, args := #[Operand.tmp 38], argTypes := #[9] }, type := 3, pos := "l6_journal.go:30", after := #[{ on := 8, ground := Ground.data }, { on := 4, ground := Ground.guard }], guard := some (4, false) }
abbrev qFe27 : Oper := { dst := some 40, op := Op.call { callee := Callee.value (Operand.func 21), args := #[Operand.tmp 36, Operand.const (Value.int IntKind.i64 0), Operand.tmp 39], argTypes := #[3, 3, 3] }, type := 4, pos := "l6_journal.go:30", after := #[{ on := 6, ground := Ground.data }, { on := 9, ground := Ground.data }, { on := 4, ground := Ground.chain }, { on := 4, ground := Ground.guard }], guard := some (4, false) }
abbrev qFe28 : Oper := { dst := some 41, op := Op.unOp UnOp.not 4 (Operand.tmp 40), type := 4, pos := "l6_journal.go:30", after := #[{ on := 10, ground := Ground.data }, { on := 4, ground := Ground.guard }], guard := some (4, false) }
abbrev qFe29 : Oper := { dst := some 42, op := Op.pick (Operand.tmp 34) (Operand.const (Value.bool true)) (Operand.tmp 41), type := 4, pos := "l6_journal.go:30", after := #[{ on := 4, ground := Ground.data }, { on := 11, ground := Ground.data }], guard := none }
abbrev qFe30 : Oper := { dst := some 43, op := Op.move (Operand.tmp 42), type := 4, pos := "l6_journal.go:30", after := #[{ on := 12, ground := Ground.data }, { on := 10, ground := Ground.chain }], guard := none }
abbrev qFe31 : Oper := { dst := some 44, op := Op.move (Operand.tmp 3), type := 3, pos := "l6_journal.go:30", after := #[{ on := 13, ground := Ground.guard }], guard := some (13, false) }
abbrev qFe32 : Oper := { dst := some 45, op := Op.binOp BinOp.gtr 3 (Operand.tmp 44) (Operand.const (Value.int IntKind.i64 0)) 3, type := 4, pos := "l6_journal.go:30", after := #[{ on := 14, ground := Ground.data }, { on := 13, ground := Ground.guard }], guard := some (13, false) }
abbrev qFe33 : Oper := { dst := some 46, op := Op.move (Operand.tmp 45), type := 4, pos := "l6_journal.go:30", after := #[{ on := 15, ground := Ground.data }, { on := 13, ground := Ground.chain }, { on := 13, ground := Ground.guard }], guard := some (13, false) }
abbrev qFe34 : Oper := { dst := some 47, op := Op.fieldAddr 30 (Operand.tmp 1) 0, type := 0, pos := "l6_journal.go:30", after := #[{ on := 16, ground := Ground.guard }], guard := some (16, true) }
abbrev qFe35 : Oper := { dst := some 48, op := Op.load 28 (Operand.tmp 47), type := 28, pos := "l6_journal.go:30", after := #[{ on := 17, ground := Ground.data }, { on := 16, ground := Ground.guard }], guard := some (16, true) }
abbrev qFe36 : Oper := { dst := some 49, op := Op.move (Operand.tmp 3), type := 3, pos := "l6_journal.go:30", after := #[{ on := 16, ground := Ground.guard }], guard := some (16, true) }
abbrev qFe37 : Oper := { dst := some 50, op := Op.binOp BinOp.sub 3 (Operand.tmp 49) (Operand.const (Value.int IntKind.i64 1)) 3, type := 3, pos := "l6_journal.go:30", after := #[{ on := 19, ground := Ground.data }, { on := 16, ground := Ground.guard }], guard := some (16, true) }
abbrev qFe38 : Oper := { dst := some 51, op := Op.indexAddr 28 (Operand.tmp 48) (Operand.tmp 50), type := 0, pos := "l6_journal.go:30", after := #[{ on := 18, ground := Ground.data }, { on := 20, ground := Ground.data }, { on := 16, ground := Ground.guard }], guard := some (16, true) }
abbrev qFe39 : Oper := { dst := some 52, op := Op.fieldAddr 92 (Operand.tmp 51) 0, type := 0, pos := "l6_journal.go:30", after := #[{ on := 21, ground := Ground.data }, { on := 16, ground := Ground.guard }], guard := some (16, true) }
abbrev qFe40 : Oper := { dst := some 53, op := Op.load 9 (Operand.tmp 52), type := 9, pos := "l6_journal.go:30", after := #[{ on := 22, ground := Ground.data }, { on := 16, ground := Ground.guard }], guard := some (16, true) }
abbrev qFe41 : Oper := { dst := some 54, op := Op.fieldAddr 92 (Operand.tmp 4) 0, type := 0, pos := "l6_journal.go:30", after := #[{ on := 16, ground := Ground.guard }], guard := some (16, true) }
abbrev qFe42 : Oper := { dst := some 55, op := Op.load 9 (Operand.tmp 54), type := 9, pos := "l6_journal.go:30", after := #[{ on := 24, ground := Ground.data }, { on := 16, ground := Ground.guard }], guard := some (16, true) }
abbrev qFe43 : Oper := { dst := some 56, op := Op.binOp BinOp.geq 9 (Operand.tmp 53) (Operand.tmp 55) 9, type := 4, pos := "l6_journal.go:30", after := #[{ on := 23, ground := Ground.data }, { on := 25, ground := Ground.data }, { on := 16, ground := Ground.guard }], guard := some (16, true) }
abbrev qFe44 : Oper := { dst := some 57, op := Op.pick (Operand.tmp 46) (Operand.tmp 56) (Operand.const (Value.bool false)), type := 4, pos := "l6_journal.go:30", after := #[{ on := 16, ground := Ground.data }, { on := 26, ground := Ground.data }, { on := 13, ground := Ground.guard }], guard := some (13, false) }
abbrev qFe45 : Oper := { dst := some 58, op := Op.pick (Operand.tmp 43) (Operand.const (Value.bool true)) (Operand.tmp 57), type := 4, pos := "l6_journal.go:30", after := #[{ on := 13, ground := Ground.data }, { on := 27, ground := Ground.data }], guard := none }
theorem bdrew (w : World) : Below w.heap.size w w.drew := undrew (Below.refl _ _)
/-- A file may stand at place k. -/
def ltN (F : Nat → Fil) (k : Nat) : Bool := decide (k = 0) || Op.bytesLess (F (k - 1)).s.toList (F k).s.toList
def okFl (F : Nat → Fil) (k : Nat) : Bool := okFn (F k).s && btw (F k).y 0 (F k).d.size
def okFs (n : Nat) (F : Nat → Fil) (x1 x2 x3 x4 : Int) : Bool := decide (n ≤ 300) && btw x1 0 1000000000 && decide ((sumD F n : Int) ≤ x1) && allN n (fun k => okFl F k && ltN F k) && btw x2 0 1000000000000000 && btw x3 0 1000000000000000 && btw x4 0 1000000000000000
set_option maxRecDepth 20000 in
set_option maxHeartbeats 2000000 in
theorem sBytes (a : Option Addr) (n c : Nat) (F : Nat → Fil) (x1 x2 x3 x4 : Int) (x5 : Bool) (w : World) (h : FL w a n F) (hS : Small n F) : Calls Tryd.prog 92 #[.agg #[.slice a n c, .int .i64 x1, .int .i64 x2, .int .i64 x3, .int .i64 x4, .bool x5]] w fun e w' => e = .returned (.int .i64 (sumD F n : Nat)) ∧ Below w.heap.size w w' := by
  have hn := hS.n
  have hb0 := bal w (.cells #[.slice a n c, .int .i64 x1, .int .i64 x2, .int .i64 x3, .int .i64 x4, .bool x5] 30)
  go_enter Tryd.func92, Tryd.ntmps92
  go_wp2
  go_loopw [3, 5, 9] (fun s _ i wr => ∃ k : Nat, k ≤ n ∧ i = .int .i64 k ∧ s = .int .i64 (sumD F k : Nat) ∧ Below w.heap.size w wr) (fun _ _ i _ => n - (intOf i).toNat)
  case atStart => exact ⟨0, by omega, rfl, rfl, hb0⟩
  case round =>
    obtain ⟨k, hk, rfl, rfl, hb⟩ := hrel
    by_cases hlt : k < n
    · obtain ⟨b, off, rfl, c0, c1, c2⟩ := h.later hb k hlt
      have z1 := hS.d k hlt
      have z2 := hS.sum k hk
      have HS : Hid (sumD F (k + 1) = sumD F k + (F k).d.size) := rfl
      go_wp2
      go_roundw
      case rel => exact ⟨k + 1, by omega, by go_num, by rw [HS.out]; go_num, bj hb (Below.refl _ _)⟩
      case measure => simp [intOf]; omega
    · obtain rfl : k = n := by omega
      go_wp2
      go_ret
      exact ⟨rfl, hb⟩
set_option maxRecDepth 20000 in
set_option maxHeartbeats 2000000 in
theorem iBytes (a : Option Addr) (n c : Nat) (F : Nat → Fil) (w : World) (h : FL w a n F) (hS : Small n F) : Calls Tryd.prog 62 #[.slice a n c] w fun e w' => e = .returned (.int .i64 (sumD F n : Nat)) ∧ Below w.heap.size w w' := by
  have hn := hS.n
  have hb0 := Below.refl w.heap.size w
  go_enter Tryd.func62, Tryd.ntmps62
  go_wp2
  go_loopw [3, 5, 8] (fun s _ i wr => ∃ k : Nat, k ≤ n ∧ i = .int .i64 k ∧ s = .int .i64 (sumD F k : Nat) ∧ Below w.heap.size w wr) (fun _ _ i _ => n - (intOf i).toNat)
  case atStart => exact ⟨0, by omega, rfl, rfl, hb0⟩
  case round =>
    obtain ⟨k, hk, rfl, rfl, hb⟩ := hrel
    by_cases hlt : k < n
    · obtain ⟨b, off, rfl, c0, c1, c2⟩ := h.later hb k hlt
      have z1 := hS.d k hlt
      have z2 := hS.sum k hk
      have HS : Hid (sumD F (k + 1) = sumD F k + (F k).d.size) := rfl
      go_wp2
      go_roundw
      case rel => exact ⟨k + 1, by omega, by go_num, by rw [HS.out]; go_num, bj hb (Below.refl _ _)⟩
      case measure => simp [intOf]; omega
    · obtain rfl : k = n := by omega
      go_wp2
      go_ret
      exact ⟨rfl, hb⟩
set_option maxRecDepth 20000 in
set_option maxHeartbeats 1000000 in
theorem isNaN (s : ByteArray) (w : World) : Calls Tryd.prog 121 #[.string s] w fun e w' => e = .returned (.bool false) ∧ w' = w := by
  have hq := eqS_same s
  go_enter Tryd.func121, Tryd.ntmps121
  go_wp2
  go_ret
  exact ⟨rfl, rfl⟩
set_option maxRecDepth 20000 in
set_option maxHeartbeats 1000000 in
theorem cmpLess (s s' : ByteArray) (w : World) : Calls Tryd.prog 90 #[.string s, .string s'] w fun e w' => e = .returned (.bool (Op.bytesLess s.toList s'.toList)) ∧ w' = w := by
  rcases hl : Op.bytesLess s.toList s'.toList
  all_goals
    go_enter Tryd.func90, Tryd.ntmps90
    go_wp2_with (go_at_call 121; refine (isNaN _ _).mono ?_; rintro e w1 ⟨rfl, rfl⟩)
    go_ret
    exact ⟨rfl, rfl⟩
set_option maxRecDepth 20000 in
set_option maxHeartbeats 1000000 in
theorem iFileNm (s d : ByteArray) (y : Int) (w : World) : Calls Tryd.prog 60 #[.agg #[.string s, .string d, .int .i64 y]] w fun e w' => e = .returned (.string s) ∧ Below w.heap.size w w' := by
  go_enter Tryd.func60, Tryd.ntmps60
  go_wp2
  go_ret
  exact ⟨rfl, bal _ _⟩
set_option maxRecDepth 20000 in
set_option maxHeartbeats 8000000 in
theorem sValid (a : Option Addr) (n c : Nat) (F : Nat → Fil) (x1 x2 x3 x4 : Int) (x5 : Bool) (w : World) (h : FL w a n F) (hS : Small n F) : Calls Tryd.prog 51 #[.agg #[.slice a n c, .int .i64 x1, .int .i64 x2, .int .i64 x3, .int .i64 x4, .bool x5]] w fun e w' => e = .returned (.bool (okFs n F x1 x2 x3 x4)) ∧ Below w.heap.size w w' := by
  have hn := hS.n
  have hb0 := bal w (.cells #[.slice a n c, .int .i64 x1, .int .i64 x2, .int .i64 x3, .int .i64 x4, .bool x5] 30)
  have B0 : (w.alloc (.cells #[.slice a n c, .int .i64 x1, .int .i64 x2, .int .i64 x3, .int .i64 x4, .bool x5] 30)).cell? ⟨w.heap.size, 0, none⟩ = some (.slice a n c) := cell_of_row _ _ 0 _ _ _ (heap_alloc_new w _)
  have B1 : (w.alloc (.cells #[.slice a n c, .int .i64 x1, .int .i64 x2, .int .i64 x3, .int .i64 x4, .bool x5] 30)).cell? ⟨w.heap.size, 1, none⟩ = some (.int .i64 x1) := cell_of_row _ _ 1 _ _ _ (heap_alloc_new w _)
  have B2 : (w.alloc (.cells #[.slice a n c, .int .i64 x1, .int .i64 x2, .int .i64 x3, .int .i64 x4, .bool x5] 30)).cell? ⟨w.heap.size, 2, none⟩ = some (.int .i64 x2) := cell_of_row _ _ 2 _ _ _ (heap_alloc_new w _)
  have B3 : (w.alloc (.cells #[.slice a n c, .int .i64 x1, .int .i64 x2, .int .i64 x3, .int .i64 x4, .bool x5] 30)).cell? ⟨w.heap.size, 3, none⟩ = some (.int .i64 x3) := cell_of_row _ _ 3 _ _ _ (heap_alloc_new w _)
  have B4 : (w.alloc (.cells #[.slice a n c, .int .i64 x1, .int .i64 x2, .int .i64 x3, .int .i64 x4, .bool x5] 30)).cell? ⟨w.heap.size, 4, none⟩ = some (.int .i64 x4) := cell_of_row _ _ 4 _ _ _ (heap_alloc_new w _)
  have B5 : (w.alloc (.cells #[.slice a n c, .int .i64 x1, .int .i64 x2, .int .i64 x3, .int .i64 x4, .bool x5] 30)).cell? ⟨w.heap.size, 5, none⟩ = some (.bool x5) := cell_of_row _ _ 5 _ _ _ (heap_alloc_new w _)
  by_cases h1 : 300 < n
  · have d1 : decide ((300 : Int) < (n : Int)) = true := by simp; omega
    have HF : Hid (okFs n F x1 x2 x3 x4 = false) := by simp [Hid, okFs]; omega
    go_enter Tryd.func51, Tryd.ntmps51
    go_wp2
    refine wp_region_held_drew (S := fun x => Below (w.alloc (.cells #[.slice a n c, .int .i64 x1, .int .i64 x2, .int .i64 x3, .int .i64 x4, .bool x5] 30)).heap.size (w.alloc (.cells #[.slice a n c, .int .i64 x1, .int .i64 x2, .int .i64 x3, .int .i64 x4, .bool x5] 30)) x) (by kernel_rfl) (bdrew _) (fun hHeld => ?_)
    refine' takeF (i := 0) (oi := qFe0) rfl ⟨by rfl, fun x hSw => ?h1⟩ hHeld ?r1
    case h1 =>
      go_simp
      try with_reducible rfl
    try simp only [Act.put, List.setIfInBounds_toArray, List.set_cons_zero, List.set_cons_succ]
    refine' takeF (i := 1) (oi := qFe1) rfl ⟨by rfl, fun x hSw => ?h2⟩ hHeld ?r2
    case h2 =>
      have k0 := keepB hSw B0; have k1 := keepB hSw B1; have k2 := keepB hSw B2; have k3 := keepB hSw B3; have k4 := keepB hSw B4; have k5 := keepB hSw B5
      go_simp
      try with_reducible rfl
    try simp only [Act.put, List.setIfInBounds_toArray, List.set_cons_zero, List.set_cons_succ]
    refine' takeF (i := 2) (oi := qFe2) rfl ⟨by rfl, fun x hSw => ?h3⟩ hHeld ?r3
    case h3 =>
      go_simp
      try with_reducible rfl
    try simp only [Act.put, List.setIfInBounds_toArray, List.set_cons_zero, List.set_cons_succ]
    refine' takeF (i := 3) (oi := qFe3) rfl ⟨by rfl, fun x hSw => ?h4⟩ hHeld ?r4
    case h4 =>
      go_simp
      try with_reducible rfl
    try simp only [Act.put, List.setIfInBounds_toArray, List.set_cons_zero, List.set_cons_succ]
    refine' takeF (i := 4) (oi := qFe4) rfl ⟨by rfl, fun x hSw => ?h5⟩ hHeld ?r5
    case h5 =>
      go_simp
      try with_reducible rfl
    try simp only [Act.put, List.setIfInBounds_toArray, List.set_cons_zero, List.set_cons_succ]
    refine wpAnyH_take (i := 5) (oi := qFe5) (v := undef) rfl (by kernel_rfl) (by kernel_rfl) (by kernel_rfl) (fun _ _ _ h => h) (Or.inr ⟨by rfl, rfl⟩) hHeld ?_
    try simp only [Act.put, List.setIfInBounds_toArray, List.set_cons_zero, List.set_cons_succ]
    refine wpAnyH_take (i := 6) (oi := qFe6) (v := undef) rfl (by kernel_rfl) (by kernel_rfl) (by kernel_rfl) (fun _ _ _ h => h) (Or.inr ⟨by rfl, rfl⟩) hHeld ?_
    try simp only [Act.put, List.setIfInBounds_toArray, List.set_cons_zero, List.set_cons_succ]
    refine wpAnyH_take (i := 7) (oi := qFe7) (v := undef) rfl (by kernel_rfl) (by kernel_rfl) (by kernel_rfl) (fun _ _ _ h => h) (Or.inr ⟨by rfl, rfl⟩) hHeld ?_
    try simp only [Act.put, List.setIfInBounds_toArray, List.set_cons_zero, List.set_cons_succ]
    refine wpAnyH_take (i := 8) (oi := qFe8) (v := undef) rfl (by kernel_rfl) (by kernel_rfl) (by kernel_rfl) (fun _ _ _ h => h) (Or.inr ⟨by rfl, rfl⟩) hHeld ?_
    try simp only [Act.put, List.setIfInBounds_toArray, List.set_cons_zero, List.set_cons_succ]
    refine' takeF (i := 9) (oi := qFe9) rfl ⟨by rfl, fun x hSw => ?h6⟩ hHeld ?r6
    case h6 =>
      go_simp
      try with_reducible rfl
    try simp only [Act.put, List.setIfInBounds_toArray, List.set_cons_zero, List.set_cons_succ]
    refine' takeF (i := 10) (oi := qFe10) rfl ⟨by rfl, fun x hSw => ?h7⟩ hHeld ?r7
    case h7 =>
      go_simp
      try with_reducible rfl
    try simp only [Act.put, List.setIfInBounds_toArray, List.set_cons_zero, List.set_cons_succ]
    refine wpAnyH_take (i := 11) (oi := qFe11) (v := undef) rfl (by kernel_rfl) (by kernel_rfl) (by kernel_rfl) (fun _ _ _ h => h) (Or.inr ⟨by rfl, rfl⟩) hHeld ?_
    try simp only [Act.put, List.setIfInBounds_toArray, List.set_cons_zero, List.set_cons_succ]
    refine wpAnyH_take (i := 12) (oi := qFe12) (v := undef) rfl (by kernel_rfl) (by kernel_rfl) (by kernel_rfl) (fun _ _ _ h => h) (Or.inr ⟨by rfl, rfl⟩) hHeld ?_
    try simp only [Act.put, List.setIfInBounds_toArray, List.set_cons_zero, List.set_cons_succ]
    refine wpAnyH_take (i := 13) (oi := qFe13) (v := undef) rfl (by kernel_rfl) (by kernel_rfl) (by kernel_rfl) (fun _ _ _ h => h) (Or.inr ⟨by rfl, rfl⟩) hHeld ?_
    try simp only [Act.put, List.setIfInBounds_toArray, List.set_cons_zero, List.set_cons_succ]
    refine wpAnyH_take (i := 14) (oi := qFe14) (v := undef) rfl (by kernel_rfl) (by kernel_rfl) (by kernel_rfl) (fun _ _ _ h => h) (Or.inr ⟨by rfl, rfl⟩) hHeld ?_
    try simp only [Act.put, List.setIfInBounds_toArray, List.set_cons_zero, List.set_cons_succ]
    refine wpAnyH_take (i := 15) (oi := qFe15) (v := undef) rfl (by kernel_rfl) (by kernel_rfl) (by kernel_rfl) (fun _ _ _ h => h) (Or.inr ⟨by rfl, rfl⟩) hHeld ?_
    try simp only [Act.put, List.setIfInBounds_toArray, List.set_cons_zero, List.set_cons_succ]
    refine' takeF (i := 16) (oi := qFe16) rfl ⟨by rfl, fun x hSw => ?h8⟩ hHeld ?r8
    case h8 =>
      go_simp
      try with_reducible rfl
    try simp only [Act.put, List.setIfInBounds_toArray, List.set_cons_zero, List.set_cons_succ]
    refine wpAnyH_done (by kernel_rfl) ?_ _
    go_wp2
    go_ret
    exact ⟨by rw [HF.out]; rfl, bstep hb0 hHeld⟩
  have d1 : decide ((300 : Int) < (n : Int)) = false := by simp; omega
  rcases h2 : btw x1 0 1000000000
  · have HF : Hid (okFs n F x1 x2 x3 x4 = false) := by simp [Hid, okFs, h2]
    go_enter Tryd.func51, Tryd.ntmps51
    go_wp2
    refine wp_region_held_drew (S := fun x => Below (w.alloc (.cells #[.slice a n c, .int .i64 x1, .int .i64 x2, .int .i64 x3, .int .i64 x4, .bool x5] 30)).heap.size (w.alloc (.cells #[.slice a n c, .int .i64 x1, .int .i64 x2, .int .i64 x3, .int .i64 x4, .bool x5] 30)) x) (by kernel_rfl) (bdrew _) (fun hHeld => ?_)
    refine' takeF (i := 0) (oi := qFe0) rfl ⟨by rfl, fun x hSw => ?h9⟩ hHeld ?r9
    case h9 =>
      go_simp
      try with_reducible rfl
    try simp only [Act.put, List.setIfInBounds_toArray, List.set_cons_zero, List.set_cons_succ]
    refine' takeF (i := 1) (oi := qFe1) rfl ⟨by rfl, fun x hSw => ?h10⟩ hHeld ?r10
    case h10 =>
      have k0 := keepB hSw B0; have k1 := keepB hSw B1; have k2 := keepB hSw B2; have k3 := keepB hSw B3; have k4 := keepB hSw B4; have k5 := keepB hSw B5
      go_simp
      try with_reducible rfl
    try simp only [Act.put, List.setIfInBounds_toArray, List.set_cons_zero, List.set_cons_succ]
    refine' takeF (i := 2) (oi := qFe2) rfl ⟨by rfl, fun x hSw => ?h11⟩ hHeld ?r11
    case h11 =>
      go_simp
      try with_reducible rfl
    try simp only [Act.put, List.setIfInBounds_toArray, List.set_cons_zero, List.set_cons_succ]
    refine' takeF (i := 3) (oi := qFe3) rfl ⟨by rfl, fun x hSw => ?h12⟩ hHeld ?r12
    case h12 =>
      go_simp
      try with_reducible rfl
    try simp only [Act.put, List.setIfInBounds_toArray, List.set_cons_zero, List.set_cons_succ]
    refine' takeF (i := 4) (oi := qFe4) rfl ⟨by rfl, fun x hSw => ?h13⟩ hHeld ?r13
    case h13 =>
      go_simp
      try with_reducible rfl
    try simp only [Act.put, List.setIfInBounds_toArray, List.set_cons_zero, List.set_cons_succ]
    refine' takeF (i := 5) (oi := qFe5) rfl ⟨by rfl, fun x hSw => ?h14⟩ hHeld ?r14
    case h14 =>
      go_simp
      try with_reducible rfl
    try simp only [Act.put, List.setIfInBounds_toArray, List.set_cons_zero, List.set_cons_succ]
    refine' takeF (i := 6) (oi := qFe6) rfl ⟨by rfl, fun x hSw => ?h15⟩ hHeld ?r15
    case h15 =>
      have k0 := keepB hSw B0; have k1 := keepB hSw B1; have k2 := keepB hSw B2; have k3 := keepB hSw B3; have k4 := keepB hSw B4; have k5 := keepB hSw B5
      go_simp
      try with_reducible rfl
    try simp only [Act.put, List.setIfInBounds_toArray, List.set_cons_zero, List.set_cons_succ]
    refine wpAnyH_ready (rs := [7]) (by kernel_rfl) (by simp) ?_
    refine AllReadyH.cons (o := qFe7) rfl (fun K hK => ?_) AllReadyH.nil
    go_simp
    refine (sBetween x1 0 1000000000 _).mono ?_
    rw [h2]; rintro e w1 ⟨rfl, rfl⟩
    refine hK.out _ _ (hHeld) (fun hHeld => ?_)
    clear hK K
    try simp only [Act.put, List.setIfInBounds_toArray, List.set_cons_zero, List.set_cons_succ]
    refine' takeF (i := 8) (oi := qFe8) rfl ⟨by rfl, fun x hSw => ?h16⟩ hHeld ?r16
    case h16 =>
      go_simp
      try with_reducible rfl
    try simp only [Act.put, List.setIfInBounds_toArray, List.set_cons_zero, List.set_cons_succ]
    refine' takeF (i := 9) (oi := qFe9) rfl ⟨by rfl, fun x hSw => ?h17⟩ hHeld ?r17
    case h17 =>
      go_simp
      try with_reducible rfl
    try simp only [Act.put, List.setIfInBounds_toArray, List.set_cons_zero, List.set_cons_succ]
    refine' takeF (i := 10) (oi := qFe10) rfl ⟨by rfl, fun x hSw => ?h18⟩ hHeld ?r18
    case h18 =>
      go_simp
      try with_reducible rfl
    try simp only [Act.put, List.setIfInBounds_toArray, List.set_cons_zero, List.set_cons_succ]
    refine wpAnyH_take (i := 11) (oi := qFe11) (v := undef) rfl (by kernel_rfl) (by kernel_rfl) (by kernel_rfl) (fun _ _ _ h => h) (Or.inr ⟨by rfl, rfl⟩) hHeld ?_
    try simp only [Act.put, List.setIfInBounds_toArray, List.set_cons_zero, List.set_cons_succ]
    refine wpAnyH_take (i := 12) (oi := qFe12) (v := undef) rfl (by kernel_rfl) (by kernel_rfl) (by kernel_rfl) (fun _ _ _ h => h) (Or.inr ⟨by rfl, rfl⟩) hHeld ?_
    try simp only [Act.put, List.setIfInBounds_toArray, List.set_cons_zero, List.set_cons_succ]
    refine wpAnyH_take (i := 13) (oi := qFe13) (v := undef) rfl (by kernel_rfl) (by kernel_rfl) (by kernel_rfl) (fun _ _ _ h => h) (Or.inr ⟨by rfl, rfl⟩) hHeld ?_
    try simp only [Act.put, List.setIfInBounds_toArray, List.set_cons_zero, List.set_cons_succ]
    refine wpAnyH_take (i := 14) (oi := qFe14) (v := undef) rfl (by kernel_rfl) (by kernel_rfl) (by kernel_rfl) (fun _ _ _ h => h) (Or.inr ⟨by rfl, rfl⟩) hHeld ?_
    try simp only [Act.put, List.setIfInBounds_toArray, List.set_cons_zero, List.set_cons_succ]
    refine wpAnyH_take (i := 15) (oi := qFe15) (v := undef) rfl (by kernel_rfl) (by kernel_rfl) (by kernel_rfl) (fun _ _ _ h => h) (Or.inr ⟨by rfl, rfl⟩) hHeld ?_
    try simp only [Act.put, List.setIfInBounds_toArray, List.set_cons_zero, List.set_cons_succ]
    refine' takeF (i := 16) (oi := qFe16) rfl ⟨by rfl, fun x hSw => ?h19⟩ hHeld ?r19
    case h19 =>
      go_simp
      try with_reducible rfl
    try simp only [Act.put, List.setIfInBounds_toArray, List.set_cons_zero, List.set_cons_succ]
    refine wpAnyH_done (by kernel_rfl) ?_ _
    go_wp2
    go_ret
    exact ⟨by rw [HF.out]; rfl, bstep hb0 hHeld⟩
  by_cases h3 : x1 < (sumD F n : Int)
  · have d3 : decide (x1 < (sumD F n : Int)) = true := by simp; omega
    have HF : Hid (okFs n F x1 x2 x3 x4 = false) := by
      have : decide ((sumD F n : Int) ≤ x1) = false := by simp; omega
      simp [Hid, okFs, this]
    go_enter Tryd.func51, Tryd.ntmps51
    go_wp2
    refine wp_region_held_drew (S := fun x => Below (w.alloc (.cells #[.slice a n c, .int .i64 x1, .int .i64 x2, .int .i64 x3, .int .i64 x4, .bool x5] 30)).heap.size (w.alloc (.cells #[.slice a n c, .int .i64 x1, .int .i64 x2, .int .i64 x3, .int .i64 x4, .bool x5] 30)) x) (by kernel_rfl) (bdrew _) (fun hHeld => ?_)
    refine' takeF (i := 0) (oi := qFe0) rfl ⟨by rfl, fun x hSw => ?h20⟩ hHeld ?r20
    case h20 =>
      go_simp
      try with_reducible rfl
    try simp only [Act.put, List.setIfInBounds_toArray, List.set_cons_zero, List.set_cons_succ]
    refine' takeF (i := 1) (oi := qFe1) rfl ⟨by rfl, fun x hSw => ?h21⟩ hHeld ?r21
    case h21 =>
      have k0 := keepB hSw B0; have k1 := keepB hSw B1; have k2 := keepB hSw B2; have k3 := keepB hSw B3; have k4 := keepB hSw B4; have k5 := keepB hSw B5
      go_simp
      try with_reducible rfl
    try simp only [Act.put, List.setIfInBounds_toArray, List.set_cons_zero, List.set_cons_succ]
    refine' takeF (i := 2) (oi := qFe2) rfl ⟨by rfl, fun x hSw => ?h22⟩ hHeld ?r22
    case h22 =>
      go_simp
      try with_reducible rfl
    try simp only [Act.put, List.setIfInBounds_toArray, List.set_cons_zero, List.set_cons_succ]
    refine' takeF (i := 3) (oi := qFe3) rfl ⟨by rfl, fun x hSw => ?h23⟩ hHeld ?r23
    case h23 =>
      go_simp
      try with_reducible rfl
    try simp only [Act.put, List.setIfInBounds_toArray, List.set_cons_zero, List.set_cons_succ]
    refine' takeF (i := 4) (oi := qFe4) rfl ⟨by rfl, fun x hSw => ?h24⟩ hHeld ?r24
    case h24 =>
      go_simp
      try with_reducible rfl
    try simp only [Act.put, List.setIfInBounds_toArray, List.set_cons_zero, List.set_cons_succ]
    refine' takeF (i := 5) (oi := qFe5) rfl ⟨by rfl, fun x hSw => ?h25⟩ hHeld ?r25
    case h25 =>
      go_simp
      try with_reducible rfl
    try simp only [Act.put, List.setIfInBounds_toArray, List.set_cons_zero, List.set_cons_succ]
    refine' takeF (i := 6) (oi := qFe6) rfl ⟨by rfl, fun x hSw => ?h26⟩ hHeld ?r26
    case h26 =>
      have k0 := keepB hSw B0; have k1 := keepB hSw B1; have k2 := keepB hSw B2; have k3 := keepB hSw B3; have k4 := keepB hSw B4; have k5 := keepB hSw B5
      go_simp
      try with_reducible rfl
    try simp only [Act.put, List.setIfInBounds_toArray, List.set_cons_zero, List.set_cons_succ]
    refine wpAnyH_ready (rs := [7]) (by kernel_rfl) (by simp) ?_
    refine AllReadyH.cons (o := qFe7) rfl (fun K hK => ?_) AllReadyH.nil
    go_simp
    refine (sBetween x1 0 1000000000 _).mono ?_
    rw [h2]; rintro e w1 ⟨rfl, rfl⟩
    refine hK.out _ _ (hHeld) (fun hHeld => ?_)
    clear hK K
    try simp only [Act.put, List.setIfInBounds_toArray, List.set_cons_zero, List.set_cons_succ]
    refine' takeF (i := 8) (oi := qFe8) rfl ⟨by rfl, fun x hSw => ?h27⟩ hHeld ?r27
    case h27 =>
      go_simp
      try with_reducible rfl
    try simp only [Act.put, List.setIfInBounds_toArray, List.set_cons_zero, List.set_cons_succ]
    refine' takeF (i := 9) (oi := qFe9) rfl ⟨by rfl, fun x hSw => ?h28⟩ hHeld ?r28
    case h28 =>
      go_simp
      try with_reducible rfl
    try simp only [Act.put, List.setIfInBounds_toArray, List.set_cons_zero, List.set_cons_succ]
    refine' takeF (i := 10) (oi := qFe10) rfl ⟨by rfl, fun x hSw => ?h29⟩ hHeld ?r29
    case h29 =>
      go_simp
      try with_reducible rfl
    try simp only [Act.put, List.setIfInBounds_toArray, List.set_cons_zero, List.set_cons_succ]
    refine' takeF (i := 11) (oi := qFe11) rfl ⟨by rfl, fun x hSw => ?h30⟩ hHeld ?r30
    case h30 =>
      have k0 := keepB hSw B0; have k1 := keepB hSw B1; have k2 := keepB hSw B2; have k3 := keepB hSw B3; have k4 := keepB hSw B4; have k5 := keepB hSw B5
      go_simp
      try with_reducible rfl
    try simp only [Act.put, List.setIfInBounds_toArray, List.set_cons_zero, List.set_cons_succ]
    refine' takeF (i := 13) (oi := qFe13) rfl ⟨by rfl, fun x hSw => ?h31⟩ hHeld ?r31
    case h31 =>
      go_simp
      try with_reducible rfl
    try simp only [Act.put, List.setIfInBounds_toArray, List.set_cons_zero, List.set_cons_succ]
    refine' takeF (i := 14) (oi := qFe14) rfl ⟨by rfl, fun x hSw => ?h32⟩ hHeld ?r32
    case h32 =>
      have k0 := keepB hSw B0; have k1 := keepB hSw B1; have k2 := keepB hSw B2; have k3 := keepB hSw B3; have k4 := keepB hSw B4; have k5 := keepB hSw B5
      go_simp
      try with_reducible rfl
    try simp only [Act.put, List.setIfInBounds_toArray, List.set_cons_zero, List.set_cons_succ]
    refine wpAnyH_ready (rs := [12]) (by kernel_rfl) (by simp) ?_
    refine AllReadyH.cons (o := qFe12) rfl (fun K hK => ?_) AllReadyH.nil
    go_simp
    refine (sBytes a n c F x1 x2 x3 x4 x5 _ (h.later (bstep hb0 hHeld)) hS).mono ?_
    rintro e w2 ⟨rfl, hb2⟩
    refine hK.out _ _ (bstep hHeld hb2) (fun hHeld => ?_)
    clear hK K
    try simp only [Act.put, List.setIfInBounds_toArray, List.set_cons_zero, List.set_cons_succ]
    refine' takeF (i := 15) (oi := qFe15) rfl ⟨by rfl, fun x hSw => ?h33⟩ hHeld ?r33
    case h33 =>
      go_simp
      try with_reducible rfl
    try simp only [Act.put, List.setIfInBounds_toArray, List.set_cons_zero, List.set_cons_succ]
    refine' takeF (i := 16) (oi := qFe16) rfl ⟨by rfl, fun x hSw => ?h34⟩ hHeld ?r34
    case h34 =>
      go_simp
      try with_reducible rfl
    try simp only [Act.put, List.setIfInBounds_toArray, List.set_cons_zero, List.set_cons_succ]
    refine wpAnyH_done (by kernel_rfl) ?_ _
    go_wp2
    go_ret
    exact ⟨by rw [HF.out]; rfl, bstep hb0 hHeld⟩
  have d3 : decide (x1 < (sumD F n : Int)) = false := by simp; omega
  go_enter Tryd.func51, Tryd.ntmps51
  go_wp2
  refine wp_region_held_drew (S := fun x => Below (w.alloc (.cells #[.slice a n c, .int .i64 x1, .int .i64 x2, .int .i64 x3, .int .i64 x4, .bool x5] 30)).heap.size (w.alloc (.cells #[.slice a n c, .int .i64 x1, .int .i64 x2, .int .i64 x3, .int .i64 x4, .bool x5] 30)) x) (by kernel_rfl) (bdrew _) (fun hHeld => ?_)
  refine' takeF (i := 0) (oi := qFe0) rfl ⟨by rfl, fun x hSw => ?h35⟩ hHeld ?r35
  case h35 =>
    go_simp
    try with_reducible rfl
  try simp only [Act.put, List.setIfInBounds_toArray, List.set_cons_zero, List.set_cons_succ]
  refine' takeF (i := 1) (oi := qFe1) rfl ⟨by rfl, fun x hSw => ?h36⟩ hHeld ?r36
  case h36 =>
    have k0 := keepB hSw B0; have k1 := keepB hSw B1; have k2 := keepB hSw B2; have k3 := keepB hSw B3; have k4 := keepB hSw B4; have k5 := keepB hSw B5
    go_simp
    try with_reducible rfl
  try simp only [Act.put, List.setIfInBounds_toArray, List.set_cons_zero, List.set_cons_succ]
  refine' takeF (i := 2) (oi := qFe2) rfl ⟨by rfl, fun x hSw => ?h37⟩ hHeld ?r37
  case h37 =>
    go_simp
    try with_reducible rfl
  try simp only [Act.put, List.setIfInBounds_toArray, List.set_cons_zero, List.set_cons_succ]
  refine' takeF (i := 3) (oi := qFe3) rfl ⟨by rfl, fun x hSw => ?h38⟩ hHeld ?r38
  case h38 =>
    go_simp
    try with_reducible rfl
  try simp only [Act.put, List.setIfInBounds_toArray, List.set_cons_zero, List.set_cons_succ]
  refine' takeF (i := 4) (oi := qFe4) rfl ⟨by rfl, fun x hSw => ?h39⟩ hHeld ?r39
  case h39 =>
    go_simp
    try with_reducible rfl
  try simp only [Act.put, List.setIfInBounds_toArray, List.set_cons_zero, List.set_cons_succ]
  refine' takeF (i := 5) (oi := qFe5) rfl ⟨by rfl, fun x hSw => ?h40⟩ hHeld ?r40
  case h40 =>
    go_simp
    try with_reducible rfl
  try simp only [Act.put, List.setIfInBounds_toArray, List.set_cons_zero, List.set_cons_succ]
  refine' takeF (i := 6) (oi := qFe6) rfl ⟨by rfl, fun x hSw => ?h41⟩ hHeld ?r41
  case h41 =>
    have k0 := keepB hSw B0; have k1 := keepB hSw B1; have k2 := keepB hSw B2; have k3 := keepB hSw B3; have k4 := keepB hSw B4; have k5 := keepB hSw B5
    go_simp
    try with_reducible rfl
  try simp only [Act.put, List.setIfInBounds_toArray, List.set_cons_zero, List.set_cons_succ]
  refine wpAnyH_ready (rs := [7]) (by kernel_rfl) (by simp) ?_
  refine AllReadyH.cons (o := qFe7) rfl (fun K hK => ?_) AllReadyH.nil
  go_simp
  refine (sBetween x1 0 1000000000 _).mono ?_
  rw [h2]; rintro e w1 ⟨rfl, rfl⟩
  refine hK.out _ _ (hHeld) (fun hHeld => ?_)
  clear hK K
  try simp only [Act.put, List.setIfInBounds_toArray, List.set_cons_zero, List.set_cons_succ]
  refine' takeF (i := 8) (oi := qFe8) rfl ⟨by rfl, fun x hSw => ?h42⟩ hHeld ?r42
  case h42 =>
    go_simp
    try with_reducible rfl
  try simp only [Act.put, List.setIfInBounds_toArray, List.set_cons_zero, List.set_cons_succ]
  refine' takeF (i := 9) (oi := qFe9) rfl ⟨by rfl, fun x hSw => ?h43⟩ hHeld ?r43
  case h43 =>
    go_simp
    try with_reducible rfl
  try simp only [Act.put, List.setIfInBounds_toArray, List.set_cons_zero, List.set_cons_succ]
  refine' takeF (i := 10) (oi := qFe10) rfl ⟨by rfl, fun x hSw => ?h44⟩ hHeld ?r44
  case h44 =>
    go_simp
    try with_reducible rfl
  try simp only [Act.put, List.setIfInBounds_toArray, List.set_cons_zero, List.set_cons_succ]
  refine' takeF (i := 11) (oi := qFe11) rfl ⟨by rfl, fun x hSw => ?h45⟩ hHeld ?r45
  case h45 =>
    have k0 := keepB hSw B0; have k1 := keepB hSw B1; have k2 := keepB hSw B2; have k3 := keepB hSw B3; have k4 := keepB hSw B4; have k5 := keepB hSw B5
    go_simp
    try with_reducible rfl
  try simp only [Act.put, List.setIfInBounds_toArray, List.set_cons_zero, List.set_cons_succ]
  refine' takeF (i := 13) (oi := qFe13) rfl ⟨by rfl, fun x hSw => ?h46⟩ hHeld ?r46
  case h46 =>
    go_simp
    try with_reducible rfl
  try simp only [Act.put, List.setIfInBounds_toArray, List.set_cons_zero, List.set_cons_succ]
  refine' takeF (i := 14) (oi := qFe14) rfl ⟨by rfl, fun x hSw => ?h47⟩ hHeld ?r47
  case h47 =>
    have k0 := keepB hSw B0; have k1 := keepB hSw B1; have k2 := keepB hSw B2; have k3 := keepB hSw B3; have k4 := keepB hSw B4; have k5 := keepB hSw B5
    go_simp
    try with_reducible rfl
  try simp only [Act.put, List.setIfInBounds_toArray, List.set_cons_zero, List.set_cons_succ]
  refine wpAnyH_ready (rs := [12]) (by kernel_rfl) (by simp) ?_
  refine AllReadyH.cons (o := qFe12) rfl (fun K hK => ?_) AllReadyH.nil
  go_simp
  refine (sBytes a n c F x1 x2 x3 x4 x5 _ (h.later (bstep hb0 hHeld)) hS).mono ?_
  rintro e w2 ⟨rfl, hb2⟩
  refine hK.out _ _ (bstep hHeld hb2) (fun hHeld => ?_)
  clear hK K
  try simp only [Act.put, List.setIfInBounds_toArray, List.set_cons_zero, List.set_cons_succ]
  refine' takeF (i := 15) (oi := qFe15) rfl ⟨by rfl, fun x hSw => ?h48⟩ hHeld ?r48
  case h48 =>
    go_simp
    try with_reducible rfl
  try simp only [Act.put, List.setIfInBounds_toArray, List.set_cons_zero, List.set_cons_succ]
  refine' takeF (i := 16) (oi := qFe16) rfl ⟨by rfl, fun x hSw => ?h49⟩ hHeld ?r49
  case h49 =>
    go_simp
    try with_reducible rfl
  try simp only [Act.put, List.setIfInBounds_toArray, List.set_cons_zero, List.set_cons_succ]
  refine wpAnyH_done (by kernel_rfl) ?_ _
  have k0 := keepB hHeld B0
  go_wp2
  go_loopw [3, 4, 25] (fun _ _ i wr => ∃ k : Nat, k ≤ n ∧ i = .int .i64 k ∧ (∀ j, j < k → (okFl F j && ltN F j) = true) ∧ Below (w.alloc (.cells #[.slice a n c, .int .i64 x1, .int .i64 x2, .int .i64 x3, .int .i64 x4, .bool x5] 30)).heap.size (w.alloc (.cells #[.slice a n c, .int .i64 x1, .int .i64 x2, .int .i64 x3, .int .i64 x4, .bool x5] 30)) wr) (fun _ _ i _ => n - (intOf i).toNat)
  case atStart => exact ⟨0, by omega, rfl, fun j hj => by omega, hHeld⟩
  case round =>
    obtain ⟨k, hk, rfl, hall, hb⟩ := hrel
    have hbw := bstep hb0 hb
    by_cases hlt : k < n
    · obtain ⟨b, off, rfl, c0, c1, c2⟩ := h.later hbw k hlt
      have z1 := hS.s k hlt
      have z2 := hS.d k hlt
      have hb6 := bal wr (.cells #[.string (F k).s, .string (F k).d, .int .i64 (F k).y] 92)
      have G0 : (wr.alloc (.cells #[.string (F k).s, .string (F k).d, .int .i64 (F k).y] 92)).cell? ⟨wr.heap.size, 0, none⟩ = some (.string (F k).s) := cell_of_row _ _ 0 _ _ _ (heap_alloc_new wr _)
      have G1 : (wr.alloc (.cells #[.string (F k).s, .string (F k).d, .int .i64 (F k).y] 92)).cell? ⟨wr.heap.size, 1, none⟩ = some (.string (F k).d) := cell_of_row _ _ 1 _ _ _ (heap_alloc_new wr _)
      have G2 : (wr.alloc (.cells #[.string (F k).s, .string (F k).d, .int .i64 (F k).y] 92)).cell? ⟨wr.heap.size, 2, none⟩ = some (.int .i64 (F k).y) := cell_of_row _ _ 2 _ _ _ (heap_alloc_new wr _)
      have GB := keepB hb6 (keepB hb B0)
      clear B0 B1 B2 B3 B4 B5 k0
      rcases h4 : okFn (F k).s
      · have HF : Hid (okFs n F x1 x2 x3 x4 = false) := by simp [Hid, okFs, allN_false (p := fun k => okFl F k && ltN F k) hlt (by simp [okFl, h4])]
        go_wp2
        refine wp_region_held_drew (S := fun x => Below (wr.alloc (.cells #[.string (F k).s, .string (F k).d, .int .i64 (F k).y] 92)).heap.size (wr.alloc (.cells #[.string (F k).s, .string (F k).d, .int .i64 (F k).y] 92)) x) (by kernel_rfl) (bdrew _) (fun hHeld => ?_)
        refine' takeF (i := 0) (oi := qFe17) rfl ⟨by rfl, fun x hSw => ?h50⟩ hHeld ?r50
        case h50 =>
          go_simp
          try with_reducible rfl
        try simp only [Act.put, List.setIfInBounds_toArray, List.set_cons_zero, List.set_cons_succ]
        refine' takeF (i := 1) (oi := qFe18) rfl ⟨by rfl, fun x hSw => ?h51⟩ hHeld ?r51
        case h51 =>
          have k0 := keepB hSw G0; have k1 := keepB hSw G1; have k2 := keepB hSw G2; have k3 := keepB hSw GB
          go_simp
          try with_reducible rfl
        try simp only [Act.put, List.setIfInBounds_toArray, List.set_cons_zero, List.set_cons_succ]
        refine wpAnyH_ready (rs := [2]) (by kernel_rfl) (by simp) ?_
        refine AllReadyH.cons (o := qFe19) rfl (fun K hK => ?_) AllReadyH.nil
        go_simp
        refine (sFileName (F k).s _ z1).mono ?_
        rw [h4]; rintro e w1 ⟨rfl, rfl⟩
        refine hK.out _ _ (hHeld) (fun hHeld => ?_)
        clear hK K
        try simp only [Act.put, List.setIfInBounds_toArray, List.set_cons_zero, List.set_cons_succ]
        refine' takeF (i := 3) (oi := qFe20) rfl ⟨by rfl, fun x hSw => ?h52⟩ hHeld ?r52
        case h52 =>
          go_simp
          try with_reducible rfl
        try simp only [Act.put, List.setIfInBounds_toArray, List.set_cons_zero, List.set_cons_succ]
        refine' takeF (i := 4) (oi := qFe21) rfl ⟨by rfl, fun x hSw => ?h53⟩ hHeld ?r53
        case h53 =>
          go_simp
          try with_reducible rfl
        try simp only [Act.put, List.setIfInBounds_toArray, List.set_cons_zero, List.set_cons_succ]
        refine wpAnyH_take (i := 5) (oi := qFe22) (v := undef) rfl (by kernel_rfl) (by kernel_rfl) (by kernel_rfl) (fun _ _ _ h => h) (Or.inr ⟨by rfl, rfl⟩) hHeld ?_
        try simp only [Act.put, List.setIfInBounds_toArray, List.set_cons_zero, List.set_cons_succ]
        refine wpAnyH_take (i := 6) (oi := qFe23) (v := undef) rfl (by kernel_rfl) (by kernel_rfl) (by kernel_rfl) (fun _ _ _ h => h) (Or.inr ⟨by rfl, rfl⟩) hHeld ?_
        try simp only [Act.put, List.setIfInBounds_toArray, List.set_cons_zero, List.set_cons_succ]
        refine wpAnyH_take (i := 7) (oi := qFe24) (v := undef) rfl (by kernel_rfl) (by kernel_rfl) (by kernel_rfl) (fun _ _ _ h => h) (Or.inr ⟨by rfl, rfl⟩) hHeld ?_
        try simp only [Act.put, List.setIfInBounds_toArray, List.set_cons_zero, List.set_cons_succ]
        refine wpAnyH_take (i := 8) (oi := qFe25) (v := undef) rfl (by kernel_rfl) (by kernel_rfl) (by kernel_rfl) (fun _ _ _ h => h) (Or.inr ⟨by rfl, rfl⟩) hHeld ?_
        try simp only [Act.put, List.setIfInBounds_toArray, List.set_cons_zero, List.set_cons_succ]
        refine wpAnyH_take (i := 9) (oi := qFe26) (v := undef) rfl (by kernel_rfl) (by kernel_rfl) (by kernel_rfl) (fun _ _ _ h => h) (Or.inr ⟨by rfl, rfl⟩) hHeld ?_
        try simp only [Act.put, List.setIfInBounds_toArray, List.set_cons_zero, List.set_cons_succ]
        refine wpAnyH_take (i := 10) (oi := qFe27) (v := undef) rfl (by kernel_rfl) (by kernel_rfl) (by kernel_rfl) (fun _ _ _ h => h) (Or.inr ⟨by rfl, rfl⟩) hHeld ?_
        try simp only [Act.put, List.setIfInBounds_toArray, List.set_cons_zero, List.set_cons_succ]
        refine wpAnyH_take (i := 11) (oi := qFe28) (v := undef) rfl (by kernel_rfl) (by kernel_rfl) (by kernel_rfl) (fun _ _ _ h => h) (Or.inr ⟨by rfl, rfl⟩) hHeld ?_
        try simp only [Act.put, List.setIfInBounds_toArray, List.set_cons_zero, List.set_cons_succ]
        refine' takeF (i := 12) (oi := qFe29) rfl ⟨by rfl, fun x hSw => ?h54⟩ hHeld ?r54
        case h54 =>
          go_simp
          try with_reducible rfl
        try simp only [Act.put, List.setIfInBounds_toArray, List.set_cons_zero, List.set_cons_succ]
        refine' takeF (i := 13) (oi := qFe30) rfl ⟨by rfl, fun x hSw => ?h55⟩ hHeld ?r55
        case h55 =>
          go_simp
          try with_reducible rfl
        try simp only [Act.put, List.setIfInBounds_toArray, List.set_cons_zero, List.set_cons_succ]
        refine wpAnyH_take (i := 14) (oi := qFe31) (v := undef) rfl (by kernel_rfl) (by kernel_rfl) (by kernel_rfl) (fun _ _ _ h => h) (Or.inr ⟨by rfl, rfl⟩) hHeld ?_
        try simp only [Act.put, List.setIfInBounds_toArray, List.set_cons_zero, List.set_cons_succ]
        refine wpAnyH_take (i := 15) (oi := qFe32) (v := undef) rfl (by kernel_rfl) (by kernel_rfl) (by kernel_rfl) (fun _ _ _ h => h) (Or.inr ⟨by rfl, rfl⟩) hHeld ?_
        try simp only [Act.put, List.setIfInBounds_toArray, List.set_cons_zero, List.set_cons_succ]
        refine wpAnyH_take (i := 16) (oi := qFe33) (v := undef) rfl (by kernel_rfl) (by kernel_rfl) (by kernel_rfl) (fun _ _ _ h => h) (Or.inr ⟨by rfl, rfl⟩) hHeld ?_
        try simp only [Act.put, List.setIfInBounds_toArray, List.set_cons_zero, List.set_cons_succ]
        refine wpAnyH_take (i := 17) (oi := qFe34) (v := undef) rfl (by kernel_rfl) (by kernel_rfl) (by kernel_rfl) (fun _ _ _ h => h) (Or.inr ⟨by rfl, rfl⟩) hHeld ?_
        try simp only [Act.put, List.setIfInBounds_toArray, List.set_cons_zero, List.set_cons_succ]
        refine wpAnyH_take (i := 18) (oi := qFe35) (v := undef) rfl (by kernel_rfl) (by kernel_rfl) (by kernel_rfl) (fun _ _ _ h => h) (Or.inr ⟨by rfl, rfl⟩) hHeld ?_
        try simp only [Act.put, List.setIfInBounds_toArray, List.set_cons_zero, List.set_cons_succ]
        refine wpAnyH_take (i := 19) (oi := qFe36) (v := undef) rfl (by kernel_rfl) (by kernel_rfl) (by kernel_rfl) (fun _ _ _ h => h) (Or.inr ⟨by rfl, rfl⟩) hHeld ?_
        try simp only [Act.put, List.setIfInBounds_toArray, List.set_cons_zero, List.set_cons_succ]
        refine wpAnyH_take (i := 20) (oi := qFe37) (v := undef) rfl (by kernel_rfl) (by kernel_rfl) (by kernel_rfl) (fun _ _ _ h => h) (Or.inr ⟨by rfl, rfl⟩) hHeld ?_
        try simp only [Act.put, List.setIfInBounds_toArray, List.set_cons_zero, List.set_cons_succ]
        refine wpAnyH_take (i := 21) (oi := qFe38) (v := undef) rfl (by kernel_rfl) (by kernel_rfl) (by kernel_rfl) (fun _ _ _ h => h) (Or.inr ⟨by rfl, rfl⟩) hHeld ?_
        try simp only [Act.put, List.setIfInBounds_toArray, List.set_cons_zero, List.set_cons_succ]
        refine wpAnyH_take (i := 22) (oi := qFe39) (v := undef) rfl (by kernel_rfl) (by kernel_rfl) (by kernel_rfl) (fun _ _ _ h => h) (Or.inr ⟨by rfl, rfl⟩) hHeld ?_
        try simp only [Act.put, List.setIfInBounds_toArray, List.set_cons_zero, List.set_cons_succ]
        refine wpAnyH_take (i := 23) (oi := qFe40) (v := undef) rfl (by kernel_rfl) (by kernel_rfl) (by kernel_rfl) (fun _ _ _ h => h) (Or.inr ⟨by rfl, rfl⟩) hHeld ?_
        try simp only [Act.put, List.setIfInBounds_toArray, List.set_cons_zero, List.set_cons_succ]
        refine wpAnyH_take (i := 24) (oi := qFe41) (v := undef) rfl (by kernel_rfl) (by kernel_rfl) (by kernel_rfl) (fun _ _ _ h => h) (Or.inr ⟨by rfl, rfl⟩) hHeld ?_
        try simp only [Act.put, List.setIfInBounds_toArray, List.set_cons_zero, List.set_cons_succ]
        refine wpAnyH_take (i := 25) (oi := qFe42) (v := undef) rfl (by kernel_rfl) (by kernel_rfl) (by kernel_rfl) (fun _ _ _ h => h) (Or.inr ⟨by rfl, rfl⟩) hHeld ?_
        try simp only [Act.put, List.setIfInBounds_toArray, List.set_cons_zero, List.set_cons_succ]
        refine wpAnyH_take (i := 26) (oi := qFe43) (v := undef) rfl (by kernel_rfl) (by kernel_rfl) (by kernel_rfl) (fun _ _ _ h => h) (Or.inr ⟨by rfl, rfl⟩) hHeld ?_
        try simp only [Act.put, List.setIfInBounds_toArray, List.set_cons_zero, List.set_cons_succ]
        refine wpAnyH_take (i := 27) (oi := qFe44) (v := undef) rfl (by kernel_rfl) (by kernel_rfl) (by kernel_rfl) (fun _ _ _ h => h) (Or.inr ⟨by rfl, rfl⟩) hHeld ?_
        try simp only [Act.put, List.setIfInBounds_toArray, List.set_cons_zero, List.set_cons_succ]
        refine' takeF (i := 28) (oi := qFe45) rfl ⟨by rfl, fun x hSw => ?h56⟩ hHeld ?r56
        case h56 =>
          go_simp
          try with_reducible rfl
        try simp only [Act.put, List.setIfInBounds_toArray, List.set_cons_zero, List.set_cons_succ]
        refine wpAnyH_done (by kernel_rfl) ?_ _
        go_wp2
        go_ret
        exact ⟨by rw [HF.out]; rfl, bstep hbw (bstep hb6 hHeld)⟩
      rcases h5 : btw (F k).y 0 (F k).d.size
      · have HF : Hid (okFs n F x1 x2 x3 x4 = false) := by simp [Hid, okFs, allN_false (p := fun k => okFl F k && ltN F k) hlt (by simp [okFl, h5])]
        go_wp2
        refine wp_region_held_drew (S := fun x => Below (wr.alloc (.cells #[.string (F k).s, .string (F k).d, .int .i64 (F k).y] 92)).heap.size (wr.alloc (.cells #[.string (F k).s, .string (F k).d, .int .i64 (F k).y] 92)) x) (by kernel_rfl) (bdrew _) (fun hHeld => ?_)
        refine' takeF (i := 0) (oi := qFe17) rfl ⟨by rfl, fun x hSw => ?h57⟩ hHeld ?r57
        case h57 =>
          go_simp
          try with_reducible rfl
        try simp only [Act.put, List.setIfInBounds_toArray, List.set_cons_zero, List.set_cons_succ]
        refine' takeF (i := 1) (oi := qFe18) rfl ⟨by rfl, fun x hSw => ?h58⟩ hHeld ?r58
        case h58 =>
          have k0 := keepB hSw G0; have k1 := keepB hSw G1; have k2 := keepB hSw G2; have k3 := keepB hSw GB
          go_simp
          try with_reducible rfl
        try simp only [Act.put, List.setIfInBounds_toArray, List.set_cons_zero, List.set_cons_succ]
        refine wpAnyH_ready (rs := [2]) (by kernel_rfl) (by simp) ?_
        refine AllReadyH.cons (o := qFe19) rfl (fun K hK => ?_) AllReadyH.nil
        go_simp
        refine (sFileName (F k).s _ z1).mono ?_
        rw [h4]; rintro e w1 ⟨rfl, rfl⟩
        refine hK.out _ _ (hHeld) (fun hHeld => ?_)
        clear hK K
        try simp only [Act.put, List.setIfInBounds_toArray, List.set_cons_zero, List.set_cons_succ]
        refine' takeF (i := 3) (oi := qFe20) rfl ⟨by rfl, fun x hSw => ?h59⟩ hHeld ?r59
        case h59 =>
          go_simp
          try with_reducible rfl
        try simp only [Act.put, List.setIfInBounds_toArray, List.set_cons_zero, List.set_cons_succ]
        refine' takeF (i := 4) (oi := qFe21) rfl ⟨by rfl, fun x hSw => ?h60⟩ hHeld ?r60
        case h60 =>
          go_simp
          try with_reducible rfl
        try simp only [Act.put, List.setIfInBounds_toArray, List.set_cons_zero, List.set_cons_succ]
        refine' takeF (i := 5) (oi := qFe22) rfl ⟨by rfl, fun x hSw => ?h61⟩ hHeld ?r61
        case h61 =>
          go_simp
          try with_reducible rfl
        try simp only [Act.put, List.setIfInBounds_toArray, List.set_cons_zero, List.set_cons_succ]
        refine' takeF (i := 6) (oi := qFe23) rfl ⟨by rfl, fun x hSw => ?h62⟩ hHeld ?r62
        case h62 =>
          have k0 := keepB hSw G0; have k1 := keepB hSw G1; have k2 := keepB hSw G2; have k3 := keepB hSw GB
          go_simp
          try with_reducible rfl
        try simp only [Act.put, List.setIfInBounds_toArray, List.set_cons_zero, List.set_cons_succ]
        refine' takeF (i := 7) (oi := qFe24) rfl ⟨by rfl, fun x hSw => ?h63⟩ hHeld ?r63
        case h63 =>
          go_simp
          try with_reducible rfl
        try simp only [Act.put, List.setIfInBounds_toArray, List.set_cons_zero, List.set_cons_succ]
        refine' takeF (i := 8) (oi := qFe25) rfl ⟨by rfl, fun x hSw => ?h64⟩ hHeld ?r64
        case h64 =>
          have k0 := keepB hSw G0; have k1 := keepB hSw G1; have k2 := keepB hSw G2; have k3 := keepB hSw GB
          go_simp
          try with_reducible rfl
        try simp only [Act.put, List.setIfInBounds_toArray, List.set_cons_zero, List.set_cons_succ]
        refine' takeF (i := 9) (oi := qFe26) rfl ⟨by rfl, fun x hSw => ?h65⟩ hHeld ?r65
        case h65 =>
          go_simp
          try with_reducible rfl
        try simp only [Act.put, List.setIfInBounds_toArray, List.set_cons_zero, List.set_cons_succ]
        refine wpAnyH_ready (rs := [10]) (by kernel_rfl) (by simp) ?_
        refine AllReadyH.cons (o := qFe27) rfl (fun K hK => ?_) AllReadyH.nil
        go_simp
        refine (sBetween (F k).y 0 (F k).d.size _).mono ?_
        rw [h5]; rintro e w1 ⟨rfl, rfl⟩
        refine hK.out _ _ (hHeld) (fun hHeld => ?_)
        clear hK K
        try simp only [Act.put, List.setIfInBounds_toArray, List.set_cons_zero, List.set_cons_succ]
        refine' takeF (i := 11) (oi := qFe28) rfl ⟨by rfl, fun x hSw => ?h66⟩ hHeld ?r66
        case h66 =>
          go_simp
          try with_reducible rfl
        try simp only [Act.put, List.setIfInBounds_toArray, List.set_cons_zero, List.set_cons_succ]
        refine' takeF (i := 12) (oi := qFe29) rfl ⟨by rfl, fun x hSw => ?h67⟩ hHeld ?r67
        case h67 =>
          go_simp
          try with_reducible rfl
        try simp only [Act.put, List.setIfInBounds_toArray, List.set_cons_zero, List.set_cons_succ]
        refine' takeF (i := 13) (oi := qFe30) rfl ⟨by rfl, fun x hSw => ?h68⟩ hHeld ?r68
        case h68 =>
          go_simp
          try with_reducible rfl
        try simp only [Act.put, List.setIfInBounds_toArray, List.set_cons_zero, List.set_cons_succ]
        refine wpAnyH_take (i := 14) (oi := qFe31) (v := undef) rfl (by kernel_rfl) (by kernel_rfl) (by kernel_rfl) (fun _ _ _ h => h) (Or.inr ⟨by rfl, rfl⟩) hHeld ?_
        try simp only [Act.put, List.setIfInBounds_toArray, List.set_cons_zero, List.set_cons_succ]
        refine wpAnyH_take (i := 15) (oi := qFe32) (v := undef) rfl (by kernel_rfl) (by kernel_rfl) (by kernel_rfl) (fun _ _ _ h => h) (Or.inr ⟨by rfl, rfl⟩) hHeld ?_
        try simp only [Act.put, List.setIfInBounds_toArray, List.set_cons_zero, List.set_cons_succ]
        refine wpAnyH_take (i := 16) (oi := qFe33) (v := undef) rfl (by kernel_rfl) (by kernel_rfl) (by kernel_rfl) (fun _ _ _ h => h) (Or.inr ⟨by rfl, rfl⟩) hHeld ?_
        try simp only [Act.put, List.setIfInBounds_toArray, List.set_cons_zero, List.set_cons_succ]
        refine wpAnyH_take (i := 17) (oi := qFe34) (v := undef) rfl (by kernel_rfl) (by kernel_rfl) (by kernel_rfl) (fun _ _ _ h => h) (Or.inr ⟨by rfl, rfl⟩) hHeld ?_
        try simp only [Act.put, List.setIfInBounds_toArray, List.set_cons_zero, List.set_cons_succ]
        refine wpAnyH_take (i := 18) (oi := qFe35) (v := undef) rfl (by kernel_rfl) (by kernel_rfl) (by kernel_rfl) (fun _ _ _ h => h) (Or.inr ⟨by rfl, rfl⟩) hHeld ?_
        try simp only [Act.put, List.setIfInBounds_toArray, List.set_cons_zero, List.set_cons_succ]
        refine wpAnyH_take (i := 19) (oi := qFe36) (v := undef) rfl (by kernel_rfl) (by kernel_rfl) (by kernel_rfl) (fun _ _ _ h => h) (Or.inr ⟨by rfl, rfl⟩) hHeld ?_
        try simp only [Act.put, List.setIfInBounds_toArray, List.set_cons_zero, List.set_cons_succ]
        refine wpAnyH_take (i := 20) (oi := qFe37) (v := undef) rfl (by kernel_rfl) (by kernel_rfl) (by kernel_rfl) (fun _ _ _ h => h) (Or.inr ⟨by rfl, rfl⟩) hHeld ?_
        try simp only [Act.put, List.setIfInBounds_toArray, List.set_cons_zero, List.set_cons_succ]
        refine wpAnyH_take (i := 21) (oi := qFe38) (v := undef) rfl (by kernel_rfl) (by kernel_rfl) (by kernel_rfl) (fun _ _ _ h => h) (Or.inr ⟨by rfl, rfl⟩) hHeld ?_
        try simp only [Act.put, List.setIfInBounds_toArray, List.set_cons_zero, List.set_cons_succ]
        refine wpAnyH_take (i := 22) (oi := qFe39) (v := undef) rfl (by kernel_rfl) (by kernel_rfl) (by kernel_rfl) (fun _ _ _ h => h) (Or.inr ⟨by rfl, rfl⟩) hHeld ?_
        try simp only [Act.put, List.setIfInBounds_toArray, List.set_cons_zero, List.set_cons_succ]
        refine wpAnyH_take (i := 23) (oi := qFe40) (v := undef) rfl (by kernel_rfl) (by kernel_rfl) (by kernel_rfl) (fun _ _ _ h => h) (Or.inr ⟨by rfl, rfl⟩) hHeld ?_
        try simp only [Act.put, List.setIfInBounds_toArray, List.set_cons_zero, List.set_cons_succ]
        refine wpAnyH_take (i := 24) (oi := qFe41) (v := undef) rfl (by kernel_rfl) (by kernel_rfl) (by kernel_rfl) (fun _ _ _ h => h) (Or.inr ⟨by rfl, rfl⟩) hHeld ?_
        try simp only [Act.put, List.setIfInBounds_toArray, List.set_cons_zero, List.set_cons_succ]
        refine wpAnyH_take (i := 25) (oi := qFe42) (v := undef) rfl (by kernel_rfl) (by kernel_rfl) (by kernel_rfl) (fun _ _ _ h => h) (Or.inr ⟨by rfl, rfl⟩) hHeld ?_
        try simp only [Act.put, List.setIfInBounds_toArray, List.set_cons_zero, List.set_cons_succ]
        refine wpAnyH_take (i := 26) (oi := qFe43) (v := undef) rfl (by kernel_rfl) (by kernel_rfl) (by kernel_rfl) (fun _ _ _ h => h) (Or.inr ⟨by rfl, rfl⟩) hHeld ?_
        try simp only [Act.put, List.setIfInBounds_toArray, List.set_cons_zero, List.set_cons_succ]
        refine wpAnyH_take (i := 27) (oi := qFe44) (v := undef) rfl (by kernel_rfl) (by kernel_rfl) (by kernel_rfl) (fun _ _ _ h => h) (Or.inr ⟨by rfl, rfl⟩) hHeld ?_
        try simp only [Act.put, List.setIfInBounds_toArray, List.set_cons_zero, List.set_cons_succ]
        refine' takeF (i := 28) (oi := qFe45) rfl ⟨by rfl, fun x hSw => ?h69⟩ hHeld ?r69
        case h69 =>
          go_simp
          try with_reducible rfl
        try simp only [Act.put, List.setIfInBounds_toArray, List.set_cons_zero, List.set_cons_succ]
        refine wpAnyH_done (by kernel_rfl) ?_ _
        go_wp2
        go_ret
        exact ⟨by rw [HF.out]; rfl, bstep hbw (bstep hb6 hHeld)⟩
      by_cases hk0 : k = 0
      · have d6 : decide ((0 : Int) < (k : Int)) = false := by simp; omega
        have d7 : decide (0 < k) = false := by simp; omega
        have d8 : ¬ 0 < k := by omega
        have HK : Hid (k = 0) := hk0
        clear hk0
        go_wp2
        refine wp_region_held_drew (S := fun x => Below (wr.alloc (.cells #[.string (F k).s, .string (F k).d, .int .i64 (F k).y] 92)).heap.size (wr.alloc (.cells #[.string (F k).s, .string (F k).d, .int .i64 (F k).y] 92)) x) (by kernel_rfl) (bdrew _) (fun hHeld => ?_)
        refine' takeF (i := 0) (oi := qFe17) rfl ⟨by rfl, fun x hSw => ?h70⟩ hHeld ?r70
        case h70 =>
          go_simp
          try with_reducible rfl
        try simp only [Act.put, List.setIfInBounds_toArray, List.set_cons_zero, List.set_cons_succ]
        refine' takeF (i := 1) (oi := qFe18) rfl ⟨by rfl, fun x hSw => ?h71⟩ hHeld ?r71
        case h71 =>
          have k0 := keepB hSw G0; have k1 := keepB hSw G1; have k2 := keepB hSw G2; have k3 := keepB hSw GB
          go_simp
          try with_reducible rfl
        try simp only [Act.put, List.setIfInBounds_toArray, List.set_cons_zero, List.set_cons_succ]
        refine wpAnyH_ready (rs := [2]) (by kernel_rfl) (by simp) ?_
        refine AllReadyH.cons (o := qFe19) rfl (fun K hK => ?_) AllReadyH.nil
        go_simp
        refine (sFileName (F k).s _ z1).mono ?_
        rw [h4]; rintro e w1 ⟨rfl, rfl⟩
        refine hK.out _ _ (hHeld) (fun hHeld => ?_)
        clear hK K
        try simp only [Act.put, List.setIfInBounds_toArray, List.set_cons_zero, List.set_cons_succ]
        refine' takeF (i := 3) (oi := qFe20) rfl ⟨by rfl, fun x hSw => ?h72⟩ hHeld ?r72
        case h72 =>
          go_simp
          try with_reducible rfl
        try simp only [Act.put, List.setIfInBounds_toArray, List.set_cons_zero, List.set_cons_succ]
        refine' takeF (i := 4) (oi := qFe21) rfl ⟨by rfl, fun x hSw => ?h73⟩ hHeld ?r73
        case h73 =>
          go_simp
          try with_reducible rfl
        try simp only [Act.put, List.setIfInBounds_toArray, List.set_cons_zero, List.set_cons_succ]
        refine' takeF (i := 5) (oi := qFe22) rfl ⟨by rfl, fun x hSw => ?h74⟩ hHeld ?r74
        case h74 =>
          go_simp
          try with_reducible rfl
        try simp only [Act.put, List.setIfInBounds_toArray, List.set_cons_zero, List.set_cons_succ]
        refine' takeF (i := 6) (oi := qFe23) rfl ⟨by rfl, fun x hSw => ?h75⟩ hHeld ?r75
        case h75 =>
          have k0 := keepB hSw G0; have k1 := keepB hSw G1; have k2 := keepB hSw G2; have k3 := keepB hSw GB
          go_simp
          try with_reducible rfl
        try simp only [Act.put, List.setIfInBounds_toArray, List.set_cons_zero, List.set_cons_succ]
        refine' takeF (i := 7) (oi := qFe24) rfl ⟨by rfl, fun x hSw => ?h76⟩ hHeld ?r76
        case h76 =>
          go_simp
          try with_reducible rfl
        try simp only [Act.put, List.setIfInBounds_toArray, List.set_cons_zero, List.set_cons_succ]
        refine' takeF (i := 8) (oi := qFe25) rfl ⟨by rfl, fun x hSw => ?h77⟩ hHeld ?r77
        case h77 =>
          have k0 := keepB hSw G0; have k1 := keepB hSw G1; have k2 := keepB hSw G2; have k3 := keepB hSw GB
          go_simp
          try with_reducible rfl
        try simp only [Act.put, List.setIfInBounds_toArray, List.set_cons_zero, List.set_cons_succ]
        refine' takeF (i := 9) (oi := qFe26) rfl ⟨by rfl, fun x hSw => ?h78⟩ hHeld ?r78
        case h78 =>
          go_simp
          try with_reducible rfl
        try simp only [Act.put, List.setIfInBounds_toArray, List.set_cons_zero, List.set_cons_succ]
        refine wpAnyH_ready (rs := [10]) (by kernel_rfl) (by simp) ?_
        refine AllReadyH.cons (o := qFe27) rfl (fun K hK => ?_) AllReadyH.nil
        go_simp
        refine (sBetween (F k).y 0 (F k).d.size _).mono ?_
        rw [h5]; rintro e w1 ⟨rfl, rfl⟩
        refine hK.out _ _ (hHeld) (fun hHeld => ?_)
        clear hK K
        try simp only [Act.put, List.setIfInBounds_toArray, List.set_cons_zero, List.set_cons_succ]
        refine' takeF (i := 11) (oi := qFe28) rfl ⟨by rfl, fun x hSw => ?h79⟩ hHeld ?r79
        case h79 =>
          go_simp
          try with_reducible rfl
        try simp only [Act.put, List.setIfInBounds_toArray, List.set_cons_zero, List.set_cons_succ]
        refine' takeF (i := 12) (oi := qFe29) rfl ⟨by rfl, fun x hSw => ?h80⟩ hHeld ?r80
        case h80 =>
          go_simp
          try with_reducible rfl
        try simp only [Act.put, List.setIfInBounds_toArray, List.set_cons_zero, List.set_cons_succ]
        refine' takeF (i := 13) (oi := qFe30) rfl ⟨by rfl, fun x hSw => ?h81⟩ hHeld ?r81
        case h81 =>
          go_simp
          try with_reducible rfl
        try simp only [Act.put, List.setIfInBounds_toArray, List.set_cons_zero, List.set_cons_succ]
        refine' takeF (i := 14) (oi := qFe31) rfl ⟨by rfl, fun x hSw => ?h82⟩ hHeld ?r82
        case h82 =>
          go_simp
          try with_reducible rfl
        try simp only [Act.put, List.setIfInBounds_toArray, List.set_cons_zero, List.set_cons_succ]
        refine' wpAnyH_take (i := 15) (oi := qFe32) (v := .bool false) rfl (by kernel_rfl) (by kernel_rfl) (by kernel_rfl) (fun _ _ _ h => h) (Or.inl ⟨by rfl, fun x hSw => ?hyz7_15⟩) hHeld ?restz7_15
        case hyz7_15 =>
          have k0 := keepB hSw G0; have k1 := keepB hSw G1; have k2 := keepB hSw G2; have k3 := keepB hSw GB
          go_simp
          try with_reducible rfl
        try simp only [Act.put, List.setIfInBounds_toArray, List.set_cons_zero, List.set_cons_succ]
        refine' takeF (i := 16) (oi := qFe33) rfl ⟨by rfl, fun x hSw => ?h83⟩ hHeld ?r83
        case h83 =>
          go_simp
          try with_reducible rfl
        try simp only [Act.put, List.setIfInBounds_toArray, List.set_cons_zero, List.set_cons_succ]
        refine wpAnyH_take (i := 17) (oi := qFe34) (v := undef) rfl (by kernel_rfl) (by kernel_rfl) (by kernel_rfl) (fun _ _ _ h => h) (Or.inr ⟨by rfl, rfl⟩) hHeld ?_
        try simp only [Act.put, List.setIfInBounds_toArray, List.set_cons_zero, List.set_cons_succ]
        refine wpAnyH_take (i := 18) (oi := qFe35) (v := undef) rfl (by kernel_rfl) (by kernel_rfl) (by kernel_rfl) (fun _ _ _ h => h) (Or.inr ⟨by rfl, rfl⟩) hHeld ?_
        try simp only [Act.put, List.setIfInBounds_toArray, List.set_cons_zero, List.set_cons_succ]
        refine wpAnyH_take (i := 19) (oi := qFe36) (v := undef) rfl (by kernel_rfl) (by kernel_rfl) (by kernel_rfl) (fun _ _ _ h => h) (Or.inr ⟨by rfl, rfl⟩) hHeld ?_
        try simp only [Act.put, List.setIfInBounds_toArray, List.set_cons_zero, List.set_cons_succ]
        refine wpAnyH_take (i := 20) (oi := qFe37) (v := undef) rfl (by kernel_rfl) (by kernel_rfl) (by kernel_rfl) (fun _ _ _ h => h) (Or.inr ⟨by rfl, rfl⟩) hHeld ?_
        try simp only [Act.put, List.setIfInBounds_toArray, List.set_cons_zero, List.set_cons_succ]
        refine wpAnyH_take (i := 21) (oi := qFe38) (v := undef) rfl (by kernel_rfl) (by kernel_rfl) (by kernel_rfl) (fun _ _ _ h => h) (Or.inr ⟨by rfl, rfl⟩) hHeld ?_
        try simp only [Act.put, List.setIfInBounds_toArray, List.set_cons_zero, List.set_cons_succ]
        refine wpAnyH_take (i := 22) (oi := qFe39) (v := undef) rfl (by kernel_rfl) (by kernel_rfl) (by kernel_rfl) (fun _ _ _ h => h) (Or.inr ⟨by rfl, rfl⟩) hHeld ?_
        try simp only [Act.put, List.setIfInBounds_toArray, List.set_cons_zero, List.set_cons_succ]
        refine wpAnyH_take (i := 23) (oi := qFe40) (v := undef) rfl (by kernel_rfl) (by kernel_rfl) (by kernel_rfl) (fun _ _ _ h => h) (Or.inr ⟨by rfl, rfl⟩) hHeld ?_
        try simp only [Act.put, List.setIfInBounds_toArray, List.set_cons_zero, List.set_cons_succ]
        refine wpAnyH_take (i := 24) (oi := qFe41) (v := undef) rfl (by kernel_rfl) (by kernel_rfl) (by kernel_rfl) (fun _ _ _ h => h) (Or.inr ⟨by rfl, rfl⟩) hHeld ?_
        try simp only [Act.put, List.setIfInBounds_toArray, List.set_cons_zero, List.set_cons_succ]
        refine wpAnyH_take (i := 25) (oi := qFe42) (v := undef) rfl (by kernel_rfl) (by kernel_rfl) (by kernel_rfl) (fun _ _ _ h => h) (Or.inr ⟨by rfl, rfl⟩) hHeld ?_
        try simp only [Act.put, List.setIfInBounds_toArray, List.set_cons_zero, List.set_cons_succ]
        refine wpAnyH_take (i := 26) (oi := qFe43) (v := undef) rfl (by kernel_rfl) (by kernel_rfl) (by kernel_rfl) (fun _ _ _ h => h) (Or.inr ⟨by rfl, rfl⟩) hHeld ?_
        try simp only [Act.put, List.setIfInBounds_toArray, List.set_cons_zero, List.set_cons_succ]
        refine' takeF (i := 27) (oi := qFe44) rfl ⟨by rfl, fun x hSw => ?h84⟩ hHeld ?r84
        case h84 =>
          go_simp
          try with_reducible rfl
        try simp only [Act.put, List.setIfInBounds_toArray, List.set_cons_zero, List.set_cons_succ]
        refine' takeF (i := 28) (oi := qFe45) rfl ⟨by rfl, fun x hSw => ?h85⟩ hHeld ?r85
        case h85 =>
          go_simp
          try with_reducible rfl
        try simp only [Act.put, List.setIfInBounds_toArray, List.set_cons_zero, List.set_cons_succ]
        refine wpAnyH_done (by kernel_rfl) ?_ _
        go_wp2
        go_roundw
        case rel => exact ⟨k + 1, by omega, by go_num, fun j hj => by
          have hk0 := HK.out
          obtain rfl : j = k := by omega
          have hl0 : ltN F j = true := by simp [ltN, hk0]
          rw [hl0, okFl, h4, h5]; rfl, bstep hb (bstep hb6 hHeld)⟩
        case measure => simp [intOf]; omega
      obtain ⟨p, rfl⟩ : ∃ p, k = p + 1 := ⟨k - 1, by omega⟩
      obtain ⟨b', off', e', c0', _, _⟩ := h.later hbw p (by omega)
      obtain ⟨rfl, rfl⟩ : b = b' ∧ off = off' := by simpa using e'
      have GP := keepB hb6 c0'
      have d6 : decide ((0 : Int) < ((p + 1 : Nat) : Int)) = true := by simp
      have i2 : IntKind.i64.wrap (p : Int) = (p : Int) := by rw [IntKind.wrap_i64]; omega
      have i0 : (0 : Int) ≤ (p : Int) := by omega
      have i1 : (p : Int) < (n : Int) := by omega
      rcases h7 : Op.bytesLess (F p).s.toList (F (p + 1)).s.toList
      · have HF : Hid (okFs n F x1 x2 x3 x4 = false) := by simp [Hid, okFs, allN_false (p := fun k => okFl F k && ltN F k) hlt (by simp [ltN, h7])]
        go_wp2
        refine wp_region_held_drew (S := fun x => Below (wr.alloc (.cells #[.string (F (p + 1)).s, .string (F (p + 1)).d, .int .i64 (F (p + 1)).y] 92)).heap.size (wr.alloc (.cells #[.string (F (p + 1)).s, .string (F (p + 1)).d, .int .i64 (F (p + 1)).y] 92)) x) (by kernel_rfl) (bdrew _) (fun hHeld => ?_)
        refine' takeF (i := 0) (oi := qFe17) rfl ⟨by rfl, fun x hSw => ?h86⟩ hHeld ?r86
        case h86 =>
          go_simp
          try with_reducible rfl
        try simp only [Act.put, List.setIfInBounds_toArray, List.set_cons_zero, List.set_cons_succ]
        refine' takeF (i := 1) (oi := qFe18) rfl ⟨by rfl, fun x hSw => ?h87⟩ hHeld ?r87
        case h87 =>
          have k0 := keepB hSw G0; have k1 := keepB hSw G1; have k2 := keepB hSw G2; have k3 := keepB hSw GB; have k4 := keepB hSw GP
          go_simp
          try with_reducible rfl
        try simp only [Act.put, List.setIfInBounds_toArray, List.set_cons_zero, List.set_cons_succ]
        refine wpAnyH_ready (rs := [2]) (by kernel_rfl) (by simp) ?_
        refine AllReadyH.cons (o := qFe19) rfl (fun K hK => ?_) AllReadyH.nil
        go_simp
        refine (sFileName (F (p + 1)).s _ z1).mono ?_
        rw [h4]; rintro e w1 ⟨rfl, rfl⟩
        refine hK.out _ _ (hHeld) (fun hHeld => ?_)
        clear hK K
        try simp only [Act.put, List.setIfInBounds_toArray, List.set_cons_zero, List.set_cons_succ]
        refine' takeF (i := 3) (oi := qFe20) rfl ⟨by rfl, fun x hSw => ?h88⟩ hHeld ?r88
        case h88 =>
          go_simp
          try with_reducible rfl
        try simp only [Act.put, List.setIfInBounds_toArray, List.set_cons_zero, List.set_cons_succ]
        refine' takeF (i := 4) (oi := qFe21) rfl ⟨by rfl, fun x hSw => ?h89⟩ hHeld ?r89
        case h89 =>
          go_simp
          try with_reducible rfl
        try simp only [Act.put, List.setIfInBounds_toArray, List.set_cons_zero, List.set_cons_succ]
        refine' takeF (i := 5) (oi := qFe22) rfl ⟨by rfl, fun x hSw => ?h90⟩ hHeld ?r90
        case h90 =>
          go_simp
          try with_reducible rfl
        try simp only [Act.put, List.setIfInBounds_toArray, List.set_cons_zero, List.set_cons_succ]
        refine' takeF (i := 6) (oi := qFe23) rfl ⟨by rfl, fun x hSw => ?h91⟩ hHeld ?r91
        case h91 =>
          have k0 := keepB hSw G0; have k1 := keepB hSw G1; have k2 := keepB hSw G2; have k3 := keepB hSw GB; have k4 := keepB hSw GP
          go_simp
          try with_reducible rfl
        try simp only [Act.put, List.setIfInBounds_toArray, List.set_cons_zero, List.set_cons_succ]
        refine' takeF (i := 7) (oi := qFe24) rfl ⟨by rfl, fun x hSw => ?h92⟩ hHeld ?r92
        case h92 =>
          go_simp
          try with_reducible rfl
        try simp only [Act.put, List.setIfInBounds_toArray, List.set_cons_zero, List.set_cons_succ]
        refine' takeF (i := 8) (oi := qFe25) rfl ⟨by rfl, fun x hSw => ?h93⟩ hHeld ?r93
        case h93 =>
          have k0 := keepB hSw G0; have k1 := keepB hSw G1; have k2 := keepB hSw G2; have k3 := keepB hSw GB; have k4 := keepB hSw GP
          go_simp
          try with_reducible rfl
        try simp only [Act.put, List.setIfInBounds_toArray, List.set_cons_zero, List.set_cons_succ]
        refine' takeF (i := 9) (oi := qFe26) rfl ⟨by rfl, fun x hSw => ?h94⟩ hHeld ?r94
        case h94 =>
          go_simp
          try with_reducible rfl
        try simp only [Act.put, List.setIfInBounds_toArray, List.set_cons_zero, List.set_cons_succ]
        refine wpAnyH_ready (rs := [10]) (by kernel_rfl) (by simp) ?_
        refine AllReadyH.cons (o := qFe27) rfl (fun K hK => ?_) AllReadyH.nil
        go_simp
        refine (sBetween (F (p + 1)).y 0 (F (p + 1)).d.size _).mono ?_
        rw [h5]; rintro e w1 ⟨rfl, rfl⟩
        refine hK.out _ _ (hHeld) (fun hHeld => ?_)
        clear hK K
        try simp only [Act.put, List.setIfInBounds_toArray, List.set_cons_zero, List.set_cons_succ]
        refine' takeF (i := 11) (oi := qFe28) rfl ⟨by rfl, fun x hSw => ?h95⟩ hHeld ?r95
        case h95 =>
          go_simp
          try with_reducible rfl
        try simp only [Act.put, List.setIfInBounds_toArray, List.set_cons_zero, List.set_cons_succ]
        refine' takeF (i := 12) (oi := qFe29) rfl ⟨by rfl, fun x hSw => ?h96⟩ hHeld ?r96
        case h96 =>
          go_simp
          try with_reducible rfl
        try simp only [Act.put, List.setIfInBounds_toArray, List.set_cons_zero, List.set_cons_succ]
        refine' takeF (i := 13) (oi := qFe30) rfl ⟨by rfl, fun x hSw => ?h97⟩ hHeld ?r97
        case h97 =>
          go_simp
          try with_reducible rfl
        try simp only [Act.put, List.setIfInBounds_toArray, List.set_cons_zero, List.set_cons_succ]
        refine' takeF (i := 14) (oi := qFe31) rfl ⟨by rfl, fun x hSw => ?h98⟩ hHeld ?r98
        case h98 =>
          go_simp
          try with_reducible rfl
        try simp only [Act.put, List.setIfInBounds_toArray, List.set_cons_zero, List.set_cons_succ]
        refine' takeF (i := 15) (oi := qFe32) rfl ⟨by rfl, fun x hSw => ?h99⟩ hHeld ?r99
        case h99 =>
          go_simp
          try with_reducible rfl
        try simp only [Act.put, List.setIfInBounds_toArray, List.set_cons_zero, List.set_cons_succ]
        refine' takeF (i := 16) (oi := qFe33) rfl ⟨by rfl, fun x hSw => ?h100⟩ hHeld ?r100
        case h100 =>
          go_simp
          try with_reducible rfl
        try simp only [Act.put, List.setIfInBounds_toArray, List.set_cons_zero, List.set_cons_succ]
        refine' takeF (i := 17) (oi := qFe34) rfl ⟨by rfl, fun x hSw => ?h101⟩ hHeld ?r101
        case h101 =>
          go_simp
          try with_reducible rfl
        try simp only [Act.put, List.setIfInBounds_toArray, List.set_cons_zero, List.set_cons_succ]
        refine' takeF (i := 18) (oi := qFe35) rfl ⟨by rfl, fun x hSw => ?h102⟩ hHeld ?r102
        case h102 =>
          have k0 := keepB hSw G0; have k1 := keepB hSw G1; have k2 := keepB hSw G2; have k3 := keepB hSw GB; have k4 := keepB hSw GP
          go_simp
          try with_reducible rfl
        try simp only [Act.put, List.setIfInBounds_toArray, List.set_cons_zero, List.set_cons_succ]
        refine' takeF (i := 19) (oi := qFe36) rfl ⟨by rfl, fun x hSw => ?h103⟩ hHeld ?r103
        case h103 =>
          go_simp
          try with_reducible rfl
        try simp only [Act.put, List.setIfInBounds_toArray, List.set_cons_zero, List.set_cons_succ]
        refine' wpAnyH_take (i := 20) (oi := qFe37) (v := .int .i64 (p : Int)) rfl (by kernel_rfl) (by kernel_rfl) (by kernel_rfl) (fun _ _ _ h => h) (Or.inl ⟨by rfl, fun x hSw => ?hyz8_20⟩) hHeld ?restz8_20
        case hyz8_20 =>
          have k0 := keepB hSw G0; have k1 := keepB hSw G1; have k2 := keepB hSw G2; have k3 := keepB hSw GB; have k4 := keepB hSw GP
          go_simp
          try with_reducible rfl
        try simp only [Act.put, List.setIfInBounds_toArray, List.set_cons_zero, List.set_cons_succ]
        refine' wpAnyH_take (i := 21) (oi := qFe38) (v := .pointer (some ⟨b, off + p * 3, none⟩)) rfl (by kernel_rfl) (by kernel_rfl) (by kernel_rfl) (fun _ _ _ h => h) (Or.inl ⟨by rfl, fun x hSw => ?hyz8_21⟩) hHeld ?restz8_21
        case hyz8_21 =>
          have k0 := keepB hSw G0; have k1 := keepB hSw G1; have k2 := keepB hSw G2; have k3 := keepB hSw GB; have k4 := keepB hSw GP
          go_simp
          try with_reducible rfl
        try simp only [Act.put, List.setIfInBounds_toArray, List.set_cons_zero, List.set_cons_succ]
        refine' takeF (i := 22) (oi := qFe39) rfl ⟨by rfl, fun x hSw => ?h104⟩ hHeld ?r104
        case h104 =>
          go_simp
          try with_reducible rfl
        try simp only [Act.put, List.setIfInBounds_toArray, List.set_cons_zero, List.set_cons_succ]
        refine' takeF (i := 23) (oi := qFe40) rfl ⟨by rfl, fun x hSw => ?h105⟩ hHeld ?r105
        case h105 =>
          have k0 := keepB hSw G0; have k1 := keepB hSw G1; have k2 := keepB hSw G2; have k3 := keepB hSw GB; have k4 := keepB hSw GP
          go_simp
          try with_reducible rfl
        try simp only [Act.put, List.setIfInBounds_toArray, List.set_cons_zero, List.set_cons_succ]
        refine' takeF (i := 24) (oi := qFe41) rfl ⟨by rfl, fun x hSw => ?h106⟩ hHeld ?r106
        case h106 =>
          go_simp
          try with_reducible rfl
        try simp only [Act.put, List.setIfInBounds_toArray, List.set_cons_zero, List.set_cons_succ]
        refine' takeF (i := 25) (oi := qFe42) rfl ⟨by rfl, fun x hSw => ?h107⟩ hHeld ?r107
        case h107 =>
          have k0 := keepB hSw G0; have k1 := keepB hSw G1; have k2 := keepB hSw G2; have k3 := keepB hSw GB; have k4 := keepB hSw GP
          go_simp
          try with_reducible rfl
        try simp only [Act.put, List.setIfInBounds_toArray, List.set_cons_zero, List.set_cons_succ]
        refine' takeF (i := 26) (oi := qFe43) rfl ⟨by rfl, fun x hSw => ?h108⟩ hHeld ?r108
        case h108 =>
          go_simp
          try with_reducible rfl
        try simp only [Act.put, List.setIfInBounds_toArray, List.set_cons_zero, List.set_cons_succ]
        refine' takeF (i := 27) (oi := qFe44) rfl ⟨by rfl, fun x hSw => ?h109⟩ hHeld ?r109
        case h109 =>
          go_simp
          try with_reducible rfl
        try simp only [Act.put, List.setIfInBounds_toArray, List.set_cons_zero, List.set_cons_succ]
        refine' takeF (i := 28) (oi := qFe45) rfl ⟨by rfl, fun x hSw => ?h110⟩ hHeld ?r110
        case h110 =>
          go_simp
          try with_reducible rfl
        try simp only [Act.put, List.setIfInBounds_toArray, List.set_cons_zero, List.set_cons_succ]
        refine wpAnyH_done (by kernel_rfl) ?_ _
        go_wp2
        go_ret
        exact ⟨by rw [HF.out]; rfl, bstep hbw (bstep hb6 hHeld)⟩
      · go_wp2
        refine wp_region_held_drew (S := fun x => Below (wr.alloc (.cells #[.string (F (p + 1)).s, .string (F (p + 1)).d, .int .i64 (F (p + 1)).y] 92)).heap.size (wr.alloc (.cells #[.string (F (p + 1)).s, .string (F (p + 1)).d, .int .i64 (F (p + 1)).y] 92)) x) (by kernel_rfl) (bdrew _) (fun hHeld => ?_)
        refine' takeF (i := 0) (oi := qFe17) rfl ⟨by rfl, fun x hSw => ?h111⟩ hHeld ?r111
        case h111 =>
          go_simp
          try with_reducible rfl
        try simp only [Act.put, List.setIfInBounds_toArray, List.set_cons_zero, List.set_cons_succ]
        refine' takeF (i := 1) (oi := qFe18) rfl ⟨by rfl, fun x hSw => ?h112⟩ hHeld ?r112
        case h112 =>
          have k0 := keepB hSw G0; have k1 := keepB hSw G1; have k2 := keepB hSw G2; have k3 := keepB hSw GB; have k4 := keepB hSw GP
          go_simp
          try with_reducible rfl
        try simp only [Act.put, List.setIfInBounds_toArray, List.set_cons_zero, List.set_cons_succ]
        refine wpAnyH_ready (rs := [2]) (by kernel_rfl) (by simp) ?_
        refine AllReadyH.cons (o := qFe19) rfl (fun K hK => ?_) AllReadyH.nil
        go_simp
        refine (sFileName (F (p + 1)).s _ z1).mono ?_
        rw [h4]; rintro e w1 ⟨rfl, rfl⟩
        refine hK.out _ _ (hHeld) (fun hHeld => ?_)
        clear hK K
        try simp only [Act.put, List.setIfInBounds_toArray, List.set_cons_zero, List.set_cons_succ]
        refine' takeF (i := 3) (oi := qFe20) rfl ⟨by rfl, fun x hSw => ?h113⟩ hHeld ?r113
        case h113 =>
          go_simp
          try with_reducible rfl
        try simp only [Act.put, List.setIfInBounds_toArray, List.set_cons_zero, List.set_cons_succ]
        refine' takeF (i := 4) (oi := qFe21) rfl ⟨by rfl, fun x hSw => ?h114⟩ hHeld ?r114
        case h114 =>
          go_simp
          try with_reducible rfl
        try simp only [Act.put, List.setIfInBounds_toArray, List.set_cons_zero, List.set_cons_succ]
        refine' takeF (i := 5) (oi := qFe22) rfl ⟨by rfl, fun x hSw => ?h115⟩ hHeld ?r115
        case h115 =>
          go_simp
          try with_reducible rfl
        try simp only [Act.put, List.setIfInBounds_toArray, List.set_cons_zero, List.set_cons_succ]
        refine' takeF (i := 6) (oi := qFe23) rfl ⟨by rfl, fun x hSw => ?h116⟩ hHeld ?r116
        case h116 =>
          have k0 := keepB hSw G0; have k1 := keepB hSw G1; have k2 := keepB hSw G2; have k3 := keepB hSw GB; have k4 := keepB hSw GP
          go_simp
          try with_reducible rfl
        try simp only [Act.put, List.setIfInBounds_toArray, List.set_cons_zero, List.set_cons_succ]
        refine' takeF (i := 7) (oi := qFe24) rfl ⟨by rfl, fun x hSw => ?h117⟩ hHeld ?r117
        case h117 =>
          go_simp
          try with_reducible rfl
        try simp only [Act.put, List.setIfInBounds_toArray, List.set_cons_zero, List.set_cons_succ]
        refine' takeF (i := 8) (oi := qFe25) rfl ⟨by rfl, fun x hSw => ?h118⟩ hHeld ?r118
        case h118 =>
          have k0 := keepB hSw G0; have k1 := keepB hSw G1; have k2 := keepB hSw G2; have k3 := keepB hSw GB; have k4 := keepB hSw GP
          go_simp
          try with_reducible rfl
        try simp only [Act.put, List.setIfInBounds_toArray, List.set_cons_zero, List.set_cons_succ]
        refine' takeF (i := 9) (oi := qFe26) rfl ⟨by rfl, fun x hSw => ?h119⟩ hHeld ?r119
        case h119 =>
          go_simp
          try with_reducible rfl
        try simp only [Act.put, List.setIfInBounds_toArray, List.set_cons_zero, List.set_cons_succ]
        refine wpAnyH_ready (rs := [10]) (by kernel_rfl) (by simp) ?_
        refine AllReadyH.cons (o := qFe27) rfl (fun K hK => ?_) AllReadyH.nil
        go_simp
        refine (sBetween (F (p + 1)).y 0 (F (p + 1)).d.size _).mono ?_
        rw [h5]; rintro e w1 ⟨rfl, rfl⟩
        refine hK.out _ _ (hHeld) (fun hHeld => ?_)
        clear hK K
        try simp only [Act.put, List.setIfInBounds_toArray, List.set_cons_zero, List.set_cons_succ]
        refine' takeF (i := 11) (oi := qFe28) rfl ⟨by rfl, fun x hSw => ?h120⟩ hHeld ?r120
        case h120 =>
          go_simp
          try with_reducible rfl
        try simp only [Act.put, List.setIfInBounds_toArray, List.set_cons_zero, List.set_cons_succ]
        refine' takeF (i := 12) (oi := qFe29) rfl ⟨by rfl, fun x hSw => ?h121⟩ hHeld ?r121
        case h121 =>
          go_simp
          try with_reducible rfl
        try simp only [Act.put, List.setIfInBounds_toArray, List.set_cons_zero, List.set_cons_succ]
        refine' takeF (i := 13) (oi := qFe30) rfl ⟨by rfl, fun x hSw => ?h122⟩ hHeld ?r122
        case h122 =>
          go_simp
          try with_reducible rfl
        try simp only [Act.put, List.setIfInBounds_toArray, List.set_cons_zero, List.set_cons_succ]
        refine' takeF (i := 14) (oi := qFe31) rfl ⟨by rfl, fun x hSw => ?h123⟩ hHeld ?r123
        case h123 =>
          go_simp
          try with_reducible rfl
        try simp only [Act.put, List.setIfInBounds_toArray, List.set_cons_zero, List.set_cons_succ]
        refine' takeF (i := 15) (oi := qFe32) rfl ⟨by rfl, fun x hSw => ?h124⟩ hHeld ?r124
        case h124 =>
          go_simp
          try with_reducible rfl
        try simp only [Act.put, List.setIfInBounds_toArray, List.set_cons_zero, List.set_cons_succ]
        refine' takeF (i := 16) (oi := qFe33) rfl ⟨by rfl, fun x hSw => ?h125⟩ hHeld ?r125
        case h125 =>
          go_simp
          try with_reducible rfl
        try simp only [Act.put, List.setIfInBounds_toArray, List.set_cons_zero, List.set_cons_succ]
        refine' takeF (i := 17) (oi := qFe34) rfl ⟨by rfl, fun x hSw => ?h126⟩ hHeld ?r126
        case h126 =>
          go_simp
          try with_reducible rfl
        try simp only [Act.put, List.setIfInBounds_toArray, List.set_cons_zero, List.set_cons_succ]
        refine' takeF (i := 18) (oi := qFe35) rfl ⟨by rfl, fun x hSw => ?h127⟩ hHeld ?r127
        case h127 =>
          have k0 := keepB hSw G0; have k1 := keepB hSw G1; have k2 := keepB hSw G2; have k3 := keepB hSw GB; have k4 := keepB hSw GP
          go_simp
          try with_reducible rfl
        try simp only [Act.put, List.setIfInBounds_toArray, List.set_cons_zero, List.set_cons_succ]
        refine' takeF (i := 19) (oi := qFe36) rfl ⟨by rfl, fun x hSw => ?h128⟩ hHeld ?r128
        case h128 =>
          go_simp
          try with_reducible rfl
        try simp only [Act.put, List.setIfInBounds_toArray, List.set_cons_zero, List.set_cons_succ]
        refine' wpAnyH_take (i := 20) (oi := qFe37) (v := .int .i64 (p : Int)) rfl (by kernel_rfl) (by kernel_rfl) (by kernel_rfl) (fun _ _ _ h => h) (Or.inl ⟨by rfl, fun x hSw => ?hyz9_20⟩) hHeld ?restz9_20
        case hyz9_20 =>
          have k0 := keepB hSw G0; have k1 := keepB hSw G1; have k2 := keepB hSw G2; have k3 := keepB hSw GB; have k4 := keepB hSw GP
          go_simp
          try with_reducible rfl
        try simp only [Act.put, List.setIfInBounds_toArray, List.set_cons_zero, List.set_cons_succ]
        refine' wpAnyH_take (i := 21) (oi := qFe38) (v := .pointer (some ⟨b, off + p * 3, none⟩)) rfl (by kernel_rfl) (by kernel_rfl) (by kernel_rfl) (fun _ _ _ h => h) (Or.inl ⟨by rfl, fun x hSw => ?hyz9_21⟩) hHeld ?restz9_21
        case hyz9_21 =>
          have k0 := keepB hSw G0; have k1 := keepB hSw G1; have k2 := keepB hSw G2; have k3 := keepB hSw GB; have k4 := keepB hSw GP
          go_simp
          try with_reducible rfl
        try simp only [Act.put, List.setIfInBounds_toArray, List.set_cons_zero, List.set_cons_succ]
        refine' takeF (i := 22) (oi := qFe39) rfl ⟨by rfl, fun x hSw => ?h129⟩ hHeld ?r129
        case h129 =>
          go_simp
          try with_reducible rfl
        try simp only [Act.put, List.setIfInBounds_toArray, List.set_cons_zero, List.set_cons_succ]
        refine' takeF (i := 23) (oi := qFe40) rfl ⟨by rfl, fun x hSw => ?h130⟩ hHeld ?r130
        case h130 =>
          have k0 := keepB hSw G0; have k1 := keepB hSw G1; have k2 := keepB hSw G2; have k3 := keepB hSw GB; have k4 := keepB hSw GP
          go_simp
          try with_reducible rfl
        try simp only [Act.put, List.setIfInBounds_toArray, List.set_cons_zero, List.set_cons_succ]
        refine' takeF (i := 24) (oi := qFe41) rfl ⟨by rfl, fun x hSw => ?h131⟩ hHeld ?r131
        case h131 =>
          go_simp
          try with_reducible rfl
        try simp only [Act.put, List.setIfInBounds_toArray, List.set_cons_zero, List.set_cons_succ]
        refine' takeF (i := 25) (oi := qFe42) rfl ⟨by rfl, fun x hSw => ?h132⟩ hHeld ?r132
        case h132 =>
          have k0 := keepB hSw G0; have k1 := keepB hSw G1; have k2 := keepB hSw G2; have k3 := keepB hSw GB; have k4 := keepB hSw GP
          go_simp
          try with_reducible rfl
        try simp only [Act.put, List.setIfInBounds_toArray, List.set_cons_zero, List.set_cons_succ]
        refine' takeF (i := 26) (oi := qFe43) rfl ⟨by rfl, fun x hSw => ?h133⟩ hHeld ?r133
        case h133 =>
          go_simp
          try with_reducible rfl
        try simp only [Act.put, List.setIfInBounds_toArray, List.set_cons_zero, List.set_cons_succ]
        refine' takeF (i := 27) (oi := qFe44) rfl ⟨by rfl, fun x hSw => ?h134⟩ hHeld ?r134
        case h134 =>
          go_simp
          try with_reducible rfl
        try simp only [Act.put, List.setIfInBounds_toArray, List.set_cons_zero, List.set_cons_succ]
        refine' takeF (i := 28) (oi := qFe45) rfl ⟨by rfl, fun x hSw => ?h135⟩ hHeld ?r135
        case h135 =>
          go_simp
          try with_reducible rfl
        try simp only [Act.put, List.setIfInBounds_toArray, List.set_cons_zero, List.set_cons_succ]
        refine wpAnyH_done (by kernel_rfl) ?_ _
        go_wp2
        go_roundw
        case rel => exact ⟨p + 1 + 1, by omega, by go_num, fun j hj => by
          by_cases e : j = p + 1
          · subst e; simp [okFl, ltN, h4, h5, h7]
          · exact hall j (by omega), bstep hb (bstep hb6 hHeld)⟩
        case measure => simp [intOf]; omega
    · obtain rfl : k = n := by omega
      have HA : allN k (fun k => okFl F k && ltN F k) = true := allN_true hall
      have k2 := keepB hb B2
      have k3 := keepB hb B3
      have k4 := keepB hb B4
      rcases g2 : btw x2 0 1000000000000000
      all_goals rcases g3 : btw x3 0 1000000000000000
      all_goals rcases g4 : btw x4 0 1000000000000000
      all_goals
        go_wp2_with (go_at_call 21; refine (sBetween _ _ _ _).mono ?_; simp only [g2, g3, g4]; rintro e w1 ⟨rfl, rfl⟩)
        go_ret
        exact ⟨retB (by
          have e1 : decide (k ≤ 300) = true := by simp; omega
          have e3 : decide ((sumD F k : Int) ≤ x1) = true := by simp; omega
          simp only [okFs, h2, e1, e3, HA, g2, g3, g4]; rfl), bstep hb0 hb⟩
end Go.Proofs.YtdbcihebhgpblaaDoor
