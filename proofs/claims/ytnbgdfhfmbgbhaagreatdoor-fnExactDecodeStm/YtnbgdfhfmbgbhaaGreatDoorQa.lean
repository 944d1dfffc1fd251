/-
  Numbers as the specification writes them.
-/
import Derived.Test.YtnbgdfhfmbgbhaaGreatDoorNb
import Derived.Lib.ItoaNum
import Derived.Lib.ItoaLen
import Derived.Deep.RegionHeld3
import Derived.Laws.DeepStrings4
namespace Go.Proofs.YtnbgdfhfmbgbhaaGreatDoor
open Go.RowKit Go.Maps Go.WideMaps
theorem bdrew (w : World) : Below w.heap.size w w.drew := ⟨rfl, rfl, rfl, Nat.le_refl _, fun _ _ => rfl⟩
/-- A number's digits. -/
def digB (n : Nat) : ByteArray := ⟨(Lib.decDigits n).toArray⟩
def decB (n : Int) : ByteArray := ⟨(Lib.itoa n).toArray⟩
def rng (x : Int) : Prop := -9223372036854775808 ≤ x ∧ x ≤ 9223372036854775807
theorem ba_app (a b : List UInt8) : (⟨(a ++ b).toArray⟩ : ByteArray) = ⟨a.toArray⟩ ++ ⟨b.toArray⟩ := by
  apply bytes_inj2
  simp [ByteArray.toList_eq]
/-- One digit. -/
def dgt (n : Nat) : ByteArray := ⟨#[UInt8.ofNat (48 + n)]⟩
theorem dig_fin : ∀ p : Fin 10, (⟨#[48, 49, 50, 51, 52, 53, 54, 55, 56, 57]⟩ : ByteArray).extract p.val (p.val + 1) = dgt p.val := by decide +kernel
theorem digB_small {n : Nat} (h : n < 10) : digB n = dgt n := by unfold digB; rw [Lib.decDigits_one h]; rfl
theorem digB_big {n : Nat} (h : ¬ n < 10) : digB n = digB (n / 10) ++ dgt (n % 10) := by
  unfold digB
  rw [Lib.decDigits, dif_neg h, ba_app]
  rfl
theorem digB_size {n : Nat} (h : n ≤ 9223372036854775808) : (digB n).size ≤ 20 := by
  have : (Lib.decDigits n).length ≤ 20 := by rw [Lib.decDigits_length]; exact Lib.nDigits_le20 n (by omega)
  exact this
theorem decB_size {n : Int} (h : rng n) : (decB n).size ≤ 21 := by
  have : (Lib.itoa n).length ≤ 21 := Lib.itoa_length_le n h.1 h.2
  exact this
theorem run_dig (d : Int) (h0 : 0 ≤ d) (h1 : d < 10) (x : World) : (Instr.slice 9 (.string ⟨#[48, 49, 50, 51, 52, 53, 54, 55, 56, 57]⟩) (some (.int .i64 d)) (some (.int .i64 (d + 1))) none).run Tryz.prog x = .ok (.string (dgt d.toNat)) x := by
  have hz : ((⟨#[48, 49, 50, 51, 52, 53, 54, 55, 56, 57]⟩ : ByteArray).size : Int) = 10 := rfl
  rw [run_slice_string_if x 9 _ _ _ _ _ Tryz.underlying9, if_pos (by rw [hz]; omega), if_pos (by omega), show (d + 1).toNat = d.toNat + 1 by omega]
  rw [dig_fin ⟨d.toNat, by omega⟩]
set_option maxRecDepth 20000 in
set_option maxHeartbeats 4000000 in
theorem sDecN : ∀ (f n : Nat), n ≤ f → n ≤ 9223372036854775807 → ∀ w : World, Calls Tryz.prog 88 #[.int .i64 n] w fun e w' => e = .returned (.string (digB n)) ∧ Below w.heap.size w w' := by
  intro f
  induction f with
  | zero =>
    intro n hn _ w
    obtain rfl : n = 0 := by omega
    have HX : Hid (digB 0 = dgt 0) := digB_small (by omega)
    have hsl := run_dig 0 (by omega) (by omega)
    rw [Int.zero_add] at hsl
    go_enter Tryz.func88, Tryz.ntmps88
    go_wp2
    go_ret
    exact ⟨by rw [HX.out]; rfl, Below.refl _ _⟩
  | succ f ih =>
    intro n hn hm w
    have a1 : ((n : Int) == -9223372036854775808) = false := by simp
    have a2 : ¬ (n : Int) < 0 := by omega
    by_cases h10 : n < 10
    · have a3 : (n : Int) < 10 := by omega
      have HX : Hid (digB n = dgt n) := digB_small h10
      have hsl := run_dig n (by omega) (by omega)
      rw [Int.toNat_natCast] at hsl
      have hwr : IntKind.i64.wrap ((n : Int) + 1) = (n : Int) + 1 := by rw [IntKind.wrap_i64]; omega
      have a4 : (0 : Int) ≤ n := by omega
      have a5 : (n : Int) + 1 ≤ 10 := by omega
      go_enter Tryz.func88, Tryz.ntmps88
      go_wp2
      go_ret
      exact ⟨by rw [HX.out]; rfl, Below.refl _ _⟩
    · have a3 : ¬ (n : Int) < 10 := by omega
      have hsl := run_dig ((n : Int) % 10) (by omega) (by omega)
      rw [show ((n : Int) % 10).toNat = n % 10 by omega] at hsl
      have HB : Hid (digB n = digB (n / 10) ++ dgt (n % 10)) := digB_big h10
      have hd1 : (dgt (n % 10)).size = 1 := rfl
      have b1 : IntKind.i64.wrap ((n : Int) / 10) = (n : Int) / 10 := by rw [IntKind.wrap_i64]; omega
      have b2 : ((n : Int)).tmod 10 = (n : Int) % 10 := by rw [Int.tmod_eq_emod_of_nonneg (by omega)]
      have b3 : IntKind.i64.wrap ((n : Int) % 10 + 1) = (n : Int) % 10 + 1 := by rw [IntKind.wrap_i64]; omega
      have b4 : ((n : Int)).tdiv 10 = (n : Int) / 10 := by rw [Int.tdiv_eq_ediv_of_nonneg (by omega)]
      have b5 : IntKind.i64.wrap ((n : Int) % 10) = (n : Int) % 10 := by rw [IntKind.wrap_i64]; omega
      have ihn : ∀ w : World, Calls Tryz.prog 88 #[.int .i64 ((n : Int) / 10)] w fun e w' => e = .returned (.string (digB (n / 10))) ∧ Below w.heap.size w w' := fun w => by
        have := ih (n / 10) (by omega) (by omega) w
        rwa [show ((n / 10 : Nat) : Int) = (n : Int) / 10 by omega] at this
      have hz := digB_size (n := n / 10) (by omega)
      go_enter Tryz.func88, Tryz.ntmps88
      go_wp2
      refine wp_region_held_drew (S := fun x => Below w.heap.size w x) (by kernel_rfl) (bdrew _) (fun hHeld => ?_)
      refine' wpAnyH_take (i := 0) (oi := ({ dst := some 17, op := Op.move (Operand.tmp 0), type := 3, pos := "l4_stm.go:602", after := #[], guard := none } : Oper)) (v := _) rfl (by kernel_rfl) (by kernel_rfl) (by kernel_rfl) (fun _ _ _ h => h) (Or.inl ⟨by rfl, fun x hSw => ?hyz1_0⟩) hHeld ?restz1_0
      case hyz1_0 =>
        skip
        go_simp
        try with_reducible rfl
      try simp only [Act.put, List.setIfInBounds_toArray, List.set_cons_zero, List.set_cons_succ]
      refine' wpAnyH_take (i := 1) (oi := ({ dst := some 18, op := Op.binOp BinOp.quo 3 (Operand.tmp 17) (Operand.const (Value.int IntKind.i64 10)) 3, type := 3, pos := "l4_stm.go:602", after := #[{ on := 0, ground := Ground.data }], guard := none } : Oper)) (v := .int .i64 ((n : Int) / 10)) rfl (by kernel_rfl) (by kernel_rfl) (by kernel_rfl) (fun _ _ _ h => h) (Or.inl ⟨by rfl, fun x hSw => ?hyz1_1⟩) hHeld ?restz1_1
      case hyz1_1 =>
        skip
        go_simp
        try with_reducible rfl
      try simp only [Act.put, List.setIfInBounds_toArray, List.set_cons_zero, List.set_cons_succ]
      refine' wpAnyH_take (i := 3) (oi := ({ dst := some 20, op := Op.move (Operand.tmp 0), type := 3, pos := "l4_stm.go:602", after := #[], guard := none } : Oper)) (v := _) rfl (by kernel_rfl) (by kernel_rfl) (by kernel_rfl) (fun _ _ _ h => h) (Or.inl ⟨by rfl, fun x hSw => ?hyz1_3⟩) hHeld ?restz1_3
      case hyz1_3 =>
        skip
        go_simp
        try with_reducible rfl
      try simp only [Act.put, List.setIfInBounds_toArray, List.set_cons_zero, List.set_cons_succ]
      refine' wpAnyH_take (i := 4) (oi := ({ dst := some 21, op := Op.binOp BinOp.rem 3 (Operand.tmp 20) (Operand.const (Value.int IntKind.i64 10)) 3, type := 3, pos := "l4_stm.go:602", after := #[{ on := 3, ground := Ground.data }], guard := none } : Oper)) (v := .int .i64 ((n : Int) % 10)) rfl (by kernel_rfl) (by kernel_rfl) (by kernel_rfl) (fun _ _ _ h => h) (Or.inl ⟨by rfl, fun x hSw => ?hyz1_4⟩) hHeld ?restz1_4
      case hyz1_4 =>
        skip
        go_simp
        try with_reducible rfl
      try simp only [Act.put, List.setIfInBounds_toArray, List.set_cons_zero, List.set_cons_succ]
      refine' wpAnyH_take (i := 5) (oi := ({ dst := some 22, op := Op.move (Operand.tmp 0), type := 3, pos := "l4_stm.go:602", after := #[], guard := none } : Oper)) (v := _) rfl (by kernel_rfl) (by kernel_rfl) (by kernel_rfl) (fun _ _ _ h => h) (Or.inl ⟨by rfl, fun x hSw => ?hyz1_5⟩) hHeld ?restz1_5
      case hyz1_5 =>
        skip
        go_simp
        try with_reducible rfl
      try simp only [Act.put, List.setIfInBounds_toArray, List.set_cons_zero, List.set_cons_succ]
      refine' wpAnyH_take (i := 6) (oi := ({ dst := some 23, op := Op.binOp BinOp.rem 3 (Operand.tmp 22) (Operand.const (Value.int IntKind.i64 10)) 3, type := 3, pos := "l4_stm.go:602", after := #[{ on := 5, ground := Ground.data }], guard := none } : Oper)) (v := .int .i64 ((n : Int) % 10)) rfl (by kernel_rfl) (by kernel_rfl) (by kernel_rfl) (fun _ _ _ h => h) (Or.inl ⟨by rfl, fun x hSw => ?hyz1_6⟩) hHeld ?restz1_6
      case hyz1_6 =>
        skip
        go_simp
        try with_reducible rfl
      try simp only [Act.put, List.setIfInBounds_toArray, List.set_cons_zero, List.set_cons_succ]
      refine' wpAnyH_take (i := 7) (oi := ({ dst := some 24, op := Op.binOp BinOp.add 3 (Operand.tmp 23) (Operand.const (Value.int IntKind.i64 1)) 3, type := 3, pos := "l4_stm.go:602", after := #[{ on := 6, ground := Ground.data }], guard := none } : Oper)) (v := .int .i64 ((n : Int) % 10 + 1)) rfl (by kernel_rfl) (by kernel_rfl) (by kernel_rfl) (fun _ _ _ h => h) (Or.inl ⟨by rfl, fun x hSw => ?hyz1_7⟩) hHeld ?restz1_7
      case hyz1_7 =>
        skip
        go_simp
        try with_reducible rfl
      try simp only [Act.put, List.setIfInBounds_toArray, List.set_cons_zero, List.set_cons_succ]
      refine' wpAnyH_take (i := 8) (oi := ({ dst := some 25, op := Op.slice 9 (Operand.const (Value.string { data := #[48, 49, 50, 51, 52, 53, 54, 55, 56, 57] })) (some (Operand.tmp 21)) (some (Operand.tmp 24)) none, type := 9, pos := "l4_stm.go:602", after := #[{ on := 4, ground := Ground.data }, { on := 7, ground := Ground.data }], guard := none } : Oper)) (v := .string (dgt (n % 10))) rfl (by kernel_rfl) (by kernel_rfl) (by kernel_rfl) (fun _ _ _ h => h) (Or.inl ⟨by rfl, fun x hSw => ?hyz1_8⟩) hHeld ?restz1_8
      case hyz1_8 =>
        skip
        go_simp
        try with_reducible rfl
      try simp only [Act.put, List.setIfInBounds_toArray, List.set_cons_zero, List.set_cons_succ]
      refine wpAnyH_ready (rs := [2]) (by kernel_rfl) (by simp) ?_
      refine AllReadyH.cons (o := ({ dst := some 19, op := Op.call { callee := Callee.value (Operand.func 88), args := #[Operand.tmp 18], argTypes := #[3] }, type := 9, pos := "l4_stm.go:602", after := #[{ on := 1, ground := Ground.data }], guard := none } : Oper)) rfl (fun K hK => ?_) AllReadyH.nil
      go_simp
      refine (ihn _).mono ?_
      rintro e w1 ⟨rfl, hb1⟩
      refine hK.out _ _ (bstep hHeld hb1) (fun hHeld => ?_)
      clear hK K
      try simp only [Act.put, List.setIfInBounds_toArray, List.set_cons_zero, List.set_cons_succ]
      refine wpAnyH_take (i := 9) (oi := ({ dst := some 26, op := Op.binOp BinOp.add 9 (Operand.tmp 19) (Operand.tmp 25) 9, type := 9, pos := "l4_stm.go:602", after := #[{ on := 2, ground := Ground.data }, { on := 8, ground := Ground.data }], guard := none } : Oper)) (v := .string (digB (n / 10) ++ dgt (n % 10))) rfl (by kernel_rfl) (by kernel_rfl) (by kernel_rfl) (fun _ _ _ h => h) (Or.inl ⟨by rfl, fun x hSw => (by go_simp; omega)⟩) hHeld ?_
      try simp only [Act.put, List.setIfInBounds_toArray, List.set_cons_zero, List.set_cons_succ]
      refine' wpAnyH_take (i := 10) (oi := ({ dst := some 2, op := Op.assign (Operand.tmp 26), type := 9, pos := "l4_stm.go:602", after := #[{ on := 9, ground := Ground.data }, { on := 2, ground := Ground.chain }, { on := 0, ground := Ground.phase }, { on := 1, ground := Ground.phase }, { on := 2, ground := Ground.phase }, { on := 3, ground := Ground.phase }, { on := 4, ground := Ground.phase }, { on := 5, ground := Ground.phase }, { on := 6, ground := Ground.phase }, { on := 7, ground := Ground.phase }, { on := 8, ground := Ground.phase }, { on := 9, ground := Ground.phase }], guard := none } : Oper)) (v := _) rfl (by kernel_rfl) (by kernel_rfl) (by kernel_rfl) (fun _ _ _ h => h) (Or.inl ⟨by rfl, fun x hSw => ?hyz1_10⟩) hHeld ?restz1_10
      case hyz1_10 =>
        skip
        go_simp
        try with_reducible rfl
      try simp only [Act.put, List.setIfInBounds_toArray, List.set_cons_zero, List.set_cons_succ]
      refine wpAnyH_done (by kernel_rfl) ?_ _
      go_wp2
      go_ret
      exact ⟨by rw [HB.out]; rfl, hHeld⟩
set_option maxRecDepth 20000 in
set_option maxHeartbeats 4000000 in
theorem sDec (n : Int) (hn : rng n) (w : World) : Calls Tryz.prog 88 #[.int .i64 n] w fun e w' => e = .returned (.string (decB n)) ∧ Below w.heap.size w w' := by
  unfold rng at hn
  by_cases h0 : 0 ≤ n
  · have e : decB n = digB n.toNat := by unfold decB Lib.itoa digB; rw [if_neg (by omega)]
    have := sDecN n.toNat n.toNat (Nat.le_refl _) (by omega) w
    rw [show ((n.toNat : Nat) : Int) = n by omega] at this
    rw [e]
    exact this
  by_cases h1 : n = -9223372036854775808
  · subst h1
    have HE : Hid (decB (-9223372036854775808) = ⟨#[45, 57, 50, 50, 51, 51, 55, 50, 48, 51, 54, 56, 53, 52, 55, 55, 53, 56, 48, 56]⟩) := by
      show _ = _
      unfold decB Lib.itoa
      rw [if_pos (by omega)]
      have : Lib.decDigits (-9223372036854775808 : Int).natAbs = [57, 50, 50, 51, 51, 55, 50, 48, 51, 54, 56, 53, 52, 55, 55, 53, 56, 48, 56] := by
        show Lib.decDigits 9223372036854775808 = _
        iterate 18 rw [Lib.decDigits, dif_neg (by omega)]
        rw [Lib.decDigits, dif_pos (by omega)]
        rfl
      rw [this]
    go_enter Tryz.func88, Tryz.ntmps88
    go_wp2
    go_ret
    exact ⟨by rw [HE.out]; rfl, Below.refl _ _⟩
  · have a1 : (n == -9223372036854775808) = false := by simpa using h1
    have a2 : n < 0 := by omega
    have HE : Hid (decB n = ⟨#[45]⟩ ++ digB (-n).toNat) := by
      show _ = _
      unfold decB Lib.itoa digB
      rw [if_pos a2, show n.natAbs = (-n).toNat by omega]
      exact ba_app [45] _
    have b1 : IntKind.i64.wrap (-n) = -n := by rw [IntKind.wrap_i64]; omega
    have hz := digB_size (n := (-n).toNat) (by omega)
    have hd : ∀ w : World, Calls Tryz.prog 88 #[.int .i64 (-n)] w fun e w' => e = .returned (.string (digB (-n).toNat)) ∧ Below w.heap.size w w' := fun w => by
      have := sDecN (-n).toNat (-n).toNat (Nat.le_refl _) (by omega) w
      rwa [show (((-n).toNat : Nat) : Int) = -n by omega] at this
    go_enter Tryz.func88, Tryz.ntmps88
    go_wp2_with (go_at_call 88; refine (hd _).mono ?_; rintro e w1 ⟨rfl, hb1⟩)
    go_ret
    exact ⟨by rw [HE.out]; rfl, hb1⟩
end Go.Proofs.YtnbgdfhfmbgbhaaGreatDoor
