/-
  Tables: the program's tests of order.
-/
import Derived.Test.YtgeiamgeclbiaaaGreatDoorTj
import Derived.Deep.RegionHeld3
namespace Go.Proofs.YtgeiamgeclbiaaaGreatDoor
open Go.RowKit Go.Maps Go.WideMaps
abbrev qTk0 : Oper := { dst := some 12, op := Op.move (Operand.tmp 1), type := 123, pos := "l5_replay.go:108", after := #[], guard := none }
abbrev qTk1 : Oper := { dst := some 13, op := Op.move (Operand.tmp 0), type := 36, pos := "l5_replay.go:108", after := #[], guard := none }
abbrev qTk2 : Oper := { dst := some 14, op := Op.move (Operand.tmp 5), type := 3, pos := "l5_replay.go:108", after := #[], guard := none }
abbrev qTk3 : Oper := { dst := some 15, op := Op.binOp BinOp.sub 3 (Operand.tmp 14) (Operand.const (Value.int IntKind.i64 1)) 3, type := 3, pos := "l5_replay.go:108", after := #[{ on := 2, ground := Ground.data }], guard := none }
abbrev qTk4 : Oper := { dst := some 16, op := Op.indexAddr 36 (Operand.tmp 13) (Operand.tmp 15), type := 0, pos := "l5_replay.go:108", after := #[{ on := 1, ground := Ground.data }, { on := 3, ground := Ground.data }], guard := none }
abbrev qTk5 : Oper := { dst := some 17, op := Op.load 62 (Operand.tmp 16), type := 62, pos := "l5_replay.go:108", after := #[{ on := 4, ground := Ground.data }], guard := none }
abbrev qTk6 : Oper := { dst := some 19, op := Op.move (Operand.tmp 1), type := 123, pos := "l5_replay.go:108", after := #[], guard := none }
abbrev qTk7 : Oper := { dst := some 20, op := Op.move (Operand.tmp 0), type := 36, pos := "l5_replay.go:108", after := #[], guard := none }
abbrev qTk8 : Oper := { dst := some 21, op := Op.move (Operand.tmp 5), type := 3, pos := "l5_replay.go:108", after := #[], guard := none }
abbrev qTk9 : Oper := { dst := some 22, op := Op.indexAddr 36 (Operand.tmp 20) (Operand.tmp 21), type := 0, pos := "l5_replay.go:108", after := #[{ on := 8, ground := Ground.data }, { on := 9, ground := Ground.data }], guard := none }
abbrev qTk10 : Oper := { dst := some 23, op := Op.load 62 (Operand.tmp 22), type := 62, pos := "l5_replay.go:108", after := #[{ on := 10, ground := Ground.data }], guard := none }
abbrev qTk11 : Oper := { dst := some 18, op := Op.call { callee := Callee.value (Operand.tmp 12), args := #[Operand.tmp 17], argTypes := #[62] }, type := 9, pos := "l5_replay.go:108", after := #[{ on := 0, ground := Ground.data }, { on := 5, ground := Ground.data }], guard := none }
abbrev qTk12 : Oper := { dst := some 24, op := Op.call { callee := Callee.value (Operand.tmp 19), args := #[Operand.tmp 23], argTypes := #[62] }, type := 9, pos := "l5_replay.go:108", after := #[{ on := 7, ground := Ground.data }, { on := 11, ground := Ground.data }, { on := 6, ground := Ground.chain }], guard := none }
abbrev qTk13 : Oper := { dst := some 25, op := Op.call { callee := Callee.value (Operand.func 122), args := #[Operand.tmp 18, Operand.tmp 24], argTypes := #[9, 9] }, type := 4, pos := "l5_replay.go:108", after := #[{ on := 6, ground := Ground.data }, { on := 12, ground := Ground.data }, { on := 12, ground := Ground.chain }], guard := none }
abbrev qTk14 : Oper := { dst := some 26, op := Op.unOp UnOp.not 4 (Operand.tmp 25), type := 4, pos := "l5_replay.go:108", after := #[{ on := 13, ground := Ground.data }], guard := none }
abbrev qTk15 : Oper := { dst := some 12, op := Op.move (Operand.tmp 1), type := 136, pos := "l5_replay.go:108", after := #[], guard := none }
abbrev qTk16 : Oper := { dst := some 13, op := Op.move (Operand.tmp 0), type := 33, pos := "l5_replay.go:108", after := #[], guard := none }
abbrev qTk17 : Oper := { dst := some 16, op := Op.indexAddr 33 (Operand.tmp 13) (Operand.tmp 15), type := 0, pos := "l5_replay.go:108", after := #[{ on := 1, ground := Ground.data }, { on := 3, ground := Ground.data }], guard := none }
abbrev qTk18 : Oper := { dst := some 17, op := Op.load 41 (Operand.tmp 16), type := 41, pos := "l5_replay.go:108", after := #[{ on := 4, ground := Ground.data }], guard := none }
abbrev qTk19 : Oper := { dst := some 19, op := Op.move (Operand.tmp 1), type := 136, pos := "l5_replay.go:108", after := #[], guard := none }
abbrev qTk20 : Oper := { dst := some 20, op := Op.move (Operand.tmp 0), type := 33, pos := "l5_replay.go:108", after := #[], guard := none }
abbrev qTk21 : Oper := { dst := some 22, op := Op.indexAddr 33 (Operand.tmp 20) (Operand.tmp 21), type := 0, pos := "l5_replay.go:108", after := #[{ on := 8, ground := Ground.data }, { on := 9, ground := Ground.data }], guard := none }
abbrev qTk22 : Oper := { dst := some 23, op := Op.load 41 (Operand.tmp 22), type := 41, pos := "l5_replay.go:108", after := #[{ on := 10, ground := Ground.data }], guard := none }
abbrev qTk23 : Oper := { dst := some 18, op := Op.call { callee := Callee.value (Operand.tmp 12), args := #[Operand.tmp 17], argTypes := #[41] }, type := 3, pos := "l5_replay.go:108", after := #[{ on := 0, ground := Ground.data }, { on := 5, ground := Ground.data }], guard := none }
abbrev qTk24 : Oper := { dst := some 24, op := Op.call { callee := Callee.value (Operand.tmp 19), args := #[Operand.tmp 23], argTypes := #[41] }, type := 3, pos := "l5_replay.go:108", after := #[{ on := 7, ground := Ground.data }, { on := 11, ground := Ground.data }, { on := 6, ground := Ground.chain }], guard := none }
abbrev qTk25 : Oper := { dst := some 25, op := Op.call { callee := Callee.value (Operand.func 152), args := #[Operand.tmp 18, Operand.tmp 24], argTypes := #[3, 3] }, type := 4, pos := "l5_replay.go:108", after := #[{ on := 6, ground := Ground.data }, { on := 12, ground := Ground.data }, { on := 12, ground := Ground.chain }], guard := none }
abbrev qTk26 : Oper := { dst := some 12, op := Op.move (Operand.tmp 1), type := 162, pos := "l5_replay.go:108", after := #[], guard := none }
abbrev qTk27 : Oper := { dst := some 19, op := Op.move (Operand.tmp 1), type := 162, pos := "l5_replay.go:108", after := #[], guard := none }
abbrev qTk28 : Oper := { dst := some 18, op := Op.call { callee := Callee.value (Operand.tmp 12), args := #[Operand.tmp 17], argTypes := #[41] }, type := 9, pos := "l5_replay.go:108", after := #[{ on := 0, ground := Ground.data }, { on := 5, ground := Ground.data }], guard := none }
abbrev qTk29 : Oper := { dst := some 24, op := Op.call { callee := Callee.value (Operand.tmp 19), args := #[Operand.tmp 23], argTypes := #[41] }, type := 9, pos := "l5_replay.go:108", after := #[{ on := 7, ground := Ground.data }, { on := 11, ground := Ground.data }, { on := 6, ground := Ground.chain }], guard := none }
theorem bdrew (w : World) : Below w.heap.size w w.drew := undrew (Below.refl _ _)
def ltD (T : Nat → Td) (k : Nat) : Bool := decide (k = 0) || Op.bytesLess (T (k - 1)).s.toList (T k).s.toList
def ltR (R : Nat → Nat → Itm) (k : Nat) : Bool := decide (k = 0) || decide ((R (k - 1) 0).m < (R k 0).m)
def ltT (R : Nat → Nat → Itm) (k : Nat) : Bool := decide (k = 0) || Op.bytesLess (R (k - 1) 0).s.toList (R k 0).s.toList
set_option maxRecDepth 20000 in
set_option maxHeartbeats 4000000 in
theorem iSortD (a : Option Addr) (n c : Nat) (T : Nat → Td) (w : World) (h : TL w a n T) (hn : n ≤ 1048576) : Calls Tryz.prog 76 #[.slice a n c, .func (.func 77) #[] #[]] w fun e w' => e = .returned (.bool (allN n (ltD T))) ∧ Below w.heap.size w w' := by
  have hb0 := Below.refl w.heap.size w
  go_enter Tryz.func76, Tryz.ntmps76
  go_wp2
  go_loopw [5] (fun i wr => ∃ p : Nat, (p = 0 ∨ p < n) ∧ i = .int .i64 (p + 1 : Nat) ∧ (∀ j, j < p + 1 → ltD T j = true) ∧ Below w.heap.size w wr) (fun i _ => n - (intOf i).toNat)
  case atStart => exact ⟨0, Or.inl rfl, rfl, fun j hj => by obtain rfl : j = 0 := by omega
                                                            rfl, hb0⟩
  case round =>
    obtain ⟨p, hk, rfl, hall, hb⟩ := hrel
    by_cases hlt : p + 1 < n
    · obtain ⟨b, off, ac, cc, ar, cr, rfl, c0, c1, c2, -, -, -⟩ := h.later hb (p + 1) hlt
      obtain ⟨b', off', ac', cc', ar', cr', e', f0, f1, f2, -, -, -⟩ := h.later hb p (by omega)
      obtain ⟨rfl, rfl⟩ : b = b' ∧ off = off' := by simpa using e'
      have i0 : (0 : Int) ≤ (p : Int) := by omega
      have i1 : (p : Int) < (n : Int) := by omega
      have i3 : (0 : Int) ≤ (p : Int) + 1 := by omega
      have i4 : (p : Int) + 1 < (n : Int) := by omega
      have i2 : IntKind.i64.wrap (p : Int) = (p : Int) := by rw [IntKind.wrap_i64]; omega
      rcases h7 : Op.bytesLess (T p).s.toList (T (p + 1)).s.toList
      · go_wp2
        refine wp_region_held_drew (S := fun x => Below wr.heap.size wr x) (by kernel_rfl) (bdrew _) (fun hHeld => ?_)
        refine' takeF (i := 0) (oi := qTk0) rfl ⟨by rfl, fun x hSw => ?h1⟩ hHeld ?r1
        case h1 =>
          go_simp
          try with_reducible rfl
        try simp only [Act.put, List.setIfInBounds_toArray, List.set_cons_zero, List.set_cons_succ]
        refine' takeF (i := 1) (oi := qTk1) rfl ⟨by rfl, fun x hSw => ?h2⟩ hHeld ?r2
        case h2 =>
          go_simp
          try with_reducible rfl
        try simp only [Act.put, List.setIfInBounds_toArray, List.set_cons_zero, List.set_cons_succ]
        refine' takeF (i := 2) (oi := qTk2) rfl ⟨by rfl, fun x hSw => ?h3⟩ hHeld ?r3
        case h3 =>
          go_simp
          try with_reducible rfl
        try simp only [Act.put, List.setIfInBounds_toArray, List.set_cons_zero, List.set_cons_succ]
        refine' takeF (i := 3) (oi := qTk3) (v := .int .i64 (p : Int)) rfl ⟨by rfl, fun x hSw => ?h4⟩ hHeld ?r4
        case h4 =>
          go_simp
          try with_reducible rfl
        try simp only [Act.put, List.setIfInBounds_toArray, List.set_cons_zero, List.set_cons_succ]
        refine' takeF (i := 4) (oi := qTk4) (v := .pointer (some ⟨b, off + p * 3, none⟩)) rfl ⟨by rfl, fun x hSw => ?h5⟩ hHeld ?r5
        case h5 =>
          go_simp
          try with_reducible rfl
        try simp only [Act.put, List.setIfInBounds_toArray, List.set_cons_zero, List.set_cons_succ]
        refine' takeF (i := 5) (oi := qTk5) rfl ⟨by rfl, fun x hSw => ?h6⟩ hHeld ?r6
        case h6 =>
          have k0 := keepB hSw c0; have k1 := keepB hSw c1; have k2 := keepB hSw c2; have k3 := keepB hSw f0; have k4 := keepB hSw f1; have k5 := keepB hSw f2
          go_simp
          try with_reducible rfl
        try simp only [Act.put, List.setIfInBounds_toArray, List.set_cons_zero, List.set_cons_succ]
        refine' takeF (i := 7) (oi := qTk6) rfl ⟨by rfl, fun x hSw => ?h7⟩ hHeld ?r7
        case h7 =>
          go_simp
          try with_reducible rfl
        try simp only [Act.put, List.setIfInBounds_toArray, List.set_cons_zero, List.set_cons_succ]
        refine' takeF (i := 8) (oi := qTk7) rfl ⟨by rfl, fun x hSw => ?h8⟩ hHeld ?r8
        case h8 =>
          go_simp
          try with_reducible rfl
        try simp only [Act.put, List.setIfInBounds_toArray, List.set_cons_zero, List.set_cons_succ]
        refine' takeF (i := 9) (oi := qTk8) rfl ⟨by rfl, fun x hSw => ?h9⟩ hHeld ?r9
        case h9 =>
          go_simp
          try with_reducible rfl
        try simp only [Act.put, List.setIfInBounds_toArray, List.set_cons_zero, List.set_cons_succ]
        refine' takeF (i := 10) (oi := qTk9) rfl ⟨by rfl, fun x hSw => ?h10⟩ hHeld ?r10
        case h10 =>
          go_simp
          try with_reducible rfl
        try simp only [Act.put, List.setIfInBounds_toArray, List.set_cons_zero, List.set_cons_succ]
        refine' takeF (i := 11) (oi := qTk10) rfl ⟨by rfl, fun x hSw => ?h11⟩ hHeld ?r11
        case h11 =>
          have k0 := keepB hSw c0; have k1 := keepB hSw c1; have k2 := keepB hSw c2; have k3 := keepB hSw f0; have k4 := keepB hSw f1; have k5 := keepB hSw f2
          go_simp
          try with_reducible rfl
        try simp only [Act.put, List.setIfInBounds_toArray, List.set_cons_zero, List.set_cons_succ]
        refine wpAnyH_ready (rs := [6]) (by kernel_rfl) (by simp) ?_
        refine AllReadyH.cons (o := qTk11) rfl (fun K hK => ?_) AllReadyH.nil
        go_simp
        refine (iTabName (T p).s _ _ _).mono ?_
        rintro e w1 ⟨rfl, hb1⟩
        refine hK.out _ _ (bstep hHeld hb1) (fun hHeld => ?_)
        clear hK K
        try simp only [Act.put, List.setIfInBounds_toArray, List.set_cons_zero, List.set_cons_succ]
        refine wpAnyH_ready (rs := [12]) (by kernel_rfl) (by simp) ?_
        refine AllReadyH.cons (o := qTk12) rfl (fun K hK => ?_) AllReadyH.nil
        go_simp
        refine (iTabName (T (p + 1)).s _ _ _).mono ?_
        rintro e w2 ⟨rfl, hb2⟩
        refine hK.out _ _ (bstep hHeld hb2) (fun hHeld => ?_)
        clear hK K
        try simp only [Act.put, List.setIfInBounds_toArray, List.set_cons_zero, List.set_cons_succ]
        refine wpAnyH_ready (rs := [13]) (by kernel_rfl) (by simp) ?_
        refine AllReadyH.cons (o := qTk13) rfl (fun K hK => ?_) AllReadyH.nil
        go_simp
        refine (cmpLess (T p).s (T (p + 1)).s _).mono ?_
        rw [h7]; rintro e w3 ⟨rfl, rfl⟩
        refine hK.out _ _ (hHeld) (fun hHeld => ?_)
        clear hK K
        try simp only [Act.put, List.setIfInBounds_toArray, List.set_cons_zero, List.set_cons_succ]
        refine' takeF (i := 14) (oi := qTk14) rfl ⟨by rfl, fun x hSw => ?h12⟩ hHeld ?r12
        case h12 =>
          go_simp
          try with_reducible rfl
        try simp only [Act.put, List.setIfInBounds_toArray, List.set_cons_zero, List.set_cons_succ]
        refine wpAnyH_done (by kernel_rfl) ?_ _
        go_wp2
        go_ret
        exact ⟨retB (allN_false (p := ltD T) hlt (by unfold ltD; rw [Nat.add_sub_cancel, h7]; simp)).symm, bstep hb hHeld⟩
      · go_wp2
        refine wp_region_held_drew (S := fun x => Below wr.heap.size wr x) (by kernel_rfl) (bdrew _) (fun hHeld => ?_)
        refine' takeF (i := 0) (oi := qTk0) rfl ⟨by rfl, fun x hSw => ?h13⟩ hHeld ?r13
        case h13 =>
          go_simp
          try with_reducible rfl
        try simp only [Act.put, List.setIfInBounds_toArray, List.set_cons_zero, List.set_cons_succ]
        refine' takeF (i := 1) (oi := qTk1) rfl ⟨by rfl, fun x hSw => ?h14⟩ hHeld ?r14
        case h14 =>
          go_simp
          try with_reducible rfl
        try simp only [Act.put, List.setIfInBounds_toArray, List.set_cons_zero, List.set_cons_succ]
        refine' takeF (i := 2) (oi := qTk2) rfl ⟨by rfl, fun x hSw => ?h15⟩ hHeld ?r15
        case h15 =>
          go_simp
          try with_reducible rfl
        try simp only [Act.put, List.setIfInBounds_toArray, List.set_cons_zero, List.set_cons_succ]
        refine' takeF (i := 3) (oi := qTk3) (v := .int .i64 (p : Int)) rfl ⟨by rfl, fun x hSw => ?h16⟩ hHeld ?r16
        case h16 =>
          go_simp
          try with_reducible rfl
        try simp only [Act.put, List.setIfInBounds_toArray, List.set_cons_zero, List.set_cons_succ]
        refine' takeF (i := 4) (oi := qTk4) (v := .pointer (some ⟨b, off + p * 3, none⟩)) rfl ⟨by rfl, fun x hSw => ?h17⟩ hHeld ?r17
        case h17 =>
          go_simp
          try with_reducible rfl
        try simp only [Act.put, List.setIfInBounds_toArray, List.set_cons_zero, List.set_cons_succ]
        refine' takeF (i := 5) (oi := qTk5) rfl ⟨by rfl, fun x hSw => ?h18⟩ hHeld ?r18
        case h18 =>
          have k0 := keepB hSw c0; have k1 := keepB hSw c1; have k2 := keepB hSw c2; have k3 := keepB hSw f0; have k4 := keepB hSw f1; have k5 := keepB hSw f2
          go_simp
          try with_reducible rfl
        try simp only [Act.put, List.setIfInBounds_toArray, List.set_cons_zero, List.set_cons_succ]
        refine' takeF (i := 7) (oi := qTk6) rfl ⟨by rfl, fun x hSw => ?h19⟩ hHeld ?r19
        case h19 =>
          go_simp
          try with_reducible rfl
        try simp only [Act.put, List.setIfInBounds_toArray, List.set_cons_zero, List.set_cons_succ]
        refine' takeF (i := 8) (oi := qTk7) rfl ⟨by rfl, fun x hSw => ?h20⟩ hHeld ?r20
        case h20 =>
          go_simp
          try with_reducible rfl
        try simp only [Act.put, List.setIfInBounds_toArray, List.set_cons_zero, List.set_cons_succ]
        refine' takeF (i := 9) (oi := qTk8) rfl ⟨by rfl, fun x hSw => ?h21⟩ hHeld ?r21
        case h21 =>
          go_simp
          try with_reducible rfl
        try simp only [Act.put, List.setIfInBounds_toArray, List.set_cons_zero, List.set_cons_succ]
        refine' takeF (i := 10) (oi := qTk9) rfl ⟨by rfl, fun x hSw => ?h22⟩ hHeld ?r22
        case h22 =>
          go_simp
          try with_reducible rfl
        try simp only [Act.put, List.setIfInBounds_toArray, List.set_cons_zero, List.set_cons_succ]
        refine' takeF (i := 11) (oi := qTk10) rfl ⟨by rfl, fun x hSw => ?h23⟩ hHeld ?r23
        case h23 =>
          have k0 := keepB hSw c0; have k1 := keepB hSw c1; have k2 := keepB hSw c2; have k3 := keepB hSw f0; have k4 := keepB hSw f1; have k5 := keepB hSw f2
          go_simp
          try with_reducible rfl
        try simp only [Act.put, List.setIfInBounds_toArray, List.set_cons_zero, List.set_cons_succ]
        refine wpAnyH_ready (rs := [6]) (by kernel_rfl) (by simp) ?_
        refine AllReadyH.cons (o := qTk11) rfl (fun K hK => ?_) AllReadyH.nil
        go_simp
        refine (iTabName (T p).s _ _ _).mono ?_
        rintro e w1 ⟨rfl, hb1⟩
        refine hK.out _ _ (bstep hHeld hb1) (fun hHeld => ?_)
        clear hK K
        try simp only [Act.put, List.setIfInBounds_toArray, List.set_cons_zero, List.set_cons_succ]
        refine wpAnyH_ready (rs := [12]) (by kernel_rfl) (by simp) ?_
        refine AllReadyH.cons (o := qTk12) rfl (fun K hK => ?_) AllReadyH.nil
        go_simp
        refine (iTabName (T (p + 1)).s _ _ _).mono ?_
        rintro e w2 ⟨rfl, hb2⟩
        refine hK.out _ _ (bstep hHeld hb2) (fun hHeld => ?_)
        clear hK K
        try simp only [Act.put, List.setIfInBounds_toArray, List.set_cons_zero, List.set_cons_succ]
        refine wpAnyH_ready (rs := [13]) (by kernel_rfl) (by simp) ?_
        refine AllReadyH.cons (o := qTk13) rfl (fun K hK => ?_) AllReadyH.nil
        go_simp
        refine (cmpLess (T p).s (T (p + 1)).s _).mono ?_
        rw [h7]; rintro e w3 ⟨rfl, rfl⟩
        refine hK.out _ _ (hHeld) (fun hHeld => ?_)
        clear hK K
        try simp only [Act.put, List.setIfInBounds_toArray, List.set_cons_zero, List.set_cons_succ]
        refine' takeF (i := 14) (oi := qTk14) rfl ⟨by rfl, fun x hSw => ?h24⟩ hHeld ?r24
        case h24 =>
          go_simp
          try with_reducible rfl
        try simp only [Act.put, List.setIfInBounds_toArray, List.set_cons_zero, List.set_cons_succ]
        refine wpAnyH_done (by kernel_rfl) ?_ _
        go_wp2
        go_roundw
        case rel => exact ⟨p + 1, Or.inr hlt, by go_num, fun j hj => by
          by_cases e : j = p + 1
          · subst e; unfold ltD; rw [Nat.add_sub_cancel, h7]; simp
          · exact hall j (by omega), bstep hb hHeld⟩
        case measure => simp [intOf]; omega
    · go_wp2
      go_ret
      exact ⟨retB (allN_true fun j hj => hall j (by omega)).symm, hb⟩
set_option maxRecDepth 20000 in
set_option maxHeartbeats 4000000 in
theorem iSortN (a : Option Addr) (n c : Nat) (m : Nat → Nat) (R : Nat → Nat → Itm) (w : World) (h : OL w a n m R) (h0 : ∀ k, k < n → 0 < m k) (hn : n ≤ 1048576) : Calls Tryz.prog 118 #[.slice a n c, .func (.func 119) #[] #[]] w fun e w' => e = .returned (.bool (allN n (ltR R))) ∧ Below w.heap.size w w' := by
  have hb0 := Below.refl w.heap.size w
  go_enter Tryz.func118, Tryz.ntmps118
  go_wp2
  go_loopw [5] (fun i wr => ∃ p : Nat, (p = 0 ∨ p < n) ∧ i = .int .i64 (p + 1 : Nat) ∧ (∀ j, j < p + 1 → ltR R j = true) ∧ Below w.heap.size w wr) (fun i _ => n - (intOf i).toNat)
  case atStart => exact ⟨0, Or.inl rfl, rfl, fun j hj => by obtain rfl : j = 0 := by omega
                                                            rfl, hb0⟩
  case round =>
    obtain ⟨p, hk, rfl, hall, hb⟩ := hrel
    by_cases hlt : p + 1 < n
    · obtain ⟨b, off, i1, c1, rfl, c0, g1, l1⟩ := h.later hb (p + 1) hlt
      obtain ⟨b', off', i2, c2, e', f0, g2, l2⟩ := h.later hb p (by omega)
      have q1 := h0 (p + 1) hlt
      have q2 := h0 p (by omega)
      obtain ⟨rfl, rfl⟩ : b = b' ∧ off = off' := by simpa using e'
      have i0 : (0 : Int) ≤ (p : Int) := by omega
      have i1 : (p : Int) < (n : Int) := by omega
      have i3 : (0 : Int) ≤ (p : Int) + 1 := by omega
      have i4 : (p : Int) + 1 < (n : Int) := by omega
      have i2 : IntKind.i64.wrap (p : Int) = (p : Int) := by rw [IntKind.wrap_i64]; omega
      rcases h7 : decide ((R p 0).m < (R (p + 1) 0).m)
      · go_wp2
        refine wp_region_held_drew (S := fun x => Below wr.heap.size wr x) (by kernel_rfl) (bdrew _) (fun hHeld => ?_)
        refine' takeF (i := 0) (oi := qTk15) rfl ⟨by rfl, fun x hSw => ?h25⟩ hHeld ?r25
        case h25 =>
          go_simp
          try with_reducible rfl
        try simp only [Act.put, List.setIfInBounds_toArray, List.set_cons_zero, List.set_cons_succ]
        refine' takeF (i := 1) (oi := qTk16) rfl ⟨by rfl, fun x hSw => ?h26⟩ hHeld ?r26
        case h26 =>
          go_simp
          try with_reducible rfl
        try simp only [Act.put, List.setIfInBounds_toArray, List.set_cons_zero, List.set_cons_succ]
        refine' takeF (i := 2) (oi := qTk2) rfl ⟨by rfl, fun x hSw => ?h27⟩ hHeld ?r27
        case h27 =>
          go_simp
          try with_reducible rfl
        try simp only [Act.put, List.setIfInBounds_toArray, List.set_cons_zero, List.set_cons_succ]
        refine' takeF (i := 3) (oi := qTk3) (v := .int .i64 (p : Int)) rfl ⟨by rfl, fun x hSw => ?h28⟩ hHeld ?r28
        case h28 =>
          go_simp
          try with_reducible rfl
        try simp only [Act.put, List.setIfInBounds_toArray, List.set_cons_zero, List.set_cons_succ]
        refine' takeF (i := 4) (oi := qTk17) (v := .pointer (some ⟨b, off + p, none⟩)) rfl ⟨by rfl, fun x hSw => ?h29⟩ hHeld ?r29
        case h29 =>
          go_simp
          try with_reducible rfl
        try simp only [Act.put, List.setIfInBounds_toArray, List.set_cons_zero, List.set_cons_succ]
        refine' takeF (i := 5) (oi := qTk18) rfl ⟨by rfl, fun x hSw => ?h30⟩ hHeld ?r30
        case h30 =>
          have k0 := keepB hSw c0; have k1 := keepB hSw f0
          go_simp
          try with_reducible rfl
        try simp only [Act.put, List.setIfInBounds_toArray, List.set_cons_zero, List.set_cons_succ]
        refine' takeF (i := 7) (oi := qTk19) rfl ⟨by rfl, fun x hSw => ?h31⟩ hHeld ?r31
        case h31 =>
          go_simp
          try with_reducible rfl
        try simp only [Act.put, List.setIfInBounds_toArray, List.set_cons_zero, List.set_cons_succ]
        refine' takeF (i := 8) (oi := qTk20) rfl ⟨by rfl, fun x hSw => ?h32⟩ hHeld ?r32
        case h32 =>
          go_simp
          try with_reducible rfl
        try simp only [Act.put, List.setIfInBounds_toArray, List.set_cons_zero, List.set_cons_succ]
        refine' takeF (i := 9) (oi := qTk8) rfl ⟨by rfl, fun x hSw => ?h33⟩ hHeld ?r33
        case h33 =>
          go_simp
          try with_reducible rfl
        try simp only [Act.put, List.setIfInBounds_toArray, List.set_cons_zero, List.set_cons_succ]
        refine' takeF (i := 10) (oi := qTk21) rfl ⟨by rfl, fun x hSw => ?h34⟩ hHeld ?r34
        case h34 =>
          go_simp
          try with_reducible rfl
        try simp only [Act.put, List.setIfInBounds_toArray, List.set_cons_zero, List.set_cons_succ]
        refine' takeF (i := 11) (oi := qTk22) rfl ⟨by rfl, fun x hSw => ?h35⟩ hHeld ?r35
        case h35 =>
          have k0 := keepB hSw c0; have k1 := keepB hSw f0
          go_simp
          try with_reducible rfl
        try simp only [Act.put, List.setIfInBounds_toArray, List.set_cons_zero, List.set_cons_succ]
        refine wpAnyH_ready (rs := [6]) (by kernel_rfl) (by simp) ?_
        refine AllReadyH.cons (o := qTk23) rfl (fun K hK => ?_) AllReadyH.nil
        go_simp
        refine (iNumKey _ _ _ (R p) _ (g2.later hHeld) q2).mono ?_
        rintro e w1 ⟨rfl, rfl⟩
        refine hK.out _ _ (hHeld) (fun hHeld => ?_)
        clear hK K
        try simp only [Act.put, List.setIfInBounds_toArray, List.set_cons_zero, List.set_cons_succ]
        refine wpAnyH_ready (rs := [12]) (by kernel_rfl) (by simp) ?_
        refine AllReadyH.cons (o := qTk24) rfl (fun K hK => ?_) AllReadyH.nil
        go_simp
        refine (iNumKey _ _ _ (R (p + 1)) _ (g1.later hHeld) q1).mono ?_
        rintro e w2 ⟨rfl, rfl⟩
        refine hK.out _ _ (hHeld) (fun hHeld => ?_)
        clear hK K
        try simp only [Act.put, List.setIfInBounds_toArray, List.set_cons_zero, List.set_cons_succ]
        refine wpAnyH_ready (rs := [13]) (by kernel_rfl) (by simp) ?_
        refine AllReadyH.cons (o := qTk25) rfl (fun K hK => ?_) AllReadyH.nil
        go_simp
        refine (cmpLessI (R p 0).m (R (p + 1) 0).m _).mono ?_
        rw [h7]; rintro e w3 ⟨rfl, rfl⟩
        refine hK.out _ _ (hHeld) (fun hHeld => ?_)
        clear hK K
        try simp only [Act.put, List.setIfInBounds_toArray, List.set_cons_zero, List.set_cons_succ]
        refine' takeF (i := 14) (oi := qTk14) rfl ⟨by rfl, fun x hSw => ?h36⟩ hHeld ?r36
        case h36 =>
          go_simp
          try with_reducible rfl
        try simp only [Act.put, List.setIfInBounds_toArray, List.set_cons_zero, List.set_cons_succ]
        refine wpAnyH_done (by kernel_rfl) ?_ _
        go_wp2
        go_ret
        exact ⟨retB (allN_false (p := ltR R) hlt (by unfold ltR; rw [Nat.add_sub_cancel, h7]; simp)).symm, bstep hb hHeld⟩
      · go_wp2
        refine wp_region_held_drew (S := fun x => Below wr.heap.size wr x) (by kernel_rfl) (bdrew _) (fun hHeld => ?_)
        refine' takeF (i := 0) (oi := qTk15) rfl ⟨by rfl, fun x hSw => ?h37⟩ hHeld ?r37
        case h37 =>
          go_simp
          try with_reducible rfl
        try simp only [Act.put, List.setIfInBounds_toArray, List.set_cons_zero, List.set_cons_succ]
        refine' takeF (i := 1) (oi := qTk16) rfl ⟨by rfl, fun x hSw => ?h38⟩ hHeld ?r38
        case h38 =>
          go_simp
          try with_reducible rfl
        try simp only [Act.put, List.setIfInBounds_toArray, List.set_cons_zero, List.set_cons_succ]
        refine' takeF (i := 2) (oi := qTk2) rfl ⟨by rfl, fun x hSw => ?h39⟩ hHeld ?r39
        case h39 =>
          go_simp
          try with_reducible rfl
        try simp only [Act.put, List.setIfInBounds_toArray, List.set_cons_zero, List.set_cons_succ]
        refine' takeF (i := 3) (oi := qTk3) (v := .int .i64 (p : Int)) rfl ⟨by rfl, fun x hSw => ?h40⟩ hHeld ?r40
        case h40 =>
          go_simp
          try with_reducible rfl
        try simp only [Act.put, List.setIfInBounds_toArray, List.set_cons_zero, List.set_cons_succ]
        refine' takeF (i := 4) (oi := qTk17) (v := .pointer (some ⟨b, off + p, none⟩)) rfl ⟨by rfl, fun x hSw => ?h41⟩ hHeld ?r41
        case h41 =>
          go_simp
          try with_reducible rfl
        try simp only [Act.put, List.setIfInBounds_toArray, List.set_cons_zero, List.set_cons_succ]
        refine' takeF (i := 5) (oi := qTk18) rfl ⟨by rfl, fun x hSw => ?h42⟩ hHeld ?r42
        case h42 =>
          have k0 := keepB hSw c0; have k1 := keepB hSw f0
          go_simp
          try with_reducible rfl
        try simp only [Act.put, List.setIfInBounds_toArray, List.set_cons_zero, List.set_cons_succ]
        refine' takeF (i := 7) (oi := qTk19) rfl ⟨by rfl, fun x hSw => ?h43⟩ hHeld ?r43
        case h43 =>
          go_simp
          try with_reducible rfl
        try simp only [Act.put, List.setIfInBounds_toArray, List.set_cons_zero, List.set_cons_succ]
        refine' takeF (i := 8) (oi := qTk20) rfl ⟨by rfl, fun x hSw => ?h44⟩ hHeld ?r44
        case h44 =>
          go_simp
          try with_reducible rfl
        try simp only [Act.put, List.setIfInBounds_toArray, List.set_cons_zero, List.set_cons_succ]
        refine' takeF (i := 9) (oi := qTk8) rfl ⟨by rfl, fun x hSw => ?h45⟩ hHeld ?r45
        case h45 =>
          go_simp
          try with_reducible rfl
        try simp only [Act.put, List.setIfInBounds_toArray, List.set_cons_zero, List.set_cons_succ]
        refine' takeF (i := 10) (oi := qTk21) rfl ⟨by rfl, fun x hSw => ?h46⟩ hHeld ?r46
        case h46 =>
          go_simp
          try with_reducible rfl
        try simp only [Act.put, List.setIfInBounds_toArray, List.set_cons_zero, List.set_cons_succ]
        refine' takeF (i := 11) (oi := qTk22) rfl ⟨by rfl, fun x hSw => ?h47⟩ hHeld ?r47
        case h47 =>
          have k0 := keepB hSw c0; have k1 := keepB hSw f0
          go_simp
          try with_reducible rfl
        try simp only [Act.put, List.setIfInBounds_toArray, List.set_cons_zero, List.set_cons_succ]
        refine wpAnyH_ready (rs := [6]) (by kernel_rfl) (by simp) ?_
        refine AllReadyH.cons (o := qTk23) rfl (fun K hK => ?_) AllReadyH.nil
        go_simp
        refine (iNumKey _ _ _ (R p) _ (g2.later hHeld) q2).mono ?_
        rintro e w1 ⟨rfl, rfl⟩
        refine hK.out _ _ (hHeld) (fun hHeld => ?_)
        clear hK K
        try simp only [Act.put, List.setIfInBounds_toArray, List.set_cons_zero, List.set_cons_succ]
        refine wpAnyH_ready (rs := [12]) (by kernel_rfl) (by simp) ?_
        refine AllReadyH.cons (o := qTk24) rfl (fun K hK => ?_) AllReadyH.nil
        go_simp
        refine (iNumKey _ _ _ (R (p + 1)) _ (g1.later hHeld) q1).mono ?_
        rintro e w2 ⟨rfl, rfl⟩
        refine hK.out _ _ (hHeld) (fun hHeld => ?_)
        clear hK K
        try simp only [Act.put, List.setIfInBounds_toArray, List.set_cons_zero, List.set_cons_succ]
        refine wpAnyH_ready (rs := [13]) (by kernel_rfl) (by simp) ?_
        refine AllReadyH.cons (o := qTk25) rfl (fun K hK => ?_) AllReadyH.nil
        go_simp
        refine (cmpLessI (R p 0).m (R (p + 1) 0).m _).mono ?_
        rw [h7]; rintro e w3 ⟨rfl, rfl⟩
        refine hK.out _ _ (hHeld) (fun hHeld => ?_)
        clear hK K
        try simp only [Act.put, List.setIfInBounds_toArray, List.set_cons_zero, List.set_cons_succ]
        refine' takeF (i := 14) (oi := qTk14) rfl ⟨by rfl, fun x hSw => ?h48⟩ hHeld ?r48
        case h48 =>
          go_simp
          try with_reducible rfl
        try simp only [Act.put, List.setIfInBounds_toArray, List.set_cons_zero, List.set_cons_succ]
        refine wpAnyH_done (by kernel_rfl) ?_ _
        go_wp2
        go_roundw
        case rel => exact ⟨p + 1, Or.inr hlt, by go_num, fun j hj => by
          by_cases e : j = p + 1
          · subst e; unfold ltR; rw [Nat.add_sub_cancel, h7]; simp
          · exact hall j (by omega), bstep hb hHeld⟩
        case measure => simp [intOf]; omega
    · go_wp2
      go_ret
      exact ⟨retB (allN_true fun j hj => hall j (by omega)).symm, hb⟩
set_option maxRecDepth 20000 in
set_option maxHeartbeats 4000000 in
theorem iSortT (a : Option Addr) (n c : Nat) (m : Nat → Nat) (R : Nat → Nat → Itm) (w : World) (h : OL w a n m R) (h0 : ∀ k, k < n → 0 < m k) (hn : n ≤ 1048576) : Calls Tryz.prog 120 #[.slice a n c, .func (.func 121) #[] #[]] w fun e w' => e = .returned (.bool (allN n (ltT R))) ∧ Below w.heap.size w w' := by
  have hb0 := Below.refl w.heap.size w
  go_enter Tryz.func120, Tryz.ntmps120
  go_wp2
  go_loopw [5] (fun i wr => ∃ p : Nat, (p = 0 ∨ p < n) ∧ i = .int .i64 (p + 1 : Nat) ∧ (∀ j, j < p + 1 → ltT R j = true) ∧ Below w.heap.size w wr) (fun i _ => n - (intOf i).toNat)
  case atStart => exact ⟨0, Or.inl rfl, rfl, fun j hj => by obtain rfl : j = 0 := by omega
                                                            rfl, hb0⟩
  case round =>
    obtain ⟨p, hk, rfl, hall, hb⟩ := hrel
    by_cases hlt : p + 1 < n
    · obtain ⟨b, off, i1, c1, rfl, c0, g1, l1⟩ := h.later hb (p + 1) hlt
      obtain ⟨b', off', i2, c2, e', f0, g2, l2⟩ := h.later hb p (by omega)
      have q1 := h0 (p + 1) hlt
      have q2 := h0 p (by omega)
      obtain ⟨rfl, rfl⟩ : b = b' ∧ off = off' := by simpa using e'
      have i0 : (0 : Int) ≤ (p : Int) := by omega
      have i1 : (p : Int) < (n : Int) := by omega
      have i3 : (0 : Int) ≤ (p : Int) + 1 := by omega
      have i4 : (p : Int) + 1 < (n : Int) := by omega
      have i2 : IntKind.i64.wrap (p : Int) = (p : Int) := by rw [IntKind.wrap_i64]; omega
      rcases h7 : Op.bytesLess (R p 0).s.toList (R (p + 1) 0).s.toList
      · go_wp2
        refine wp_region_held_drew (S := fun x => Below wr.heap.size wr x) (by kernel_rfl) (bdrew _) (fun hHeld => ?_)
        refine' takeF (i := 0) (oi := qTk26) rfl ⟨by rfl, fun x hSw => ?h49⟩ hHeld ?r49
        case h49 =>
          go_simp
          try with_reducible rfl
        try simp only [Act.put, List.setIfInBounds_toArray, List.set_cons_zero, List.set_cons_succ]
        refine' takeF (i := 1) (oi := qTk16) rfl ⟨by rfl, fun x hSw => ?h50⟩ hHeld ?r50
        case h50 =>
          go_simp
          try with_reducible rfl
        try simp only [Act.put, List.setIfInBounds_toArray, List.set_cons_zero, List.set_cons_succ]
        refine' takeF (i := 2) (oi := qTk2) rfl ⟨by rfl, fun x hSw => ?h51⟩ hHeld ?r51
        case h51 =>
          go_simp
          try with_reducible rfl
        try simp only [Act.put, List.setIfInBounds_toArray, List.set_cons_zero, List.set_cons_succ]
        refine' takeF (i := 3) (oi := qTk3) (v := .int .i64 (p : Int)) rfl ⟨by rfl, fun x hSw => ?h52⟩ hHeld ?r52
        case h52 =>
          go_simp
          try with_reducible rfl
        try simp only [Act.put, List.setIfInBounds_toArray, List.set_cons_zero, List.set_cons_succ]
        refine' takeF (i := 4) (oi := qTk17) (v := .pointer (some ⟨b, off + p, none⟩)) rfl ⟨by rfl, fun x hSw => ?h53⟩ hHeld ?r53
        case h53 =>
          go_simp
          try with_reducible rfl
        try simp only [Act.put, List.setIfInBounds_toArray, List.set_cons_zero, List.set_cons_succ]
        refine' takeF (i := 5) (oi := qTk18) rfl ⟨by rfl, fun x hSw => ?h54⟩ hHeld ?r54
        case h54 =>
          have k0 := keepB hSw c0; have k1 := keepB hSw f0
          go_simp
          try with_reducible rfl
        try simp only [Act.put, List.setIfInBounds_toArray, List.set_cons_zero, List.set_cons_succ]
        refine' takeF (i := 7) (oi := qTk27) rfl ⟨by rfl, fun x hSw => ?h55⟩ hHeld ?r55
        case h55 =>
          go_simp
          try with_reducible rfl
        try simp only [Act.put, List.setIfInBounds_toArray, List.set_cons_zero, List.set_cons_succ]
        refine' takeF (i := 8) (oi := qTk20) rfl ⟨by rfl, fun x hSw => ?h56⟩ hHeld ?r56
        case h56 =>
          go_simp
          try with_reducible rfl
        try simp only [Act.put, List.setIfInBounds_toArray, List.set_cons_zero, List.set_cons_succ]
        refine' takeF (i := 9) (oi := qTk8) rfl ⟨by rfl, fun x hSw => ?h57⟩ hHeld ?r57
        case h57 =>
          go_simp
          try with_reducible rfl
        try simp only [Act.put, List.setIfInBounds_toArray, List.set_cons_zero, List.set_cons_succ]
        refine' takeF (i := 10) (oi := qTk21) rfl ⟨by rfl, fun x hSw => ?h58⟩ hHeld ?r58
        case h58 =>
          go_simp
          try with_reducible rfl
        try simp only [Act.put, List.setIfInBounds_toArray, List.set_cons_zero, List.set_cons_succ]
        refine' takeF (i := 11) (oi := qTk22) rfl ⟨by rfl, fun x hSw => ?h59⟩ hHeld ?r59
        case h59 =>
          have k0 := keepB hSw c0; have k1 := keepB hSw f0
          go_simp
          try with_reducible rfl
        try simp only [Act.put, List.setIfInBounds_toArray, List.set_cons_zero, List.set_cons_succ]
        refine wpAnyH_ready (rs := [6]) (by kernel_rfl) (by simp) ?_
        refine AllReadyH.cons (o := qTk28) rfl (fun K hK => ?_) AllReadyH.nil
        go_simp
        refine (iTextKey _ _ _ (R p) _ (g2.later hHeld) q2).mono ?_
        rintro e w1 ⟨rfl, rfl⟩
        refine hK.out _ _ (hHeld) (fun hHeld => ?_)
        clear hK K
        try simp only [Act.put, List.setIfInBounds_toArray, List.set_cons_zero, List.set_cons_succ]
        refine wpAnyH_ready (rs := [12]) (by kernel_rfl) (by simp) ?_
        refine AllReadyH.cons (o := qTk29) rfl (fun K hK => ?_) AllReadyH.nil
        go_simp
        refine (iTextKey _ _ _ (R (p + 1)) _ (g1.later hHeld) q1).mono ?_
        rintro e w2 ⟨rfl, rfl⟩
        refine hK.out _ _ (hHeld) (fun hHeld => ?_)
        clear hK K
        try simp only [Act.put, List.setIfInBounds_toArray, List.set_cons_zero, List.set_cons_succ]
        refine wpAnyH_ready (rs := [13]) (by kernel_rfl) (by simp) ?_
        refine AllReadyH.cons (o := qTk13) rfl (fun K hK => ?_) AllReadyH.nil
        go_simp
        refine (cmpLess (R p 0).s (R (p + 1) 0).s _).mono ?_
        rw [h7]; rintro e w3 ⟨rfl, rfl⟩
        refine hK.out _ _ (hHeld) (fun hHeld => ?_)
        clear hK K
        try simp only [Act.put, List.setIfInBounds_toArray, List.set_cons_zero, List.set_cons_succ]
        refine' takeF (i := 14) (oi := qTk14) rfl ⟨by rfl, fun x hSw => ?h60⟩ hHeld ?r60
        case h60 =>
          go_simp
          try with_reducible rfl
        try simp only [Act.put, List.setIfInBounds_toArray, List.set_cons_zero, List.set_cons_succ]
        refine wpAnyH_done (by kernel_rfl) ?_ _
        go_wp2
        go_ret
        exact ⟨retB (allN_false (p := ltT R) hlt (by unfold ltT; rw [Nat.add_sub_cancel, h7]; simp)).symm, bstep hb hHeld⟩
      · go_wp2
        refine wp_region_held_drew (S := fun x => Below wr.heap.size wr x) (by kernel_rfl) (bdrew _) (fun hHeld => ?_)
        refine' takeF (i := 0) (oi := qTk26) rfl ⟨by rfl, fun x hSw => ?h61⟩ hHeld ?r61
        case h61 =>
          go_simp
          try with_reducible rfl
        try simp only [Act.put, List.setIfInBounds_toArray, List.set_cons_zero, List.set_cons_succ]
        refine' takeF (i := 1) (oi := qTk16) rfl ⟨by rfl, fun x hSw => ?h62⟩ hHeld ?r62
        case h62 =>
          go_simp
          try with_reducible rfl
        try simp only [Act.put, List.setIfInBounds_toArray, List.set_cons_zero, List.set_cons_succ]
        refine' takeF (i := 2) (oi := qTk2) rfl ⟨by rfl, fun x hSw => ?h63⟩ hHeld ?r63
        case h63 =>
          go_simp
          try with_reducible rfl
        try simp only [Act.put, List.setIfInBounds_toArray, List.set_cons_zero, List.set_cons_succ]
        refine' takeF (i := 3) (oi := qTk3) (v := .int .i64 (p : Int)) rfl ⟨by rfl, fun x hSw => ?h64⟩ hHeld ?r64
        case h64 =>
          go_simp
          try with_reducible rfl
        try simp only [Act.put, List.setIfInBounds_toArray, List.set_cons_zero, List.set_cons_succ]
        refine' takeF (i := 4) (oi := qTk17) (v := .pointer (some ⟨b, off + p, none⟩)) rfl ⟨by rfl, fun x hSw => ?h65⟩ hHeld ?r65
        case h65 =>
          go_simp
          try with_reducible rfl
        try simp only [Act.put, List.setIfInBounds_toArray, List.set_cons_zero, List.set_cons_succ]
        refine' takeF (i := 5) (oi := qTk18) rfl ⟨by rfl, fun x hSw => ?h66⟩ hHeld ?r66
        case h66 =>
          have k0 := keepB hSw c0; have k1 := keepB hSw f0
          go_simp
          try with_reducible rfl
        try simp only [Act.put, List.setIfInBounds_toArray, List.set_cons_zero, List.set_cons_succ]
        refine' takeF (i := 7) (oi := qTk27) rfl ⟨by rfl, fun x hSw => ?h67⟩ hHeld ?r67
        case h67 =>
          go_simp
          try with_reducible rfl
        try simp only [Act.put, List.setIfInBounds_toArray, List.set_cons_zero, List.set_cons_succ]
        refine' takeF (i := 8) (oi := qTk20) rfl ⟨by rfl, fun x hSw => ?h68⟩ hHeld ?r68
        case h68 =>
          go_simp
          try with_reducible rfl
        try simp only [Act.put, List.setIfInBounds_toArray, List.set_cons_zero, List.set_cons_succ]
        refine' takeF (i := 9) (oi := qTk8) rfl ⟨by rfl, fun x hSw => ?h69⟩ hHeld ?r69
        case h69 =>
          go_simp
          try with_reducible rfl
        try simp only [Act.put, List.setIfInBounds_toArray, List.set_cons_zero, List.set_cons_succ]
        refine' takeF (i := 10) (oi := qTk21) rfl ⟨by rfl, fun x hSw => ?h70⟩ hHeld ?r70
        case h70 =>
          go_simp
          try with_reducible rfl
        try simp only [Act.put, List.setIfInBounds_toArray, List.set_cons_zero, List.set_cons_succ]
        refine' takeF (i := 11) (oi := qTk22) rfl ⟨by rfl, fun x hSw => ?h71⟩ hHeld ?r71
        case h71 =>
          have k0 := keepB hSw c0; have k1 := keepB hSw f0
          go_simp
          try with_reducible rfl
        try simp only [Act.put, List.setIfInBounds_toArray, List.set_cons_zero, List.set_cons_succ]
        refine wpAnyH_ready (rs := [6]) (by kernel_rfl) (by simp) ?_
        refine AllReadyH.cons (o := qTk28) rfl (fun K hK => ?_) AllReadyH.nil
        go_simp
        refine (iTextKey _ _ _ (R p) _ (g2.later hHeld) q2).mono ?_
        rintro e w1 ⟨rfl, rfl⟩
        refine hK.out _ _ (hHeld) (fun hHeld => ?_)
        clear hK K
        try simp only [Act.put, List.setIfInBounds_toArray, List.set_cons_zero, List.set_cons_succ]
        refine wpAnyH_ready (rs := [12]) (by kernel_rfl) (by simp) ?_
        refine AllReadyH.cons (o := qTk29) rfl (fun K hK => ?_) AllReadyH.nil
        go_simp
        refine (iTextKey _ _ _ (R (p + 1)) _ (g1.later hHeld) q1).mono ?_
        rintro e w2 ⟨rfl, rfl⟩
        refine hK.out _ _ (hHeld) (fun hHeld => ?_)
        clear hK K
        try simp only [Act.put, List.setIfInBounds_toArray, List.set_cons_zero, List.set_cons_succ]
        refine wpAnyH_ready (rs := [13]) (by kernel_rfl) (by simp) ?_
        refine AllReadyH.cons (o := qTk13) rfl (fun K hK => ?_) AllReadyH.nil
        go_simp
        refine (cmpLess (R p 0).s (R (p + 1) 0).s _).mono ?_
        rw [h7]; rintro e w3 ⟨rfl, rfl⟩
        refine hK.out _ _ (hHeld) (fun hHeld => ?_)
        clear hK K
        try simp only [Act.put, List.setIfInBounds_toArray, List.set_cons_zero, List.set_cons_succ]
        refine' takeF (i := 14) (oi := qTk14) rfl ⟨by rfl, fun x hSw => ?h72⟩ hHeld ?r72
        case h72 =>
          go_simp
          try with_reducible rfl
        try simp only [Act.put, List.setIfInBounds_toArray, List.set_cons_zero, List.set_cons_succ]
        refine wpAnyH_done (by kernel_rfl) ?_ _
        go_wp2
        go_roundw
        case rel => exact ⟨p + 1, Or.inr hlt, by go_num, fun j hj => by
          by_cases e : j = p + 1
          · subst e; unfold ltT; rw [Nat.add_sub_cancel, h7]; simp
          · exact hall j (by omega), bstep hb hHeld⟩
        case measure => simp [intOf]; omega
    · go_wp2
      go_ret
      exact ⟨retB (allN_true fun j hj => hall j (by omega)).symm, hb⟩
end Go.Proofs.YtgeiamgeclbiaaaGreatDoor
