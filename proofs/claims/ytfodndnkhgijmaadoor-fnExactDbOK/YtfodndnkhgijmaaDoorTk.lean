/-
  Tables: the program's tests of order.
-/
import Derived.Test.YtfodndnkhgijmaaDoorTj
import Derived.Deep.RegionHeld3
namespace Go.Proofs.YtfodndnkhgijmaaDoor
open Go.RowKit Go.Maps Go.WideMaps
theorem bdrew (w : World) : Below w.heap.size w w.drew := undrew (Below.refl _ _)
def ltD (T : Nat → Td) (k : Nat) : Bool := decide (k = 0) || Op.bytesLess (T (k - 1)).s.toList (T k).s.toList
def ltR (R : Nat → Nat → Itm) (k : Nat) : Bool := decide (k = 0) || decide ((R (k - 1) 0).m < (R k 0).m)
def ltT (R : Nat → Nat → Itm) (k : Nat) : Bool := decide (k = 0) || Op.bytesLess (R (k - 1) 0).s.toList (R k 0).s.toList
set_option maxRecDepth 20000 in
set_option maxHeartbeats 4000000 in
theorem iSortD (a : Option Addr) (n c : Nat) (T : Nat → Td) (w : World) (h : TL w a n T) (hn : n ≤ 1048576) : Calls Tryd.prog 24 #[.slice a n c, .func (.func 25) #[] #[]] w fun e w' => e = .returned (.bool (allN n (ltD T))) ∧ Below w.heap.size w w' := by
  have hb0 := Below.refl w.heap.size w
  go_enter Tryd.func24, Tryd.ntmps24
  go_wp2
  go_loopw [5] (fun i wr => ∃ p : Nat, (p = 0 ∨ p < n) ∧ i = .int .i64 (p + 1 : Nat) ∧ (∀ j, j < p + 1 → ltD T j = true) ∧ Below w.heap.size w wr) (fun i _ => n - (intOf i).toNat)
  case atStart => exact ⟨0, Or.inl rfl, rfl, fun j hj => by obtain rfl : j = 0 := by omega
                                                            rfl, hb0⟩
  case round =>
    obtain ⟨p, hk, rfl, hall, hb⟩ := hrel
    by_cases hlt : p + 1 < n
    · obtain ⟨b, off, ac, cc, ar, cr, rfl, c0, c1, c2, -, -, -⟩ := h.later hb (p + 1) hlt
      obtain ⟨b', off', ac', cc', ar', cr', e', f0, f1, f2, -, -, -⟩ := h.later hb p (by omega)
      obtain ⟨rfl, rfl⟩ : b = b' ∧ off = off' := by simpa using e'
      have i0 : (0 : Int) ≤ (p : Int) := by omega
      have i1 : (p : Int) < (n : Int) := by omega
      have i3 : (0 : Int) ≤ (p : Int) + 1 := by omega
      have i4 : (p : Int) + 1 < (n : Int) := by omega
      have i2 : IntKind.i64.wrap (p : Int) = (p : Int) := by rw [IntKind.wrap_i64]; omega
      rcases h7 : Op.bytesLess (T p).s.toList (T (p + 1)).s.toList
      · go_wp2
        refine wp_region_held_drew (S := fun x => Below wr.heap.size wr x) (by kernel_rfl) (bdrew _) (fun hHeld => ?_)
        refine' wpAnyH_take (i := 0) (oi := ({ dst := some 12, op := Op.move (Operand.tmp 1), type := 62, pos := "l5_replay.go:108", after := #[], guard := none } : Oper)) (v := _) rfl (by kernel_rfl) (by kernel_rfl) (by kernel_rfl) (fun _ _ _ h => h) (Or.inl ⟨by rfl, fun x hSw => ?hyz1_0⟩) hHeld ?restz1_0
        case hyz1_0 =>
          have k0 := keepB hSw c0; have k1 := keepB hSw c1; have k2 := keepB hSw c2; have k3 := keepB hSw f0; have k4 := keepB hSw f1; have k5 := keepB hSw f2
          go_simp
          try with_reducible rfl
        try simp only [Act.put, List.setIfInBounds_toArray, List.set_cons_zero, List.set_cons_succ]
        refine' wpAnyH_take (i := 1) (oi := ({ dst := some 13, op := Op.move (Operand.tmp 0), type := 27, pos := "l5_replay.go:108", after := #[], guard := none } : Oper)) (v := _) rfl (by kernel_rfl) (by kernel_rfl) (by kernel_rfl) (fun _ _ _ h => h) (Or.inl ⟨by rfl, fun x hSw => ?hyz1_1⟩) hHeld ?restz1_1
        case hyz1_1 =>
          have k0 := keepB hSw c0; have k1 := keepB hSw c1; have k2 := keepB hSw c2; have k3 := keepB hSw f0; have k4 := keepB hSw f1; have k5 := keepB hSw f2
          go_simp
          try with_reducible rfl
        try simp only [Act.put, List.setIfInBounds_toArray, List.set_cons_zero, List.set_cons_succ]
        refine' wpAnyH_take (i := 2) (oi := ({ dst := some 14, op := Op.move (Operand.tmp 5), type := 3, pos := "l5_replay.go:108", after := #[], guard := none } : Oper)) (v := _) rfl (by kernel_rfl) (by kernel_rfl) (by kernel_rfl) (fun _ _ _ h => h) (Or.inl ⟨by rfl, fun x hSw => ?hyz1_2⟩) hHeld ?restz1_2
        case hyz1_2 =>
          have k0 := keepB hSw c0; have k1 := keepB hSw c1; have k2 := keepB hSw c2; have k3 := keepB hSw f0; have k4 := keepB hSw f1; have k5 := keepB hSw f2
          go_simp
          try with_reducible rfl
        try simp only [Act.put, List.setIfInBounds_toArray, List.set_cons_zero, List.set_cons_succ]
        refine' wpAnyH_take (i := 3) (oi := ({ dst := some 15, op := Op.binOp BinOp.sub 3 (Operand.tmp 14) (Operand.const (Value.int IntKind.i64 1)) 3, type := 3, pos := "l5_replay.go:108", after := #[{ on := 2, ground := Ground.data }], guard := none } : Oper)) (v := .int .i64 (p : Int)) rfl (by kernel_rfl) (by kernel_rfl) (by kernel_rfl) (fun _ _ _ h => h) (Or.inl ⟨by rfl, fun x hSw => ?hyz1_3⟩) hHeld ?restz1_3
        case hyz1_3 =>
          have k0 := keepB hSw c0; have k1 := keepB hSw c1; have k2 := keepB hSw c2; have k3 := keepB hSw f0; have k4 := keepB hSw f1; have k5 := keepB hSw f2
          go_simp
          try with_reducible rfl
        try simp only [Act.put, List.setIfInBounds_toArray, List.set_cons_zero, List.set_cons_succ]
        refine' wpAnyH_take (i := 4) (oi := ({ dst := some 16, op := Op.indexAddr 27 (Operand.tmp 13) (Operand.tmp 15), type := 0, pos := "l5_replay.go:108", after := #[{ on := 1, ground := Ground.data }, { on := 3, ground := Ground.data }], guard := none } : Oper)) (v := .pointer (some ⟨b, off + p * 3, none⟩)) rfl (by kernel_rfl) (by kernel_rfl) (by kernel_rfl) (fun _ _ _ h => h) (Or.inl ⟨by rfl, fun x hSw => ?hyz1_4⟩) hHeld ?restz1_4
        case hyz1_4 =>
          have k0 := keepB hSw c0; have k1 := keepB hSw c1; have k2 := keepB hSw c2; have k3 := keepB hSw f0; have k4 := keepB hSw f1; have k5 := keepB hSw f2
          go_simp
          try with_reducible rfl
        try simp only [Act.put, List.setIfInBounds_toArray, List.set_cons_zero, List.set_cons_succ]
        refine' wpAnyH_take (i := 5) (oi := ({ dst := some 17, op := Op.load 54 (Operand.tmp 16), type := 54, pos := "l5_replay.go:108", after := #[{ on := 4, ground := Ground.data }], guard := none } : Oper)) (v := _) rfl (by kernel_rfl) (by kernel_rfl) (by kernel_rfl) (fun _ _ _ h => h) (Or.inl ⟨by rfl, fun x hSw => ?hyz1_5⟩) hHeld ?restz1_5
        case hyz1_5 =>
          have k0 := keepB hSw c0; have k1 := keepB hSw c1; have k2 := keepB hSw c2; have k3 := keepB hSw f0; have k4 := keepB hSw f1; have k5 := keepB hSw f2
          go_simp
          try with_reducible rfl
        try simp only [Act.put, List.setIfInBounds_toArray, List.set_cons_zero, List.set_cons_succ]
        refine' wpAnyH_take (i := 7) (oi := ({ dst := some 19, op := Op.move (Operand.tmp 1), type := 62, pos := "l5_replay.go:108", after := #[], guard := none } : Oper)) (v := _) rfl (by kernel_rfl) (by kernel_rfl) (by kernel_rfl) (fun _ _ _ h => h) (Or.inl ⟨by rfl, fun x hSw => ?hyz1_7⟩) hHeld ?restz1_7
        case hyz1_7 =>
          have k0 := keepB hSw c0; have k1 := keepB hSw c1; have k2 := keepB hSw c2; have k3 := keepB hSw f0; have k4 := keepB hSw f1; have k5 := keepB hSw f2
          go_simp
          try with_reducible rfl
        try simp only [Act.put, List.setIfInBounds_toArray, List.set_cons_zero, List.set_cons_succ]
        refine' wpAnyH_take (i := 8) (oi := ({ dst := some 20, op := Op.move (Operand.tmp 0), type := 27, pos := "l5_replay.go:108", after := #[], guard := none } : Oper)) (v := _) rfl (by kernel_rfl) (by kernel_rfl) (by kernel_rfl) (fun _ _ _ h => h) (Or.inl ⟨by rfl, fun x hSw => ?hyz1_8⟩) hHeld ?restz1_8
        case hyz1_8 =>
          have k0 := keepB hSw c0; have k1 := keepB hSw c1; have k2 := keepB hSw c2; have k3 := keepB hSw f0; have k4 := keepB hSw f1; have k5 := keepB hSw f2
          go_simp
          try with_reducible rfl
        try simp only [Act.put, List.setIfInBounds_toArray, List.set_cons_zero, List.set_cons_succ]
        refine' wpAnyH_take (i := 9) (oi := ({ dst := some 21, op := Op.move (Operand.tmp 5), type := 3, pos := "l5_replay.go:108", after := #[], guard := none } : Oper)) (v := _) rfl (by kernel_rfl) (by kernel_rfl) (by kernel_rfl) (fun _ _ _ h => h) (Or.inl ⟨by rfl, fun x hSw => ?hyz1_9⟩) hHeld ?restz1_9
        case hyz1_9 =>
          have k0 := keepB hSw c0; have k1 := keepB hSw c1; have k2 := keepB hSw c2; have k3 := keepB hSw f0; have k4 := keepB hSw f1; have k5 := keepB hSw f2
          go_simp
          try with_reducible rfl
        try simp only [Act.put, List.setIfInBounds_toArray, List.set_cons_zero, List.set_cons_succ]
        refine' wpAnyH_take (i := 10) (oi := ({ dst := some 22, op := Op.indexAddr 27 (Operand.tmp 20) (Operand.tmp 21), type := 0, pos := "l5_replay.go:108", after := #[{ on := 8, ground := Ground.data }, { on := 9, ground := Ground.data }], guard := none } : Oper)) (v := _) rfl (by kernel_rfl) (by kernel_rfl) (by kernel_rfl) (fun _ _ _ h => h) (Or.inl ⟨by rfl, fun x hSw => ?hyz1_10⟩) hHeld ?restz1_10
        case hyz1_10 =>
          have k0 := keepB hSw c0; have k1 := keepB hSw c1; have k2 := keepB hSw c2; have k3 := keepB hSw f0; have k4 := keepB hSw f1; have k5 := keepB hSw f2
          go_simp
          try with_reducible rfl
        try simp only [Act.put, List.setIfInBounds_toArray, List.set_cons_zero, List.set_cons_succ]
        refine' wpAnyH_take (i := 11) (oi := ({ dst := some 23, op := Op.load 54 (Operand.tmp 22), type := 54, pos := "l5_replay.go:108", after := #[{ on := 10, ground := Ground.data }], guard := none } : Oper)) (v := _) rfl (by kernel_rfl) (by kernel_rfl) (by kernel_rfl) (fun _ _ _ h => h) (Or.inl ⟨by rfl, fun x hSw => ?hyz1_11⟩) hHeld ?restz1_11
        case hyz1_11 =>
          have k0 := keepB hSw c0; have k1 := keepB hSw c1; have k2 := keepB hSw c2; have k3 := keepB hSw f0; have k4 := keepB hSw f1; have k5 := keepB hSw f2
          go_simp
          try with_reducible rfl
        try simp only [Act.put, List.setIfInBounds_toArray, List.set_cons_zero, List.set_cons_succ]
        refine wpAnyH_ready (rs := [6]) (by kernel_rfl) (by simp) ?_
        refine AllReadyH.cons (o := ({ dst := some 18, op := Op.call { callee := Callee.value (Operand.tmp 12), args := #[Operand.tmp 17], argTypes := #[54] }, type := 9, pos := "l5_replay.go:108", after := #[{ on := 0, ground := Ground.data }, { on := 5, ground := Ground.data }], guard := none } : Oper)) rfl (fun K hK => ?_) AllReadyH.nil
        go_simp
        refine (iTabName (T p).s _ _ _).mono ?_
        rintro e w1 ⟨rfl, hb1⟩
        refine hK.out _ _ (bstep hHeld hb1) (fun hHeld => ?_)
        clear hK K
        try simp only [Act.put, List.setIfInBounds_toArray, List.set_cons_zero, List.set_cons_succ]
        refine wpAnyH_ready (rs := [12]) (by kernel_rfl) (by simp) ?_
        refine AllReadyH.cons (o := ({ dst := some 24, op := Op.call { callee := Callee.value (Operand.tmp 19), args := #[Operand.tmp 23], argTypes := #[54] }, type := 9, pos := "l5_replay.go:108", after := #[{ on := 7, ground := Ground.data }, { on := 11, ground := Ground.data }, { on := 6, ground := Ground.chain }], guard := none } : Oper)) rfl (fun K hK => ?_) AllReadyH.nil
        go_simp
        refine (iTabName (T (p + 1)).s _ _ _).mono ?_
        rintro e w2 ⟨rfl, hb2⟩
        refine hK.out _ _ (bstep hHeld hb2) (fun hHeld => ?_)
        clear hK K
        try simp only [Act.put, List.setIfInBounds_toArray, List.set_cons_zero, List.set_cons_succ]
        refine wpAnyH_ready (rs := [13]) (by kernel_rfl) (by simp) ?_
        refine AllReadyH.cons (o := ({ dst := some 25, op := Op.call { callee := Callee.value (Operand.func 78), args := #[Operand.tmp 18, Operand.tmp 24], argTypes := #[9, 9] }, type := 4, pos := "l5_replay.go:108", after := #[{ on := 6, ground := Ground.data }, { on := 12, ground := Ground.data }, { on := 12, ground := Ground.chain }], guard := none } : Oper)) rfl (fun K hK => ?_) AllReadyH.nil
        go_simp
        refine (cmpLess (T p).s (T (p + 1)).s _).mono ?_
        rw [h7]; rintro e w3 ⟨rfl, rfl⟩
        refine hK.out _ _ (hHeld) (fun hHeld => ?_)
        clear hK K
        try simp only [Act.put, List.setIfInBounds_toArray, List.set_cons_zero, List.set_cons_succ]
        refine' wpAnyH_take (i := 14) (oi := ({ dst := some 26, op := Op.unOp UnOp.not 4 (Operand.tmp 25), type := 4, pos := "l5_replay.go:108", after := #[{ on := 13, ground := Ground.data }], guard := none } : Oper)) (v := _) rfl (by kernel_rfl) (by kernel_rfl) (by kernel_rfl) (fun _ _ _ h => h) (Or.inl ⟨by rfl, fun x hSw => ?hyz1_14⟩) hHeld ?restz1_14
        case hyz1_14 =>
          have k0 := keepB hSw c0; have k1 := keepB hSw c1; have k2 := keepB hSw c2; have k3 := keepB hSw f0; have k4 := keepB hSw f1; have k5 := keepB hSw f2
          go_simp
          try with_reducible rfl
        try simp only [Act.put, List.setIfInBounds_toArray, List.set_cons_zero, List.set_cons_succ]
        refine wpAnyH_done (by kernel_rfl) ?_ _
        go_wp2
        go_ret
        exact ⟨retB (allN_false (p := ltD T) hlt (by unfold ltD; rw [Nat.add_sub_cancel, h7]; simp)).symm, bstep hb hHeld⟩
      · go_wp2
        refine wp_region_held_drew (S := fun x => Below wr.heap.size wr x) (by kernel_rfl) (bdrew _) (fun hHeld => ?_)
        refine' wpAnyH_take (i := 0) (oi := ({ dst := some 12, op := Op.move (Operand.tmp 1), type := 62, pos := "l5_replay.go:108", after := #[], guard := none } : Oper)) (v := _) rfl (by kernel_rfl) (by kernel_rfl) (by kernel_rfl) (fun _ _ _ h => h) (Or.inl ⟨by rfl, fun x hSw => ?hyz2_0⟩) hHeld ?restz2_0
        case hyz2_0 =>
          have k0 := keepB hSw c0; have k1 := keepB hSw c1; have k2 := keepB hSw c2; have k3 := keepB hSw f0; have k4 := keepB hSw f1; have k5 := keepB hSw f2
          go_simp
          try with_reducible rfl
        try simp only [Act.put, List.setIfInBounds_toArray, List.set_cons_zero, List.set_cons_succ]
        refine' wpAnyH_take (i := 1) (oi := ({ dst := some 13, op := Op.move (Operand.tmp 0), type := 27, pos := "l5_replay.go:108", after := #[], guard := none } : Oper)) (v := _) rfl (by kernel_rfl) (by kernel_rfl) (by kernel_rfl) (fun _ _ _ h => h) (Or.inl ⟨by rfl, fun x hSw => ?hyz2_1⟩) hHeld ?restz2_1
        case hyz2_1 =>
          have k0 := keepB hSw c0; have k1 := keepB hSw c1; have k2 := keepB hSw c2; have k3 := keepB hSw f0; have k4 := keepB hSw f1; have k5 := keepB hSw f2
          go_simp
          try with_reducible rfl
        try simp only [Act.put, List.setIfInBounds_toArray, List.set_cons_zero, List.set_cons_succ]
        refine' wpAnyH_take (i := 2) (oi := ({ dst := some 14, op := Op.move (Operand.tmp 5), type := 3, pos := "l5_replay.go:108", after := #[], guard := none } : Oper)) (v := _) rfl (by kernel_rfl) (by kernel_rfl) (by kernel_rfl) (fun _ _ _ h => h) (Or.inl ⟨by rfl, fun x hSw => ?hyz2_2⟩) hHeld ?restz2_2
        case hyz2_2 =>
          have k0 := keepB hSw c0; have k1 := keepB hSw c1; have k2 := keepB hSw c2; have k3 := keepB hSw f0; have k4 := keepB hSw f1; have k5 := keepB hSw f2
          go_simp
          try with_reducible rfl
        try simp only [Act.put, List.setIfInBounds_toArray, List.set_cons_zero, List.set_cons_succ]
        refine' wpAnyH_take (i := 3) (oi := ({ dst := some 15, op := Op.binOp BinOp.sub 3 (Operand.tmp 14) (Operand.const (Value.int IntKind.i64 1)) 3, type := 3, pos := "l5_replay.go:108", after := #[{ on := 2, ground := Ground.data }], guard := none } : Oper)) (v := .int .i64 (p : Int)) rfl (by kernel_rfl) (by kernel_rfl) (by kernel_rfl) (fun _ _ _ h => h) (Or.inl ⟨by rfl, fun x hSw => ?hyz2_3⟩) hHeld ?restz2_3
        case hyz2_3 =>
          have k0 := keepB hSw c0; have k1 := keepB hSw c1; have k2 := keepB hSw c2; have k3 := keepB hSw f0; have k4 := keepB hSw f1; have k5 := keepB hSw f2
          go_simp
          try with_reducible rfl
        try simp only [Act.put, List.setIfInBounds_toArray, List.set_cons_zero, List.set_cons_succ]
        refine' wpAnyH_take (i := 4) (oi := ({ dst := some 16, op := Op.indexAddr 27 (Operand.tmp 13) (Operand.tmp 15), type := 0, pos := "l5_replay.go:108", after := #[{ on := 1, ground := Ground.data }, { on := 3, ground := Ground.data }], guard := none } : Oper)) (v := .pointer (some ⟨b, off + p * 3, none⟩)) rfl (by kernel_rfl) (by kernel_rfl) (by kernel_rfl) (fun _ _ _ h => h) (Or.inl ⟨by rfl, fun x hSw => ?hyz2_4⟩) hHeld ?restz2_4
        case hyz2_4 =>
          have k0 := keepB hSw c0; have k1 := keepB hSw c1; have k2 := keepB hSw c2; have k3 := keepB hSw f0; have k4 := keepB hSw f1; have k5 := keepB hSw f2
          go_simp
          try with_reducible rfl
        try simp only [Act.put, List.setIfInBounds_toArray, List.set_cons_zero, List.set_cons_succ]
        refine' wpAnyH_take (i := 5) (oi := ({ dst := some 17, op := Op.load 54 (Operand.tmp 16), type := 54, pos := "l5_replay.go:108", after := #[{ on := 4, ground := Ground.data }], guard := none } : Oper)) (v := _) rfl (by kernel_rfl) (by kernel_rfl) (by kernel_rfl) (fun _ _ _ h => h) (Or.inl ⟨by rfl, fun x hSw => ?hyz2_5⟩) hHeld ?restz2_5
        case hyz2_5 =>
          have k0 := keepB hSw c0; have k1 := keepB hSw c1; have k2 := keepB hSw c2; have k3 := keepB hSw f0; have k4 := keepB hSw f1; have k5 := keepB hSw f2
          go_simp
          try with_reducible rfl
        try simp only [Act.put, List.setIfInBounds_toArray, List.set_cons_zero, List.set_cons_succ]
        refine' wpAnyH_take (i := 7) (oi := ({ dst := some 19, op := Op.move (Operand.tmp 1), type := 62, pos := "l5_replay.go:108", after := #[], guard := none } : Oper)) (v := _) rfl (by kernel_rfl) (by kernel_rfl) (by kernel_rfl) (fun _ _ _ h => h) (Or.inl ⟨by rfl, fun x hSw => ?hyz2_7⟩) hHeld ?restz2_7
        case hyz2_7 =>
          have k0 := keepB hSw c0; have k1 := keepB hSw c1; have k2 := keepB hSw c2; have k3 := keepB hSw f0; have k4 := keepB hSw f1; have k5 := keepB hSw f2
          go_simp
          try with_reducible rfl
        try simp only [Act.put, List.setIfInBounds_toArray, List.set_cons_zero, List.set_cons_succ]
        refine' wpAnyH_take (i := 8) (oi := ({ dst := some 20, op := Op.move (Operand.tmp 0), type := 27, pos := "l5_replay.go:108", after := #[], guard := none } : Oper)) (v := _) rfl (by kernel_rfl) (by kernel_rfl) (by kernel_rfl) (fun _ _ _ h => h) (Or.inl ⟨by rfl, fun x hSw => ?hyz2_8⟩) hHeld ?restz2_8
        case hyz2_8 =>
          have k0 := keepB hSw c0; have k1 := keepB hSw c1; have k2 := keepB hSw c2; have k3 := keepB hSw f0; have k4 := keepB hSw f1; have k5 := keepB hSw f2
          go_simp
          try with_reducible rfl
        try simp only [Act.put, List.setIfInBounds_toArray, List.set_cons_zero, List.set_cons_succ]
        refine' wpAnyH_take (i := 9) (oi := ({ dst := some 21, op := Op.move (Operand.tmp 5), type := 3, pos := "l5_replay.go:108", after := #[], guard := none } : Oper)) (v := _) rfl (by kernel_rfl) (by kernel_rfl) (by kernel_rfl) (fun _ _ _ h => h) (Or.inl ⟨by rfl, fun x hSw => ?hyz2_9⟩) hHeld ?restz2_9
        case hyz2_9 =>
          have k0 := keepB hSw c0; have k1 := keepB hSw c1; have k2 := keepB hSw c2; have k3 := keepB hSw f0; have k4 := keepB hSw f1; have k5 := keepB hSw f2
          go_simp
          try with_reducible rfl
        try simp only [Act.put, List.setIfInBounds_toArray, List.set_cons_zero, List.set_cons_succ]
        refine' wpAnyH_take (i := 10) (oi := ({ dst := some 22, op := Op.indexAddr 27 (Operand.tmp 20) (Operand.tmp 21), type := 0, pos := "l5_replay.go:108", after := #[{ on := 8, ground := Ground.data }, { on := 9, ground := Ground.data }], guard := none } : Oper)) (v := _) rfl (by kernel_rfl) (by kernel_rfl) (by kernel_rfl) (fun _ _ _ h => h) (Or.inl ⟨by rfl, fun x hSw => ?hyz2_10⟩) hHeld ?restz2_10
        case hyz2_10 =>
          have k0 := keepB hSw c0; have k1 := keepB hSw c1; have k2 := keepB hSw c2; have k3 := keepB hSw f0; have k4 := keepB hSw f1; have k5 := keepB hSw f2
          go_simp
          try with_reducible rfl
        try simp only [Act.put, List.setIfInBounds_toArray, List.set_cons_zero, List.set_cons_succ]
        refine' wpAnyH_take (i := 11) (oi := ({ dst := some 23, op := Op.load 54 (Operand.tmp 22), type := 54, pos := "l5_replay.go:108", after := #[{ on := 10, ground := Ground.data }], guard := none } : Oper)) (v := _) rfl (by kernel_rfl) (by kernel_rfl) (by kernel_rfl) (fun _ _ _ h => h) (Or.inl ⟨by rfl, fun x hSw => ?hyz2_11⟩) hHeld ?restz2_11
        case hyz2_11 =>
          have k0 := keepB hSw c0; have k1 := keepB hSw c1; have k2 := keepB hSw c2; have k3 := keepB hSw f0; have k4 := keepB hSw f1; have k5 := keepB hSw f2
          go_simp
          try with_reducible rfl
        try simp only [Act.put, List.setIfInBounds_toArray, List.set_cons_zero, List.set_cons_succ]
        refine wpAnyH_ready (rs := [6]) (by kernel_rfl) (by simp) ?_
        refine AllReadyH.cons (o := ({ dst := some 18, op := Op.call { callee := Callee.value (Operand.tmp 12), args := #[Operand.tmp 17], argTypes := #[54] }, type := 9, pos := "l5_replay.go:108", after := #[{ on := 0, ground := Ground.data }, { on := 5, ground := Ground.data }], guard := none } : Oper)) rfl (fun K hK => ?_) AllReadyH.nil
        go_simp
        refine (iTabName (T p).s _ _ _).mono ?_
        rintro e w1 ⟨rfl, hb1⟩
        refine hK.out _ _ (bstep hHeld hb1) (fun hHeld => ?_)
        clear hK K
        try simp only [Act.put, List.setIfInBounds_toArray, List.set_cons_zero, List.set_cons_succ]
        refine wpAnyH_ready (rs := [12]) (by kernel_rfl) (by simp) ?_
        refine AllReadyH.cons (o := ({ dst := some 24, op := Op.call { callee := Callee.value (Operand.tmp 19), args := #[Operand.tmp 23], argTypes := #[54] }, type := 9, pos := "l5_replay.go:108", after := #[{ on := 7, ground := Ground.data }, { on := 11, ground := Ground.data }, { on := 6, ground := Ground.chain }], guard := none } : Oper)) rfl (fun K hK => ?_) AllReadyH.nil
        go_simp
        refine (iTabName (T (p + 1)).s _ _ _).mono ?_
        rintro e w2 ⟨rfl, hb2⟩
        refine hK.out _ _ (bstep hHeld hb2) (fun hHeld => ?_)
        clear hK K
        try simp only [Act.put, List.setIfInBounds_toArray, List.set_cons_zero, List.set_cons_succ]
        refine wpAnyH_ready (rs := [13]) (by kernel_rfl) (by simp) ?_
        refine AllReadyH.cons (o := ({ dst := some 25, op := Op.call { callee := Callee.value (Operand.func 78), args := #[Operand.tmp 18, Operand.tmp 24], argTypes := #[9, 9] }, type := 4, pos := "l5_replay.go:108", after := #[{ on := 6, ground := Ground.data }, { on := 12, ground := Ground.data }, { on := 12, ground := Ground.chain }], guard := none } : Oper)) rfl (fun K hK => ?_) AllReadyH.nil
        go_simp
        refine (cmpLess (T p).s (T (p + 1)).s _).mono ?_
        rw [h7]; rintro e w3 ⟨rfl, rfl⟩
        refine hK.out _ _ (hHeld) (fun hHeld => ?_)
        clear hK K
        try simp only [Act.put, List.setIfInBounds_toArray, List.set_cons_zero, List.set_cons_succ]
        refine' wpAnyH_take (i := 14) (oi := ({ dst := some 26, op := Op.unOp UnOp.not 4 (Operand.tmp 25), type := 4, pos := "l5_replay.go:108", after := #[{ on := 13, ground := Ground.data }], guard := none } : Oper)) (v := _) rfl (by kernel_rfl) (by kernel_rfl) (by kernel_rfl) (fun _ _ _ h => h) (Or.inl ⟨by rfl, fun x hSw => ?hyz2_14⟩) hHeld ?restz2_14
        case hyz2_14 =>
          have k0 := keepB hSw c0; have k1 := keepB hSw c1; have k2 := keepB hSw c2; have k3 := keepB hSw f0; have k4 := keepB hSw f1; have k5 := keepB hSw f2
          go_simp
          try with_reducible rfl
        try simp only [Act.put, List.setIfInBounds_toArray, List.set_cons_zero, List.set_cons_succ]
        refine wpAnyH_done (by kernel_rfl) ?_ _
        go_wp2
        go_roundw
        case rel => exact ⟨p + 1, Or.inr hlt, by go_num, fun j hj => by
          by_cases e : j = p + 1
          · subst e; unfold ltD; rw [Nat.add_sub_cancel, h7]; simp
          · exact hall j (by omega), bstep hb hHeld⟩
        case measure => simp [intOf]; omega
    · go_wp2
      go_ret
      exact ⟨retB (allN_true fun j hj => hall j (by omega)).symm, hb⟩
set_option maxRecDepth 20000 in
set_option maxHeartbeats 4000000 in
theorem iSortN (a : Option Addr) (n c : Nat) (m : Nat → Nat) (R : Nat → Nat → Itm) (w : World) (h : OL w a n m R) (h0 : ∀ k, k < n → 0 < m k) (hn : n ≤ 1048576) : Calls Tryd.prog 74 #[.slice a n c, .func (.func 75) #[] #[]] w fun e w' => e = .returned (.bool (allN n (ltR R))) ∧ Below w.heap.size w w' := by
  have hb0 := Below.refl w.heap.size w
  go_enter Tryd.func74, Tryd.ntmps74
  go_wp2
  go_loopw [5] (fun i wr => ∃ p : Nat, (p = 0 ∨ p < n) ∧ i = .int .i64 (p + 1 : Nat) ∧ (∀ j, j < p + 1 → ltR R j = true) ∧ Below w.heap.size w wr) (fun i _ => n - (intOf i).toNat)
  case atStart => exact ⟨0, Or.inl rfl, rfl, fun j hj => by obtain rfl : j = 0 := by omega
                                                            rfl, hb0⟩
  case round =>
    obtain ⟨p, hk, rfl, hall, hb⟩ := hrel
    by_cases hlt : p + 1 < n
    · obtain ⟨b, off, i1, c1, rfl, c0, g1, l1⟩ := h.later hb (p + 1) hlt
      obtain ⟨b', off', i2, c2, e', f0, g2, l2⟩ := h.later hb p (by omega)
      have q1 := h0 (p + 1) hlt
      have q2 := h0 p (by omega)
      obtain ⟨rfl, rfl⟩ : b = b' ∧ off = off' := by simpa using e'
      have i0 : (0 : Int) ≤ (p : Int) := by omega
      have i1 : (p : Int) < (n : Int) := by omega
      have i3 : (0 : Int) ≤ (p : Int) + 1 := by omega
      have i4 : (p : Int) + 1 < (n : Int) := by omega
      have i2 : IntKind.i64.wrap (p : Int) = (p : Int) := by rw [IntKind.wrap_i64]; omega
      rcases h7 : decide ((R p 0).m < (R (p + 1) 0).m)
      · go_wp2
        refine wp_region_held_drew (S := fun x => Below wr.heap.size wr x) (by kernel_rfl) (bdrew _) (fun hHeld => ?_)
        refine' wpAnyH_take (i := 0) (oi := ({ dst := some 12, op := Op.move (Operand.tmp 1), type := 114, pos := "l5_replay.go:108", after := #[], guard := none } : Oper)) (v := _) rfl (by kernel_rfl) (by kernel_rfl) (by kernel_rfl) (fun _ _ _ h => h) (Or.inl ⟨by rfl, fun x hSw => ?hyz3_0⟩) hHeld ?restz3_0
        case hyz3_0 =>
          have k0 := keepB hSw c0; have k1 := keepB hSw f0
          go_simp
          try with_reducible rfl
        try simp only [Act.put, List.setIfInBounds_toArray, List.set_cons_zero, List.set_cons_succ]
        refine' wpAnyH_take (i := 1) (oi := ({ dst := some 13, op := Op.move (Operand.tmp 0), type := 52, pos := "l5_replay.go:108", after := #[], guard := none } : Oper)) (v := _) rfl (by kernel_rfl) (by kernel_rfl) (by kernel_rfl) (fun _ _ _ h => h) (Or.inl ⟨by rfl, fun x hSw => ?hyz3_1⟩) hHeld ?restz3_1
        case hyz3_1 =>
          have k0 := keepB hSw c0; have k1 := keepB hSw f0
          go_simp
          try with_reducible rfl
        try simp only [Act.put, List.setIfInBounds_toArray, List.set_cons_zero, List.set_cons_succ]
        refine' wpAnyH_take (i := 2) (oi := ({ dst := some 14, op := Op.move (Operand.tmp 5), type := 3, pos := "l5_replay.go:108", after := #[], guard := none } : Oper)) (v := _) rfl (by kernel_rfl) (by kernel_rfl) (by kernel_rfl) (fun _ _ _ h => h) (Or.inl ⟨by rfl, fun x hSw => ?hyz3_2⟩) hHeld ?restz3_2
        case hyz3_2 =>
          have k0 := keepB hSw c0; have k1 := keepB hSw f0
          go_simp
          try with_reducible rfl
        try simp only [Act.put, List.setIfInBounds_toArray, List.set_cons_zero, List.set_cons_succ]
        refine' wpAnyH_take (i := 3) (oi := ({ dst := some 15, op := Op.binOp BinOp.sub 3 (Operand.tmp 14) (Operand.const (Value.int IntKind.i64 1)) 3, type := 3, pos := "l5_replay.go:108", after := #[{ on := 2, ground := Ground.data }], guard := none } : Oper)) (v := .int .i64 (p : Int)) rfl (by kernel_rfl) (by kernel_rfl) (by kernel_rfl) (fun _ _ _ h => h) (Or.inl ⟨by rfl, fun x hSw => ?hyz3_3⟩) hHeld ?restz3_3
        case hyz3_3 =>
          have k0 := keepB hSw c0; have k1 := keepB hSw f0
          go_simp
          try with_reducible rfl
        try simp only [Act.put, List.setIfInBounds_toArray, List.set_cons_zero, List.set_cons_succ]
        refine' wpAnyH_take (i := 4) (oi := ({ dst := some 16, op := Op.indexAddr 52 (Operand.tmp 13) (Operand.tmp 15), type := 0, pos := "l5_replay.go:108", after := #[{ on := 1, ground := Ground.data }, { on := 3, ground := Ground.data }], guard := none } : Oper)) (v := .pointer (some ⟨b, off + p, none⟩)) rfl (by kernel_rfl) (by kernel_rfl) (by kernel_rfl) (fun _ _ _ h => h) (Or.inl ⟨by rfl, fun x hSw => ?hyz3_4⟩) hHeld ?restz3_4
        case hyz3_4 =>
          have k0 := keepB hSw c0; have k1 := keepB hSw f0
          go_simp
          try with_reducible rfl
        try simp only [Act.put, List.setIfInBounds_toArray, List.set_cons_zero, List.set_cons_succ]
        refine' wpAnyH_take (i := 5) (oi := ({ dst := some 17, op := Op.load 42 (Operand.tmp 16), type := 42, pos := "l5_replay.go:108", after := #[{ on := 4, ground := Ground.data }], guard := none } : Oper)) (v := _) rfl (by kernel_rfl) (by kernel_rfl) (by kernel_rfl) (fun _ _ _ h => h) (Or.inl ⟨by rfl, fun x hSw => ?hyz3_5⟩) hHeld ?restz3_5
        case hyz3_5 =>
          have k0 := keepB hSw c0; have k1 := keepB hSw f0
          go_simp
          try with_reducible rfl
        try simp only [Act.put, List.setIfInBounds_toArray, List.set_cons_zero, List.set_cons_succ]
        refine' wpAnyH_take (i := 7) (oi := ({ dst := some 19, op := Op.move (Operand.tmp 1), type := 114, pos := "l5_replay.go:108", after := #[], guard := none } : Oper)) (v := _) rfl (by kernel_rfl) (by kernel_rfl) (by kernel_rfl) (fun _ _ _ h => h) (Or.inl ⟨by rfl, fun x hSw => ?hyz3_7⟩) hHeld ?restz3_7
        case hyz3_7 =>
          have k0 := keepB hSw c0; have k1 := keepB hSw f0
          go_simp
          try with_reducible rfl
        try simp only [Act.put, List.setIfInBounds_toArray, List.set_cons_zero, List.set_cons_succ]
        refine' wpAnyH_take (i := 8) (oi := ({ dst := some 20, op := Op.move (Operand.tmp 0), type := 52, pos := "l5_replay.go:108", after := #[], guard := none } : Oper)) (v := _) rfl (by kernel_rfl) (by kernel_rfl) (by kernel_rfl) (fun _ _ _ h => h) (Or.inl ⟨by rfl, fun x hSw => ?hyz3_8⟩) hHeld ?restz3_8
        case hyz3_8 =>
          have k0 := keepB hSw c0; have k1 := keepB hSw f0
          go_simp
          try with_reducible rfl
        try simp only [Act.put, List.setIfInBounds_toArray, List.set_cons_zero, List.set_cons_succ]
        refine' wpAnyH_take (i := 9) (oi := ({ dst := some 21, op := Op.move (Operand.tmp 5), type := 3, pos := "l5_replay.go:108", after := #[], guard := none } : Oper)) (v := _) rfl (by kernel_rfl) (by kernel_rfl) (by kernel_rfl) (fun _ _ _ h => h) (Or.inl ⟨by rfl, fun x hSw => ?hyz3_9⟩) hHeld ?restz3_9
        case hyz3_9 =>
          have k0 := keepB hSw c0; have k1 := keepB hSw f0
          go_simp
          try with_reducible rfl
        try simp only [Act.put, List.setIfInBounds_toArray, List.set_cons_zero, List.set_cons_succ]
        refine' wpAnyH_take (i := 10) (oi := ({ dst := some 22, op := Op.indexAddr 52 (Operand.tmp 20) (Operand.tmp 21), type := 0, pos := "l5_replay.go:108", after := #[{ on := 8, ground := Ground.data }, { on := 9, ground := Ground.data }], guard := none } : Oper)) (v := _) rfl (by kernel_rfl) (by kernel_rfl) (by kernel_rfl) (fun _ _ _ h => h) (Or.inl ⟨by rfl, fun x hSw => ?hyz3_10⟩) hHeld ?restz3_10
        case hyz3_10 =>
          have k0 := keepB hSw c0; have k1 := keepB hSw f0
          go_simp
          try with_reducible rfl
        try simp only [Act.put, List.setIfInBounds_toArray, List.set_cons_zero, List.set_cons_succ]
        refine' wpAnyH_take (i := 11) (oi := ({ dst := some 23, op := Op.load 42 (Operand.tmp 22), type := 42, pos := "l5_replay.go:108", after := #[{ on := 10, ground := Ground.data }], guard := none } : Oper)) (v := _) rfl (by kernel_rfl) (by kernel_rfl) (by kernel_rfl) (fun _ _ _ h => h) (Or.inl ⟨by rfl, fun x hSw => ?hyz3_11⟩) hHeld ?restz3_11
        case hyz3_11 =>
          have k0 := keepB hSw c0; have k1 := keepB hSw f0
          go_simp
          try with_reducible rfl
        try simp only [Act.put, List.setIfInBounds_toArray, List.set_cons_zero, List.set_cons_succ]
        refine wpAnyH_ready (rs := [6]) (by kernel_rfl) (by simp) ?_
        refine AllReadyH.cons (o := ({ dst := some 18, op := Op.call { callee := Callee.value (Operand.tmp 12), args := #[Operand.tmp 17], argTypes := #[42] }, type := 3, pos := "l5_replay.go:108", after := #[{ on := 0, ground := Ground.data }, { on := 5, ground := Ground.data }], guard := none } : Oper)) rfl (fun K hK => ?_) AllReadyH.nil
        go_simp
        refine (iNumKey _ _ _ (R p) _ (g2.later hHeld) q2).mono ?_
        rintro e w1 ⟨rfl, rfl⟩
        refine hK.out _ _ (hHeld) (fun hHeld => ?_)
        clear hK K
        try simp only [Act.put, List.setIfInBounds_toArray, List.set_cons_zero, List.set_cons_succ]
        refine wpAnyH_ready (rs := [12]) (by kernel_rfl) (by simp) ?_
        refine AllReadyH.cons (o := ({ dst := some 24, op := Op.call { callee := Callee.value (Operand.tmp 19), args := #[Operand.tmp 23], argTypes := #[42] }, type := 3, pos := "l5_replay.go:108", after := #[{ on := 7, ground := Ground.data }, { on := 11, ground := Ground.data }, { on := 6, ground := Ground.chain }], guard := none } : Oper)) rfl (fun K hK => ?_) AllReadyH.nil
        go_simp
        refine (iNumKey _ _ _ (R (p + 1)) _ (g1.later hHeld) q1).mono ?_
        rintro e w2 ⟨rfl, rfl⟩
        refine hK.out _ _ (hHeld) (fun hHeld => ?_)
        clear hK K
        try simp only [Act.put, List.setIfInBounds_toArray, List.set_cons_zero, List.set_cons_succ]
        refine wpAnyH_ready (rs := [13]) (by kernel_rfl) (by simp) ?_
        refine AllReadyH.cons (o := ({ dst := some 25, op := Op.call { callee := Callee.value (Operand.func 112), args := #[Operand.tmp 18, Operand.tmp 24], argTypes := #[3, 3] }, type := 4, pos := "l5_replay.go:108", after := #[{ on := 6, ground := Ground.data }, { on := 12, ground := Ground.data }, { on := 12, ground := Ground.chain }], guard := none } : Oper)) rfl (fun K hK => ?_) AllReadyH.nil
        go_simp
        refine (cmpLessI (R p 0).m (R (p + 1) 0).m _).mono ?_
        rw [h7]; rintro e w3 ⟨rfl, rfl⟩
        refine hK.out _ _ (hHeld) (fun hHeld => ?_)
        clear hK K
        try simp only [Act.put, List.setIfInBounds_toArray, List.set_cons_zero, List.set_cons_succ]
        refine' wpAnyH_take (i := 14) (oi := ({ dst := some 26, op := Op.unOp UnOp.not 4 (Operand.tmp 25), type := 4, pos := "l5_replay.go:108", after := #[{ on := 13, ground := Ground.data }], guard := none } : Oper)) (v := _) rfl (by kernel_rfl) (by kernel_rfl) (by kernel_rfl) (fun _ _ _ h => h) (Or.inl ⟨by rfl, fun x hSw => ?hyz3_14⟩) hHeld ?restz3_14
        case hyz3_14 =>
          have k0 := keepB hSw c0; have k1 := keepB hSw f0
          go_simp
          try with_reducible rfl
        try simp only [Act.put, List.setIfInBounds_toArray, List.set_cons_zero, List.set_cons_succ]
        refine wpAnyH_done (by kernel_rfl) ?_ _
        go_wp2
        go_ret
        exact ⟨retB (allN_false (p := ltR R) hlt (by unfold ltR; rw [Nat.add_sub_cancel, h7]; simp)).symm, bstep hb hHeld⟩
      · go_wp2
        refine wp_region_held_drew (S := fun x => Below wr.heap.size wr x) (by kernel_rfl) (bdrew _) (fun hHeld => ?_)
        refine' wpAnyH_take (i := 0) (oi := ({ dst := some 12, op := Op.move (Operand.tmp 1), type := 114, pos := "l5_replay.go:108", after := #[], guard := none } : Oper)) (v := _) rfl (by kernel_rfl) (by kernel_rfl) (by kernel_rfl) (fun _ _ _ h => h) (Or.inl ⟨by rfl, fun x hSw => ?hyz4_0⟩) hHeld ?restz4_0
        case hyz4_0 =>
          have k0 := keepB hSw c0; have k1 := keepB hSw f0
          go_simp
          try with_reducible rfl
        try simp only [Act.put, List.setIfInBounds_toArray, List.set_cons_zero, List.set_cons_succ]
        refine' wpAnyH_take (i := 1) (oi := ({ dst := some 13, op := Op.move (Operand.tmp 0), type := 52, pos := "l5_replay.go:108", after := #[], guard := none } : Oper)) (v := _) rfl (by kernel_rfl) (by kernel_rfl) (by kernel_rfl) (fun _ _ _ h => h) (Or.inl ⟨by rfl, fun x hSw => ?hyz4_1⟩) hHeld ?restz4_1
        case hyz4_1 =>
          have k0 := keepB hSw c0; have k1 := keepB hSw f0
          go_simp
          try with_reducible rfl
        try simp only [Act.put, List.setIfInBounds_toArray, List.set_cons_zero, List.set_cons_succ]
        refine' wpAnyH_take (i := 2) (oi := ({ dst := some 14, op := Op.move (Operand.tmp 5), type := 3, pos := "l5_replay.go:108", after := #[], guard := none } : Oper)) (v := _) rfl (by kernel_rfl) (by kernel_rfl) (by kernel_rfl) (fun _ _ _ h => h) (Or.inl ⟨by rfl, fun x hSw => ?hyz4_2⟩) hHeld ?restz4_2
        case hyz4_2 =>
          have k0 := keepB hSw c0; have k1 := keepB hSw f0
          go_simp
          try with_reducible rfl
        try simp only [Act.put, List.setIfInBounds_toArray, List.set_cons_zero, List.set_cons_succ]
        refine' wpAnyH_take (i := 3) (oi := ({ dst := some 15, op := Op.binOp BinOp.sub 3 (Operand.tmp 14) (Operand.const (Value.int IntKind.i64 1)) 3, type := 3, pos := "l5_replay.go:108", after := #[{ on := 2, ground := Ground.data }], guard := none } : Oper)) (v := .int .i64 (p : Int)) rfl (by kernel_rfl) (by kernel_rfl) (by kernel_rfl) (fun _ _ _ h => h) (Or.inl ⟨by rfl, fun x hSw => ?hyz4_3⟩) hHeld ?restz4_3
        case hyz4_3 =>
          have k0 := keepB hSw c0; have k1 := keepB hSw f0
          go_simp
          try with_reducible rfl
        try simp only [Act.put, List.setIfInBounds_toArray, List.set_cons_zero, List.set_cons_succ]
        refine' wpAnyH_take (i := 4) (oi := ({ dst := some 16, op := Op.indexAddr 52 (Operand.tmp 13) (Operand.tmp 15), type := 0, pos := "l5_replay.go:108", after := #[{ on := 1, ground := Ground.data }, { on := 3, ground := Ground.data }], guard := none } : Oper)) (v := .pointer (some ⟨b, off + p, none⟩)) rfl (by kernel_rfl) (by kernel_rfl) (by kernel_rfl) (fun _ _ _ h => h) (Or.inl ⟨by rfl, fun x hSw => ?hyz4_4⟩) hHeld ?restz4_4
        case hyz4_4 =>
          have k0 := keepB hSw c0; have k1 := keepB hSw f0
          go_simp
          try with_reducible rfl
        try simp only [Act.put, List.setIfInBounds_toArray, List.set_cons_zero, List.set_cons_succ]
        refine' wpAnyH_take (i := 5) (oi := ({ dst := some 17, op := Op.load 42 (Operand.tmp 16), type := 42, pos := "l5_replay.go:108", after := #[{ on := 4, ground := Ground.data }], guard := none } : Oper)) (v := _) rfl (by kernel_rfl) (by kernel_rfl) (by kernel_rfl) (fun _ _ _ h => h) (Or.inl ⟨by rfl, fun x hSw => ?hyz4_5⟩) hHeld ?restz4_5
        case hyz4_5 =>
          have k0 := keepB hSw c0; have k1 := keepB hSw f0
          go_simp
          try with_reducible rfl
        try simp only [Act.put, List.setIfInBounds_toArray, List.set_cons_zero, List.set_cons_succ]
        refine' wpAnyH_take (i := 7) (oi := ({ dst := some 19, op := Op.move (Operand.tmp 1), type := 114, pos := "l5_replay.go:108", after := #[], guard := none } : Oper)) (v := _) rfl (by kernel_rfl) (by kernel_rfl) (by kernel_rfl) (fun _ _ _ h => h) (Or.inl ⟨by rfl, fun x hSw => ?hyz4_7⟩) hHeld ?restz4_7
        case hyz4_7 =>
          have k0 := keepB hSw c0; have k1 := keepB hSw f0
          go_simp
          try with_reducible rfl
        try simp only [Act.put, List.setIfInBounds_toArray, List.set_cons_zero, List.set_cons_succ]
        refine' wpAnyH_take (i := 8) (oi := ({ dst := some 20, op := Op.move (Operand.tmp 0), type := 52, pos := "l5_replay.go:108", after := #[], guard := none } : Oper)) (v := _) rfl (by kernel_rfl) (by kernel_rfl) (by kernel_rfl) (fun _ _ _ h => h) (Or.inl ⟨by rfl, fun x hSw => ?hyz4_8⟩) hHeld ?restz4_8
        case hyz4_8 =>
          have k0 := keepB hSw c0; have k1 := keepB hSw f0
          go_simp
          try with_reducible rfl
        try simp only [Act.put, List.setIfInBounds_toArray, List.set_cons_zero, List.set_cons_succ]
        refine' wpAnyH_take (i := 9) (oi := ({ dst := some 21, op := Op.move (Operand.tmp 5), type := 3, pos := "l5_replay.go:108", after := #[], guard := none } : Oper)) (v := _) rfl (by kernel_rfl) (by kernel_rfl) (by kernel_rfl) (fun _ _ _ h => h) (Or.inl ⟨by rfl, fun x hSw => ?hyz4_9⟩) hHeld ?restz4_9
        case hyz4_9 =>
          have k0 := keepB hSw c0; have k1 := keepB hSw f0
          go_simp
          try with_reducible rfl
        try simp only [Act.put, List.setIfInBounds_toArray, List.set_cons_zero, List.set_cons_succ]
        refine' wpAnyH_take (i := 10) (oi := ({ dst := some 22, op := Op.indexAddr 52 (Operand.tmp 20) (Operand.tmp 21), type := 0, pos := "l5_replay.go:108", after := #[{ on := 8, ground := Ground.data }, { on := 9, ground := Ground.data }], guard := none } : Oper)) (v := _) rfl (by kernel_rfl) (by kernel_rfl) (by kernel_rfl) (fun _ _ _ h => h) (Or.inl ⟨by rfl, fun x hSw => ?hyz4_10⟩) hHeld ?restz4_10
        case hyz4_10 =>
          have k0 := keepB hSw c0; have k1 := keepB hSw f0
          go_simp
          try with_reducible rfl
        try simp only [Act.put, List.setIfInBounds_toArray, List.set_cons_zero, List.set_cons_succ]
        refine' wpAnyH_take (i := 11) (oi := ({ dst := some 23, op := Op.load 42 (Operand.tmp 22), type := 42, pos := "l5_replay.go:108", after := #[{ on := 10, ground := Ground.data }], guard := none } : Oper)) (v := _) rfl (by kernel_rfl) (by kernel_rfl) (by kernel_rfl) (fun _ _ _ h => h) (Or.inl ⟨by rfl, fun x hSw => ?hyz4_11⟩) hHeld ?restz4_11
        case hyz4_11 =>
          have k0 := keepB hSw c0; have k1 := keepB hSw f0
          go_simp
          try with_reducible rfl
        try simp only [Act.put, List.setIfInBounds_toArray, List.set_cons_zero, List.set_cons_succ]
        refine wpAnyH_ready (rs := [6]) (by kernel_rfl) (by simp) ?_
        refine AllReadyH.cons (o := ({ dst := some 18, op := Op.call { callee := Callee.value (Operand.tmp 12), args := #[Operand.tmp 17], argTypes := #[42] }, type := 3, pos := "l5_replay.go:108", after := #[{ on := 0, ground := Ground.data }, { on := 5, ground := Ground.data }], guard := none } : Oper)) rfl (fun K hK => ?_) AllReadyH.nil
        go_simp
        refine (iNumKey _ _ _ (R p) _ (g2.later hHeld) q2).mono ?_
        rintro e w1 ⟨rfl, rfl⟩
        refine hK.out _ _ (hHeld) (fun hHeld => ?_)
        clear hK K
        try simp only [Act.put, List.setIfInBounds_toArray, List.set_cons_zero, List.set_cons_succ]
        refine wpAnyH_ready (rs := [12]) (by kernel_rfl) (by simp) ?_
        refine AllReadyH.cons (o := ({ dst := some 24, op := Op.call { callee := Callee.value (Operand.tmp 19), args := #[Operand.tmp 23], argTypes := #[42] }, type := 3, pos := "l5_replay.go:108", after := #[{ on := 7, ground := Ground.data }, { on := 11, ground := Ground.data }, { on := 6, ground := Ground.chain }], guard := none } : Oper)) rfl (fun K hK => ?_) AllReadyH.nil
        go_simp
        refine (iNumKey _ _ _ (R (p + 1)) _ (g1.later hHeld) q1).mono ?_
        rintro e w2 ⟨rfl, rfl⟩
        refine hK.out _ _ (hHeld) (fun hHeld => ?_)
        clear hK K
        try simp only [Act.put, List.setIfInBounds_toArray, List.set_cons_zero, List.set_cons_succ]
        refine wpAnyH_ready (rs := [13]) (by kernel_rfl) (by simp) ?_
        refine AllReadyH.cons (o := ({ dst := some 25, op := Op.call { callee := Callee.value (Operand.func 112), args := #[Operand.tmp 18, Operand.tmp 24], argTypes := #[3, 3] }, type := 4, pos := "l5_replay.go:108", after := #[{ on := 6, ground := Ground.data }, { on := 12, ground := Ground.data }, { on := 12, ground := Ground.chain }], guard := none } : Oper)) rfl (fun K hK => ?_) AllReadyH.nil
        go_simp
        refine (cmpLessI (R p 0).m (R (p + 1) 0).m _).mono ?_
        rw [h7]; rintro e w3 ⟨rfl, rfl⟩
        refine hK.out _ _ (hHeld) (fun hHeld => ?_)
        clear hK K
        try simp only [Act.put, List.setIfInBounds_toArray, List.set_cons_zero, List.set_cons_succ]
        refine' wpAnyH_take (i := 14) (oi := ({ dst := some 26, op := Op.unOp UnOp.not 4 (Operand.tmp 25), type := 4, pos := "l5_replay.go:108", after := #[{ on := 13, ground := Ground.data }], guard := none } : Oper)) (v := _) rfl (by kernel_rfl) (by kernel_rfl) (by kernel_rfl) (fun _ _ _ h => h) (Or.inl ⟨by rfl, fun x hSw => ?hyz4_14⟩) hHeld ?restz4_14
        case hyz4_14 =>
          have k0 := keepB hSw c0; have k1 := keepB hSw f0
          go_simp
          try with_reducible rfl
        try simp only [Act.put, List.setIfInBounds_toArray, List.set_cons_zero, List.set_cons_succ]
        refine wpAnyH_done (by kernel_rfl) ?_ _
        go_wp2
        go_roundw
        case rel => exact ⟨p + 1, Or.inr hlt, by go_num, fun j hj => by
          by_cases e : j = p + 1
          · subst e; unfold ltR; rw [Nat.add_sub_cancel, h7]; simp
          · exact hall j (by omega), bstep hb hHeld⟩
        case measure => simp [intOf]; omega
    · go_wp2
      go_ret
      exact ⟨retB (allN_true fun j hj => hall j (by omega)).symm, hb⟩
set_option maxRecDepth 20000 in
set_option maxHeartbeats 4000000 in
theorem iSortT (a : Option Addr) (n c : Nat) (m : Nat → Nat) (R : Nat → Nat → Itm) (w : World) (h : OL w a n m R) (h0 : ∀ k, k < n → 0 < m k) (hn : n ≤ 1048576) : Calls Tryd.prog 76 #[.slice a n c, .func (.func 77) #[] #[]] w fun e w' => e = .returned (.bool (allN n (ltT R))) ∧ Below w.heap.size w w' := by
  have hb0 := Below.refl w.heap.size w
  go_enter Tryd.func76, Tryd.ntmps76
  go_wp2
  go_loopw [5] (fun i wr => ∃ p : Nat, (p = 0 ∨ p < n) ∧ i = .int .i64 (p + 1 : Nat) ∧ (∀ j, j < p + 1 → ltT R j = true) ∧ Below w.heap.size w wr) (fun i _ => n - (intOf i).toNat)
  case atStart => exact ⟨0, Or.inl rfl, rfl, fun j hj => by obtain rfl : j = 0 := by omega
                                                            rfl, hb0⟩
  case round =>
    obtain ⟨p, hk, rfl, hall, hb⟩ := hrel
    by_cases hlt : p + 1 < n
    · obtain ⟨b, off, i1, c1, rfl, c0, g1, l1⟩ := h.later hb (p + 1) hlt
      obtain ⟨b', off', i2, c2, e', f0, g2, l2⟩ := h.later hb p (by omega)
      have q1 := h0 (p + 1) hlt
      have q2 := h0 p (by omega)
      obtain ⟨rfl, rfl⟩ : b = b' ∧ off = off' := by simpa using e'
      have i0 : (0 : Int) ≤ (p : Int) := by omega
      have i1 : (p : Int) < (n : Int) := by omega
      have i3 : (0 : Int) ≤ (p : Int) + 1 := by omega
      have i4 : (p : Int) + 1 < (n : Int) := by omega
      have i2 : IntKind.i64.wrap (p : Int) = (p : Int) := by rw [IntKind.wrap_i64]; omega
      rcases h7 : Op.bytesLess (R p 0).s.toList (R (p + 1) 0).s.toList
      · go_wp2
        refine wp_region_held_drew (S := fun x => Below wr.heap.size wr x) (by kernel_rfl) (bdrew _) (fun hHeld => ?_)
        refine' wpAnyH_take (i := 0) (oi := ({ dst := some 12, op := Op.move (Operand.tmp 1), type := 116, pos := "l5_replay.go:108", after := #[], guard := none } : Oper)) (v := _) rfl (by kernel_rfl) (by kernel_rfl) (by kernel_rfl) (fun _ _ _ h => h) (Or.inl ⟨by rfl, fun x hSw => ?hyz5_0⟩) hHeld ?restz5_0
        case hyz5_0 =>
          have k0 := keepB hSw c0; have k1 := keepB hSw f0
          go_simp
          try with_reducible rfl
        try simp only [Act.put, List.setIfInBounds_toArray, List.set_cons_zero, List.set_cons_succ]
        refine' wpAnyH_take (i := 1) (oi := ({ dst := some 13, op := Op.move (Operand.tmp 0), type := 52, pos := "l5_replay.go:108", after := #[], guard := none } : Oper)) (v := _) rfl (by kernel_rfl) (by kernel_rfl) (by kernel_rfl) (fun _ _ _ h => h) (Or.inl ⟨by rfl, fun x hSw => ?hyz5_1⟩) hHeld ?restz5_1
        case hyz5_1 =>
          have k0 := keepB hSw c0; have k1 := keepB hSw f0
          go_simp
          try with_reducible rfl
        try simp only [Act.put, List.setIfInBounds_toArray, List.set_cons_zero, List.set_cons_succ]
        refine' wpAnyH_take (i := 2) (oi := ({ dst := some 14, op := Op.move (Operand.tmp 5), type := 3, pos := "l5_replay.go:108", after := #[], guard := none } : Oper)) (v := _) rfl (by kernel_rfl) (by kernel_rfl) (by kernel_rfl) (fun _ _ _ h => h) (Or.inl ⟨by rfl, fun x hSw => ?hyz5_2⟩) hHeld ?restz5_2
        case hyz5_2 =>
          have k0 := keepB hSw c0; have k1 := keepB hSw f0
          go_simp
          try with_reducible rfl
        try simp only [Act.put, List.setIfInBounds_toArray, List.set_cons_zero, List.set_cons_succ]
        refine' wpAnyH_take (i := 3) (oi := ({ dst := some 15, op := Op.binOp BinOp.sub 3 (Operand.tmp 14) (Operand.const (Value.int IntKind.i64 1)) 3, type := 3, pos := "l5_replay.go:108", after := #[{ on := 2, ground := Ground.data }], guard := none } : Oper)) (v := .int .i64 (p : Int)) rfl (by kernel_rfl) (by kernel_rfl) (by kernel_rfl) (fun _ _ _ h => h) (Or.inl ⟨by rfl, fun x hSw => ?hyz5_3⟩) hHeld ?restz5_3
        case hyz5_3 =>
          have k0 := keepB hSw c0; have k1 := keepB hSw f0
          go_simp
          try with_reducible rfl
        try simp only [Act.put, List.setIfInBounds_toArray, List.set_cons_zero, List.set_cons_succ]
        refine' wpAnyH_take (i := 4) (oi := ({ dst := some 16, op := Op.indexAddr 52 (Operand.tmp 13) (Operand.tmp 15), type := 0, pos := "l5_replay.go:108", after := #[{ on := 1, ground := Ground.data }, { on := 3, ground := Ground.data }], guard := none } : Oper)) (v := .pointer (some ⟨b, off + p, none⟩)) rfl (by kernel_rfl) (by kernel_rfl) (by kernel_rfl) (fun _ _ _ h => h) (Or.inl ⟨by rfl, fun x hSw => ?hyz5_4⟩) hHeld ?restz5_4
        case hyz5_4 =>
          have k0 := keepB hSw c0; have k1 := keepB hSw f0
          go_simp
          try with_reducible rfl
        try simp only [Act.put, List.setIfInBounds_toArray, List.set_cons_zero, List.set_cons_succ]
        refine' wpAnyH_take (i := 5) (oi := ({ dst := some 17, op := Op.load 42 (Operand.tmp 16), type := 42, pos := "l5_replay.go:108", after := #[{ on := 4, ground := Ground.data }], guard := none } : Oper)) (v := _) rfl (by kernel_rfl) (by kernel_rfl) (by kernel_rfl) (fun _ _ _ h => h) (Or.inl ⟨by rfl, fun x hSw => ?hyz5_5⟩) hHeld ?restz5_5
        case hyz5_5 =>
          have k0 := keepB hSw c0; have k1 := keepB hSw f0
          go_simp
          try with_reducible rfl
        try simp only [Act.put, List.setIfInBounds_toArray, List.set_cons_zero, List.set_cons_succ]
        refine' wpAnyH_take (i := 7) (oi := ({ dst := some 19, op := Op.move (Operand.tmp 1), type := 116, pos := "l5_replay.go:108", after := #[], guard := none } : Oper)) (v := _) rfl (by kernel_rfl) (by kernel_rfl) (by kernel_rfl) (fun _ _ _ h => h) (Or.inl ⟨by rfl, fun x hSw => ?hyz5_7⟩) hHeld ?restz5_7
        case hyz5_7 =>
          have k0 := keepB hSw c0; have k1 := keepB hSw f0
          go_simp
          try with_reducible rfl
        try simp only [Act.put, List.setIfInBounds_toArray, List.set_cons_zero, List.set_cons_succ]
        refine' wpAnyH_take (i := 8) (oi := ({ dst := some 20, op := Op.move (Operand.tmp 0), type := 52, pos := "l5_replay.go:108", after := #[], guard := none } : Oper)) (v := _) rfl (by kernel_rfl) (by kernel_rfl) (by kernel_rfl) (fun _ _ _ h => h) (Or.inl ⟨by rfl, fun x hSw => ?hyz5_8⟩) hHeld ?restz5_8
        case hyz5_8 =>
          have k0 := keepB hSw c0; have k1 := keepB hSw f0
          go_simp
          try with_reducible rfl
        try simp only [Act.put, List.setIfInBounds_toArray, List.set_cons_zero, List.set_cons_succ]
        refine' wpAnyH_take (i := 9) (oi := ({ dst := some 21, op := Op.move (Operand.tmp 5), type := 3, pos := "l5_replay.go:108", after := #[], guard := none } : Oper)) (v := _) rfl (by kernel_rfl) (by kernel_rfl) (by kernel_rfl) (fun _ _ _ h => h) (Or.inl ⟨by rfl, fun x hSw => ?hyz5_9⟩) hHeld ?restz5_9
        case hyz5_9 =>
          have k0 := keepB hSw c0; have k1 := keepB hSw f0
          go_simp
          try with_reducible rfl
        try simp only [Act.put, List.setIfInBounds_toArray, List.set_cons_zero, List.set_cons_succ]
        refine' wpAnyH_take (i := 10) (oi := ({ dst := some 22, op := Op.indexAddr 52 (Operand.tmp 20) (Operand.tmp 21), type := 0, pos := "l5_replay.go:108", after := #[{ on := 8, ground := Ground.data }, { on := 9, ground := Ground.data }], guard := none } : Oper)) (v := _) rfl (by kernel_rfl) (by kernel_rfl) (by kernel_rfl) (fun _ _ _ h => h) (Or.inl ⟨by rfl, fun x hSw => ?hyz5_10⟩) hHeld ?restz5_10
        case hyz5_10 =>
          have k0 := keepB hSw c0; have k1 := keepB hSw f0
          go_simp
          try with_reducible rfl
        try simp only [Act.put, List.setIfInBounds_toArray, List.set_cons_zero, List.set_cons_succ]
        refine' wpAnyH_take (i := 11) (oi := ({ dst := some 23, op := Op.load 42 (Operand.tmp 22), type := 42, pos := "l5_replay.go:108", after := #[{ on := 10, ground := Ground.data }], guard := none } : Oper)) (v := _) rfl (by kernel_rfl) (by kernel_rfl) (by kernel_rfl) (fun _ _ _ h => h) (Or.inl ⟨by rfl, fun x hSw => ?hyz5_11⟩) hHeld ?restz5_11
        case hyz5_11 =>
          have k0 := keepB hSw c0; have k1 := keepB hSw f0
          go_simp
          try with_reducible rfl
        try simp only [Act.put, List.setIfInBounds_toArray, List.set_cons_zero, List.set_cons_succ]
        refine wpAnyH_ready (rs := [6]) (by kernel_rfl) (by simp) ?_
        refine AllReadyH.cons (o := ({ dst := some 18, op := Op.call { callee := Callee.value (Operand.tmp 12), args := #[Operand.tmp 17], argTypes := #[42] }, type := 9, pos := "l5_replay.go:108", after := #[{ on := 0, ground := Ground.data }, { on := 5, ground := Ground.data }], guard := none } : Oper)) rfl (fun K hK => ?_) AllReadyH.nil
        go_simp
        refine (iTextKey _ _ _ (R p) _ (g2.later hHeld) q2).mono ?_
        rintro e w1 ⟨rfl, rfl⟩
        refine hK.out _ _ (hHeld) (fun hHeld => ?_)
        clear hK K
        try simp only [Act.put, List.setIfInBounds_toArray, List.set_cons_zero, List.set_cons_succ]
        refine wpAnyH_ready (rs := [12]) (by kernel_rfl) (by simp) ?_
        refine AllReadyH.cons (o := ({ dst := some 24, op := Op.call { callee := Callee.value (Operand.tmp 19), args := #[Operand.tmp 23], argTypes := #[42] }, type := 9, pos := "l5_replay.go:108", after := #[{ on := 7, ground := Ground.data }, { on := 11, ground := Ground.data }, { on := 6, ground := Ground.chain }], guard := none } : Oper)) rfl (fun K hK => ?_) AllReadyH.nil
        go_simp
        refine (iTextKey _ _ _ (R (p + 1)) _ (g1.later hHeld) q1).mono ?_
        rintro e w2 ⟨rfl, rfl⟩
        refine hK.out _ _ (hHeld) (fun hHeld => ?_)
        clear hK K
        try simp only [Act.put, List.setIfInBounds_toArray, List.set_cons_zero, List.set_cons_succ]
        refine wpAnyH_ready (rs := [13]) (by kernel_rfl) (by simp) ?_
        refine AllReadyH.cons (o := ({ dst := some 25, op := Op.call { callee := Callee.value (Operand.func 78), args := #[Operand.tmp 18, Operand.tmp 24], argTypes := #[9, 9] }, type := 4, pos := "l5_replay.go:108", after := #[{ on := 6, ground := Ground.data }, { on := 12, ground := Ground.data }, { on := 12, ground := Ground.chain }], guard := none } : Oper)) rfl (fun K hK => ?_) AllReadyH.nil
        go_simp
        refine (cmpLess (R p 0).s (R (p + 1) 0).s _).mono ?_
        rw [h7]; rintro e w3 ⟨rfl, rfl⟩
        refine hK.out _ _ (hHeld) (fun hHeld => ?_)
        clear hK K
        try simp only [Act.put, List.setIfInBounds_toArray, List.set_cons_zero, List.set_cons_succ]
        refine' wpAnyH_take (i := 14) (oi := ({ dst := some 26, op := Op.unOp UnOp.not 4 (Operand.tmp 25), type := 4, pos := "l5_replay.go:108", after := #[{ on := 13, ground := Ground.data }], guard := none } : Oper)) (v := _) rfl (by kernel_rfl) (by kernel_rfl) (by kernel_rfl) (fun _ _ _ h => h) (Or.inl ⟨by rfl, fun x hSw => ?hyz5_14⟩) hHeld ?restz5_14
        case hyz5_14 =>
          have k0 := keepB hSw c0; have k1 := keepB hSw f0
          go_simp
          try with_reducible rfl
        try simp only [Act.put, List.setIfInBounds_toArray, List.set_cons_zero, List.set_cons_succ]
        refine wpAnyH_done (by kernel_rfl) ?_ _
        go_wp2
        go_ret
        exact ⟨retB (allN_false (p := ltT R) hlt (by unfold ltT; rw [Nat.add_sub_cancel, h7]; simp)).symm, bstep hb hHeld⟩
      · go_wp2
        refine wp_region_held_drew (S := fun x => Below wr.heap.size wr x) (by kernel_rfl) (bdrew _) (fun hHeld => ?_)
        refine' wpAnyH_take (i := 0) (oi := ({ dst := some 12, op := Op.move (Operand.tmp 1), type := 116, pos := "l5_replay.go:108", after := #[], guard := none } : Oper)) (v := _) rfl (by kernel_rfl) (by kernel_rfl) (by kernel_rfl) (fun _ _ _ h => h) (Or.inl ⟨by rfl, fun x hSw => ?hyz6_0⟩) hHeld ?restz6_0
        case hyz6_0 =>
          have k0 := keepB hSw c0; have k1 := keepB hSw f0
          go_simp
          try with_reducible rfl
        try simp only [Act.put, List.setIfInBounds_toArray, List.set_cons_zero, List.set_cons_succ]
        refine' wpAnyH_take (i := 1) (oi := ({ dst := some 13, op := Op.move (Operand.tmp 0), type := 52, pos := "l5_replay.go:108", after := #[], guard := none } : Oper)) (v := _) rfl (by kernel_rfl) (by kernel_rfl) (by kernel_rfl) (fun _ _ _ h => h) (Or.inl ⟨by rfl, fun x hSw => ?hyz6_1⟩) hHeld ?restz6_1
        case hyz6_1 =>
          have k0 := keepB hSw c0; have k1 := keepB hSw f0
          go_simp
          try with_reducible rfl
        try simp only [Act.put, List.setIfInBounds_toArray, List.set_cons_zero, List.set_cons_succ]
        refine' wpAnyH_take (i := 2) (oi := ({ dst := some 14, op := Op.move (Operand.tmp 5), type := 3, pos := "l5_replay.go:108", after := #[], guard := none } : Oper)) (v := _) rfl (by kernel_rfl) (by kernel_rfl) (by kernel_rfl) (fun _ _ _ h => h) (Or.inl ⟨by rfl, fun x hSw => ?hyz6_2⟩) hHeld ?restz6_2
        case hyz6_2 =>
          have k0 := keepB hSw c0; have k1 := keepB hSw f0
          go_simp
          try with_reducible rfl
        try simp only [Act.put, List.setIfInBounds_toArray, List.set_cons_zero, List.set_cons_succ]
        refine' wpAnyH_take (i := 3) (oi := ({ dst := some 15, op := Op.binOp BinOp.sub 3 (Operand.tmp 14) (Operand.const (Value.int IntKind.i64 1)) 3, type := 3, pos := "l5_replay.go:108", after := #[{ on := 2, ground := Ground.data }], guard := none } : Oper)) (v := .int .i64 (p : Int)) rfl (by kernel_rfl) (by kernel_rfl) (by kernel_rfl) (fun _ _ _ h => h) (Or.inl ⟨by rfl, fun x hSw => ?hyz6_3⟩) hHeld ?restz6_3
        case hyz6_3 =>
          have k0 := keepB hSw c0; have k1 := keepB hSw f0
          go_simp
          try with_reducible rfl
        try simp only [Act.put, List.setIfInBounds_toArray, List.set_cons_zero, List.set_cons_succ]
        refine' wpAnyH_take (i := 4) (oi := ({ dst := some 16, op := Op.indexAddr 52 (Operand.tmp 13) (Operand.tmp 15), type := 0, pos := "l5_replay.go:108", after := #[{ on := 1, ground := Ground.data }, { on := 3, ground := Ground.data }], guard := none } : Oper)) (v := .pointer (some ⟨b, off + p, none⟩)) rfl (by kernel_rfl) (by kernel_rfl) (by kernel_rfl) (fun _ _ _ h => h) (Or.inl ⟨by rfl, fun x hSw => ?hyz6_4⟩) hHeld ?restz6_4
        case hyz6_4 =>
          have k0 := keepB hSw c0; have k1 := keepB hSw f0
          go_simp
          try with_reducible rfl
        try simp only [Act.put, List.setIfInBounds_toArray, List.set_cons_zero, List.set_cons_succ]
        refine' wpAnyH_take (i := 5) (oi := ({ dst := some 17, op := Op.load 42 (Operand.tmp 16), type := 42, pos := "l5_replay.go:108", after := #[{ on := 4, ground := Ground.data }], guard := none } : Oper)) (v := _) rfl (by kernel_rfl) (by kernel_rfl) (by kernel_rfl) (fun _ _ _ h => h) (Or.inl ⟨by rfl, fun x hSw => ?hyz6_5⟩) hHeld ?restz6_5
        case hyz6_5 =>
          have k0 := keepB hSw c0; have k1 := keepB hSw f0
          go_simp
          try with_reducible rfl
        try simp only [Act.put, List.setIfInBounds_toArray, List.set_cons_zero, List.set_cons_succ]
        refine' wpAnyH_take (i := 7) (oi := ({ dst := some 19, op := Op.move (Operand.tmp 1), type := 116, pos := "l5_replay.go:108", after := #[], guard := none } : Oper)) (v := _) rfl (by kernel_rfl) (by kernel_rfl) (by kernel_rfl) (fun _ _ _ h => h) (Or.inl ⟨by rfl, fun x hSw => ?hyz6_7⟩) hHeld ?restz6_7
        case hyz6_7 =>
          have k0 := keepB hSw c0; have k1 := keepB hSw f0
          go_simp
          try with_reducible rfl
        try simp only [Act.put, List.setIfInBounds_toArray, List.set_cons_zero, List.set_cons_succ]
        refine' wpAnyH_take (i := 8) (oi := ({ dst := some 20, op := Op.move (Operand.tmp 0), type := 52, pos := "l5_replay.go:108", after := #[], guard := none } : Oper)) (v := _) rfl (by kernel_rfl) (by kernel_rfl) (by kernel_rfl) (fun _ _ _ h => h) (Or.inl ⟨by rfl, fun x hSw => ?hyz6_8⟩) hHeld ?restz6_8
        case hyz6_8 =>
          have k0 := keepB hSw c0; have k1 := keepB hSw f0
          go_simp
          try with_reducible rfl
        try simp only [Act.put, List.setIfInBounds_toArray, List.set_cons_zero, List.set_cons_succ]
        refine' wpAnyH_take (i := 9) (oi := ({ dst := some 21, op := Op.move (Operand.tmp 5), type := 3, pos := "l5_replay.go:108", after := #[], guard := none } : Oper)) (v := _) rfl (by kernel_rfl) (by kernel_rfl) (by kernel_rfl) (fun _ _ _ h => h) (Or.inl ⟨by rfl, fun x hSw => ?hyz6_9⟩) hHeld ?restz6_9
        case hyz6_9 =>
          have k0 := keepB hSw c0; have k1 := keepB hSw f0
          go_simp
          try with_reducible rfl
        try simp only [Act.put, List.setIfInBounds_toArray, List.set_cons_zero, List.set_cons_succ]
        refine' wpAnyH_take (i := 10) (oi := ({ dst := some 22, op := Op.indexAddr 52 (Operand.tmp 20) (Operand.tmp 21), type := 0, pos := "l5_replay.go:108", after := #[{ on := 8, ground := Ground.data }, { on := 9, ground := Ground.data }], guard := none } : Oper)) (v := _) rfl (by kernel_rfl) (by kernel_rfl) (by kernel_rfl) (fun _ _ _ h => h) (Or.inl ⟨by rfl, fun x hSw => ?hyz6_10⟩) hHeld ?restz6_10
        case hyz6_10 =>
          have k0 := keepB hSw c0; have k1 := keepB hSw f0
          go_simp
          try with_reducible rfl
        try simp only [Act.put, List.setIfInBounds_toArray, List.set_cons_zero, List.set_cons_succ]
        refine' wpAnyH_take (i := 11) (oi := ({ dst := some 23, op := Op.load 42 (Operand.tmp 22), type := 42, pos := "l5_replay.go:108", after := #[{ on := 10, ground := Ground.data }], guard := none } : Oper)) (v := _) rfl (by kernel_rfl) (by kernel_rfl) (by kernel_rfl) (fun _ _ _ h => h) (Or.inl ⟨by rfl, fun x hSw => ?hyz6_11⟩) hHeld ?restz6_11
        case hyz6_11 =>
          have k0 := keepB hSw c0; have k1 := keepB hSw f0
          go_simp
          try with_reducible rfl
        try simp only [Act.put, List.setIfInBounds_toArray, List.set_cons_zero, List.set_cons_succ]
        refine wpAnyH_ready (rs := [6]) (by kernel_rfl) (by simp) ?_
        refine AllReadyH.cons (o := ({ dst := some 18, op := Op.call { callee := Callee.value (Operand.tmp 12), args := #[Operand.tmp 17], argTypes := #[42] }, type := 9, pos := "l5_replay.go:108", after := #[{ on := 0, ground := Ground.data }, { on := 5, ground := Ground.data }], guard := none } : Oper)) rfl (fun K hK => ?_) AllReadyH.nil
        go_simp
        refine (iTextKey _ _ _ (R p) _ (g2.later hHeld) q2).mono ?_
        rintro e w1 ⟨rfl, rfl⟩
        refine hK.out _ _ (hHeld) (fun hHeld => ?_)
        clear hK K
        try simp only [Act.put, List.setIfInBounds_toArray, List.set_cons_zero, List.set_cons_succ]
        refine wpAnyH_ready (rs := [12]) (by kernel_rfl) (by simp) ?_
        refine AllReadyH.cons (o := ({ dst := some 24, op := Op.call { callee := Callee.value (Operand.tmp 19), args := #[Operand.tmp 23], argTypes := #[42] }, type := 9, pos := "l5_replay.go:108", after := #[{ on := 7, ground := Ground.data }, { on := 11, ground := Ground.data }, { on := 6, ground := Ground.chain }], guard := none } : Oper)) rfl (fun K hK => ?_) AllReadyH.nil
        go_simp
        refine (iTextKey _ _ _ (R (p + 1)) _ (g1.later hHeld) q1).mono ?_
        rintro e w2 ⟨rfl, rfl⟩
        refine hK.out _ _ (hHeld) (fun hHeld => ?_)
        clear hK K
        try simp only [Act.put, List.setIfInBounds_toArray, List.set_cons_zero, List.set_cons_succ]
        refine wpAnyH_ready (rs := [13]) (by kernel_rfl) (by simp) ?_
        refine AllReadyH.cons (o := ({ dst := some 25, op := Op.call { callee := Callee.value (Operand.func 78), args := #[Operand.tmp 18, Operand.tmp 24], argTypes := #[9, 9] }, type := 4, pos := "l5_replay.go:108", after := #[{ on := 6, ground := Ground.data }, { on := 12, ground := Ground.data }, { on := 12, ground := Ground.chain }], guard := none } : Oper)) rfl (fun K hK => ?_) AllReadyH.nil
        go_simp
        refine (cmpLess (R p 0).s (R (p + 1) 0).s _).mono ?_
        rw [h7]; rintro e w3 ⟨rfl, rfl⟩
        refine hK.out _ _ (hHeld) (fun hHeld => ?_)
        clear hK K
        try simp only [Act.put, List.setIfInBounds_toArray, List.set_cons_zero, List.set_cons_succ]
        refine' wpAnyH_take (i := 14) (oi := ({ dst := some 26, op := Op.unOp UnOp.not 4 (Operand.tmp 25), type := 4, pos := "l5_replay.go:108", after := #[{ on := 13, ground := Ground.data }], guard := none } : Oper)) (v := _) rfl (by kernel_rfl) (by kernel_rfl) (by kernel_rfl) (fun _ _ _ h => h) (Or.inl ⟨by rfl, fun x hSw => ?hyz6_14⟩) hHeld ?restz6_14
        case hyz6_14 =>
          have k0 := keepB hSw c0; have k1 := keepB hSw f0
          go_simp
          try with_reducible rfl
        try simp only [Act.put, List.setIfInBounds_toArray, List.set_cons_zero, List.set_cons_succ]
        refine wpAnyH_done (by kernel_rfl) ?_ _
        go_wp2
        go_roundw
        case rel => exact ⟨p + 1, Or.inr hlt, by go_num, fun j hj => by
          by_cases e : j = p + 1
          · subst e; unfold ltT; rw [Nat.add_sub_cancel, h7]; simp
          · exact hall j (by omega), bstep hb hHeld⟩
        case measure => simp [intOf]; omega
    · go_wp2
      go_ret
      exact ⟨retB (allN_true fun j hj => hall j (by omega)).symm, hb⟩
end Go.Proofs.YtfodndnkhgijmaaDoor
