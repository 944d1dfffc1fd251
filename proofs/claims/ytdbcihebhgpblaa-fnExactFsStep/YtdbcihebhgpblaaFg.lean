/-
  The law on FsValid.
-/
import Derived.Test.YtdbcihebhgpblaaFf
import Derived.Deep.DeepCutAuto
namespace Go.Proofs.Ytdbcihebhgpblaa
open Go.RowKit
/-- A box of six cells. -/
structure B6 (V : World) (B : Nat) (v0 v1 v2 v3 v4 v5 : Value) : Prop where
  c0 : V.cell? ⟨B, 0, none⟩ = some v0
  c1 : V.cell? ⟨B, 1, none⟩ = some v1
  c2 : V.cell? ⟨B, 2, none⟩ = some v2
  c3 : V.cell? ⟨B, 3, none⟩ = some v3
  c4 : V.cell? ⟨B, 4, none⟩ = some v4
  c5 : V.cell? ⟨B, 5, none⟩ = some v5
theorem B6.later {V V' : World} {B : Nat} {v0 v1 v2 v3 v4 v5 : Value} (h : B6 V B v0 v1 v2 v3 v4 v5) (hb : Below V.heap.size V V') : B6 V' B v0 v1 v2 v3 v4 v5 := ⟨keepB hb h.c0, keepB hb h.c1, keepB hb h.c2, keepB hb h.c3, keepB hb h.c4, keepB hb h.c5⟩
theorem B6.new (w : World) (v0 v1 v2 v3 v4 v5 : Value) (t : TypeId) : B6 (w.alloc (.cells #[v0, v1, v2, v3, v4, v5] t)) w.heap.size v0 v1 v2 v3 v4 v5 :=
  have h := heap_alloc_new w (.cells #[v0, v1, v2, v3, v4, v5] t)
  ⟨cell_of_row _ _ 0 _ _ _ h, cell_of_row _ _ 1 _ _ _ h, cell_of_row _ _ 2 _ _ _ h, cell_of_row _ _ 3 _ _ _ h, cell_of_row _ _ 4 _ _ _ h, cell_of_row _ _ 5 _ _ _ h⟩
theorem neqB (b : Bool) : (b != b) = false := by cases b <;> rfl
set_option maxRecDepth 20000 in
set_option maxHeartbeats 8000000 in
theorem lawValid (a : Option Addr) (n c : Nat) (F : Nat → Fil) (x1 x2 x3 x4 : Int) (x5 : Bool) (w : World) (h : FX w a n F) :
    Calls Try.prog 5 #[.agg #[.slice a n c, .int .i64 x1, .int .i64 x2, .int .i64 x3, .int .i64 x4, .bool x5]] w fun e w' => e = .returned (.bool true) ∧ Below w.heap.size w w' := by
  have hb0 := bal w (.cells #[.slice a n c, .int .i64 x1, .int .i64 x2, .int .i64 x3, .int .i64 x4, .bool x5] 31)
  have hB0 := B6.new w (.slice a n c) (.int .i64 x1) (.int .i64 x2) (.int .i64 x3) (.int .i64 x4) (.bool x5) 31
  obtain ⟨y, hy⟩ : ∃ y, okFs n F x1 x2 x3 x4 = y := ⟨_, rfl⟩
  have hyy := neqB y
  go_enter Try.func5, Try.ntmps5
  go_upto_region 5 with (go_at_call 16; refine (szFs_any a n c F x1 x2 x3 x4 x5 _ (h.later hb0) 1048576 (by omega) (by omega)).mono ?_; rintro e w1 ⟨hb1, r, rfl, hr⟩; by_cases hr0 : (0 : Int) ≤ r)
  all_goals try (go_wp2; go_ret; exact ⟨rfl, bstep hb0 hb1⟩)
  have hS : Small n F := by have := hr hr0; unfold Small; omega
  have hn := hS.n
  have hf := h.fl
  have hB1 := hB0.later hb1
  have hc1 := bstep hb0 hb1
  have hB1' := hB1
  obtain ⟨k0, k1, k2, k3, k4, k5⟩ := hB1'
  go_upto_region 6 with (first | (go_at_call 18; refine (toFs_any a n c F x1 x2 x3 x4 x5 _ (hf.later hc1) hn).mono ?_; rintro e w2 ⟨g1, hg1, rfl, hR1, hb2⟩) | (go_at_call 17; refine (sValid _ n n F x1 x2 x3 x4 x5 _ hR1.fl hS).mono ?_; rw [hy]; rintro e w3 ⟨rfl, hb3⟩))
  have hB3 := hB1.later (bstep hb2 hb3)
  have hc3 := bstep hc1 (bstep hb2 hb3)
  have hB3' := hB3
  clear k0 k1 k2 k3 k4 k5
  obtain ⟨k0, k1, k2, k3, k4, k5⟩ := hB3'
  go_upto_region 7 with (go_at_call 18; refine (toFs_any a n c F x1 x2 x3 x4 x5 _ (hf.later hc3) hn).mono ?_; rintro e w4 ⟨g2, hg2, rfl, hR2, hb4⟩)
  have hX4 := B6.new w4 (.slice (some ⟨g2, 0, none⟩) n n) (.int .i64 x1) (.int .i64 x2) (.int .i64 x3) (.int .i64 x4) (.bool x5) 36
  have hb5 := bal w4 (.cells #[.slice (some ⟨g2, 0, none⟩) n n, .int .i64 x1, .int .i64 x2, .int .i64 x3, .int .i64 x4, .bool x5] 36)
  have hR3 := hR2.later hb5
  clear k0 k1 k2 k3 k4 k5
  have hX4' := hX4
  obtain ⟨k0, k1, k2, k3, k4, k5⟩ := hX4'
  go_upto_region 10 with (go_at_call 19; refine (iValid _ n n F x1 x2 x3 x4 x5 _ hR3.fl hS).mono ?_; rw [hy]; rintro e w6 ⟨rfl, hb6⟩)
  have hB6 := hB3.later (bstep hb4 (bstep hb5 hb6))
  have hc6 := bstep hc3 (bstep hb4 (bstep hb5 hb6))
  have hX6 := hX4.later hb6
  have hR6 := hR3.later hb6
  clear k0 k1 k2 k3 k4 k5
  refine wp_region_held_drew (S := fun x => Below w6.heap.size w6 x) (by kernel_rfl) (bdrew _) (fun hHeld => ?_)
  refine' wpAnyH_take (i := 0) (oi := ({ dst := some 22, op := Op.load 36 (Operand.tmp 5), type := 36, pos := "exact.go:1942", after := #[], guard := none } : Oper)) (v := _) rfl (by kernel_rfl) (by kernel_rfl) (by kernel_rfl) (fun _ _ _ h => h) (Or.inl ⟨by rfl, fun x hSw => ?hyz1_0⟩) hHeld ?restz1_0
  case hyz1_0 =>
    obtain ⟨m0, m1, m2, m3, m4, m5⟩ := hB6.later hSw; obtain ⟨n0, n1, n2, n3, n4, n5⟩ := hX6.later hSw
    go_simp
    try with_reducible rfl
  try simp only [Act.put, List.setIfInBounds_toArray, List.set_cons_zero, List.set_cons_succ]
  refine' wpAnyH_take (i := 1) (oi := ({ dst := some 23, op := Op.load 31 (Operand.tmp 1), type := 31, pos := "exact.go:1942", after := #[], guard := none } : Oper)) (v := _) rfl (by kernel_rfl) (by kernel_rfl) (by kernel_rfl) (fun _ _ _ h => h) (Or.inl ⟨by rfl, fun x hSw => ?hyz1_1⟩) hHeld ?restz1_1
  case hyz1_1 =>
    obtain ⟨m0, m1, m2, m3, m4, m5⟩ := hB6.later hSw; obtain ⟨n0, n1, n2, n3, n4, n5⟩ := hX6.later hSw
    go_simp
    try with_reducible rfl
  try simp only [Act.put, List.setIfInBounds_toArray, List.set_cons_zero, List.set_cons_succ]
  refine wpAnyH_ready (rs := [2]) (by kernel_rfl) (by simp) ?_
  refine AllReadyH.cons (o := ({ dst := some 24, op := Op.call { callee := Callee.value (Operand.func 18), args := #[Operand.tmp 23], argTypes := #[31] }, type := 36, pos := "exact.go:1942", after := #[{ on := 1, ground := Ground.data }], guard := none } : Oper)) rfl (fun K hK => ?_) AllReadyH.nil
  go_simp
  refine (toFs_any a n c F x1 x2 x3 x4 x5 _ (hf.later (bstep hc6 hHeld)) hn).mono ?_
  rintro e w7 ⟨g3, hg3, rfl, hR7, hb7⟩
  refine hK.out _ _ (bstep hHeld hb7) (fun hHeld => ?_)
  clear hK K
  try simp only [Act.put, List.setIfInBounds_toArray, List.set_cons_zero, List.set_cons_succ]
  refine wpAnyH_ready (rs := [3]) (by kernel_rfl) (by simp) ?_
  refine AllReadyH.cons (o := ({ dst := some 25, op := Op.call { callee := Callee.value (Operand.func 20), args := #[Operand.tmp 22, Operand.tmp 24], argTypes := #[36, 36] }, type := 4, pos := "exact.go:1942", after := #[{ on := 0, ground := Ground.data }, { on := 2, ground := Ground.data }, { on := 2, ground := Ground.chain }], guard := none } : Oper)) rfl (fun K hK => ?_) AllReadyH.nil
  go_simp
  refine (eqFs_any _ _ n n n F x1 x2 x3 x4 x5 _ (hR6.later hHeld).fl hR7.fl hn).mono ?_
  rintro e w8 ⟨rfl, hb8⟩
  refine hK.out _ _ (bstep hHeld hb8) (fun hHeld => ?_)
  clear hK K
  try simp only [Act.put, List.setIfInBounds_toArray, List.set_cons_zero, List.set_cons_succ]
  refine' wpAnyH_take (i := 4) (oi := ({ dst := some 26, op := Op.unOp UnOp.not 4 (Operand.tmp 25), type := 4, pos := "exact.go:1942", after := #[{ on := 3, ground := Ground.data }], guard := none } : Oper)) (v := _) rfl (by kernel_rfl) (by kernel_rfl) (by kernel_rfl) (fun _ _ _ h => h) (Or.inl ⟨by rfl, fun x hSw => ?hyz1_4⟩) hHeld ?restz1_4
  case hyz1_4 =>
    obtain ⟨m0, m1, m2, m3, m4, m5⟩ := hB6.later hSw; obtain ⟨n0, n1, n2, n3, n4, n5⟩ := hX6.later hSw
    go_simp
    try with_reducible rfl
  try simp only [Act.put, List.setIfInBounds_toArray, List.set_cons_zero, List.set_cons_succ]
  refine wpAnyH_done (by kernel_rfl) ?_ _
  go_wp2
  go_ret
  exact ⟨rfl, bstep hc6 hHeld⟩
end Go.Proofs.Ytdbcihebhgpblaa
