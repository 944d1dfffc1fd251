/-
  DrawCollidePath; what the law asks of a pair.
-/
import Derived.Test.YtlbackkjjhpljaaGreatDoorCf
namespace Go.Proofs.YtlbackkjjhpljaaGreatDoor
open Go.RowKit
/-- A code of cn bytes. -/
def CodeAt (w : World) (ca : Option Addr) (cn : Nat) : Prop := ∀ j, j < cn → ∃ b off v, ca = some ⟨b, off, none⟩ ∧ w.cell? ⟨b, off + j, none⟩ = some (.int .u8 v) ∧ 0 ≤ v ∧ v ≤ 255
theorem cu_new (w : World) (ca : Option Addr) (cn cc : Nat) (h : CodeAt w ca cn) (hn : cn ≤ 1048576) : Cu (w.alloc (.cells #[.slice ca cn cc, .int .i64 0, .int .i64 0] 64)) w.heap.size (w.heap.size + 1) ca cn cc 0 0 := by
  have q := B3.new w (.slice ca cn cc) (.int .i64 0) (.int .i64 0) 64
  refine ⟨q.c0, q.c1, q.c2, q.f1, q.f2, by omega, hn, by omega, fun j hj => ?_⟩
  obtain ⟨b, off, v, e, hc, h0, h1⟩ := h j hj
  have hb := World.block_lt_of_cell? _ _ hc
  exact ⟨b, off, v, e, Nat.ne_of_lt hb, Nat.lt_succ_of_lt hb, keep (below1 w _) hc, h0, h1⟩
set_option maxRecDepth 20000 in
set_option maxHeartbeats 4000000 in
theorem drawCollide_any (ca : Option Addr) (cn cc : Nat) (w : World) (h : CodeAt w ca cn) (hn : cn ≤ 1048576) :
    Calls Tryz.prog 15 #[.slice ca cn cc] w fun e w' => ∃ (k x : Int) (E : ByteArray) (L M : List ByteArray) (vL vM : Value), e = .returned (.tuple #[.int .i64 k, vL, .string E, .int .i64 x, vM]) ∧ E.size ≤ 3 ∧ 1 ≤ L.length ∧ L.length ≤ 10 ∧ (∀ T ∈ L, T.size ≤ 3) ∧ M.length ≤ 32 ∧ (∀ T ∈ M, T.size ≤ 32) ∧ LsAt w' w.heap.size vL L ∧ LsAt w' w.heap.size vM M ∧ Below w.heap.size w w' := by
  have hC := cu_new w ca cn cc h hn
  go_enter Tryz.func15, Tryz.ntmps15
  go_wp2_with (go_at_call 35; refine (drawPath_any w.heap.size (w.heap.size + 1) ca cn cc 0 0 _ hC (by omega) (by simp)).mono ?_; rintro e w1 ⟨k, x, E, L, M, vL, vM, rfl, hE, hF⟩)
  refine bodyPost_ret (by simp [results, Tryz.results15, go_sem]; rfl) rfl ?_
  have hz : (w.alloc (.cells #[.slice ca cn cc, .int .i64 0, .int .i64 0] 64)).heap.size = w.heap.size + 1 := by simp
  refine ⟨k, x, E, L, M, vL, vM, rfl, hE, hF.l1, hF.l2, hF.l3, hF.m2, hF.m3, hF.la.mono (by omega), hF.ma.mono (by omega), ?_⟩
  have hb := below1 w (.cells #[.slice ca cn cc, .int .i64 0, .int .i64 0] 64)
  have hg := hF.gr
  exact hb.trans ⟨hg.os, hg.tape, hg.output, hg.size, fun j hj => hg.block j (by omega) (fun e => by have := Option.some.inj e; omega)⟩
set_option maxRecDepth 20000 in
set_option maxHeartbeats 4000000 in
theorem hColl_yes (k : Int) (x y : ByteArray) (w : World) (hx : x.size ≤ 8388608) (hy : y.size ≤ 8388608) (hne : x ≠ y) (hd : dg k x = dg k y) :
    Calls Tryz.prog 20 #[.int .i64 k, .agg #[.bool true, .string x, .string y]] w fun e w' => e = .returned (.bool true) ∧ Below w.heap.size w w' := by
  obtain ⟨d, h1⟩ : ∃ d, dg k x = d := ⟨_, rfl⟩
  have H1 : Hid (dg k x = d) := h1
  have H2 : Hid (dg k y = d) := by show dg k y = d; rw [← hd]; exact h1
  have t : (x.toList == y.toList) = false := by rw [bytes_eq]; exact decide_eq_false hne
  have hb0 : Below w.heap.size w (World.drew (w.alloc (.cells #[.bool true, .string x, .string y] 25))) := bdrew (below1 w _) 1
  have q0 : B3 (World.drew (w.alloc (.cells #[.bool true, .string x, .string y] 25))) w.heap.size (.bool true) (.string x) (.string y) := (B3.new w (.bool true) (.string x) (.string y) 25).later (bdrew (Below.refl _ _) 1)
  clear h1 hd
  go_enter Tryz.func20, Tryz.ntmps20
  go_wp2
  refine wp_region_held_drew (S := fun w' => w'.cell? ⟨w.heap.size, 0, none⟩ = some (.bool true) ∧ w'.cell? ⟨w.heap.size, 1, none⟩ = some (.string x) ∧ w'.cell? ⟨w.heap.size, 2, none⟩ = some (.string y)) (by kernel_rfl) ⟨q0.c0, q0.c1, q0.c2⟩ (fun _ => ?_)
  refine wpAnyH_take (i := 0) (oi := ({ dst := some 5, op := Op.fieldAddr 25 (Operand.tmp 3) 0, type := 0, pos := "laws.go:368", after := #[], guard := none } : Oper)) (v := .pointer (some ⟨w.heap.size, 0, none⟩)) rfl (by kernel_rfl) (by kernel_rfl) (by kernel_rfl) (fun _ _ _ h => h) (Or.inl ⟨by rfl, fun w hSw => by go_simp⟩) ⟨q0.c0, q0.c1, q0.c2⟩ ?_
  simp only [Act.put, List.setIfInBounds_toArray, List.set_cons_zero, List.set_cons_succ]
  refine wpAnyH_take (i := 1) (oi := ({ dst := some 6, op := Op.load 4 (Operand.tmp 5), type := 4, pos := "laws.go:368", after := #[{ on := 0, ground := Ground.data }], guard := none } : Oper)) (v := .bool true) rfl (by kernel_rfl) (by kernel_rfl) (by kernel_rfl) (fun _ _ _ h => h) (Or.inl ⟨by rfl, fun w hSw => by obtain ⟨hs0, hs1, hs2⟩ := hSw; go_simp⟩) ⟨q0.c0, q0.c1, q0.c2⟩ ?_
  simp only [Act.put, List.setIfInBounds_toArray, List.set_cons_zero, List.set_cons_succ]
  refine wpAnyH_take (i := 2) (oi := ({ dst := some 7, op := Op.move (Operand.tmp 6), type := 4, pos := "laws.go:368", after := #[{ on := 1, ground := Ground.data }], guard := none } : Oper)) (v := .bool true) rfl (by kernel_rfl) (by kernel_rfl) (by kernel_rfl) (fun _ _ _ h => h) (Or.inl ⟨by rfl, fun w hSw => by go_simp⟩) ⟨q0.c0, q0.c1, q0.c2⟩ ?_
  simp only [Act.put, List.setIfInBounds_toArray, List.set_cons_zero, List.set_cons_succ]
  refine wpAnyH_take (i := 3) (oi := ({ dst := some 8, op := Op.fieldAddr 25 (Operand.tmp 3) 1, type := 0, pos := "laws.go:368", after := #[{ on := 2, ground := Ground.guard }], guard := some (2, true) } : Oper)) (v := .pointer (some ⟨w.heap.size, 1, none⟩)) rfl (by kernel_rfl) (by kernel_rfl) (by kernel_rfl) (fun _ _ _ h => h) (Or.inl ⟨by rfl, fun w hSw => by go_simp⟩) ⟨q0.c0, q0.c1, q0.c2⟩ ?_
  simp only [Act.put, List.setIfInBounds_toArray, List.set_cons_zero, List.set_cons_succ]
  refine wpAnyH_take (i := 4) (oi := ({ dst := some 9, op := Op.load 9 (Operand.tmp 8), type := 9, pos := "laws.go:368", after := #[{ on := 3, ground := Ground.data }, { on := 2, ground := Ground.guard }], guard := some (2, true) } : Oper)) (v := .string x) rfl (by kernel_rfl) (by kernel_rfl) (by kernel_rfl) (fun _ _ _ h => h) (Or.inl ⟨by rfl, fun w hSw => by obtain ⟨hs0, hs1, hs2⟩ := hSw; go_simp⟩) ⟨q0.c0, q0.c1, q0.c2⟩ ?_
  simp only [Act.put, List.setIfInBounds_toArray, List.set_cons_zero, List.set_cons_succ]
  refine wpAnyH_take (i := 5) (oi := ({ dst := some 10, op := Op.fieldAddr 25 (Operand.tmp 3) 2, type := 0, pos := "laws.go:368", after := #[{ on := 2, ground := Ground.guard }], guard := some (2, true) } : Oper)) (v := .pointer (some ⟨w.heap.size, 2, none⟩)) rfl (by kernel_rfl) (by kernel_rfl) (by kernel_rfl) (fun _ _ _ h => h) (Or.inl ⟨by rfl, fun w hSw => by go_simp⟩) ⟨q0.c0, q0.c1, q0.c2⟩ ?_
  simp only [Act.put, List.setIfInBounds_toArray, List.set_cons_zero, List.set_cons_succ]
  refine wpAnyH_take (i := 6) (oi := ({ dst := some 11, op := Op.load 9 (Operand.tmp 10), type := 9, pos := "laws.go:368", after := #[{ on := 5, ground := Ground.data }, { on := 2, ground := Ground.guard }], guard := some (2, true) } : Oper)) (v := .string y) rfl (by kernel_rfl) (by kernel_rfl) (by kernel_rfl) (fun _ _ _ h => h) (Or.inl ⟨by rfl, fun w hSw => by obtain ⟨hs0, hs1, hs2⟩ := hSw; go_simp⟩) ⟨q0.c0, q0.c1, q0.c2⟩ ?_
  simp only [Act.put, List.setIfInBounds_toArray, List.set_cons_zero, List.set_cons_succ]
  refine wpAnyH_take (i := 7) (oi := ({ dst := some 12, op := Op.binOp BinOp.neq 9 (Operand.tmp 9) (Operand.tmp 11) 9, type := 4, pos := "laws.go:368", after := #[{ on := 4, ground := Ground.data }, { on := 6, ground := Ground.data }, { on := 2, ground := Ground.guard }], guard := some (2, true) } : Oper)) (v := .bool true) rfl (by kernel_rfl) (by kernel_rfl) (by kernel_rfl) (fun _ _ _ h => h) (Or.inl ⟨by rfl, fun w hSw => by go_simp⟩) ⟨q0.c0, q0.c1, q0.c2⟩ ?_
  simp only [Act.put, List.setIfInBounds_toArray, List.set_cons_zero, List.set_cons_succ]
  refine wpAnyH_take (i := 8) (oi := ({ dst := some 13, op := Op.pick (Operand.tmp 7) (Operand.tmp 12) (Operand.const (Value.bool false)), type := 4, pos := "laws.go:368", after := #[{ on := 2, ground := Ground.data }, { on := 7, ground := Ground.data }], guard := none } : Oper)) (v := .bool true) rfl (by kernel_rfl) (by kernel_rfl) (by kernel_rfl) (fun _ _ _ h => h) (Or.inl ⟨by rfl, fun w hSw => by go_simp⟩) ⟨q0.c0, q0.c1, q0.c2⟩ ?_
  simp only [Act.put, List.setIfInBounds_toArray, List.set_cons_zero, List.set_cons_succ]
  refine wpAnyH_take (i := 9) (oi := ({ dst := some 14, op := Op.move (Operand.tmp 13), type := 4, pos := "laws.go:368", after := #[{ on := 8, ground := Ground.data }, { on := 2, ground := Ground.chain }], guard := none } : Oper)) (v := .bool true) rfl (by kernel_rfl) (by kernel_rfl) (by kernel_rfl) (fun _ _ _ h => h) (Or.inl ⟨by rfl, fun w hSw => by go_simp⟩) ⟨q0.c0, q0.c1, q0.c2⟩ ?_
  simp only [Act.put, List.setIfInBounds_toArray, List.set_cons_zero, List.set_cons_succ]
  refine wpAnyH_take (i := 10) (oi := ({ dst := some 15, op := Op.move (Operand.tmp 0), type := 3, pos := "laws.go:368", after := #[{ on := 9, ground := Ground.guard }], guard := some (9, true) } : Oper)) (v := .int .i64 k) rfl (by kernel_rfl) (by kernel_rfl) (by kernel_rfl) (fun _ _ _ h => h) (Or.inl ⟨by rfl, fun w hSw => by go_simp⟩) ⟨q0.c0, q0.c1, q0.c2⟩ ?_
  simp only [Act.put, List.setIfInBounds_toArray, List.set_cons_zero, List.set_cons_succ]
  refine wpAnyH_take (i := 11) (oi := ({ dst := some 16, op := Op.fieldAddr 25 (Operand.tmp 3) 1, type := 0, pos := "laws.go:368", after := #[{ on := 9, ground := Ground.guard }], guard := some (9, true) } : Oper)) (v := .pointer (some ⟨w.heap.size, 1, none⟩)) rfl (by kernel_rfl) (by kernel_rfl) (by kernel_rfl) (fun _ _ _ h => h) (Or.inl ⟨by rfl, fun w hSw => by go_simp⟩) ⟨q0.c0, q0.c1, q0.c2⟩ ?_
  simp only [Act.put, List.setIfInBounds_toArray, List.set_cons_zero, List.set_cons_succ]
  refine wpAnyH_take (i := 12) (oi := ({ dst := some 17, op := Op.load 9 (Operand.tmp 16), type := 9, pos := "laws.go:368", after := #[{ on := 11, ground := Ground.data }, { on := 9, ground := Ground.guard }], guard := some (9, true) } : Oper)) (v := .string x) rfl (by kernel_rfl) (by kernel_rfl) (by kernel_rfl) (fun _ _ _ h => h) (Or.inl ⟨by rfl, fun w hSw => by obtain ⟨hs0, hs1, hs2⟩ := hSw; go_simp⟩) ⟨q0.c0, q0.c1, q0.c2⟩ ?_
  simp only [Act.put, List.setIfInBounds_toArray, List.set_cons_zero, List.set_cons_succ]
  refine wpAnyH_take (i := 14) (oi := ({ dst := some 19, op := Op.move (Operand.tmp 0), type := 3, pos := "laws.go:368", after := #[{ on := 9, ground := Ground.guard }], guard := some (9, true) } : Oper)) (v := .int .i64 k) rfl (by kernel_rfl) (by kernel_rfl) (by kernel_rfl) (fun _ _ _ h => h) (Or.inl ⟨by rfl, fun w hSw => by go_simp⟩) ⟨q0.c0, q0.c1, q0.c2⟩ ?_
  simp only [Act.put, List.setIfInBounds_toArray, List.set_cons_zero, List.set_cons_succ]
  refine wpAnyH_take (i := 15) (oi := ({ dst := some 20, op := Op.fieldAddr 25 (Operand.tmp 3) 2, type := 0, pos := "laws.go:368", after := #[{ on := 9, ground := Ground.guard }], guard := some (9, true) } : Oper)) (v := .pointer (some ⟨w.heap.size, 2, none⟩)) rfl (by kernel_rfl) (by kernel_rfl) (by kernel_rfl) (fun _ _ _ h => h) (Or.inl ⟨by rfl, fun w hSw => by go_simp⟩) ⟨q0.c0, q0.c1, q0.c2⟩ ?_
  simp only [Act.put, List.setIfInBounds_toArray, List.set_cons_zero, List.set_cons_succ]
  refine wpAnyH_take (i := 16) (oi := ({ dst := some 21, op := Op.load 9 (Operand.tmp 20), type := 9, pos := "laws.go:368", after := #[{ on := 15, ground := Ground.data }, { on := 9, ground := Ground.guard }], guard := some (9, true) } : Oper)) (v := .string y) rfl (by kernel_rfl) (by kernel_rfl) (by kernel_rfl) (fun _ _ _ h => h) (Or.inl ⟨by rfl, fun w hSw => by obtain ⟨hs0, hs1, hs2⟩ := hSw; go_simp⟩) ⟨q0.c0, q0.c1, q0.c2⟩ ?_
  simp only [Act.put, List.setIfInBounds_toArray, List.set_cons_zero, List.set_cons_succ]
  refine wpAnyH_ready (rs := [13]) (by kernel_rfl) (by simp) ?_
  refine AllReadyH.cons (o := ({ dst := some 18, op := Op.call { callee := Callee.value (Operand.func 36), args := #[Operand.tmp 15, Operand.tmp 17], argTypes := #[3, 9] }, type := 9, pos := "laws.go:368", after := #[{ on := 10, ground := Ground.data }, { on := 12, ground := Ground.data }, { on := 9, ground := Ground.chain }, { on := 9, ground := Ground.guard }], guard := some (9, true) } : Oper)) rfl (fun K hK => ?_) AllReadyH.nil
  go_simp
  refine (specDg_any k x _ hx d H1.out).mono ?_
  rintro e w1 ⟨rfl, hb1⟩
  refine hK.out _ _ ⟨keep hb1 q0.c0, keep hb1 q0.c1, keep hb1 q0.c2⟩ (fun _ => ?_)
  clear hK K
  have q1 := q0.later hb1
  refine wpAnyH_ready (rs := [17]) (by kernel_rfl) (by simp) ?_
  refine AllReadyH.cons (o := ({ dst := some 22, op := Op.call { callee := Callee.value (Operand.func 36), args := #[Operand.tmp 19, Operand.tmp 21], argTypes := #[3, 9] }, type := 9, pos := "laws.go:368", after := #[{ on := 14, ground := Ground.data }, { on := 16, ground := Ground.data }, { on := 13, ground := Ground.chain }, { on := 9, ground := Ground.guard }], guard := some (9, true) } : Oper)) rfl (fun K hK => ?_) AllReadyH.nil
  go_simp
  refine (specDg_any k y _ hy d H2.out).mono ?_
  rintro e w2 ⟨rfl, hb2⟩
  refine hK.out _ _ ⟨keep hb2 q1.c0, keep hb2 q1.c1, keep hb2 q1.c2⟩ (fun _ => ?_)
  clear hK K
  have q2 := q1.later hb2
  refine wpAnyH_take (i := 18) (oi := ({ dst := some 23, op := Op.binOp BinOp.eql 9 (Operand.tmp 18) (Operand.tmp 22) 9, type := 4, pos := "laws.go:368", after := #[{ on := 13, ground := Ground.data }, { on := 17, ground := Ground.data }, { on := 9, ground := Ground.guard }], guard := some (9, true) } : Oper)) (v := .bool true) rfl (by kernel_rfl) (by kernel_rfl) (by kernel_rfl) (fun _ _ _ h => h) (Or.inl ⟨by rfl, fun w hSw => by go_simp⟩) ⟨q2.c0, q2.c1, q2.c2⟩ ?_
  simp only [Act.put, List.setIfInBounds_toArray, List.set_cons_zero, List.set_cons_succ]
  refine wpAnyH_take (i := 19) (oi := ({ dst := some 24, op := Op.pick (Operand.tmp 14) (Operand.tmp 23) (Operand.const (Value.bool false)), type := 4, pos := "laws.go:368", after := #[{ on := 9, ground := Ground.data }, { on := 18, ground := Ground.data }], guard := none } : Oper)) (v := .bool true) rfl (by kernel_rfl) (by kernel_rfl) (by kernel_rfl) (fun _ _ _ h => h) (Or.inl ⟨by rfl, fun w hSw => by go_simp⟩) ⟨q2.c0, q2.c1, q2.c2⟩ ?_
  simp only [Act.put, List.setIfInBounds_toArray, List.set_cons_zero, List.set_cons_succ]
  refine wpAnyH_ready (rs := [20]) (by kernel_rfl) (by simp) ?_
  refine AllReadyH.cons (o := ({ dst := some 4, op := Op.assign (Operand.tmp 24), type := 4, pos := "laws.go:368", after := #[{ on := 19, ground := Ground.data }, { on := 17, ground := Ground.chain }, { on := 0, ground := Ground.phase }, { on := 1, ground := Ground.phase }, { on := 2, ground := Ground.phase }, { on := 3, ground := Ground.phase }, { on := 4, ground := Ground.phase }, { on := 5, ground := Ground.phase }, { on := 6, ground := Ground.phase }, { on := 7, ground := Ground.phase }, { on := 8, ground := Ground.phase }, { on := 9, ground := Ground.phase }, { on := 10, ground := Ground.phase }, { on := 11, ground := Ground.phase }, { on := 12, ground := Ground.phase }, { on := 13, ground := Ground.phase }, { on := 14, ground := Ground.phase }, { on := 15, ground := Ground.phase }, { on := 16, ground := Ground.phase }, { on := 17, ground := Ground.phase }, { on := 18, ground := Ground.phase }, { on := 19, ground := Ground.phase }], guard := none } : Oper)) rfl (fun K hK => ?_) AllReadyH.nil
  go_simp
  refine hK.out _ _ ⟨q2.c0, q2.c1, q2.c2⟩ (fun _ => ?_)
  clear hK K
  refine wpAnyH_done (by kernel_rfl) ?_ _
  go_wp2
  go_ret
  exact ⟨rfl, (hb0.trans (hb1.mono hb0.size)).trans (hb2.mono (Nat.le_trans hb0.size hb1.size))⟩
end Go.Proofs.YtlbackkjjhpljaaGreatDoor
