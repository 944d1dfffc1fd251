/-
  The program's collision: the pair that an error carries, if its digests are the same.
-/
import Derived.Test.YtlbackkjjhpljaaGreatDoorEa
import Derived.Test.YtlbackkjjhpljaaGreatDoorSa
import Derived.Test.YtlbackkjjhpljaaGreatDoorIr
import Derived.RegionCalls
namespace Go.Proofs.YtlbackkjjhpljaaGreatDoor
open Go.RowKit
/-- What is held in a region may be turned for more. -/
theorem wpAnyH_turn {P : Program} {ops : Array Oper} {Q : Exit → Act → World → Prop} {md : Region.Mode} {S S' : World → Prop} (hS : ∀ w, S' w → S w) : ∀ (fuel : Nat) (listed : Array Bool) (a : Act) (w : World), wpAnyH P md ops Q S' fuel listed a w → wpAnyH P md ops Q S fuel listed a w
  | 0, _, _, _, h => h
  | fuel + 1, _, _, _, h => ⟨h.1, fun i hi => wpOp_mono (fun a' w' h' => ⟨hS _ h'.1, wpAnyH_turn hS fuel _ a' w' h'.2⟩) (h.2 i hi)⟩
theorem B3.far {w : World} {g : Nat} {x y z : Value} (h : B3 w g x y z) (p : Addr) (hp : p.block ≠ g) (v : Value) : B3 (w.setCell p v) g x y z :=
  ⟨(World.cell?_setCell_far _ _ _ _ hp).trans h.c0, (World.cell?_setCell_far _ _ _ _ hp).trans h.c1, (World.cell?_setCell_far _ _ _ _ hp).trans h.c2, by simpa using h.f0, by simpa using h.f1, by simpa using h.f2⟩
/-- errors.errorType, as the program's text lays it. -/
def ErrAt (w : World) : Prop := w.cell? ⟨0, 0, none⟩ = some (.iface 149 (.agg #[.pointer (some ⟨3, 51, none⟩)]))
theorem ErrAt.later {w w' : World} (h : ErrAt w) (hb : Below w.heap.size w w') : ErrAt w' := keep hb h
set_option maxRecDepth 20000 in
set_option maxHeartbeats 4000000 in
theorem collision_nil (k : Int) (w : World) :
    Calls Tryz.prog 29 #[.int .i64 k, .nilIface] w fun e w' => e = .returned (.agg #[.bool false, .string ⟨#[]⟩, .string ⟨#[]⟩]) ∧ Below w.heap.size w w' := by
  have hb0 := below1 w (.cells #[.bool false, .string (⟨#[]⟩ : ByteArray), .string ⟨#[]⟩] 25)
  have q0 := B3.new w (.bool false) (.string (⟨#[]⟩ : ByteArray)) (.string ⟨#[]⟩) 25
  have hb1 := below1 (w.alloc (.cells #[.bool false, .string (⟨#[]⟩ : ByteArray), .string ⟨#[]⟩] 25)) (.cells #[.string (⟨#[]⟩ : ByteArray), .string ⟨#[]⟩] 87)
  have q1 := q0.later hb1
  obtain ⟨c0, c1, c2, f0, f1, f2⟩ := id q1
  go_enter Tryz.func29, Tryz.ntmps29
  go_wp2
  go_quiet ((go_at_call 60; exact Calls.quiet_of_same (as_nil _ _)))
  go_wp2
  obtain ⟨r0, r1, r2⟩ := triple_set (World.drewN ((w.alloc (.cells #[.bool false, .string (⟨#[]⟩ : ByteArray), .string ⟨#[]⟩] 25)).alloc (.cells #[.string (⟨#[]⟩ : ByteArray), .string ⟨#[]⟩] 87)) nq) _ _ _ _ (.bool false) (.string (⟨#[]⟩ : ByteArray)) (.string ⟨#[]⟩) (q1.later (bdrew (Below.refl _ _) nq))
  exact bodyPost_ret (v := .agg #[.bool false, .string ⟨#[]⟩, .string ⟨#[]⟩]) (by simp [results, Tryz.results29, go_sem, r0, r1, r2]) rfl ⟨rfl, below3s (bdrew (hb0.trans (hb1.mono hb0.size)) nq) (Nat.le_refl _) _ _ _⟩
set_option maxRecDepth 20000 in
set_option maxHeartbeats 4000000 in
theorem collision_some (k : Int) (x y : ByteArray) (w : World) (hx : x.size ≤ 8388608) (hy : y.size ≤ 8388608) (hK : KeysAt w) (hE : ErrAt w) (p : Pr) (hp : cand k x y = p) :
    Calls Tryz.prog 29 #[.int .i64 k, .iface 87 (.agg #[.string x, .string y])] w fun e w' => e = .returned (.agg #[.bool p.f, .string p.x, .string p.y]) ∧ Below w.heap.size w w' := by
  obtain ⟨d1, h1⟩ : ∃ d, dg k x = d := ⟨_, rfl⟩
  obtain ⟨d2, h2⟩ : ∃ d, dg k y = d := ⟨_, rfl⟩
  have H1 : Hid (dg k x = d1) := h1
  have H2 : Hid (dg k y = d2) := h2
  have HK : Hid (KeysAt w) := hK
  unfold cand at hp
  rw [h1, h2] at hp
  have hb0 := below1 w (.cells #[.bool false, .string (⟨#[]⟩ : ByteArray), .string ⟨#[]⟩] 25)
  have hb1 := below1 (w.alloc (.cells #[.bool false, .string (⟨#[]⟩ : ByteArray), .string ⟨#[]⟩] 25)) (.cells #[.string (⟨#[]⟩ : ByteArray), .string ⟨#[]⟩] 87)
  have hbb : Below w.heap.size w (World.drew ((w.alloc (.cells #[.bool false, .string (⟨#[]⟩ : ByteArray), .string ⟨#[]⟩] 25)).alloc (.cells #[.string (⟨#[]⟩ : ByteArray), .string ⟨#[]⟩] 87))) := bdrew (hb0.trans (hb1.mono hb0.size)) 1
  have q1 : B3 (World.drew ((w.alloc (.cells #[.bool false, .string (⟨#[]⟩ : ByteArray), .string ⟨#[]⟩] 25)).alloc (.cells #[.string (⟨#[]⟩ : ByteArray), .string ⟨#[]⟩] 87))) w.heap.size (.bool false) (.string ⟨#[]⟩) (.string ⟨#[]⟩) := (B3.new w (.bool false) (.string (⟨#[]⟩ : ByteArray)) (.string ⟨#[]⟩) 25).later (bdrew hb1 1)
  have hE1 := hE.later hbb
  unfold ErrAt at hE1
  have t0 : World.cell? (World.drew ((w.alloc (.cells #[.bool false, .string (⟨#[]⟩ : ByteArray), .string ⟨#[]⟩] 25)).alloc (.cells #[.string (⟨#[]⟩ : ByteArray), .string ⟨#[]⟩] 87))) ⟨w.heap.size + 1, 0, none⟩ = some (.string ⟨#[]⟩) := by simp
  have t1 : World.cell? (World.drew ((w.alloc (.cells #[.bool false, .string (⟨#[]⟩ : ByteArray), .string ⟨#[]⟩] 25)).alloc (.cells #[.string (⟨#[]⟩ : ByteArray), .string ⟨#[]⟩] 87))) ⟨w.heap.size + 1, 1, none⟩ = some (.string ⟨#[]⟩) := by simp
  have g0 : World.frozen? (World.drew ((w.alloc (.cells #[.bool false, .string (⟨#[]⟩ : ByteArray), .string ⟨#[]⟩] 25)).alloc (.cells #[.string (⟨#[]⟩ : ByteArray), .string ⟨#[]⟩] 87))) ⟨w.heap.size + 1, 0, none⟩ = false := by simp
  have g1 : World.frozen? (World.drew ((w.alloc (.cells #[.bool false, .string (⟨#[]⟩ : ByteArray), .string ⟨#[]⟩] 25)).alloc (.cells #[.string (⟨#[]⟩ : ByteArray), .string ⟨#[]⟩] 87))) ⟨w.heap.size + 1, 1, none⟩ = false := by simp
  clear h1 h2 hK hE hb0 hb1
  by_cases e : d1 = d2
  · have t : (d1.toList == d2.toList) = true := by rw [bytes_eq]; exact decide_eq_true e
    rw [if_pos e] at hp
    subst hp
    clear e
    go_enter Tryz.func29, Tryz.ntmps29
    go_wp2
    refine wp_region_held_drew (S := fun _ => True) (by kernel_rfl) trivial (fun _ => ?_)
    refine wpAnyH_take (i := 0) (oi := ({ dst := some 6, op := Op.move (Operand.tmp 1), type := 51, pos := "l3_verify.go:205", after := #[], guard := none } : Oper)) (v := .iface 87 (.agg #[.string x, .string y])) rfl (by kernel_rfl) (by kernel_rfl) (by kernel_rfl) (fun _ _ _ h => h) (Or.inl ⟨by rfl, fun w hSw => by go_simp⟩) trivial ?_
    simp only [Act.put, List.setIfInBounds_toArray, List.set_cons_zero, List.set_cons_succ]
    refine wpAnyH_take (i := 1) (oi := ({ dst := some 7, op := Op.makeInterface 89 (Operand.tmp 5), type := 20, pos := "l3_verify.go:205", after := #[], guard := none } : Oper)) (v := .iface 89 (.pointer (some ⟨w.heap.size + 1, 0, none⟩))) rfl (by kernel_rfl) (by kernel_rfl) (by kernel_rfl) (fun _ _ _ h => h) (Or.inl ⟨by rfl, fun w hSw => by go_simp⟩) trivial ?_
    simp only [Act.put, List.setIfInBounds_toArray, List.set_cons_zero, List.set_cons_succ]
    refine wpAnyH_ready (rs := [2]) (by kernel_rfl) (by simp) ?_
    refine AllReadyH.cons (o := ({ dst := some 8, op := Op.call { callee := Callee.value (Operand.func 60), args := #[Operand.tmp 6, Operand.tmp 7], argTypes := #[51, 20] }, type := 4, pos := "l3_verify.go:205", after := #[{ on := 0, ground := Ground.data }, { on := 1, ground := Ground.data }], guard := none } : Oper)) rfl (fun K hK => ?_) AllReadyH.nil
    go_simp
    refine (as_hit x y (w.heap.size + 1) (.string ⟨#[]⟩) (.string ⟨#[]⟩) _ hE1 t0 t1 g0 g1).mono ?_
    rintro e w2 ⟨rfl, W, hbW, hw2⟩
    refine hK.out _ _ trivial (fun _ => ?_)
    clear hK K
    have hbW' : Below w.heap.size w W := hbb.trans (hbW.mono hbb.size)
    obtain ⟨e0, e1⟩ := pair_set W (w.heap.size + 1) _ _ (.string x) (.string y) (keep hbW t0) (keep hbW t1)
    have hb2 : Below w.heap.size w w2 := by rw [hw2]; exact (hbW'.setCell (by show w.heap.size ≤ w.heap.size + 1; omega) _).setCell (by show w.heap.size ≤ w.heap.size + 1; omega) _
    have q2 : B3 w2 w.heap.size (.bool false) (.string ⟨#[]⟩) (.string ⟨#[]⟩) := by rw [hw2]; exact ((q1.later hbW).far _ (by show w.heap.size + 1 ≠ w.heap.size; omega) _).far _ (by show w.heap.size + 1 ≠ w.heap.size; omega) _
    rw [← hw2] at e0 e1
    have hK2 := keys_later HK.out hb2
    clear hw2 hbW hbW' t0 t1 g0 g1 hE1 q1 hbb
    refine wpAnyH_take (i := 3) (oi := ({ dst := some 9, op := Op.unOp UnOp.not 4 (Operand.tmp 8), type := 4, pos := "l3_verify.go:205", after := #[{ on := 2, ground := Ground.data }], guard := none } : Oper)) (v := .bool false) rfl (by kernel_rfl) (by kernel_rfl) (by kernel_rfl) (fun _ _ _ h => h) (Or.inl ⟨by rfl, fun w hSw => by go_simp⟩) trivial ?_
    simp only [Act.put, List.setIfInBounds_toArray, List.set_cons_zero, List.set_cons_succ]
    refine wpAnyH_take (i := 4) (oi := ({ dst := some 10, op := Op.move (Operand.tmp 9), type := 4, pos := "l3_verify.go:205", after := #[{ on := 3, ground := Ground.data }, { on := 2, ground := Ground.chain }], guard := none } : Oper)) (v := .bool false) rfl (by kernel_rfl) (by kernel_rfl) (by kernel_rfl) (fun _ _ _ h => h) (Or.inl ⟨by rfl, fun w hSw => by go_simp⟩) trivial ?_
    simp only [Act.put, List.setIfInBounds_toArray, List.set_cons_zero, List.set_cons_succ]
    refine wpAnyH_take (i := 5) (oi := ({ dst := some 11, op := Op.move (Operand.tmp 0), type := 3, pos := "l3_verify.go:205", after := #[{ on := 4, ground := Ground.guard }], guard := some (4, false) } : Oper)) (v := .int .i64 k) rfl (by kernel_rfl) (by kernel_rfl) (by kernel_rfl) (fun _ _ _ h => h) (Or.inl ⟨by rfl, fun w hSw => by go_simp⟩) trivial ?_
    simp only [Act.put, List.setIfInBounds_toArray, List.set_cons_zero, List.set_cons_succ]
    refine wpAnyH_take (i := 6) (oi := ({ dst := some 12, op := Op.fieldAddr 87 (Operand.tmp 5) 0, type := 0, pos := "l3_verify.go:205", after := #[{ on := 4, ground := Ground.guard }], guard := some (4, false) } : Oper)) (v := .pointer (some ⟨w.heap.size + 1, 0, none⟩)) rfl (by kernel_rfl) (by kernel_rfl) (by kernel_rfl) (fun _ _ _ h => h) (Or.inl ⟨by rfl, fun w hSw => by go_simp⟩) trivial ?_
    simp only [Act.put, List.setIfInBounds_toArray, List.set_cons_zero, List.set_cons_succ]
    refine wpAnyH_take (i := 9) (oi := ({ dst := some 15, op := Op.move (Operand.tmp 0), type := 3, pos := "l3_verify.go:205", after := #[{ on := 4, ground := Ground.guard }], guard := some (4, false) } : Oper)) (v := .int .i64 k) rfl (by kernel_rfl) (by kernel_rfl) (by kernel_rfl) (fun _ _ _ h => h) (Or.inl ⟨by rfl, fun w hSw => by go_simp⟩) trivial ?_
    simp only [Act.put, List.setIfInBounds_toArray, List.set_cons_zero, List.set_cons_succ]
    refine wpAnyH_take (i := 10) (oi := ({ dst := some 16, op := Op.fieldAddr 87 (Operand.tmp 5) 1, type := 0, pos := "l3_verify.go:205", after := #[{ on := 4, ground := Ground.guard }], guard := some (4, false) } : Oper)) (v := .pointer (some ⟨w.heap.size + 1, 1, none⟩)) rfl (by kernel_rfl) (by kernel_rfl) (by kernel_rfl) (fun _ _ _ h => h) (Or.inl ⟨by rfl, fun w hSw => by go_simp⟩) trivial ?_
    simp only [Act.put, List.setIfInBounds_toArray, List.set_cons_zero, List.set_cons_succ]
    refine wpAnyH_turn (S' := fun w' => w'.cell? ⟨w.heap.size + 1, 0, none⟩ = some (.string x) ∧ w'.cell? ⟨w.heap.size + 1, 1, none⟩ = some (.string y)) (fun _ _ => trivial) _ _ _ _ ?_
    refine wpAnyH_take (i := 7) (oi := ({ dst := some 13, op := Op.load 9 (Operand.tmp 12), type := 9, pos := "l3_verify.go:205", after := #[{ on := 6, ground := Ground.data }, { on := 4, ground := Ground.guard }], guard := some (4, false) } : Oper)) (v := .string x) rfl (by kernel_rfl) (by kernel_rfl) (by kernel_rfl) (fun _ _ _ h => h) (Or.inl ⟨by rfl, fun w hSw => by obtain ⟨hs0, hs1⟩ := hSw; go_simp⟩) ⟨e0, e1⟩ ?_
    simp only [Act.put, List.setIfInBounds_toArray, List.set_cons_zero, List.set_cons_succ]
    refine wpAnyH_take (i := 11) (oi := ({ dst := some 17, op := Op.load 9 (Operand.tmp 16), type := 9, pos := "l3_verify.go:205", after := #[{ on := 10, ground := Ground.data }, { on := 4, ground := Ground.guard }], guard := some (4, false) } : Oper)) (v := .string y) rfl (by kernel_rfl) (by kernel_rfl) (by kernel_rfl) (fun _ _ _ h => h) (Or.inl ⟨by rfl, fun w hSw => by obtain ⟨hs0, hs1⟩ := hSw; go_simp⟩) ⟨e0, e1⟩ ?_
    simp only [Act.put, List.setIfInBounds_toArray, List.set_cons_zero, List.set_cons_succ]
    refine wpAnyH_ready (rs := [8]) (by kernel_rfl) (by simp) ?_
    refine AllReadyH.cons (o := ({ dst := some 14, op := Op.call { callee := Callee.value (Operand.func 42), args := #[Operand.tmp 11, Operand.tmp 13], argTypes := #[3, 9] }, type := 9, pos := "l3_verify.go:205", after := #[{ on := 5, ground := Ground.data }, { on := 7, ground := Ground.data }, { on := 4, ground := Ground.chain }, { on := 4, ground := Ground.guard }], guard := some (4, false) } : Oper)) rfl (fun K hK => ?_) AllReadyH.nil
    go_simp
    refine (implDg_any k x _ hK2 hx d1 H1.out).mono ?_
    rintro e w3 ⟨rfl, hb3⟩
    refine hK.out _ _ ⟨keep hb3 e0, keep hb3 e1⟩ (fun _ => ?_)
    clear hK K
    have e2 := keep hb3 e0
    have e3 := keep hb3 e1
    refine wpAnyH_ready (rs := [12]) (by kernel_rfl) (by simp) ?_
    refine AllReadyH.cons (o := ({ dst := some 18, op := Op.call { callee := Callee.value (Operand.func 42), args := #[Operand.tmp 15, Operand.tmp 17], argTypes := #[3, 9] }, type := 9, pos := "l3_verify.go:205", after := #[{ on := 9, ground := Ground.data }, { on := 11, ground := Ground.data }, { on := 8, ground := Ground.chain }, { on := 4, ground := Ground.guard }], guard := some (4, false) } : Oper)) rfl (fun K hK => ?_) AllReadyH.nil
    go_simp
    refine (implDg_any k y _ (keys_later hK2 hb3) hy d2 H2.out).mono ?_
    rintro e w4 ⟨rfl, hb4⟩
    refine hK.out _ _ ⟨keep hb4 e2, keep hb4 e3⟩ (fun _ => ?_)
    clear hK K
    have e4 := keep hb4 e2
    have e5 := keep hb4 e3
    have q4 := (q2.later hb3).later hb4
    obtain ⟨c0, c1, c2, f0, f1, f2⟩ := id q4
    have hb5 : Below w.heap.size w w4 := (hb2.trans (hb3.mono hb2.size)).trans (hb4.mono (Nat.le_trans hb2.size hb3.size))
    refine wpAnyH_take (i := 13) (oi := ({ dst := some 19, op := Op.binOp BinOp.neq 9 (Operand.tmp 14) (Operand.tmp 18) 9, type := 4, pos := "l3_verify.go:205", after := #[{ on := 8, ground := Ground.data }, { on := 12, ground := Ground.data }, { on := 4, ground := Ground.guard }], guard := some (4, false) } : Oper)) (v := .bool false) rfl (by kernel_rfl) (by kernel_rfl) (by kernel_rfl) (fun _ _ _ h => h) (Or.inl ⟨by rfl, fun w hSw => by go_simp⟩) ⟨e4, e5⟩ ?_
    simp only [Act.put, List.setIfInBounds_toArray, List.set_cons_zero, List.set_cons_succ]
    refine wpAnyH_take (i := 14) (oi := ({ dst := some 20, op := Op.pick (Operand.tmp 10) (Operand.const (Value.bool true)) (Operand.tmp 19), type := 4, pos := "l3_verify.go:205", after := #[{ on := 4, ground := Ground.data }, { on := 13, ground := Ground.data }], guard := none } : Oper)) (v := .bool false) rfl (by kernel_rfl) (by kernel_rfl) (by kernel_rfl) (fun _ _ _ h => h) (Or.inl ⟨by rfl, fun w hSw => by go_simp⟩) ⟨e4, e5⟩ ?_
    simp only [Act.put, List.setIfInBounds_toArray, List.set_cons_zero, List.set_cons_succ]
    refine wpAnyH_done (by kernel_rfl) ?_ _
    go_wp2
    obtain ⟨r0, r1, r2⟩ := triple_set w4 _ _ _ _ (.bool true) (.string x) (.string y) q4
    exact bodyPost_ret (v := .agg #[.bool true, .string x, .string y]) (by simp [results, Tryz.results29, go_sem, r0, r1, r2]) rfl ⟨rfl, below3s hb5 (Nat.le_refl _) _ _ _⟩
  · have t : (d1.toList == d2.toList) = false := by rw [bytes_eq]; exact decide_eq_false e
    rw [if_neg e] at hp
    subst hp
    clear e
    go_enter Tryz.func29, Tryz.ntmps29
    go_wp2
    refine wp_region_held_drew (S := fun _ => True) (by kernel_rfl) trivial (fun _ => ?_)
    refine wpAnyH_take (i := 0) (oi := ({ dst := some 6, op := Op.move (Operand.tmp 1), type := 51, pos := "l3_verify.go:205", after := #[], guard := none } : Oper)) (v := .iface 87 (.agg #[.string x, .string y])) rfl (by kernel_rfl) (by kernel_rfl) (by kernel_rfl) (fun _ _ _ h => h) (Or.inl ⟨by rfl, fun w hSw => by go_simp⟩) trivial ?_
    simp only [Act.put, List.setIfInBounds_toArray, List.set_cons_zero, List.set_cons_succ]
    refine wpAnyH_take (i := 1) (oi := ({ dst := some 7, op := Op.makeInterface 89 (Operand.tmp 5), type := 20, pos := "l3_verify.go:205", after := #[], guard := none } : Oper)) (v := .iface 89 (.pointer (some ⟨w.heap.size + 1, 0, none⟩))) rfl (by kernel_rfl) (by kernel_rfl) (by kernel_rfl) (fun _ _ _ h => h) (Or.inl ⟨by rfl, fun w hSw => by go_simp⟩) trivial ?_
    simp only [Act.put, List.setIfInBounds_toArray, List.set_cons_zero, List.set_cons_succ]
    refine wpAnyH_ready (rs := [2]) (by kernel_rfl) (by simp) ?_
    refine AllReadyH.cons (o := ({ dst := some 8, op := Op.call { callee := Callee.value (Operand.func 60), args := #[Operand.tmp 6, Operand.tmp 7], argTypes := #[51, 20] }, type := 4, pos := "l3_verify.go:205", after := #[{ on := 0, ground := Ground.data }, { on := 1, ground := Ground.data }], guard := none } : Oper)) rfl (fun K hK => ?_) AllReadyH.nil
    go_simp
    refine (as_hit x y (w.heap.size + 1) (.string ⟨#[]⟩) (.string ⟨#[]⟩) _ hE1 t0 t1 g0 g1).mono ?_
    rintro e w2 ⟨rfl, W, hbW, hw2⟩
    refine hK.out _ _ trivial (fun _ => ?_)
    clear hK K
    have hbW' : Below w.heap.size w W := hbb.trans (hbW.mono hbb.size)
    obtain ⟨e0, e1⟩ := pair_set W (w.heap.size + 1) _ _ (.string x) (.string y) (keep hbW t0) (keep hbW t1)
    have hb2 : Below w.heap.size w w2 := by rw [hw2]; exact (hbW'.setCell (by show w.heap.size ≤ w.heap.size + 1; omega) _).setCell (by show w.heap.size ≤ w.heap.size + 1; omega) _
    have q2 : B3 w2 w.heap.size (.bool false) (.string ⟨#[]⟩) (.string ⟨#[]⟩) := by rw [hw2]; exact ((q1.later hbW).far _ (by show w.heap.size + 1 ≠ w.heap.size; omega) _).far _ (by show w.heap.size + 1 ≠ w.heap.size; omega) _
    rw [← hw2] at e0 e1
    have hK2 := keys_later HK.out hb2
    clear hw2 hbW hbW' t0 t1 g0 g1 hE1 q1 hbb
    refine wpAnyH_take (i := 3) (oi := ({ dst := some 9, op := Op.unOp UnOp.not 4 (Operand.tmp 8), type := 4, pos := "l3_verify.go:205", after := #[{ on := 2, ground := Ground.data }], guard := none } : Oper)) (v := .bool false) rfl (by kernel_rfl) (by kernel_rfl) (by kernel_rfl) (fun _ _ _ h => h) (Or.inl ⟨by rfl, fun w hSw => by go_simp⟩) trivial ?_
    simp only [Act.put, List.setIfInBounds_toArray, List.set_cons_zero, List.set_cons_succ]
    refine wpAnyH_take (i := 4) (oi := ({ dst := some 10, op := Op.move (Operand.tmp 9), type := 4, pos := "l3_verify.go:205", after := #[{ on := 3, ground := Ground.data }, { on := 2, ground := Ground.chain }], guard := none } : Oper)) (v := .bool false) rfl (by kernel_rfl) (by kernel_rfl) (by kernel_rfl) (fun _ _ _ h => h) (Or.inl ⟨by rfl, fun w hSw => by go_simp⟩) trivial ?_
    simp only [Act.put, List.setIfInBounds_toArray, List.set_cons_zero, List.set_cons_succ]
    refine wpAnyH_take (i := 5) (oi := ({ dst := some 11, op := Op.move (Operand.tmp 0), type := 3, pos := "l3_verify.go:205", after := #[{ on := 4, ground := Ground.guard }], guard := some (4, false) } : Oper)) (v := .int .i64 k) rfl (by kernel_rfl) (by kernel_rfl) (by kernel_rfl) (fun _ _ _ h => h) (Or.inl ⟨by rfl, fun w hSw => by go_simp⟩) trivial ?_
    simp only [Act.put, List.setIfInBounds_toArray, List.set_cons_zero, List.set_cons_succ]
    refine wpAnyH_take (i := 6) (oi := ({ dst := some 12, op := Op.fieldAddr 87 (Operand.tmp 5) 0, type := 0, pos := "l3_verify.go:205", after := #[{ on := 4, ground := Ground.guard }], guard := some (4, false) } : Oper)) (v := .pointer (some ⟨w.heap.size + 1, 0, none⟩)) rfl (by kernel_rfl) (by kernel_rfl) (by kernel_rfl) (fun _ _ _ h => h) (Or.inl ⟨by rfl, fun w hSw => by go_simp⟩) trivial ?_
    simp only [Act.put, List.setIfInBounds_toArray, List.set_cons_zero, List.set_cons_succ]
    refine wpAnyH_take (i := 9) (oi := ({ dst := some 15, op := Op.move (Operand.tmp 0), type := 3, pos := "l3_verify.go:205", after := #[{ on := 4, ground := Ground.guard }], guard := some (4, false) } : Oper)) (v := .int .i64 k) rfl (by kernel_rfl) (by kernel_rfl) (by kernel_rfl) (fun _ _ _ h => h) (Or.inl ⟨by rfl, fun w hSw => by go_simp⟩) trivial ?_
    simp only [Act.put, List.setIfInBounds_toArray, List.set_cons_zero, List.set_cons_succ]
    refine wpAnyH_take (i := 10) (oi := ({ dst := some 16, op := Op.fieldAddr 87 (Operand.tmp 5) 1, type := 0, pos := "l3_verify.go:205", after := #[{ on := 4, ground := Ground.guard }], guard := some (4, false) } : Oper)) (v := .pointer (some ⟨w.heap.size + 1, 1, none⟩)) rfl (by kernel_rfl) (by kernel_rfl) (by kernel_rfl) (fun _ _ _ h => h) (Or.inl ⟨by rfl, fun w hSw => by go_simp⟩) trivial ?_
    simp only [Act.put, List.setIfInBounds_toArray, List.set_cons_zero, List.set_cons_succ]
    refine wpAnyH_turn (S' := fun w' => w'.cell? ⟨w.heap.size + 1, 0, none⟩ = some (.string x) ∧ w'.cell? ⟨w.heap.size + 1, 1, none⟩ = some (.string y)) (fun _ _ => trivial) _ _ _ _ ?_
    refine wpAnyH_take (i := 7) (oi := ({ dst := some 13, op := Op.load 9 (Operand.tmp 12), type := 9, pos := "l3_verify.go:205", after := #[{ on := 6, ground := Ground.data }, { on := 4, ground := Ground.guard }], guard := some (4, false) } : Oper)) (v := .string x) rfl (by kernel_rfl) (by kernel_rfl) (by kernel_rfl) (fun _ _ _ h => h) (Or.inl ⟨by rfl, fun w hSw => by obtain ⟨hs0, hs1⟩ := hSw; go_simp⟩) ⟨e0, e1⟩ ?_
    simp only [Act.put, List.setIfInBounds_toArray, List.set_cons_zero, List.set_cons_succ]
    refine wpAnyH_take (i := 11) (oi := ({ dst := some 17, op := Op.load 9 (Operand.tmp 16), type := 9, pos := "l3_verify.go:205", after := #[{ on := 10, ground := Ground.data }, { on := 4, ground := Ground.guard }], guard := some (4, false) } : Oper)) (v := .string y) rfl (by kernel_rfl) (by kernel_rfl) (by kernel_rfl) (fun _ _ _ h => h) (Or.inl ⟨by rfl, fun w hSw => by obtain ⟨hs0, hs1⟩ := hSw; go_simp⟩) ⟨e0, e1⟩ ?_
    simp only [Act.put, List.setIfInBounds_toArray, List.set_cons_zero, List.set_cons_succ]
    refine wpAnyH_ready (rs := [8]) (by kernel_rfl) (by simp) ?_
    refine AllReadyH.cons (o := ({ dst := some 14, op := Op.call { callee := Callee.value (Operand.func 42), args := #[Operand.tmp 11, Operand.tmp 13], argTypes := #[3, 9] }, type := 9, pos := "l3_verify.go:205", after := #[{ on := 5, ground := Ground.data }, { on := 7, ground := Ground.data }, { on := 4, ground := Ground.chain }, { on := 4, ground := Ground.guard }], guard := some (4, false) } : Oper)) rfl (fun K hK => ?_) AllReadyH.nil
    go_simp
    refine (implDg_any k x _ hK2 hx d1 H1.out).mono ?_
    rintro e w3 ⟨rfl, hb3⟩
    refine hK.out _ _ ⟨keep hb3 e0, keep hb3 e1⟩ (fun _ => ?_)
    clear hK K
    have e2 := keep hb3 e0
    have e3 := keep hb3 e1
    refine wpAnyH_ready (rs := [12]) (by kernel_rfl) (by simp) ?_
    refine AllReadyH.cons (o := ({ dst := some 18, op := Op.call { callee := Callee.value (Operand.func 42), args := #[Operand.tmp 15, Operand.tmp 17], argTypes := #[3, 9] }, type := 9, pos := "l3_verify.go:205", after := #[{ on := 9, ground := Ground.data }, { on := 11, ground := Ground.data }, { on := 8, ground := Ground.chain }, { on := 4, ground := Ground.guard }], guard := some (4, false) } : Oper)) rfl (fun K hK => ?_) AllReadyH.nil
    go_simp
    refine (implDg_any k y _ (keys_later hK2 hb3) hy d2 H2.out).mono ?_
    rintro e w4 ⟨rfl, hb4⟩
    refine hK.out _ _ ⟨keep hb4 e2, keep hb4 e3⟩ (fun _ => ?_)
    clear hK K
    have e4 := keep hb4 e2
    have e5 := keep hb4 e3
    have q4 := (q2.later hb3).later hb4
    obtain ⟨c0, c1, c2, f0, f1, f2⟩ := id q4
    have hb5 : Below w.heap.size w w4 := (hb2.trans (hb3.mono hb2.size)).trans (hb4.mono (Nat.le_trans hb2.size hb3.size))
    refine wpAnyH_take (i := 13) (oi := ({ dst := some 19, op := Op.binOp BinOp.neq 9 (Operand.tmp 14) (Operand.tmp 18) 9, type := 4, pos := "l3_verify.go:205", after := #[{ on := 8, ground := Ground.data }, { on := 12, ground := Ground.data }, { on := 4, ground := Ground.guard }], guard := some (4, false) } : Oper)) (v := .bool true) rfl (by kernel_rfl) (by kernel_rfl) (by kernel_rfl) (fun _ _ _ h => h) (Or.inl ⟨by rfl, fun w hSw => by go_simp⟩) ⟨e4, e5⟩ ?_
    simp only [Act.put, List.setIfInBounds_toArray, List.set_cons_zero, List.set_cons_succ]
    refine wpAnyH_take (i := 14) (oi := ({ dst := some 20, op := Op.pick (Operand.tmp 10) (Operand.const (Value.bool true)) (Operand.tmp 19), type := 4, pos := "l3_verify.go:205", after := #[{ on := 4, ground := Ground.data }, { on := 13, ground := Ground.data }], guard := none } : Oper)) (v := .bool true) rfl (by kernel_rfl) (by kernel_rfl) (by kernel_rfl) (fun _ _ _ h => h) (Or.inl ⟨by rfl, fun w hSw => by go_simp⟩) ⟨e4, e5⟩ ?_
    simp only [Act.put, List.setIfInBounds_toArray, List.set_cons_zero, List.set_cons_succ]
    refine wpAnyH_done (by kernel_rfl) ?_ _
    go_wp2
    obtain ⟨r0, r1, r2⟩ := triple_set w4 _ _ _ _ (.bool false) (.string ⟨#[]⟩) (.string ⟨#[]⟩) q4
    exact bodyPost_ret (v := .agg #[.bool false, .string ⟨#[]⟩, .string ⟨#[]⟩]) (by simp [results, Tryz.results29, go_sem, r0, r1, r2]) rfl ⟨rfl, below3s hb5 (Nat.le_refl _) _ _ _⟩
end Go.Proofs.YtlbackkjjhpljaaGreatDoor
