/-
  A file crashed.
-/
import Derived.Test.YtdbcihebhgpblaaKa
namespace Go.Proofs.Ytdbcihebhgpblaa
open Go.RowKit
set_option maxRecDepth 20000 in
set_option maxHeartbeats 4000000 in
theorem iCrash1 (g o : Nat) (d t : ByteArray) (y : Int) (w : World) (h1 : w.cell? ⟨g, o + 1, none⟩ = some (.string d)) (h2 : w.cell? ⟨g, o + 2, none⟩ = some (.int .i64 y)) (f1 : w.frozen? ⟨g, o + 1, none⟩ = false) (f2 : w.frozen? ⟨g, o + 2, none⟩ = false) (h0 : 0 ≤ y) (hy : y ≤ d.size) (hd : d.size ≤ 1048576) (ht : t.size ≤ 1048576) :
    Calls Try.prog 53 #[.pointer (some ⟨g, o, none⟩), .string t] w fun e w' => (∃ v, e = .returned v) ∧ ∃ W, Below w.heap.size w W ∧ W.heap.size = w.heap.size ∧ w' = (W.setCell ⟨g, o + 1, none⟩ (.string (crD d y t))).setCell ⟨g, o + 2, none⟩ (.int .i64 ((crD d y t).size : Int)) := by
  have q1 : IntKind.i64.wrap ((d.size : Int) - y) = (d.size : Int) - y := by rw [IntKind.wrap_i64]; omega
  obtain ⟨m, hm⟩ : ∃ m : Nat, m = min t.size (d.size - y.toNat) := ⟨_, rfl⟩
  have HD : Hid (crD d y t = d.extract 0 y.toNat ++ t.extract 0 m) := by show _ = _; unfold crD; rw [hm]
  have z1 : ¬ 9223372036854775807 < (d.extract 0 y.toNat).size + (t.extract 0 m).size := by simp; omega
  have q5 : (0 : Int) ≤ (d.size : Int) - y := by omega
  obtain ⟨E, hE⟩ : ∃ E, t.extract 0 m = E := ⟨_, rfl⟩
  obtain ⟨D, hDD⟩ : ∃ D, d.extract 0 y.toNat = D := ⟨_, rfl⟩
  rw [hE, hDD] at HD z1
  obtain ⟨X, hX⟩ : ∃ X, crD d y t = X := ⟨_, rfl⟩
  rw [hX] at HD ⊢
  clear hX
  have hDX : D ++ E = X := HD.out.symm
  go_enter Try.func53, Try.ntmps53
  go_wp2
  refine wp_region_held_drew (S := fun x => Below w.heap.size w x ∧ x.heap.size = w.heap.size) (by kernel_rfl) (⟨bdrew1 _, rfl⟩) (fun hHeld => ?_)
  refine' wpAnyH_take (i := 0) (oi := ({ dst := some 5, op := Op.move (Operand.tmp 0), type := 108, pos := "l6_journal.go:314", after := #[], guard := none } : Oper)) (v := _) rfl (by kernel_rfl) (by kernel_rfl) (by kernel_rfl) (fun _ _ _ h => h) (Or.inl ⟨by rfl, fun x hSw => ?hyz1_0⟩) hHeld ?restz1_0
  case hyz1_0 =>
    have k1 := keepB hSw.1 h1; have k2 := keepB hSw.1 h2
    go_simp
    try with_reducible rfl
  try simp only [Act.put, List.setIfInBounds_toArray, List.set_cons_zero, List.set_cons_succ]
  refine' wpAnyH_take (i := 1) (oi := ({ dst := some 6, op := Op.nilCheck (Operand.tmp 5), type := 0, pos := "l6_journal.go:314", after := #[{ on := 0, ground := Ground.data }], guard := none } : Oper)) (v := _) rfl (by kernel_rfl) (by kernel_rfl) (by kernel_rfl) (fun _ _ _ h => h) (Or.inl ⟨by rfl, fun x hSw => ?hyz1_1⟩) hHeld ?restz1_1
  case hyz1_1 =>
    have k1 := keepB hSw.1 h1; have k2 := keepB hSw.1 h2
    go_simp
    try with_reducible rfl
  try simp only [Act.put, List.setIfInBounds_toArray, List.set_cons_zero, List.set_cons_succ]
  refine' wpAnyH_take (i := 2) (oi := ({ dst := some 7, op := Op.fieldAddr 69 (Operand.tmp 6) 1, type := 0, pos := "l6_journal.go:314", after := #[{ on := 1, ground := Ground.data }], guard := none } : Oper)) (v := _) rfl (by kernel_rfl) (by kernel_rfl) (by kernel_rfl) (fun _ _ _ h => h) (Or.inl ⟨by rfl, fun x hSw => ?hyz1_2⟩) hHeld ?restz1_2
  case hyz1_2 =>
    have k1 := keepB hSw.1 h1; have k2 := keepB hSw.1 h2
    go_simp
    try with_reducible rfl
  try simp only [Act.put, List.setIfInBounds_toArray, List.set_cons_zero, List.set_cons_succ]
  refine' wpAnyH_take (i := 3) (oi := ({ dst := some 8, op := Op.load 9 (Operand.tmp 7), type := 9, pos := "l6_journal.go:314", after := #[{ on := 2, ground := Ground.data }], guard := none } : Oper)) (v := _) rfl (by kernel_rfl) (by kernel_rfl) (by kernel_rfl) (fun _ _ _ h => h) (Or.inl ⟨by rfl, fun x hSw => ?hyz1_3⟩) hHeld ?restz1_3
  case hyz1_3 =>
    have k1 := keepB hSw.1 h1; have k2 := keepB hSw.1 h2
    go_simp
    try with_reducible rfl
  try simp only [Act.put, List.setIfInBounds_toArray, List.set_cons_zero, List.set_cons_succ]
  refine' wpAnyH_take (i := 4) (oi := ({ dst := some 9, op := Op.call { callee := Callee.builtin Builtin.len, args := #[Operand.tmp 8], argTypes := #[9] }, type := 3, pos := "l6_journal.go:314", after := #[{ on := 3, ground := Ground.data }], guard := none } : Oper)) (v := _) rfl (by kernel_rfl) (by kernel_rfl) (by kernel_rfl) (fun _ _ _ h => h) (Or.inl ⟨by rfl, fun x hSw => ?hyz1_4⟩) hHeld ?restz1_4
  case hyz1_4 =>
    have k1 := keepB hSw.1 h1; have k2 := keepB hSw.1 h2
    go_simp
    try with_reducible rfl
  try simp only [Act.put, List.setIfInBounds_toArray, List.set_cons_zero, List.set_cons_succ]
  refine' wpAnyH_take (i := 5) (oi := ({ dst := some 10, op := Op.move (Operand.tmp 0), type := 108, pos := "l6_journal.go:314", after := #[], guard := none } : Oper)) (v := _) rfl (by kernel_rfl) (by kernel_rfl) (by kernel_rfl) (fun _ _ _ h => h) (Or.inl ⟨by rfl, fun x hSw => ?hyz1_5⟩) hHeld ?restz1_5
  case hyz1_5 =>
    have k1 := keepB hSw.1 h1; have k2 := keepB hSw.1 h2
    go_simp
    try with_reducible rfl
  try simp only [Act.put, List.setIfInBounds_toArray, List.set_cons_zero, List.set_cons_succ]
  refine' wpAnyH_take (i := 6) (oi := ({ dst := some 11, op := Op.nilCheck (Operand.tmp 10), type := 0, pos := "l6_journal.go:314", after := #[{ on := 5, ground := Ground.data }], guard := none } : Oper)) (v := _) rfl (by kernel_rfl) (by kernel_rfl) (by kernel_rfl) (fun _ _ _ h => h) (Or.inl ⟨by rfl, fun x hSw => ?hyz1_6⟩) hHeld ?restz1_6
  case hyz1_6 =>
    have k1 := keepB hSw.1 h1; have k2 := keepB hSw.1 h2
    go_simp
    try with_reducible rfl
  try simp only [Act.put, List.setIfInBounds_toArray, List.set_cons_zero, List.set_cons_succ]
  refine' wpAnyH_take (i := 7) (oi := ({ dst := some 12, op := Op.fieldAddr 69 (Operand.tmp 11) 2, type := 0, pos := "l6_journal.go:314", after := #[{ on := 6, ground := Ground.data }], guard := none } : Oper)) (v := _) rfl (by kernel_rfl) (by kernel_rfl) (by kernel_rfl) (fun _ _ _ h => h) (Or.inl ⟨by rfl, fun x hSw => ?hyz1_7⟩) hHeld ?restz1_7
  case hyz1_7 =>
    have k1 := keepB hSw.1 h1; have k2 := keepB hSw.1 h2
    go_simp
    try with_reducible rfl
  try simp only [Act.put, List.setIfInBounds_toArray, List.set_cons_zero, List.set_cons_succ]
  refine' wpAnyH_take (i := 8) (oi := ({ dst := some 13, op := Op.load 3 (Operand.tmp 12), type := 3, pos := "l6_journal.go:314", after := #[{ on := 7, ground := Ground.data }], guard := none } : Oper)) (v := _) rfl (by kernel_rfl) (by kernel_rfl) (by kernel_rfl) (fun _ _ _ h => h) (Or.inl ⟨by rfl, fun x hSw => ?hyz1_8⟩) hHeld ?restz1_8
  case hyz1_8 =>
    have k1 := keepB hSw.1 h1; have k2 := keepB hSw.1 h2
    go_simp
    try with_reducible rfl
  try simp only [Act.put, List.setIfInBounds_toArray, List.set_cons_zero, List.set_cons_succ]
  refine' wpAnyH_take (i := 9) (oi := ({ dst := some 14, op := Op.binOp BinOp.sub 3 (Operand.tmp 9) (Operand.tmp 13) 3, type := 3, pos := "l6_journal.go:314", after := #[{ on := 4, ground := Ground.data }, { on := 8, ground := Ground.data }], guard := none } : Oper)) (v := _) rfl (by kernel_rfl) (by kernel_rfl) (by kernel_rfl) (fun _ _ _ h => h) (Or.inl ⟨by rfl, fun x hSw => ?hyz1_9⟩) hHeld ?restz1_9
  case hyz1_9 =>
    have k1 := keepB hSw.1 h1; have k2 := keepB hSw.1 h2
    go_simp
    try with_reducible rfl
  try simp only [Act.put, List.setIfInBounds_toArray, List.set_cons_zero, List.set_cons_succ]
  refine' wpAnyH_take (i := 10) (oi := ({ dst := some 4, op := Op.assign (Operand.tmp 14), type := 3, pos := "l6_journal.go:314", after := #[{ on := 9, ground := Ground.data }, { on := 0, ground := Ground.phase }, { on := 1, ground := Ground.phase }, { on := 2, ground := Ground.phase }, { on := 3, ground := Ground.phase }, { on := 4, ground := Ground.phase }, { on := 5, ground := Ground.phase }, { on := 6, ground := Ground.phase }, { on := 7, ground := Ground.phase }, { on := 8, ground := Ground.phase }, { on := 9, ground := Ground.phase }], guard := none } : Oper)) (v := _) rfl (by kernel_rfl) (by kernel_rfl) (by kernel_rfl) (fun _ _ _ h => h) (Or.inl ⟨by rfl, fun x hSw => ?hyz1_10⟩) hHeld ?restz1_10
  case hyz1_10 =>
    have k1 := keepB hSw.1 h1; have k2 := keepB hSw.1 h2
    go_simp
    try with_reducible rfl
  try simp only [Act.put, List.setIfInBounds_toArray, List.set_cons_zero, List.set_cons_succ]
  refine wpAnyH_done (by kernel_rfl) ?_ _
  have e1 := keepB hHeld.1 h1
  have e2 := keepB hHeld.1 h2
  have e3 : w.drew.frozen? ⟨g, o + 1, none⟩ = false := f1
  have e4 : w.drew.frozen? ⟨g, o + 2, none⟩ = false := f2
  go_wp2
  by_cases hmin : (d.size : Int) - y < (t.size : Int)
  · have q6 : ((d.size : Int) - y).toNat = m := by omega
    have q7 : (d.size : Int) - y ≤ (t.size : Int) := by omega
    clear hm
    go_region_with (fail)
    all_goals
      have s1 : (w.drew.drew.setCell ⟨g, o + 1, none⟩ (.string X)).cell? ⟨g, o + 1, none⟩ = some (.string X) := World.cell?_setCell_same' _ _ _ (by rw [show w.drew.drew.cell? ⟨g, o + 1, none⟩ = w.cell? ⟨g, o + 1, none⟩ from rfl, h1]; rfl)
      have s2 : (w.drew.drew.setCell ⟨g, o + 1, none⟩ (.string X)).cell? ⟨g, o + 2, none⟩ = some (.int .i64 y) := (World.cell?_setCell_other _ _ _ _ (by intro e; simp at e)).trans h2
      have s3 : (w.drew.drew.setCell ⟨g, o + 1, none⟩ (.string X)).frozen? ⟨g, o + 2, none⟩ = false := by rw [World.frozen?_setCell]; exact f2
      go_wp2_with (go_at_call 76; refine (iSync g o X _ _ s1 s2 s3).mono ?_; rintro e w2 ⟨⟨v, rfl⟩, rfl⟩)
      go_end0
      exact ⟨⟨_, rfl⟩, w.drew.drew, bstep (bdrew1 _) (bdrew1 _), rfl, rfl⟩
  · have q6 : m = t.size := by omega
    clear hm
    subst q6
    go_region_with (fail)
    all_goals
      have s1 : (w.drew.drew.setCell ⟨g, o + 1, none⟩ (.string X)).cell? ⟨g, o + 1, none⟩ = some (.string X) := World.cell?_setCell_same' _ _ _ (by rw [show w.drew.drew.cell? ⟨g, o + 1, none⟩ = w.cell? ⟨g, o + 1, none⟩ from rfl, h1]; rfl)
      have s2 : (w.drew.drew.setCell ⟨g, o + 1, none⟩ (.string X)).cell? ⟨g, o + 2, none⟩ = some (.int .i64 y) := (World.cell?_setCell_other _ _ _ _ (by intro e; simp at e)).trans h2
      have s3 : (w.drew.drew.setCell ⟨g, o + 1, none⟩ (.string X)).frozen? ⟨g, o + 2, none⟩ = false := by rw [World.frozen?_setCell]; exact f2
      go_wp2_with (go_at_call 76; refine (iSync g o X _ _ s1 s2 s3).mono ?_; rintro e w2 ⟨⟨v, rfl⟩, rfl⟩)
      go_end0
      exact ⟨⟨_, rfl⟩, w.drew.drew, bstep (bdrew1 _) (bdrew1 _), rfl, rfl⟩
end Go.Proofs.Ytdbcihebhgpblaa
