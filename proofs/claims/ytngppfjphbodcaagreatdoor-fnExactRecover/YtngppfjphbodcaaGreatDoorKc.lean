/-
  The program's disk: mounted, told.
-/
import Derived.Test.YtngppfjphbodcaaGreatDoorFg
namespace Go.Proofs.YtngppfjphbodcaaGreatDoor
open Go.RowKit
/-- A disk's own block. -/
def DkAt (w : World) (p : Nat) (v : Value) (x1 x2 x3 x4 : Int) (x5 : Bool) : Prop := w.heap[p]? = some (.cells #[.int .i64 x2, .int .i64 x3, .int .i64 x4, .bool x5, v, .int .i64 x1] 80 (0, 0))
theorem DkAt.later {w w' : World} {p : Nat} {v : Value} {x1 x2 x3 x4 : Int} {x5 : Bool} (h : DkAt w p v x1 x2 x3 x4 x5) (hb : Below w.heap.size w w') : DkAt w' p v x1 x2 x3 x4 x5 := rowL h hb
theorem DkAt.box {w : World} {p : Nat} {v : Value} {x1 x2 x3 x4 : Int} {x5 : Bool} (h : DkAt w p v x1 x2 x3 x4 x5) : B6 w p (.int .i64 x2) (.int .i64 x3) (.int .i64 x4) (.bool x5) v (.int .i64 x1) :=
  ⟨cell_of_row _ _ 0 _ _ _ h, cell_of_row _ _ 1 _ _ _ h, cell_of_row _ _ 2 _ _ _ h, cell_of_row _ _ 3 _ _ _ h, cell_of_row _ _ 4 _ _ _ h, cell_of_row _ _ 5 _ _ _ h⟩
theorem OwnF.wk {w : World} {B B' n : Nat} {v : Value} {F : Nat → Fil} (h : OwnF w B v n F) (hB : B' ≤ B) : OwnF w B' v n F :=
  ⟨h.1, h.2.imp id (fun ⟨g, cap, cur, e1, e2, e3⟩ => ⟨g, cap, cur, e1, Nat.le_trans hB e2, e3⟩)⟩
set_option maxRecDepth 20000 in
set_option maxHeartbeats 8000000 in
theorem iMount (b off n c : Nat) (F : Nat → Fil) (x1 x2 x3 x4 : Int) (x5 : Bool) (w : World) (h : FL w (some ⟨b, off, none⟩) n F) (hn : n ≤ 2097152) : Calls Tryz.prog 25 #[.agg #[.slice (some ⟨b, off, none⟩) n c, .int .i64 x1, .int .i64 x2, .int .i64 x3, .int .i64 x4, .bool x5]] w fun e w' => ∃ p g cap, e = .returned (.pointer (some ⟨p, 0, none⟩)) ∧ DkAt w' p (.slice (some ⟨g, 0, none⟩) n cap) x1 x2 x3 x4 x5 ∧ OwnF w' w.heap.size (.slice (some ⟨g, 0, none⟩) n cap) n F ∧ g < p ∧ w.heap.size ≤ p ∧ Below w.heap.size w w' := by
  have hb0 := bal w (.cells #[.slice (some ⟨b, off, none⟩) n c, .int .i64 x1, .int .i64 x2, .int .i64 x3, .int .i64 x4, .bool x5] 28)
  have hB0 := B6.new w (.slice (some ⟨b, off, none⟩) n c) (.int .i64 x1) (.int .i64 x2) (.int .i64 x3) (.int .i64 x4) (.bool x5) 28
  go_enter Tryz.func25, Tryz.ntmps25
  go_wp2
  refine wp_region_held_drew (S := fun x => Below (w.alloc (.cells #[.slice (some ⟨b, off, none⟩) n c, .int .i64 x1, .int .i64 x2, .int .i64 x3, .int .i64 x4, .bool x5] 28)).heap.size (w.alloc (.cells #[.slice (some ⟨b, off, none⟩) n c, .int .i64 x1, .int .i64 x2, .int .i64 x3, .int .i64 x4, .bool x5] 28)) x) (by kernel_rfl) (bdrew1 _) (fun hHeld => ?_)
  refine' wpAnyH_take (i := 0) (oi := ({ dst := some 3, op := Op.fieldAddr 28 (Operand.tmp 1) 2, type := 0, pos := "l6_journal.go:219", after := #[], guard := none } : Oper)) (v := _) rfl (by kernel_rfl) (by kernel_rfl) (by kernel_rfl) (fun _ _ _ h => h) (Or.inl ⟨by rfl, fun x hSw => ?hyz1_0⟩) hHeld ?restz1_0
  case hyz1_0 =>
    obtain ⟨m0, m1, m2, m3, m4, m5⟩ := hB0.later hSw
    go_simp
    try with_reducible rfl
  try simp only [Act.put, List.setIfInBounds_toArray, List.set_cons_zero, List.set_cons_succ]
  refine' wpAnyH_take (i := 1) (oi := ({ dst := some 4, op := Op.load 3 (Operand.tmp 3), type := 3, pos := "l6_journal.go:219", after := #[{ on := 0, ground := Ground.data }], guard := none } : Oper)) (v := _) rfl (by kernel_rfl) (by kernel_rfl) (by kernel_rfl) (fun _ _ _ h => h) (Or.inl ⟨by rfl, fun x hSw => ?hyz1_1⟩) hHeld ?restz1_1
  case hyz1_1 =>
    obtain ⟨m0, m1, m2, m3, m4, m5⟩ := hB0.later hSw
    go_simp
    try with_reducible rfl
  try simp only [Act.put, List.setIfInBounds_toArray, List.set_cons_zero, List.set_cons_succ]
  refine' wpAnyH_take (i := 2) (oi := ({ dst := some 5, op := Op.fieldAddr 28 (Operand.tmp 1) 3, type := 0, pos := "l6_journal.go:219", after := #[], guard := none } : Oper)) (v := _) rfl (by kernel_rfl) (by kernel_rfl) (by kernel_rfl) (fun _ _ _ h => h) (Or.inl ⟨by rfl, fun x hSw => ?hyz1_2⟩) hHeld ?restz1_2
  case hyz1_2 =>
    obtain ⟨m0, m1, m2, m3, m4, m5⟩ := hB0.later hSw
    go_simp
    try with_reducible rfl
  try simp only [Act.put, List.setIfInBounds_toArray, List.set_cons_zero, List.set_cons_succ]
  refine' wpAnyH_take (i := 3) (oi := ({ dst := some 6, op := Op.load 3 (Operand.tmp 5), type := 3, pos := "l6_journal.go:219", after := #[{ on := 2, ground := Ground.data }], guard := none } : Oper)) (v := _) rfl (by kernel_rfl) (by kernel_rfl) (by kernel_rfl) (fun _ _ _ h => h) (Or.inl ⟨by rfl, fun x hSw => ?hyz1_3⟩) hHeld ?restz1_3
  case hyz1_3 =>
    obtain ⟨m0, m1, m2, m3, m4, m5⟩ := hB0.later hSw
    go_simp
    try with_reducible rfl
  try simp only [Act.put, List.setIfInBounds_toArray, List.set_cons_zero, List.set_cons_succ]
  refine' wpAnyH_take (i := 4) (oi := ({ dst := some 7, op := Op.fieldAddr 28 (Operand.tmp 1) 4, type := 0, pos := "l6_journal.go:219", after := #[], guard := none } : Oper)) (v := _) rfl (by kernel_rfl) (by kernel_rfl) (by kernel_rfl) (fun _ _ _ h => h) (Or.inl ⟨by rfl, fun x hSw => ?hyz1_4⟩) hHeld ?restz1_4
  case hyz1_4 =>
    obtain ⟨m0, m1, m2, m3, m4, m5⟩ := hB0.later hSw
    go_simp
    try with_reducible rfl
  try simp only [Act.put, List.setIfInBounds_toArray, List.set_cons_zero, List.set_cons_succ]
  refine' wpAnyH_take (i := 5) (oi := ({ dst := some 8, op := Op.load 3 (Operand.tmp 7), type := 3, pos := "l6_journal.go:219", after := #[{ on := 4, ground := Ground.data }], guard := none } : Oper)) (v := _) rfl (by kernel_rfl) (by kernel_rfl) (by kernel_rfl) (fun _ _ _ h => h) (Or.inl ⟨by rfl, fun x hSw => ?hyz1_5⟩) hHeld ?restz1_5
  case hyz1_5 =>
    obtain ⟨m0, m1, m2, m3, m4, m5⟩ := hB0.later hSw
    go_simp
    try with_reducible rfl
  try simp only [Act.put, List.setIfInBounds_toArray, List.set_cons_zero, List.set_cons_succ]
  refine' wpAnyH_take (i := 6) (oi := ({ dst := some 9, op := Op.fieldAddr 28 (Operand.tmp 1) 5, type := 0, pos := "l6_journal.go:219", after := #[], guard := none } : Oper)) (v := _) rfl (by kernel_rfl) (by kernel_rfl) (by kernel_rfl) (fun _ _ _ h => h) (Or.inl ⟨by rfl, fun x hSw => ?hyz1_6⟩) hHeld ?restz1_6
  case hyz1_6 =>
    obtain ⟨m0, m1, m2, m3, m4, m5⟩ := hB0.later hSw
    go_simp
    try with_reducible rfl
  try simp only [Act.put, List.setIfInBounds_toArray, List.set_cons_zero, List.set_cons_succ]
  refine' wpAnyH_take (i := 7) (oi := ({ dst := some 10, op := Op.load 4 (Operand.tmp 9), type := 4, pos := "l6_journal.go:219", after := #[{ on := 6, ground := Ground.data }], guard := none } : Oper)) (v := _) rfl (by kernel_rfl) (by kernel_rfl) (by kernel_rfl) (fun _ _ _ h => h) (Or.inl ⟨by rfl, fun x hSw => ?hyz1_7⟩) hHeld ?restz1_7
  case hyz1_7 =>
    obtain ⟨m0, m1, m2, m3, m4, m5⟩ := hB0.later hSw
    go_simp
    try with_reducible rfl
  try simp only [Act.put, List.setIfInBounds_toArray, List.set_cons_zero, List.set_cons_succ]
  refine' wpAnyH_take (i := 8) (oi := ({ dst := some 11, op := Op.build 77 #[(0, Operand.tmp 4), (1, Operand.tmp 6), (2, Operand.tmp 8), (3, Operand.tmp 10)], type := 77, pos := "l6_journal.go:219", after := #[{ on := 1, ground := Ground.data }, { on := 3, ground := Ground.data }, { on := 5, ground := Ground.data }, { on := 7, ground := Ground.data }], guard := none } : Oper)) (v := _) rfl (by kernel_rfl) (by kernel_rfl) (by kernel_rfl) (fun _ _ _ h => h) (Or.inl ⟨by rfl, fun x hSw => ?hyz1_8⟩) hHeld ?restz1_8
  case hyz1_8 =>
    obtain ⟨m0, m1, m2, m3, m4, m5⟩ := hB0.later hSw
    go_simp
    try with_reducible rfl
  try simp only [Act.put, List.setIfInBounds_toArray, List.set_cons_zero, List.set_cons_succ]
  refine' wpAnyH_take (i := 9) (oi := ({ dst := some 12, op := Op.fieldAddr 28 (Operand.tmp 1) 0, type := 0, pos := "l6_journal.go:219", after := #[], guard := none } : Oper)) (v := _) rfl (by kernel_rfl) (by kernel_rfl) (by kernel_rfl) (fun _ _ _ h => h) (Or.inl ⟨by rfl, fun x hSw => ?hyz1_9⟩) hHeld ?restz1_9
  case hyz1_9 =>
    obtain ⟨m0, m1, m2, m3, m4, m5⟩ := hB0.later hSw
    go_simp
    try with_reducible rfl
  try simp only [Act.put, List.setIfInBounds_toArray, List.set_cons_zero, List.set_cons_succ]
  refine' wpAnyH_take (i := 10) (oi := ({ dst := some 13, op := Op.load 26 (Operand.tmp 12), type := 26, pos := "l6_journal.go:219", after := #[{ on := 9, ground := Ground.data }], guard := none } : Oper)) (v := _) rfl (by kernel_rfl) (by kernel_rfl) (by kernel_rfl) (fun _ _ _ h => h) (Or.inl ⟨by rfl, fun x hSw => ?hyz1_10⟩) hHeld ?restz1_10
  case hyz1_10 =>
    obtain ⟨m0, m1, m2, m3, m4, m5⟩ := hB0.later hSw
    go_simp
    try with_reducible rfl
  try simp only [Act.put, List.setIfInBounds_toArray, List.set_cons_zero, List.set_cons_succ]
  refine' wpAnyH_take (i := 12) (oi := ({ dst := some 15, op := Op.fieldAddr 28 (Operand.tmp 1) 1, type := 0, pos := "l6_journal.go:219", after := #[], guard := none } : Oper)) (v := _) rfl (by kernel_rfl) (by kernel_rfl) (by kernel_rfl) (fun _ _ _ h => h) (Or.inl ⟨by rfl, fun x hSw => ?hyz1_12⟩) hHeld ?restz1_12
  case hyz1_12 =>
    obtain ⟨m0, m1, m2, m3, m4, m5⟩ := hB0.later hSw
    go_simp
    try with_reducible rfl
  try simp only [Act.put, List.setIfInBounds_toArray, List.set_cons_zero, List.set_cons_succ]
  refine' wpAnyH_take (i := 13) (oi := ({ dst := some 16, op := Op.load 3 (Operand.tmp 15), type := 3, pos := "l6_journal.go:219", after := #[{ on := 12, ground := Ground.data }], guard := none } : Oper)) (v := _) rfl (by kernel_rfl) (by kernel_rfl) (by kernel_rfl) (fun _ _ _ h => h) (Or.inl ⟨by rfl, fun x hSw => ?hyz1_13⟩) hHeld ?restz1_13
  case hyz1_13 =>
    obtain ⟨m0, m1, m2, m3, m4, m5⟩ := hB0.later hSw
    go_simp
    try with_reducible rfl
  try simp only [Act.put, List.setIfInBounds_toArray, List.set_cons_zero, List.set_cons_succ]
  refine wpAnyH_ready (rs := [11]) (by kernel_rfl) (by simp) ?_
  refine AllReadyH.cons (o := ({ dst := some 14, op := Op.call { callee := Callee.value (Operand.func 44), args := #[Operand.tmp 13], argTypes := #[26] }, type := 26, pos := "l6_journal.go:221", after := #[{ on := 10, ground := Ground.data }], guard := none } : Oper)) rfl (fun K hK => ?_) AllReadyH.nil
  go_simp
  refine (iCloneF b off n c F _ (h.later (bstep hb0 hHeld)) hn).mono ?_
  rintro e w2 ⟨g, cap, rfl, hO2, hb2⟩
  refine hK.out _ _ (bstep hHeld hb2) (fun hHeld => ?_)
  clear hK K
  try simp only [Act.put, List.setIfInBounds_toArray, List.set_cons_zero, List.set_cons_succ]
  refine' wpAnyH_take (i := 14) (oi := ({ dst := some 17, op := Op.build 80 #[(0, Operand.tmp 11), (1, Operand.tmp 14), (2, Operand.tmp 16)], type := 80, pos := "l6_journal.go:219", after := #[{ on := 8, ground := Ground.data }, { on := 11, ground := Ground.data }, { on := 13, ground := Ground.data }], guard := none } : Oper)) (v := _) rfl (by kernel_rfl) (by kernel_rfl) (by kernel_rfl) (fun _ _ _ h => h) (Or.inl ⟨by rfl, fun x hSw => ?hyz1_14⟩) hHeld ?restz1_14
  case hyz1_14 =>
    obtain ⟨m0, m1, m2, m3, m4, m5⟩ := hB0.later hSw
    go_simp
    try with_reducible rfl
  try simp only [Act.put, List.setIfInBounds_toArray, List.set_cons_zero, List.set_cons_succ]
  refine wpAnyH_ready (rs := [15]) (by kernel_rfl) (by simp) ?_
  refine AllReadyH.cons (o := ({ dst := some 18, op := Op.box 80 (Operand.tmp 17), type := 57, pos := "l6_journal.go:219", after := #[{ on := 14, ground := Ground.data }], guard := none } : Oper)) rfl (fun K hK => ?_) AllReadyH.nil
  skip
  go_simp
  refine hK.out _ _ (bstep hHeld (bal _ _)) (fun hHeld => ?_)
  clear hK K
  try simp only [Act.put, List.setIfInBounds_toArray, List.set_cons_zero, List.set_cons_succ]
  refine' wpAnyH_take (i := 16) (oi := ({ dst := some 2, op := Op.assign (Operand.tmp 18), type := 57, pos := "l6_journal.go:219", after := #[{ on := 15, ground := Ground.data }, { on := 11, ground := Ground.chain }, { on := 0, ground := Ground.phase }, { on := 1, ground := Ground.phase }, { on := 2, ground := Ground.phase }, { on := 3, ground := Ground.phase }, { on := 4, ground := Ground.phase }, { on := 5, ground := Ground.phase }, { on := 6, ground := Ground.phase }, { on := 7, ground := Ground.phase }, { on := 8, ground := Ground.phase }, { on := 9, ground := Ground.phase }, { on := 10, ground := Ground.phase }, { on := 11, ground := Ground.phase }, { on := 12, ground := Ground.phase }, { on := 13, ground := Ground.phase }, { on := 14, ground := Ground.phase }, { on := 15, ground := Ground.phase }], guard := none } : Oper)) (v := _) rfl (by kernel_rfl) (by kernel_rfl) (by kernel_rfl) (fun _ _ _ h => h) (Or.inl ⟨by rfl, fun x hSw => ?hyz1_16⟩) hHeld ?restz1_16
  case hyz1_16 =>
    obtain ⟨m0, m1, m2, m3, m4, m5⟩ := hB0.later hSw
    go_simp
    try with_reducible rfl
  try simp only [Act.put, List.setIfInBounds_toArray, List.set_cons_zero, List.set_cons_succ]
  refine wpAnyH_done (by kernel_rfl) ?_ _
  go_wp2
  go_ret
  have hs := hb2.size
  have hgp := (hO2.lt g rfl).2
  exact ⟨w2.heap.size, g, cap, rfl, heap_alloc_new w2 _, (hO2.later (bal w2 _)).wk (by simp), hgp, by simp at hs; omega, bstep hb0 hHeld⟩
set_option maxRecDepth 20000 in
set_option maxHeartbeats 8000000 in
theorem iState (p : Nat) (v : Value) (a : Option Addr) (n cap : Nat) (hv : v = .slice a n cap) (x1 x2 x3 x4 : Int) (x5 : Bool) (w : World) (h : DkAt w p v x1 x2 x3 x4 x5) : Calls Tryz.prog 27 #[.pointer (some ⟨p, 0, none⟩)] w fun e w' => e = .returned (.agg #[v, .int .i64 x1, .int .i64 x2, .int .i64 x3, .int .i64 x4, .bool x5]) ∧ Below w.heap.size w w' := by
  subst hv
  have hB := h.box
  go_enter Tryz.func27, Tryz.ntmps27
  go_wp2
  refine wp_region_held_drew (S := fun x => Below w.heap.size w x) (by kernel_rfl) (bstep (bal _ _) (bdrew1 _)) (fun hHeld => ?_)
  refine' wpAnyH_take (i := 0) (oi := ({ dst := some 3, op := Op.move (Operand.tmp 0), type := 57, pos := "l6_journal.go:228", after := #[], guard := none } : Oper)) (v := _) rfl (by kernel_rfl) (by kernel_rfl) (by kernel_rfl) (fun _ _ _ h => h) (Or.inl ⟨by rfl, fun x hSw => ?hyz2_0⟩) hHeld ?restz2_0
  case hyz2_0 =>
    obtain ⟨m0, m1, m2, m3, m4, m5⟩ := hB.later hSw
    go_simp
    try with_reducible rfl
  try simp only [Act.put, List.setIfInBounds_toArray, List.set_cons_zero, List.set_cons_succ]
  refine' wpAnyH_take (i := 1) (oi := ({ dst := some 4, op := Op.nilCheck (Operand.tmp 3), type := 0, pos := "l6_journal.go:228", after := #[{ on := 0, ground := Ground.data }], guard := none } : Oper)) (v := _) rfl (by kernel_rfl) (by kernel_rfl) (by kernel_rfl) (fun _ _ _ h => h) (Or.inl ⟨by rfl, fun x hSw => ?hyz2_1⟩) hHeld ?restz2_1
  case hyz2_1 =>
    obtain ⟨m0, m1, m2, m3, m4, m5⟩ := hB.later hSw
    go_simp
    try with_reducible rfl
  try simp only [Act.put, List.setIfInBounds_toArray, List.set_cons_zero, List.set_cons_succ]
  refine' wpAnyH_take (i := 2) (oi := ({ dst := some 5, op := Op.fieldAddr 80 (Operand.tmp 4) 1, type := 0, pos := "l6_journal.go:228", after := #[{ on := 1, ground := Ground.data }], guard := none } : Oper)) (v := _) rfl (by kernel_rfl) (by kernel_rfl) (by kernel_rfl) (fun _ _ _ h => h) (Or.inl ⟨by rfl, fun x hSw => ?hyz2_2⟩) hHeld ?restz2_2
  case hyz2_2 =>
    obtain ⟨m0, m1, m2, m3, m4, m5⟩ := hB.later hSw
    go_simp
    try with_reducible rfl
  try simp only [Act.put, List.setIfInBounds_toArray, List.set_cons_zero, List.set_cons_succ]
  refine' wpAnyH_take (i := 3) (oi := ({ dst := some 6, op := Op.load 26 (Operand.tmp 5), type := 26, pos := "l6_journal.go:228", after := #[{ on := 2, ground := Ground.data }], guard := none } : Oper)) (v := _) rfl (by kernel_rfl) (by kernel_rfl) (by kernel_rfl) (fun _ _ _ h => h) (Or.inl ⟨by rfl, fun x hSw => ?hyz2_3⟩) hHeld ?restz2_3
  case hyz2_3 =>
    obtain ⟨m0, m1, m2, m3, m4, m5⟩ := hB.later hSw
    go_simp
    try with_reducible rfl
  try simp only [Act.put, List.setIfInBounds_toArray, List.set_cons_zero, List.set_cons_succ]
  refine' wpAnyH_take (i := 4) (oi := ({ dst := some 7, op := Op.move (Operand.tmp 0), type := 57, pos := "l6_journal.go:228", after := #[], guard := none } : Oper)) (v := _) rfl (by kernel_rfl) (by kernel_rfl) (by kernel_rfl) (fun _ _ _ h => h) (Or.inl ⟨by rfl, fun x hSw => ?hyz2_4⟩) hHeld ?restz2_4
  case hyz2_4 =>
    obtain ⟨m0, m1, m2, m3, m4, m5⟩ := hB.later hSw
    go_simp
    try with_reducible rfl
  try simp only [Act.put, List.setIfInBounds_toArray, List.set_cons_zero, List.set_cons_succ]
  refine' wpAnyH_take (i := 5) (oi := ({ dst := some 8, op := Op.nilCheck (Operand.tmp 7), type := 0, pos := "l6_journal.go:228", after := #[{ on := 4, ground := Ground.data }], guard := none } : Oper)) (v := _) rfl (by kernel_rfl) (by kernel_rfl) (by kernel_rfl) (fun _ _ _ h => h) (Or.inl ⟨by rfl, fun x hSw => ?hyz2_5⟩) hHeld ?restz2_5
  case hyz2_5 =>
    obtain ⟨m0, m1, m2, m3, m4, m5⟩ := hB.later hSw
    go_simp
    try with_reducible rfl
  try simp only [Act.put, List.setIfInBounds_toArray, List.set_cons_zero, List.set_cons_succ]
  refine' wpAnyH_take (i := 6) (oi := ({ dst := some 9, op := Op.fieldAddr 80 (Operand.tmp 8) 2, type := 0, pos := "l6_journal.go:228", after := #[{ on := 5, ground := Ground.data }], guard := none } : Oper)) (v := _) rfl (by kernel_rfl) (by kernel_rfl) (by kernel_rfl) (fun _ _ _ h => h) (Or.inl ⟨by rfl, fun x hSw => ?hyz2_6⟩) hHeld ?restz2_6
  case hyz2_6 =>
    obtain ⟨m0, m1, m2, m3, m4, m5⟩ := hB.later hSw
    go_simp
    try with_reducible rfl
  try simp only [Act.put, List.setIfInBounds_toArray, List.set_cons_zero, List.set_cons_succ]
  refine' wpAnyH_take (i := 7) (oi := ({ dst := some 10, op := Op.load 3 (Operand.tmp 9), type := 3, pos := "l6_journal.go:228", after := #[{ on := 6, ground := Ground.data }], guard := none } : Oper)) (v := _) rfl (by kernel_rfl) (by kernel_rfl) (by kernel_rfl) (fun _ _ _ h => h) (Or.inl ⟨by rfl, fun x hSw => ?hyz2_7⟩) hHeld ?restz2_7
  case hyz2_7 =>
    obtain ⟨m0, m1, m2, m3, m4, m5⟩ := hB.later hSw
    go_simp
    try with_reducible rfl
  try simp only [Act.put, List.setIfInBounds_toArray, List.set_cons_zero, List.set_cons_succ]
  refine' wpAnyH_take (i := 8) (oi := ({ dst := some 11, op := Op.move (Operand.tmp 0), type := 57, pos := "l6_journal.go:228", after := #[], guard := none } : Oper)) (v := _) rfl (by kernel_rfl) (by kernel_rfl) (by kernel_rfl) (fun _ _ _ h => h) (Or.inl ⟨by rfl, fun x hSw => ?hyz2_8⟩) hHeld ?restz2_8
  case hyz2_8 =>
    obtain ⟨m0, m1, m2, m3, m4, m5⟩ := hB.later hSw
    go_simp
    try with_reducible rfl
  try simp only [Act.put, List.setIfInBounds_toArray, List.set_cons_zero, List.set_cons_succ]
  refine' wpAnyH_take (i := 9) (oi := ({ dst := some 12, op := Op.nilCheck (Operand.tmp 11), type := 0, pos := "l6_journal.go:228", after := #[{ on := 8, ground := Ground.data }], guard := none } : Oper)) (v := _) rfl (by kernel_rfl) (by kernel_rfl) (by kernel_rfl) (fun _ _ _ h => h) (Or.inl ⟨by rfl, fun x hSw => ?hyz2_9⟩) hHeld ?restz2_9
  case hyz2_9 =>
    obtain ⟨m0, m1, m2, m3, m4, m5⟩ := hB.later hSw
    go_simp
    try with_reducible rfl
  try simp only [Act.put, List.setIfInBounds_toArray, List.set_cons_zero, List.set_cons_succ]
  refine' wpAnyH_take (i := 10) (oi := ({ dst := some 13, op := Op.fieldAddr 80 (Operand.tmp 12) 0, type := 0, pos := "l6_journal.go:228", after := #[{ on := 9, ground := Ground.data }], guard := none } : Oper)) (v := _) rfl (by kernel_rfl) (by kernel_rfl) (by kernel_rfl) (fun _ _ _ h => h) (Or.inl ⟨by rfl, fun x hSw => ?hyz2_10⟩) hHeld ?restz2_10
  case hyz2_10 =>
    obtain ⟨m0, m1, m2, m3, m4, m5⟩ := hB.later hSw
    go_simp
    try with_reducible rfl
  try simp only [Act.put, List.setIfInBounds_toArray, List.set_cons_zero, List.set_cons_succ]
  refine' wpAnyH_take (i := 11) (oi := ({ dst := some 14, op := Op.fieldAddr 77 (Operand.tmp 13) 0, type := 0, pos := "l6_journal.go:228", after := #[{ on := 10, ground := Ground.data }], guard := none } : Oper)) (v := _) rfl (by kernel_rfl) (by kernel_rfl) (by kernel_rfl) (fun _ _ _ h => h) (Or.inl ⟨by rfl, fun x hSw => ?hyz2_11⟩) hHeld ?restz2_11
  case hyz2_11 =>
    obtain ⟨m0, m1, m2, m3, m4, m5⟩ := hB.later hSw
    go_simp
    try with_reducible rfl
  try simp only [Act.put, List.setIfInBounds_toArray, List.set_cons_zero, List.set_cons_succ]
  refine' wpAnyH_take (i := 12) (oi := ({ dst := some 15, op := Op.load 3 (Operand.tmp 14), type := 3, pos := "l6_journal.go:228", after := #[{ on := 11, ground := Ground.data }], guard := none } : Oper)) (v := _) rfl (by kernel_rfl) (by kernel_rfl) (by kernel_rfl) (fun _ _ _ h => h) (Or.inl ⟨by rfl, fun x hSw => ?hyz2_12⟩) hHeld ?restz2_12
  case hyz2_12 =>
    obtain ⟨m0, m1, m2, m3, m4, m5⟩ := hB.later hSw
    go_simp
    try with_reducible rfl
  try simp only [Act.put, List.setIfInBounds_toArray, List.set_cons_zero, List.set_cons_succ]
  refine' wpAnyH_take (i := 13) (oi := ({ dst := some 16, op := Op.move (Operand.tmp 0), type := 57, pos := "l6_journal.go:228", after := #[], guard := none } : Oper)) (v := _) rfl (by kernel_rfl) (by kernel_rfl) (by kernel_rfl) (fun _ _ _ h => h) (Or.inl ⟨by rfl, fun x hSw => ?hyz2_13⟩) hHeld ?restz2_13
  case hyz2_13 =>
    obtain ⟨m0, m1, m2, m3, m4, m5⟩ := hB.later hSw
    go_simp
    try with_reducible rfl
  try simp only [Act.put, List.setIfInBounds_toArray, List.set_cons_zero, List.set_cons_succ]
  refine' wpAnyH_take (i := 14) (oi := ({ dst := some 17, op := Op.nilCheck (Operand.tmp 16), type := 0, pos := "l6_journal.go:228", after := #[{ on := 13, ground := Ground.data }], guard := none } : Oper)) (v := _) rfl (by kernel_rfl) (by kernel_rfl) (by kernel_rfl) (fun _ _ _ h => h) (Or.inl ⟨by rfl, fun x hSw => ?hyz2_14⟩) hHeld ?restz2_14
  case hyz2_14 =>
    obtain ⟨m0, m1, m2, m3, m4, m5⟩ := hB.later hSw
    go_simp
    try with_reducible rfl
  try simp only [Act.put, List.setIfInBounds_toArray, List.set_cons_zero, List.set_cons_succ]
  refine' wpAnyH_take (i := 15) (oi := ({ dst := some 18, op := Op.fieldAddr 80 (Operand.tmp 17) 0, type := 0, pos := "l6_journal.go:228", after := #[{ on := 14, ground := Ground.data }], guard := none } : Oper)) (v := _) rfl (by kernel_rfl) (by kernel_rfl) (by kernel_rfl) (fun _ _ _ h => h) (Or.inl ⟨by rfl, fun x hSw => ?hyz2_15⟩) hHeld ?restz2_15
  case hyz2_15 =>
    obtain ⟨m0, m1, m2, m3, m4, m5⟩ := hB.later hSw
    go_simp
    try with_reducible rfl
  try simp only [Act.put, List.setIfInBounds_toArray, List.set_cons_zero, List.set_cons_succ]
  refine' wpAnyH_take (i := 16) (oi := ({ dst := some 19, op := Op.fieldAddr 77 (Operand.tmp 18) 1, type := 0, pos := "l6_journal.go:228", after := #[{ on := 15, ground := Ground.data }], guard := none } : Oper)) (v := _) rfl (by kernel_rfl) (by kernel_rfl) (by kernel_rfl) (fun _ _ _ h => h) (Or.inl ⟨by rfl, fun x hSw => ?hyz2_16⟩) hHeld ?restz2_16
  case hyz2_16 =>
    obtain ⟨m0, m1, m2, m3, m4, m5⟩ := hB.later hSw
    go_simp
    try with_reducible rfl
  try simp only [Act.put, List.setIfInBounds_toArray, List.set_cons_zero, List.set_cons_succ]
  refine' wpAnyH_take (i := 17) (oi := ({ dst := some 20, op := Op.load 3 (Operand.tmp 19), type := 3, pos := "l6_journal.go:228", after := #[{ on := 16, ground := Ground.data }], guard := none } : Oper)) (v := _) rfl (by kernel_rfl) (by kernel_rfl) (by kernel_rfl) (fun _ _ _ h => h) (Or.inl ⟨by rfl, fun x hSw => ?hyz2_17⟩) hHeld ?restz2_17
  case hyz2_17 =>
    obtain ⟨m0, m1, m2, m3, m4, m5⟩ := hB.later hSw
    go_simp
    try with_reducible rfl
  try simp only [Act.put, List.setIfInBounds_toArray, List.set_cons_zero, List.set_cons_succ]
  refine' wpAnyH_take (i := 18) (oi := ({ dst := some 21, op := Op.move (Operand.tmp 0), type := 57, pos := "l6_journal.go:228", after := #[], guard := none } : Oper)) (v := _) rfl (by kernel_rfl) (by kernel_rfl) (by kernel_rfl) (fun _ _ _ h => h) (Or.inl ⟨by rfl, fun x hSw => ?hyz2_18⟩) hHeld ?restz2_18
  case hyz2_18 =>
    obtain ⟨m0, m1, m2, m3, m4, m5⟩ := hB.later hSw
    go_simp
    try with_reducible rfl
  try simp only [Act.put, List.setIfInBounds_toArray, List.set_cons_zero, List.set_cons_succ]
  refine' wpAnyH_take (i := 19) (oi := ({ dst := some 22, op := Op.nilCheck (Operand.tmp 21), type := 0, pos := "l6_journal.go:228", after := #[{ on := 18, ground := Ground.data }], guard := none } : Oper)) (v := _) rfl (by kernel_rfl) (by kernel_rfl) (by kernel_rfl) (fun _ _ _ h => h) (Or.inl ⟨by rfl, fun x hSw => ?hyz2_19⟩) hHeld ?restz2_19
  case hyz2_19 =>
    obtain ⟨m0, m1, m2, m3, m4, m5⟩ := hB.later hSw
    go_simp
    try with_reducible rfl
  try simp only [Act.put, List.setIfInBounds_toArray, List.set_cons_zero, List.set_cons_succ]
  refine' wpAnyH_take (i := 20) (oi := ({ dst := some 23, op := Op.fieldAddr 80 (Operand.tmp 22) 0, type := 0, pos := "l6_journal.go:228", after := #[{ on := 19, ground := Ground.data }], guard := none } : Oper)) (v := _) rfl (by kernel_rfl) (by kernel_rfl) (by kernel_rfl) (fun _ _ _ h => h) (Or.inl ⟨by rfl, fun x hSw => ?hyz2_20⟩) hHeld ?restz2_20
  case hyz2_20 =>
    obtain ⟨m0, m1, m2, m3, m4, m5⟩ := hB.later hSw
    go_simp
    try with_reducible rfl
  try simp only [Act.put, List.setIfInBounds_toArray, List.set_cons_zero, List.set_cons_succ]
  refine' wpAnyH_take (i := 21) (oi := ({ dst := some 24, op := Op.fieldAddr 77 (Operand.tmp 23) 2, type := 0, pos := "l6_journal.go:228", after := #[{ on := 20, ground := Ground.data }], guard := none } : Oper)) (v := _) rfl (by kernel_rfl) (by kernel_rfl) (by kernel_rfl) (fun _ _ _ h => h) (Or.inl ⟨by rfl, fun x hSw => ?hyz2_21⟩) hHeld ?restz2_21
  case hyz2_21 =>
    obtain ⟨m0, m1, m2, m3, m4, m5⟩ := hB.later hSw
    go_simp
    try with_reducible rfl
  try simp only [Act.put, List.setIfInBounds_toArray, List.set_cons_zero, List.set_cons_succ]
  refine' wpAnyH_take (i := 22) (oi := ({ dst := some 25, op := Op.load 3 (Operand.tmp 24), type := 3, pos := "l6_journal.go:228", after := #[{ on := 21, ground := Ground.data }], guard := none } : Oper)) (v := _) rfl (by kernel_rfl) (by kernel_rfl) (by kernel_rfl) (fun _ _ _ h => h) (Or.inl ⟨by rfl, fun x hSw => ?hyz2_22⟩) hHeld ?restz2_22
  case hyz2_22 =>
    obtain ⟨m0, m1, m2, m3, m4, m5⟩ := hB.later hSw
    go_simp
    try with_reducible rfl
  try simp only [Act.put, List.setIfInBounds_toArray, List.set_cons_zero, List.set_cons_succ]
  refine' wpAnyH_take (i := 23) (oi := ({ dst := some 26, op := Op.move (Operand.tmp 0), type := 57, pos := "l6_journal.go:228", after := #[], guard := none } : Oper)) (v := _) rfl (by kernel_rfl) (by kernel_rfl) (by kernel_rfl) (fun _ _ _ h => h) (Or.inl ⟨by rfl, fun x hSw => ?hyz2_23⟩) hHeld ?restz2_23
  case hyz2_23 =>
    obtain ⟨m0, m1, m2, m3, m4, m5⟩ := hB.later hSw
    go_simp
    try with_reducible rfl
  try simp only [Act.put, List.setIfInBounds_toArray, List.set_cons_zero, List.set_cons_succ]
  refine' wpAnyH_take (i := 24) (oi := ({ dst := some 27, op := Op.nilCheck (Operand.tmp 26), type := 0, pos := "l6_journal.go:228", after := #[{ on := 23, ground := Ground.data }], guard := none } : Oper)) (v := _) rfl (by kernel_rfl) (by kernel_rfl) (by kernel_rfl) (fun _ _ _ h => h) (Or.inl ⟨by rfl, fun x hSw => ?hyz2_24⟩) hHeld ?restz2_24
  case hyz2_24 =>
    obtain ⟨m0, m1, m2, m3, m4, m5⟩ := hB.later hSw
    go_simp
    try with_reducible rfl
  try simp only [Act.put, List.setIfInBounds_toArray, List.set_cons_zero, List.set_cons_succ]
  refine' wpAnyH_take (i := 25) (oi := ({ dst := some 28, op := Op.fieldAddr 80 (Operand.tmp 27) 0, type := 0, pos := "l6_journal.go:228", after := #[{ on := 24, ground := Ground.data }], guard := none } : Oper)) (v := _) rfl (by kernel_rfl) (by kernel_rfl) (by kernel_rfl) (fun _ _ _ h => h) (Or.inl ⟨by rfl, fun x hSw => ?hyz2_25⟩) hHeld ?restz2_25
  case hyz2_25 =>
    obtain ⟨m0, m1, m2, m3, m4, m5⟩ := hB.later hSw
    go_simp
    try with_reducible rfl
  try simp only [Act.put, List.setIfInBounds_toArray, List.set_cons_zero, List.set_cons_succ]
  refine' wpAnyH_take (i := 26) (oi := ({ dst := some 29, op := Op.fieldAddr 77 (Operand.tmp 28) 3, type := 0, pos := "l6_journal.go:228", after := #[{ on := 25, ground := Ground.data }], guard := none } : Oper)) (v := _) rfl (by kernel_rfl) (by kernel_rfl) (by kernel_rfl) (fun _ _ _ h => h) (Or.inl ⟨by rfl, fun x hSw => ?hyz2_26⟩) hHeld ?restz2_26
  case hyz2_26 =>
    obtain ⟨m0, m1, m2, m3, m4, m5⟩ := hB.later hSw
    go_simp
    try with_reducible rfl
  try simp only [Act.put, List.setIfInBounds_toArray, List.set_cons_zero, List.set_cons_succ]
  refine' wpAnyH_take (i := 27) (oi := ({ dst := some 30, op := Op.load 4 (Operand.tmp 29), type := 4, pos := "l6_journal.go:228", after := #[{ on := 26, ground := Ground.data }], guard := none } : Oper)) (v := _) rfl (by kernel_rfl) (by kernel_rfl) (by kernel_rfl) (fun _ _ _ h => h) (Or.inl ⟨by rfl, fun x hSw => ?hyz2_27⟩) hHeld ?restz2_27
  case hyz2_27 =>
    obtain ⟨m0, m1, m2, m3, m4, m5⟩ := hB.later hSw
    go_simp
    try with_reducible rfl
  try simp only [Act.put, List.setIfInBounds_toArray, List.set_cons_zero, List.set_cons_succ]
  refine' wpAnyH_take (i := 28) (oi := ({ dst := some 31, op := Op.build 28 #[(0, Operand.tmp 6), (1, Operand.tmp 10), (2, Operand.tmp 15), (3, Operand.tmp 20), (4, Operand.tmp 25), (5, Operand.tmp 30)], type := 28, pos := "l6_journal.go:228", after := #[{ on := 3, ground := Ground.data }, { on := 7, ground := Ground.data }, { on := 12, ground := Ground.data }, { on := 17, ground := Ground.data }, { on := 22, ground := Ground.data }, { on := 27, ground := Ground.data }], guard := none } : Oper)) (v := _) rfl (by kernel_rfl) (by kernel_rfl) (by kernel_rfl) (fun _ _ _ h => h) (Or.inl ⟨by rfl, fun x hSw => ?hyz2_28⟩) hHeld ?restz2_28
  case hyz2_28 =>
    obtain ⟨m0, m1, m2, m3, m4, m5⟩ := hB.later hSw
    go_simp
    try with_reducible rfl
  try simp only [Act.put, List.setIfInBounds_toArray, List.set_cons_zero, List.set_cons_succ]
  refine wpAnyH_ready (rs := [29]) (by kernel_rfl) (by simp) ?_
  refine AllReadyH.cons (o := ({ dst := none, op := Op.store 28 (Operand.tmp 2) (Operand.tmp 31), type := 0, pos := "l6_journal.go:228", after := #[{ on := 28, ground := Ground.data }, { on := 0, ground := Ground.phase }, { on := 1, ground := Ground.phase }, { on := 2, ground := Ground.phase }, { on := 3, ground := Ground.phase }, { on := 4, ground := Ground.phase }, { on := 5, ground := Ground.phase }, { on := 6, ground := Ground.phase }, { on := 7, ground := Ground.phase }, { on := 8, ground := Ground.phase }, { on := 9, ground := Ground.phase }, { on := 10, ground := Ground.phase }, { on := 11, ground := Ground.phase }, { on := 12, ground := Ground.phase }, { on := 13, ground := Ground.phase }, { on := 14, ground := Ground.phase }, { on := 15, ground := Ground.phase }, { on := 16, ground := Ground.phase }, { on := 17, ground := Ground.phase }, { on := 18, ground := Ground.phase }, { on := 19, ground := Ground.phase }, { on := 20, ground := Ground.phase }, { on := 21, ground := Ground.phase }, { on := 22, ground := Ground.phase }, { on := 23, ground := Ground.phase }, { on := 24, ground := Ground.phase }, { on := 25, ground := Ground.phase }, { on := 26, ground := Ground.phase }, { on := 27, ground := Ground.phase }, { on := 28, ground := Ground.phase }], guard := none } : Oper)) rfl (fun K hK => ?_) AllReadyH.nil
  skip
  go_simp
  refine hK.out _ _ (bstep (bal _ _) (bdrew1 _)) (fun hHeld => ?_)
  clear hK K
  try simp only [Act.put, List.setIfInBounds_toArray, List.set_cons_zero, List.set_cons_succ]
  refine wpAnyH_done (by kernel_rfl) ?_ _
  go_wp2
  exact bodyPost_ret (v := .agg #[.slice a n cap, .int .i64 x1, .int .i64 x2, .int .i64 x3, .int .i64 x4, .bool x5]) (results_cell_row Tryz.results27 _ _ w.heap.size 28 _ (0, 0) _ rfl (heap_alloc_new w _) Tryz.underlying28 rfl (by kernel_rfl)) rfl ⟨rfl, hHeld⟩
end Go.Proofs.YtngppfjphbodcaaGreatDoor
