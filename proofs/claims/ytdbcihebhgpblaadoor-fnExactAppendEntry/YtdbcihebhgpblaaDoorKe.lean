/-
  FsCrash: the specification's side.
-/
import Derived.Test.YtdbcihebhgpblaaDoorKa
import Derived.Test.YtdbcihebhgpblaaDoorFg
import Derived.RangeFuncBox
namespace Go.Proofs.YtdbcihebhgpblaaDoor
open Go.RowKit
end Go.Proofs.YtdbcihebhgpblaaDoor
namespace Go.Proofs.YtdbcihebhgpblaaDoor
open Go.RowKit
/-- A disk's own block. -/
def DkAt (w : World) (p : Nat) (v : Value) (x1 x2 x3 x4 : Int) (x5 : Bool) : Prop := w.heap[p]? = some (.cells #[.int .i64 x2, .int .i64 x3, .int .i64 x4, .bool x5, v, .int .i64 x1] 104 (0, 0))
theorem DkAt.later {w w' : World} {p : Nat} {v : Value} {x1 x2 x3 x4 : Int} {x5 : Bool} (h : DkAt w p v x1 x2 x3 x4 x5) (hb : Below w.heap.size w w') : DkAt w' p v x1 x2 x3 x4 x5 := rowL h hb
theorem DkAt.box {w : World} {p : Nat} {v : Value} {x1 x2 x3 x4 : Int} {x5 : Bool} (h : DkAt w p v x1 x2 x3 x4 x5) : B6 w p (.int .i64 x2) (.int .i64 x3) (.int .i64 x4) (.bool x5) v (.int .i64 x1) :=
  ⟨cell_of_row _ _ 0 _ _ _ h, cell_of_row _ _ 1 _ _ _ h, cell_of_row _ _ 2 _ _ _ h, cell_of_row _ _ 3 _ _ _ h, cell_of_row _ _ 4 _ _ _ h, cell_of_row _ _ 5 _ _ _ h⟩
theorem OwnF.wk {w : World} {B B' n : Nat} {v : Value} {F : Nat → Fil} (h : OwnF w B v n F) (hB : B' ≤ B) : OwnF w B' v n F :=
  ⟨h.1, h.2.imp id (fun ⟨g, cap, cur, e1, e2, e3⟩ => ⟨g, cap, cur, e1, Nat.le_trans hB e2, e3⟩)⟩
set_option maxRecDepth 20000 in
set_option maxHeartbeats 8000000 in
theorem iMount (b off n c : Nat) (F : Nat → Fil) (x1 x2 x3 x4 : Int) (x5 : Bool) (w : World) (h : FL w (some ⟨b, off, none⟩) n F) (hn : n ≤ 2097152) : Calls Tryd.prog 31 #[.agg #[.slice (some ⟨b, off, none⟩) n c, .int .i64 x1, .int .i64 x2, .int .i64 x3, .int .i64 x4, .bool x5]] w fun e w' => ∃ p g cap, e = .returned (.pointer (some ⟨p, 0, none⟩)) ∧ DkAt w' p (.slice (some ⟨g, 0, none⟩) n cap) x1 x2 x3 x4 x5 ∧ OwnF w' w.heap.size (.slice (some ⟨g, 0, none⟩) n cap) n F ∧ g < p ∧ w.heap.size ≤ p ∧ Below w.heap.size w w' := by
  have hb0 := bal w (.cells #[.slice (some ⟨b, off, none⟩) n c, .int .i64 x1, .int .i64 x2, .int .i64 x3, .int .i64 x4, .bool x5] 30)
  have hB0 := B6.new w (.slice (some ⟨b, off, none⟩) n c) (.int .i64 x1) (.int .i64 x2) (.int .i64 x3) (.int .i64 x4) (.bool x5) 30
  go_enter Tryd.func31, Tryd.ntmps31
  go_wp2
  refine wp_region_held_drew (S := fun x => Below (w.alloc (.cells #[.slice (some ⟨b, off, none⟩) n c, .int .i64 x1, .int .i64 x2, .int .i64 x3, .int .i64 x4, .bool x5] 30)).heap.size (w.alloc (.cells #[.slice (some ⟨b, off, none⟩) n c, .int .i64 x1, .int .i64 x2, .int .i64 x3, .int .i64 x4, .bool x5] 30)) x) (by kernel_rfl) (bdrew1 _) (fun hHeld => ?_)
  refine' takeF (i := 0) (oi := ({ dst := some 3, op := Op.fieldAddr 30 (Operand.tmp 1) 2, type := 0, pos := "l6_journal.go:219", after := #[], guard := none } : Oper)) rfl ⟨by rfl, fun x hSw => ?h1⟩ hHeld ?r1
  case h1 =>
    go_simp
    try with_reducible rfl
  try simp only [Act.put, List.setIfInBounds_toArray, List.set_cons_zero, List.set_cons_succ]
  refine' takeF (i := 1) (oi := ({ dst := some 4, op := Op.load 3 (Operand.tmp 3), type := 3, pos := "l6_journal.go:219", after := #[{ on := 0, ground := Ground.data }], guard := none } : Oper)) rfl ⟨by rfl, fun x hSw => ?h2⟩ hHeld ?r2
  case h2 =>
    obtain ⟨m0, m1, m2, m3, m4, m5⟩ := hB0.later hSw
    go_simp
    try with_reducible rfl
  try simp only [Act.put, List.setIfInBounds_toArray, List.set_cons_zero, List.set_cons_succ]
  refine' takeF (i := 2) (oi := ({ dst := some 5, op := Op.fieldAddr 30 (Operand.tmp 1) 3, type := 0, pos := "l6_journal.go:219", after := #[], guard := none } : Oper)) rfl ⟨by rfl, fun x hSw => ?h3⟩ hHeld ?r3
  case h3 =>
    go_simp
    try with_reducible rfl
  try simp only [Act.put, List.setIfInBounds_toArray, List.set_cons_zero, List.set_cons_succ]
  refine' takeF (i := 3) (oi := ({ dst := some 6, op := Op.load 3 (Operand.tmp 5), type := 3, pos := "l6_journal.go:219", after := #[{ on := 2, ground := Ground.data }], guard := none } : Oper)) rfl ⟨by rfl, fun x hSw => ?h4⟩ hHeld ?r4
  case h4 =>
    obtain ⟨m0, m1, m2, m3, m4, m5⟩ := hB0.later hSw
    go_simp
    try with_reducible rfl
  try simp only [Act.put, List.setIfInBounds_toArray, List.set_cons_zero, List.set_cons_succ]
  refine' takeF (i := 4) (oi := ({ dst := some 7, op := Op.fieldAddr 30 (Operand.tmp 1) 4, type := 0, pos := "l6_journal.go:219", after := #[], guard := none } : Oper)) rfl ⟨by rfl, fun x hSw => ?h5⟩ hHeld ?r5
  case h5 =>
    go_simp
    try with_reducible rfl
  try simp only [Act.put, List.setIfInBounds_toArray, List.set_cons_zero, List.set_cons_succ]
  refine' takeF (i := 5) (oi := ({ dst := some 8, op := Op.load 3 (Operand.tmp 7), type := 3, pos := "l6_journal.go:219", after := #[{ on := 4, ground := Ground.data }], guard := none } : Oper)) rfl ⟨by rfl, fun x hSw => ?h6⟩ hHeld ?r6
  case h6 =>
    obtain ⟨m0, m1, m2, m3, m4, m5⟩ := hB0.later hSw
    go_simp
    try with_reducible rfl
  try simp only [Act.put, List.setIfInBounds_toArray, List.set_cons_zero, List.set_cons_succ]
  refine' takeF (i := 6) (oi := ({ dst := some 9, op := Op.fieldAddr 30 (Operand.tmp 1) 5, type := 0, pos := "l6_journal.go:219", after := #[], guard := none } : Oper)) rfl ⟨by rfl, fun x hSw => ?h7⟩ hHeld ?r7
  case h7 =>
    go_simp
    try with_reducible rfl
  try simp only [Act.put, List.setIfInBounds_toArray, List.set_cons_zero, List.set_cons_succ]
  refine' takeF (i := 7) (oi := ({ dst := some 10, op := Op.load 4 (Operand.tmp 9), type := 4, pos := "l6_journal.go:219", after := #[{ on := 6, ground := Ground.data }], guard := none } : Oper)) rfl ⟨by rfl, fun x hSw => ?h8⟩ hHeld ?r8
  case h8 =>
    obtain ⟨m0, m1, m2, m3, m4, m5⟩ := hB0.later hSw
    go_simp
    try with_reducible rfl
  try simp only [Act.put, List.setIfInBounds_toArray, List.set_cons_zero, List.set_cons_succ]
  refine' takeF (i := 8) (oi := ({ dst := some 11, op := Op.build 102 #[(0, Operand.tmp 4), (1, Operand.tmp 6), (2, Operand.tmp 8), (3, Operand.tmp 10)], type := 102, pos := "l6_journal.go:219", after := #[{ on := 1, ground := Ground.data }, { on := 3, ground := Ground.data }, { on := 5, ground := Ground.data }, { on := 7, ground := Ground.data }], guard := none } : Oper)) rfl ⟨by rfl, fun x hSw => ?h9⟩ hHeld ?r9
  case h9 =>
    go_simp
    try with_reducible rfl
  try simp only [Act.put, List.setIfInBounds_toArray, List.set_cons_zero, List.set_cons_succ]
  refine' takeF (i := 9) (oi := ({ dst := some 12, op := Op.fieldAddr 30 (Operand.tmp 1) 0, type := 0, pos := "l6_journal.go:219", after := #[], guard := none } : Oper)) rfl ⟨by rfl, fun x hSw => ?h10⟩ hHeld ?r10
  case h10 =>
    go_simp
    try with_reducible rfl
  try simp only [Act.put, List.setIfInBounds_toArray, List.set_cons_zero, List.set_cons_succ]
  refine' takeF (i := 10) (oi := ({ dst := some 13, op := Op.load 28 (Operand.tmp 12), type := 28, pos := "l6_journal.go:219", after := #[{ on := 9, ground := Ground.data }], guard := none } : Oper)) rfl ⟨by rfl, fun x hSw => ?h11⟩ hHeld ?r11
  case h11 =>
    obtain ⟨m0, m1, m2, m3, m4, m5⟩ := hB0.later hSw
    go_simp
    try with_reducible rfl
  try simp only [Act.put, List.setIfInBounds_toArray, List.set_cons_zero, List.set_cons_succ]
  refine' takeF (i := 12) (oi := ({ dst := some 15, op := Op.fieldAddr 30 (Operand.tmp 1) 1, type := 0, pos := "l6_journal.go:219", after := #[], guard := none } : Oper)) rfl ⟨by rfl, fun x hSw => ?h12⟩ hHeld ?r12
  case h12 =>
    go_simp
    try with_reducible rfl
  try simp only [Act.put, List.setIfInBounds_toArray, List.set_cons_zero, List.set_cons_succ]
  refine' takeF (i := 13) (oi := ({ dst := some 16, op := Op.load 3 (Operand.tmp 15), type := 3, pos := "l6_journal.go:219", after := #[{ on := 12, ground := Ground.data }], guard := none } : Oper)) rfl ⟨by rfl, fun x hSw => ?h13⟩ hHeld ?r13
  case h13 =>
    obtain ⟨m0, m1, m2, m3, m4, m5⟩ := hB0.later hSw
    go_simp
    try with_reducible rfl
  try simp only [Act.put, List.setIfInBounds_toArray, List.set_cons_zero, List.set_cons_succ]
  refine wpAnyH_ready (rs := [11]) (by kernel_rfl) (by simp) ?_
  refine AllReadyH.cons (o := ({ dst := some 14, op := Op.call { callee := Callee.value (Operand.func 58), args := #[Operand.tmp 13], argTypes := #[28] }, type := 28, pos := "l6_journal.go:221", after := #[{ on := 10, ground := Ground.data }], guard := none } : Oper)) rfl (fun K hK => ?_) AllReadyH.nil
  go_simp
  refine (iCloneF b off n c F _ (h.later (bstep hb0 hHeld)) hn).mono ?_
  rintro e w2 ⟨g, cap, rfl, hO2, hb2⟩
  refine hK.out _ _ (bstep hHeld hb2) (fun hHeld => ?_)
  clear hK K
  try simp only [Act.put, List.setIfInBounds_toArray, List.set_cons_zero, List.set_cons_succ]
  refine' takeF (i := 14) (oi := ({ dst := some 17, op := Op.build 104 #[(0, Operand.tmp 11), (1, Operand.tmp 14), (2, Operand.tmp 16)], type := 104, pos := "l6_journal.go:219", after := #[{ on := 8, ground := Ground.data }, { on := 11, ground := Ground.data }, { on := 13, ground := Ground.data }], guard := none } : Oper)) rfl ⟨by rfl, fun x hSw => ?h14⟩ hHeld ?r14
  case h14 =>
    go_simp
    try with_reducible rfl
  try simp only [Act.put, List.setIfInBounds_toArray, List.set_cons_zero, List.set_cons_succ]
  refine wpAnyH_ready (rs := [15]) (by kernel_rfl) (by simp) ?_
  refine AllReadyH.cons (o := ({ dst := some 18, op := Op.box 104 (Operand.tmp 17), type := 64, pos := "l6_journal.go:219", after := #[{ on := 14, ground := Ground.data }], guard := none } : Oper)) rfl (fun K hK => ?_) AllReadyH.nil
  skip
  go_simp
  refine hK.out _ _ (bstep hHeld (bal _ _)) (fun hHeld => ?_)
  clear hK K
  try simp only [Act.put, List.setIfInBounds_toArray, List.set_cons_zero, List.set_cons_succ]
  refine' takeF (i := 16) (oi := ({ dst := some 2, op := Op.assign (Operand.tmp 18), type := 64, pos := "l6_journal.go:219", after := #[{ on := 15, ground := Ground.data }, { on := 11, ground := Ground.chain }, { on := 0, ground := Ground.phase }, { on := 1, ground := Ground.phase }, { on := 2, ground := Ground.phase }, { on := 3, ground := Ground.phase }, { on := 4, ground := Ground.phase }, { on := 5, ground := Ground.phase }, { on := 6, ground := Ground.phase }, { on := 7, ground := Ground.phase }, { on := 8, ground := Ground.phase }, { on := 9, ground := Ground.phase }, { on := 10, ground := Ground.phase }, { on := 11, ground := Ground.phase }, { on := 12, ground := Ground.phase }, { on := 13, ground := Ground.phase }, { on := 14, ground := Ground.phase }, { on := 15, ground := Ground.phase }], guard := none } : Oper)) rfl ⟨by rfl, fun x hSw => ?h15⟩ hHeld ?r15
  case h15 =>
    go_simp
    try with_reducible rfl
  try simp only [Act.put, List.setIfInBounds_toArray, List.set_cons_zero, List.set_cons_succ]
  refine wpAnyH_done (by kernel_rfl) ?_ _
  go_wp2
  go_ret
  have hs := hb2.size
  have hgp := (hO2.lt g rfl).2
  exact ⟨w2.heap.size, g, cap, rfl, heap_alloc_new w2 _, (hO2.later (bal w2 _)).wk (by simp), hgp, by simp at hs; omega, bstep hb0 hHeld⟩
set_option maxRecDepth 20000 in
set_option maxHeartbeats 8000000 in
theorem iState (p : Nat) (v : Value) (a : Option Addr) (n cap : Nat) (hv : v = .slice a n cap) (x1 x2 x3 x4 : Int) (x5 : Bool) (w : World) (h : DkAt w p v x1 x2 x3 x4 x5) : Calls Tryd.prog 34 #[.pointer (some ⟨p, 0, none⟩)] w fun e w' => e = .returned (.agg #[v, .int .i64 x1, .int .i64 x2, .int .i64 x3, .int .i64 x4, .bool x5]) ∧ Below w.heap.size w w' := by
  subst hv
  have hB := h.box
  go_enter Tryd.func34, Tryd.ntmps34
  go_wp2
  refine wp_region_held_drew (S := fun x => Below w.heap.size w x) (by kernel_rfl) (bstep (bal _ _) (bdrew1 _)) (fun hHeld => ?_)
  refine' takeF (i := 0) (oi := ({ dst := some 3, op := Op.move (Operand.tmp 0), type := 64, pos := "l6_journal.go:228", after := #[], guard := none } : Oper)) rfl ⟨by rfl, fun x hSw => ?h16⟩ hHeld ?r16
  case h16 =>
    go_simp
    try with_reducible rfl
  try simp only [Act.put, List.setIfInBounds_toArray, List.set_cons_zero, List.set_cons_succ]
  refine' takeF (i := 1) (oi := ({ dst := some 4, op := Op.nilCheck (Operand.tmp 3), type := 0, pos := "l6_journal.go:228", after := #[{ on := 0, ground := Ground.data }], guard := none } : Oper)) rfl ⟨by rfl, fun x hSw => ?h17⟩ hHeld ?r17
  case h17 =>
    go_simp
    try with_reducible rfl
  try simp only [Act.put, List.setIfInBounds_toArray, List.set_cons_zero, List.set_cons_succ]
  refine' takeF (i := 2) (oi := ({ dst := some 5, op := Op.fieldAddr 104 (Operand.tmp 4) 1, type := 0, pos := "l6_journal.go:228", after := #[{ on := 1, ground := Ground.data }], guard := none } : Oper)) rfl ⟨by rfl, fun x hSw => ?h18⟩ hHeld ?r18
  case h18 =>
    go_simp
    try with_reducible rfl
  try simp only [Act.put, List.setIfInBounds_toArray, List.set_cons_zero, List.set_cons_succ]
  refine' takeF (i := 3) (oi := ({ dst := some 6, op := Op.load 28 (Operand.tmp 5), type := 28, pos := "l6_journal.go:228", after := #[{ on := 2, ground := Ground.data }], guard := none } : Oper)) rfl ⟨by rfl, fun x hSw => ?h19⟩ hHeld ?r19
  case h19 =>
    obtain ⟨m0, m1, m2, m3, m4, m5⟩ := hB.later hSw
    go_simp
    try with_reducible rfl
  try simp only [Act.put, List.setIfInBounds_toArray, List.set_cons_zero, List.set_cons_succ]
  refine' takeF (i := 4) (oi := ({ dst := some 7, op := Op.move (Operand.tmp 0), type := 64, pos := "l6_journal.go:228", after := #[], guard := none } : Oper)) rfl ⟨by rfl, fun x hSw => ?h20⟩ hHeld ?r20
  case h20 =>
    go_simp
    try with_reducible rfl
  try simp only [Act.put, List.setIfInBounds_toArray, List.set_cons_zero, List.set_cons_succ]
  refine' takeF (i := 5) (oi := ({ dst := some 8, op := Op.nilCheck (Operand.tmp 7), type := 0, pos := "l6_journal.go:228", after := #[{ on := 4, ground := Ground.data }], guard := none } : Oper)) rfl ⟨by rfl, fun x hSw => ?h21⟩ hHeld ?r21
  case h21 =>
    go_simp
    try with_reducible rfl
  try simp only [Act.put, List.setIfInBounds_toArray, List.set_cons_zero, List.set_cons_succ]
  refine' takeF (i := 6) (oi := ({ dst := some 9, op := Op.fieldAddr 104 (Operand.tmp 8) 2, type := 0, pos := "l6_journal.go:228", after := #[{ on := 5, ground := Ground.data }], guard := none } : Oper)) rfl ⟨by rfl, fun x hSw => ?h22⟩ hHeld ?r22
  case h22 =>
    go_simp
    try with_reducible rfl
  try simp only [Act.put, List.setIfInBounds_toArray, List.set_cons_zero, List.set_cons_succ]
  refine' takeF (i := 7) (oi := ({ dst := some 10, op := Op.load 3 (Operand.tmp 9), type := 3, pos := "l6_journal.go:228", after := #[{ on := 6, ground := Ground.data }], guard := none } : Oper)) rfl ⟨by rfl, fun x hSw => ?h23⟩ hHeld ?r23
  case h23 =>
    obtain ⟨m0, m1, m2, m3, m4, m5⟩ := hB.later hSw
    go_simp
    try with_reducible rfl
  try simp only [Act.put, List.setIfInBounds_toArray, List.set_cons_zero, List.set_cons_succ]
  refine' takeF (i := 8) (oi := ({ dst := some 11, op := Op.move (Operand.tmp 0), type := 64, pos := "l6_journal.go:228", after := #[], guard := none } : Oper)) rfl ⟨by rfl, fun x hSw => ?h24⟩ hHeld ?r24
  case h24 =>
    go_simp
    try with_reducible rfl
  try simp only [Act.put, List.setIfInBounds_toArray, List.set_cons_zero, List.set_cons_succ]
  refine' takeF (i := 9) (oi := ({ dst := some 12, op := Op.nilCheck (Operand.tmp 11), type := 0, pos := "l6_journal.go:228", after := #[{ on := 8, ground := Ground.data }], guard := none } : Oper)) rfl ⟨by rfl, fun x hSw => ?h25⟩ hHeld ?r25
  case h25 =>
    go_simp
    try with_reducible rfl
  try simp only [Act.put, List.setIfInBounds_toArray, List.set_cons_zero, List.set_cons_succ]
  refine' takeF (i := 10) (oi := ({ dst := some 13, op := Op.fieldAddr 104 (Operand.tmp 12) 0, type := 0, pos := "l6_journal.go:228", after := #[{ on := 9, ground := Ground.data }], guard := none } : Oper)) rfl ⟨by rfl, fun x hSw => ?h26⟩ hHeld ?r26
  case h26 =>
    go_simp
    try with_reducible rfl
  try simp only [Act.put, List.setIfInBounds_toArray, List.set_cons_zero, List.set_cons_succ]
  refine' takeF (i := 11) (oi := ({ dst := some 14, op := Op.fieldAddr 102 (Operand.tmp 13) 0, type := 0, pos := "l6_journal.go:228", after := #[{ on := 10, ground := Ground.data }], guard := none } : Oper)) rfl ⟨by rfl, fun x hSw => ?h27⟩ hHeld ?r27
  case h27 =>
    go_simp
    try with_reducible rfl
  try simp only [Act.put, List.setIfInBounds_toArray, List.set_cons_zero, List.set_cons_succ]
  refine' takeF (i := 12) (oi := ({ dst := some 15, op := Op.load 3 (Operand.tmp 14), type := 3, pos := "l6_journal.go:228", after := #[{ on := 11, ground := Ground.data }], guard := none } : Oper)) rfl ⟨by rfl, fun x hSw => ?h28⟩ hHeld ?r28
  case h28 =>
    obtain ⟨m0, m1, m2, m3, m4, m5⟩ := hB.later hSw
    go_simp
    try with_reducible rfl
  try simp only [Act.put, List.setIfInBounds_toArray, List.set_cons_zero, List.set_cons_succ]
  refine' takeF (i := 13) (oi := ({ dst := some 16, op := Op.move (Operand.tmp 0), type := 64, pos := "l6_journal.go:228", after := #[], guard := none } : Oper)) rfl ⟨by rfl, fun x hSw => ?h29⟩ hHeld ?r29
  case h29 =>
    go_simp
    try with_reducible rfl
  try simp only [Act.put, List.setIfInBounds_toArray, List.set_cons_zero, List.set_cons_succ]
  refine' takeF (i := 14) (oi := ({ dst := some 17, op := Op.nilCheck (Operand.tmp 16), type := 0, pos := "l6_journal.go:228", after := #[{ on := 13, ground := Ground.data }], guard := none } : Oper)) rfl ⟨by rfl, fun x hSw => ?h30⟩ hHeld ?r30
  case h30 =>
    go_simp
    try with_reducible rfl
  try simp only [Act.put, List.setIfInBounds_toArray, List.set_cons_zero, List.set_cons_succ]
  refine' takeF (i := 15) (oi := ({ dst := some 18, op := Op.fieldAddr 104 (Operand.tmp 17) 0, type := 0, pos := "l6_journal.go:228", after := #[{ on := 14, ground := Ground.data }], guard := none } : Oper)) rfl ⟨by rfl, fun x hSw => ?h31⟩ hHeld ?r31
  case h31 =>
    go_simp
    try with_reducible rfl
  try simp only [Act.put, List.setIfInBounds_toArray, List.set_cons_zero, List.set_cons_succ]
  refine' takeF (i := 16) (oi := ({ dst := some 19, op := Op.fieldAddr 102 (Operand.tmp 18) 1, type := 0, pos := "l6_journal.go:228", after := #[{ on := 15, ground := Ground.data }], guard := none } : Oper)) rfl ⟨by rfl, fun x hSw => ?h32⟩ hHeld ?r32
  case h32 =>
    go_simp
    try with_reducible rfl
  try simp only [Act.put, List.setIfInBounds_toArray, List.set_cons_zero, List.set_cons_succ]
  refine' takeF (i := 17) (oi := ({ dst := some 20, op := Op.load 3 (Operand.tmp 19), type := 3, pos := "l6_journal.go:228", after := #[{ on := 16, ground := Ground.data }], guard := none } : Oper)) rfl ⟨by rfl, fun x hSw => ?h33⟩ hHeld ?r33
  case h33 =>
    obtain ⟨m0, m1, m2, m3, m4, m5⟩ := hB.later hSw
    go_simp
    try with_reducible rfl
  try simp only [Act.put, List.setIfInBounds_toArray, List.set_cons_zero, List.set_cons_succ]
  refine' takeF (i := 18) (oi := ({ dst := some 21, op := Op.move (Operand.tmp 0), type := 64, pos := "l6_journal.go:228", after := #[], guard := none } : Oper)) rfl ⟨by rfl, fun x hSw => ?h34⟩ hHeld ?r34
  case h34 =>
    go_simp
    try with_reducible rfl
  try simp only [Act.put, List.setIfInBounds_toArray, List.set_cons_zero, List.set_cons_succ]
  refine' takeF (i := 19) (oi := ({ dst := some 22, op := Op.nilCheck (Operand.tmp 21), type := 0, pos := "l6_journal.go:228", after := #[{ on := 18, ground := Ground.data }], guard := none } : Oper)) rfl ⟨by rfl, fun x hSw => ?h35⟩ hHeld ?r35
  case h35 =>
    go_simp
    try with_reducible rfl
  try simp only [Act.put, List.setIfInBounds_toArray, List.set_cons_zero, List.set_cons_succ]
  refine' takeF (i := 20) (oi := ({ dst := some 23, op := Op.fieldAddr 104 (Operand.tmp 22) 0, type := 0, pos := "l6_journal.go:228", after := #[{ on := 19, ground := Ground.data }], guard := none } : Oper)) rfl ⟨by rfl, fun x hSw => ?h36⟩ hHeld ?r36
  case h36 =>
    go_simp
    try with_reducible rfl
  try simp only [Act.put, List.setIfInBounds_toArray, List.set_cons_zero, List.set_cons_succ]
  refine' takeF (i := 21) (oi := ({ dst := some 24, op := Op.fieldAddr 102 (Operand.tmp 23) 2, type := 0, pos := "l6_journal.go:228", after := #[{ on := 20, ground := Ground.data }], guard := none } : Oper)) rfl ⟨by rfl, fun x hSw => ?h37⟩ hHeld ?r37
  case h37 =>
    go_simp
    try with_reducible rfl
  try simp only [Act.put, List.setIfInBounds_toArray, List.set_cons_zero, List.set_cons_succ]
  refine' takeF (i := 22) (oi := ({ dst := some 25, op := Op.load 3 (Operand.tmp 24), type := 3, pos := "l6_journal.go:228", after := #[{ on := 21, ground := Ground.data }], guard := none } : Oper)) rfl ⟨by rfl, fun x hSw => ?h38⟩ hHeld ?r38
  case h38 =>
    obtain ⟨m0, m1, m2, m3, m4, m5⟩ := hB.later hSw
    go_simp
    try with_reducible rfl
  try simp only [Act.put, List.setIfInBounds_toArray, List.set_cons_zero, List.set_cons_succ]
  refine' takeF (i := 23) (oi := ({ dst := some 26, op := Op.move (Operand.tmp 0), type := 64, pos := "l6_journal.go:228", after := #[], guard := none } : Oper)) rfl ⟨by rfl, fun x hSw => ?h39⟩ hHeld ?r39
  case h39 =>
    go_simp
    try with_reducible rfl
  try simp only [Act.put, List.setIfInBounds_toArray, List.set_cons_zero, List.set_cons_succ]
  refine' takeF (i := 24) (oi := ({ dst := some 27, op := Op.nilCheck (Operand.tmp 26), type := 0, pos := "l6_journal.go:228", after := #[{ on := 23, ground := Ground.data }], guard := none } : Oper)) rfl ⟨by rfl, fun x hSw => ?h40⟩ hHeld ?r40
  case h40 =>
    go_simp
    try with_reducible rfl
  try simp only [Act.put, List.setIfInBounds_toArray, List.set_cons_zero, List.set_cons_succ]
  refine' takeF (i := 25) (oi := ({ dst := some 28, op := Op.fieldAddr 104 (Operand.tmp 27) 0, type := 0, pos := "l6_journal.go:228", after := #[{ on := 24, ground := Ground.data }], guard := none } : Oper)) rfl ⟨by rfl, fun x hSw => ?h41⟩ hHeld ?r41
  case h41 =>
    go_simp
    try with_reducible rfl
  try simp only [Act.put, List.setIfInBounds_toArray, List.set_cons_zero, List.set_cons_succ]
  refine' takeF (i := 26) (oi := ({ dst := some 29, op := Op.fieldAddr 102 (Operand.tmp 28) 3, type := 0, pos := "l6_journal.go:228", after := #[{ on := 25, ground := Ground.data }], guard := none } : Oper)) rfl ⟨by rfl, fun x hSw => ?h42⟩ hHeld ?r42
  case h42 =>
    go_simp
    try with_reducible rfl
  try simp only [Act.put, List.setIfInBounds_toArray, List.set_cons_zero, List.set_cons_succ]
  refine' takeF (i := 27) (oi := ({ dst := some 30, op := Op.load 4 (Operand.tmp 29), type := 4, pos := "l6_journal.go:228", after := #[{ on := 26, ground := Ground.data }], guard := none } : Oper)) rfl ⟨by rfl, fun x hSw => ?h43⟩ hHeld ?r43
  case h43 =>
    obtain ⟨m0, m1, m2, m3, m4, m5⟩ := hB.later hSw
    go_simp
    try with_reducible rfl
  try simp only [Act.put, List.setIfInBounds_toArray, List.set_cons_zero, List.set_cons_succ]
  refine' takeF (i := 28) (oi := ({ dst := some 31, op := Op.build 30 #[(0, Operand.tmp 6), (1, Operand.tmp 10), (2, Operand.tmp 15), (3, Operand.tmp 20), (4, Operand.tmp 25), (5, Operand.tmp 30)], type := 30, pos := "l6_journal.go:228", after := #[{ on := 3, ground := Ground.data }, { on := 7, ground := Ground.data }, { on := 12, ground := Ground.data }, { on := 17, ground := Ground.data }, { on := 22, ground := Ground.data }, { on := 27, ground := Ground.data }], guard := none } : Oper)) rfl ⟨by rfl, fun x hSw => ?h44⟩ hHeld ?r44
  case h44 =>
    go_simp
    try with_reducible rfl
  try simp only [Act.put, List.setIfInBounds_toArray, List.set_cons_zero, List.set_cons_succ]
  refine wpAnyH_ready (rs := [29]) (by kernel_rfl) (by simp) ?_
  refine AllReadyH.cons (o := ({ dst := none, op := Op.store 30 (Operand.tmp 2) (Operand.tmp 31), type := 0, pos := "l6_journal.go:228", after := #[{ on := 28, ground := Ground.data }, { on := 0, ground := Ground.phase }, { on := 1, ground := Ground.phase }, { on := 2, ground := Ground.phase }, { on := 3, ground := Ground.phase }, { on := 4, ground := Ground.phase }, { on := 5, ground := Ground.phase }, { on := 6, ground := Ground.phase }, { on := 7, ground := Ground.phase }, { on := 8, ground := Ground.phase }, { on := 9, ground := Ground.phase }, { on := 10, ground := Ground.phase }, { on := 11, ground := Ground.phase }, { on := 12, ground := Ground.phase }, { on := 13, ground := Ground.phase }, { on := 14, ground := Ground.phase }, { on := 15, ground := Ground.phase }, { on := 16, ground := Ground.phase }, { on := 17, ground := Ground.phase }, { on := 18, ground := Ground.phase }, { on := 19, ground := Ground.phase }, { on := 20, ground := Ground.phase }, { on := 21, ground := Ground.phase }, { on := 22, ground := Ground.phase }, { on := 23, ground := Ground.phase }, { on := 24, ground := Ground.phase }, { on := 25, ground := Ground.phase }, { on := 26, ground := Ground.phase }, { on := 27, ground := Ground.phase }, { on := 28, ground := Ground.phase }], guard := none } : Oper)) rfl (fun K hK => ?_) AllReadyH.nil
  skip
  go_simp
  refine hK.out _ _ (bstep (bal _ _) (bdrew1 _)) (fun hHeld => ?_)
  clear hK K
  try simp only [Act.put, List.setIfInBounds_toArray, List.set_cons_zero, List.set_cons_succ]
  refine wpAnyH_done (by kernel_rfl) ?_ _
  go_wp2
  exact bodyPost_ret (v := .agg #[.slice a n cap, .int .i64 x1, .int .i64 x2, .int .i64 x3, .int .i64 x4, .bool x5]) (results_cell_row Tryd.results34 _ _ w.heap.size 30 _ (0, 0) _ rfl (heap_alloc_new w _) Tryd.underlying30 rfl (by kernel_rfl)) rfl ⟨rfl, hHeld⟩
end Go.Proofs.YtdbcihebhgpblaaDoor
namespace Go.Proofs.YtdbcihebhgpblaaDoor
open Go.RowKit
def tlOf (m : Nat) (T : Nat → ByteArray) (k : Nat) : ByteArray := if k < m then T k else ByteArray.empty
/-- The files behind a crash. -/
def crF (F : Nat → Fil) (m : Nat) (T : Nat → ByteArray) : Nat → Fil := fun k => ⟨(F k).s, crD (F k).d (F k).y (tlOf m T k), ((crD (F k).d (F k).y (tlOf m T k)).size : Int)⟩
theorem OwnF.cur {w : World} {B n cap g : Nat} {F : Nat → Fil} (h : OwnF w B (.slice (some ⟨g, 0, none⟩) n cap) n F) : ∃ cur, w.heap[g]? = some (.cells cur 92 (0, 0)) ∧ B ≤ g ∧ n ≤ cap ∧ cap ≤ maxLen ∧ cur.size = cap * 3 ∧ ∀ k, k < n → cur[k * 3]? = some (.string (F k).s) ∧ cur[k * 3 + 1]? = some (.string (F k).d) ∧ cur[k * 3 + 2]? = some (.int .i64 (F k).y) := by
  rcases h.2 with ⟨e, _⟩ | ⟨g', cap', cur, e, hB, hg, hc, hm, hs, ht⟩
  · cases e
  · simp only [Value.slice.injEq, Option.some.injEq, Addr.mk.injEq, and_true, true_and] at e
    obtain ⟨rfl, rfl⟩ := e
    have key : ∀ j, j < n * 3 → cur[j]? = (flat n F)[j]? := fun j hj => by
      have h1 : (cur.toList.take (n * 3))[j]? = (flatL n F)[j]? := by rw [ht]
      rw [List.getElem?_take, if_pos hj] at h1
      simpa [flatL] using h1
    exact ⟨cur, hg, hB, hc, hm, hs, fun k hk => ⟨by rw [key _ (by omega)]; exact flat0 F hk, by rw [key _ (by omega)]; exact flat1 F hk, by rw [key _ (by omega)]; exact flat2 F hk⟩⟩
theorem OwnF.mk {w : World} {B n cap g : Nat} {F : Nat → Fil} {cur : Array Value} (hg : w.heap[g]? = some (.cells cur 92 (0, 0))) (hB : B ≤ g) (hc : n ≤ cap) (hm : cap ≤ maxLen) (hs : cur.size = cap * 3)
    (hall : ∀ k, k < n → cur[k * 3]? = some (.string (F k).s) ∧ cur[k * 3 + 1]? = some (.string (F k).d) ∧ cur[k * 3 + 2]? = some (.int .i64 (F k).y)) : OwnF w B (.slice (some ⟨g, 0, none⟩) n cap) n F := by
  refine ⟨flatL_len n F, Or.inr ⟨g, cap, cur, rfl, hB, hg, hc, hm, hs, ?_⟩⟩
  have e : cur.extract 0 (n * 3) = flat n F := by
    apply flat_of
    · simp; omega
    · intro k hk
      obtain ⟨h0, h1, h2⟩ := hall k hk
      refine ⟨?_, ?_, ?_⟩
      · rw [Array.getElem?_extract]; simp; exact ⟨by omega, h0⟩
      · rw [Array.getElem?_extract]; simp; exact ⟨by omega, h1⟩
      · rw [Array.getElem?_extract]; simp; exact ⟨by omega, h2⟩
  unfold flatL
  rw [← e]
  simp
theorem okFl_of {n : Nat} {F : Nat → Fil} {x1 x2 x3 x4 : Int} (h : okFs n F x1 x2 x3 x4 = true) (k : Nat) (hk : k < n) : 0 ≤ (F k).y ∧ (F k).y ≤ (F k).d.size := by
  have h1 := okFs_split n F x1 x2 x3 x4
  rw [h] at h1
  have h2 : allN n (okFl F) = true := by
    rcases hh : allN n (okFl F)
    · rw [hh] at h1; simp at h1
    · rfl
  unfold allN at h2
  rw [List.all_eq_true] at h2
  have h3 := h2 k (by simpa using hk)
  simp [okFl, btw] at h3
  omega
theorem okFs_n {n : Nat} {F : Nat → Fil} {x1 x2 x3 x4 : Int} (h : okFs n F x1 x2 x3 x4 = true) : n ≤ 300 := by
  simp [okFs] at h
  omega
theorem set6_row {V : World} {Q : Nat} {t : TypeId} {z0 z1 z2 z3 z4 z5 : Value} (v0 v1 v2 v3 v4 v5 : Value) (h : V.heap[Q]? = some (.cells #[z0, z1, z2, z3, z4, z5] t (0, 0))) :
    ((((((V.setCell ⟨Q, 0, none⟩ v0).setCell ⟨Q, 1, none⟩ v1).setCell ⟨Q, 2, none⟩ v2).setCell ⟨Q, 3, none⟩ v3).setCell ⟨Q, 4, none⟩ v4).setCell ⟨Q, 5, none⟩ v5).heap[Q]? = some (.cells #[v0, v1, v2, v3, v4, v5] t (0, 0)) :=
  heap_setCell_same _ _ 5 _ _ _ (heap_setCell_same _ _ 4 _ _ _ (heap_setCell_same _ _ 3 _ _ _ (heap_setCell_same _ _ 2 _ _ _ (heap_setCell_same _ _ 1 _ _ _ (heap_setCell_same _ _ 0 _ _ _ h)))))
theorem set6_oth {V : World} {Q P : Nat} {o : Obj} (v0 v1 v2 v3 v4 v5 : Value) (h : V.heap[P]? = some o) (hne : P ≠ Q) :
    ((((((V.setCell ⟨Q, 0, none⟩ v0).setCell ⟨Q, 1, none⟩ v1).setCell ⟨Q, 2, none⟩ v2).setCell ⟨Q, 3, none⟩ v3).setCell ⟨Q, 4, none⟩ v4).setCell ⟨Q, 5, none⟩ v5).heap[P]? = some o :=
  rowO (rowO (rowO (rowO (rowO (rowO h hne) hne) hne) hne) hne) hne
theorem set6_below {w V : World} {Q : Nat} (v0 v1 v2 v3 v4 v5 : Value) (h : Below w.heap.size w V) (hQ : w.heap.size ≤ Q) :
    Below w.heap.size w ((((((V.setCell ⟨Q, 0, none⟩ v0).setCell ⟨Q, 1, none⟩ v1).setCell ⟨Q, 2, none⟩ v2).setCell ⟨Q, 3, none⟩ v3).setCell ⟨Q, 4, none⟩ v4).setCell ⟨Q, 5, none⟩ v5) :=
  bset (bset (bset (bset (bset (bset h hQ) hQ) hQ) hQ) hQ) hQ
end Go.Proofs.YtdbcihebhgpblaaDoor
namespace Go.Proofs.YtdbcihebhgpblaaDoor
open Go.RowKit
theorem not_own {W : World} {q : Nat} {X : Array Value} {t e : TypeId} {fr : Nat × Nat} (h : W.heap[q]? = some (.cells X t fr)) (hte : t ≠ e) {base size k : Nat} {v : Value} {xs : List Value} (hr : W.ownsRow base e size v k xs) : some q ≠ v.ownBlock := by
  rcases hr.2 with ⟨rfl, _⟩ | ⟨g, cap, cur, rfl, _, hgb, _⟩
  · simp [Value.ownBlock]
  · intro e'
    obtain rfl : q = g := by simpa [Value.ownBlock] using e'
    rw [h] at hgb
    simp at hgb
    exact hte hgb.2.1
theorem own_slice {w : World} {B n : Nat} {v : Value} {F : Nat → Fil} (h : OwnF w B v n F) : ∃ a cap, v = .slice a n cap := by
  rcases h.2 with ⟨rfl, rfl⟩ | ⟨g, cap, _, rfl, _⟩
  · exact ⟨none, 0, rfl⟩
  · exact ⟨_, _, rfl⟩
theorem ext_all (t : ByteArray) : t.extract 0 t.size = t := rst_zero t
end Go.Proofs.YtdbcihebhgpblaaDoor
