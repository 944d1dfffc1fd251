/-
  The value of an item: the program's way.
-/
import Derived.Test.YtgeiamgeclbiaaaGreatDoorVf
namespace Go.Proofs.YtgeiamgeclbiaaaGreatDoor
open Go.RowKit Go.Maps Go.WideMaps
/-- A value as its type asks. -/
def goodV (x : Itm) : Prop := (x.o = 1 ∧ x.s = ⟨#[]⟩) ∨ (x.o = 2 ∧ x.m = 0)
theorem cmp_eq {x y : Itm} (hx : goodV x) (hy : goodV y) (ho : x.o = y.o) : decide (cmpV x.m x.s y.m y.s = 0) = decide (x.m = y.m ∧ x.s = y.s) := by
  have hl : ∀ s : ByteArray, Op.bytesLess s.toList s.toList = false := fun s => less_irr _
  rcases hx with ⟨h1, h2⟩ | ⟨h1, h2⟩ <;> rcases hy with ⟨h3, h4⟩ | ⟨h3, h4⟩
  · rw [h2, h4]
    unfold cmpV befV
    rw [hl]
    simp only [Bool.or_false]
    by_cases e1 : x.m < y.m
    · have : ¬ x.m = y.m := by omega
      simp [e1, this]
    · by_cases e2 : y.m < x.m
      · have : ¬ x.m = y.m := by omega
        simp [e1, e2, this]
      · have : x.m = y.m := by omega
        simp [this]
  · omega
  · omega
  · rw [h2, h4]
    unfold cmpV befV
    simp only [Int.lt_irrefl, decide_false, Bool.false_or]
    rcases e1 : Op.bytesLess x.s.toList y.s.toList
    · by_cases e2 : x.s = y.s
      · simp [e2]
      · have : (x.s.toList == y.s.toList) = false := by rw [eqS]; simp [e2]
        simp [this, e2]
    · have e2 : ¬ x.s = y.s := fun e => by rw [e, hl] at e1; cases e1
      simp [e2]
theorem cmp_lt {x y : Itm} (hx : goodV x) (hy : goodV y) (ho : x.o = y.o) : decide (cmpV x.m x.s y.m y.s < 0) = lesB x.o x.m x.s y.m y.s := by
  have hl : ∀ s : ByteArray, Op.bytesLess s.toList s.toList = false := fun s => less_irr _
  rcases hx with ⟨h1, h2⟩ | ⟨h1, h2⟩ <;> rcases hy with ⟨h3, h4⟩ | ⟨h3, h4⟩
  · rw [h2, h4]
    unfold cmpV befV lesB
    rw [hl, if_pos h1]
    simp only [Bool.or_false]
    by_cases e1 : x.m < y.m
    · simp [e1]
    · by_cases e2 : y.m < x.m
      · simp [e1, e2]
      · simp [e1, e2]
  · omega
  · omega
  · rw [h2, h4, show lesB x.o 0 x.s 0 y.s = Op.bytesLess x.s.toList y.s.toList from by unfold lesB; rw [if_neg (by omega)]]
    unfold cmpV befV
    simp only [Int.lt_irrefl, decide_false, Bool.false_or]
    rcases e1 : Op.bytesLess x.s.toList y.s.toList
    · by_cases e2 : (x.s.toList == y.s.toList) = true
      · simp [e2]
      · simp [e2]
    · simp
theorem if_be {α : Type} (m m' : Int) (s s' : ByteArray) (f : Bool → α) : (if m = m' then (if s.toList = s'.toList then f true else f false) else f false) = f (decide (m = m' ∧ s = s')) := by
  by_cases h1 : m = m'
  · rw [if_pos h1]
    by_cases h2 : s.toList = s'.toList
    · rw [if_pos h2]; simp [h1, bytes_inj2 h2]
    · have h3 : ¬ s = s' := fun e => h2 (by rw [e])
      rw [if_neg h2]; simp [h3]
  · rw [if_neg h1]; simp [h1]
/-- The value of an item that is no column. -/
def itW (t : Itm) (x y : Itm) : Itm := if t.o = 1 then ⟨1, t.m, ⟨#[]⟩⟩ else if t.o = 2 then ⟨2, 0, t.s⟩ else appI t.o x y
set_option maxRecDepth 20000 in
set_option maxHeartbeats 8000000 in
theorem iResV (o mm : Int) (s : ByteArray) (a : Option Addr) (m c : Nat) (X : Nat → Itm) (w : World) (hX : IL w a m X) (hm : arity o ≤ m) (hm2 : m ≤ 1048576) (ho : 1 ≤ o ∧ o ≤ 13) (ho3 : ¬ o = 3) (hgo : (o = 7 ∨ o = 8) → goodV (X 0) ∧ goodV (X 1) ∧ (X 0).o = (X 1).o) (hsz : ∀ i, i < m → (X i).s.size ≤ 1000000) :
    Calls Tryz.prog 136 #[.agg #[.int .i64 o, .int .i64 mm, .string s], .slice a m c] w fun e w' => e = .returned (.agg #[.int .i64 (itW ⟨o, mm, s⟩ (X 0) (X 1)).o, .int .i64 (itW ⟨o, mm, s⟩ (X 0) (X 1)).m, .string (itW ⟨o, mm, s⟩ (X 0) (X 1)).s]) ∧ Below w.heap.size w w' := by
  have HGO : Hid ((o = 7 ∨ o = 8) → goodV (X 0) ∧ goodV (X 1) ∧ (X 0).o = (X 1).o) := hgo
  clear hgo
  by_cases e1 : o = 1
  · subst e1
    have hbU : Below w.heap.size w ((w.alloc (.cells #[.int .i64 1, .int .i64 mm, .string s] 108)).alloc (.cells #[.int .i64 0, .int .i64 0, .string ⟨#[]⟩] 66)) := bstep (bal _ _) (bal _ _)
    have hrr : ((w.alloc (.cells #[.int .i64 1, .int .i64 mm, .string s] 108)).alloc (.cells #[.int .i64 0, .int .i64 0, .string ⟨#[]⟩] 66)).heap[w.heap.size + 1]? = some (.cells #[.int .i64 0, .int .i64 0, .string ⟨#[]⟩] 66 (0, 0)) := by
      have q := heap_alloc_new (w.alloc (.cells #[.int .i64 1, .int .i64 mm, .string s] 108)) (.cells #[.int .i64 0, .int .i64 0, .string ⟨#[]⟩] 66)
      rw [World.size_alloc] at q
      exact q
    have hri : ((w.alloc (.cells #[.int .i64 1, .int .i64 mm, .string s] 108)).alloc (.cells #[.int .i64 0, .int .i64 0, .string ⟨#[]⟩] 66)).heap[w.heap.size]? = some (.cells #[.int .i64 1, .int .i64 mm, .string s] 108 (0, 0)) := rowL (heap_alloc_new w _) (bal _ _)
    have HT : Hid (itW ⟨1, mm, s⟩ (X 0) (X 1) = ⟨1, mm, ⟨#[]⟩⟩) := by show _ = _; simp [itW]
    go_enter Tryz.func136, Tryz.ntmps136
    go_wp2_with (go_at_call 151; refine (iIntValue _ _).mono ?_; rintro e w2 ⟨rfl, hb2⟩; have hr2 := rowL hrr hb2; have hB2 := bstep hbU hb2; obtain ⟨q0, q1, q2, f0, f1, f2⟩ := box3 hr2)
    refine bodyPost_ret (v := .agg #[.int .i64 1, .int .i64 mm, .string ⟨#[]⟩]) (results_cell_row Tryz.results136 _ _ (w.heap.size + 1) 66 _ (0, 0) _ rfl (row3 hr2 _ _ _) Tryz.underlying66 rfl (by kernel_rfl)) rfl ⟨by rw [HT.out], bset3 hB2 (by omega) _ _ _⟩
  by_cases e2 : o = 2
  · subst e2
    have hbU : Below w.heap.size w ((w.alloc (.cells #[.int .i64 2, .int .i64 mm, .string s] 108)).alloc (.cells #[.int .i64 0, .int .i64 0, .string ⟨#[]⟩] 66)) := bstep (bal _ _) (bal _ _)
    have hrr : ((w.alloc (.cells #[.int .i64 2, .int .i64 mm, .string s] 108)).alloc (.cells #[.int .i64 0, .int .i64 0, .string ⟨#[]⟩] 66)).heap[w.heap.size + 1]? = some (.cells #[.int .i64 0, .int .i64 0, .string ⟨#[]⟩] 66 (0, 0)) := by
      have q := heap_alloc_new (w.alloc (.cells #[.int .i64 2, .int .i64 mm, .string s] 108)) (.cells #[.int .i64 0, .int .i64 0, .string ⟨#[]⟩] 66)
      rw [World.size_alloc] at q
      exact q
    have hri : ((w.alloc (.cells #[.int .i64 2, .int .i64 mm, .string s] 108)).alloc (.cells #[.int .i64 0, .int .i64 0, .string ⟨#[]⟩] 66)).heap[w.heap.size]? = some (.cells #[.int .i64 2, .int .i64 mm, .string s] 108 (0, 0)) := rowL (heap_alloc_new w _) (bal _ _)
    have HT : Hid (itW ⟨2, mm, s⟩ (X 0) (X 1) = ⟨2, 0, s⟩) := by show _ = _; simp [itW]
    go_enter Tryz.func136, Tryz.ntmps136
    go_wp2_with (go_at_call 165; refine (iTextV _ _).mono ?_; rintro e w2 ⟨rfl, hb2⟩; have hr2 := rowL hrr hb2; have hB2 := bstep hbU hb2; obtain ⟨q0, q1, q2, f0, f1, f2⟩ := box3 hr2)
    refine bodyPost_ret (v := .agg #[.int .i64 2, .int .i64 0, .string s]) (results_cell_row Tryz.results136 _ _ (w.heap.size + 1) 66 _ (0, 0) _ rfl (row3 hr2 _ _ _) Tryz.underlying66 rfl (by kernel_rfl)) rfl ⟨by rw [HT.out], bset3 hB2 (by omega) _ _ _⟩
  by_cases e11 : o = 11
  · subst e11
    have hbU : Below w.heap.size w ((w.alloc (.cells #[.int .i64 11, .int .i64 mm, .string s] 108)).alloc (.cells #[.int .i64 0, .int .i64 0, .string ⟨#[]⟩] 66)) := bstep (bal _ _) (bal _ _)
    have hrr : ((w.alloc (.cells #[.int .i64 11, .int .i64 mm, .string s] 108)).alloc (.cells #[.int .i64 0, .int .i64 0, .string ⟨#[]⟩] 66)).heap[w.heap.size + 1]? = some (.cells #[.int .i64 0, .int .i64 0, .string ⟨#[]⟩] 66 (0, 0)) := by
      have q := heap_alloc_new (w.alloc (.cells #[.int .i64 11, .int .i64 mm, .string s] 108)) (.cells #[.int .i64 0, .int .i64 0, .string ⟨#[]⟩] 66)
      rw [World.size_alloc] at q
      exact q
    have hri : ((w.alloc (.cells #[.int .i64 11, .int .i64 mm, .string s] 108)).alloc (.cells #[.int .i64 0, .int .i64 0, .string ⟨#[]⟩] 66)).heap[w.heap.size]? = some (.cells #[.int .i64 11, .int .i64 mm, .string s] 108 (0, 0)) := rowL (heap_alloc_new w _) (bal _ _)
    have ha : 1 ≤ m := by simp [arity] at hm; omega
    obtain ⟨b, off, rfl, x0, x1, x2, -⟩ := hX.later hbU 0 (by omega)
    simp only [Nat.zero_mul, Nat.add_zero] at x0 x1 x2
    have i0_ : (0 : Int) < m := by omega
    have in0_ : 0 < m := by omega
    have hz0 := hsz 0 (by omega)
    obtain ⟨xo, xm, xs, hx⟩ : ∃ xo xm xs, X 0 = ⟨xo, xm, xs⟩ := ⟨_, _, _, rfl⟩
    rw [hx] at x0 x1 x2 hz0
    simp only at x0 x1 x2 hz0
    have HT : Hid (itW ⟨11, mm, s⟩ (X 0) (X 1) = ⟨1, tvI (decide (xm = 0)), ⟨#[]⟩⟩) := by show _ = _; simp [itW, appI, tru, hx]
    clear hx
    obtain ⟨bb, hbb⟩ : ∃ bb, decide (xm = 0) = bb := ⟨_, rfl⟩
    have hbb2 : (xm == 0) = bb := by rw [← hbb]; by_cases h : xm = 0 <;> simp [h]
    rw [hbb] at HT
    clear hbb
    cases bb
    all_goals
      go_enter Tryz.func136, Tryz.ntmps136
      go_wp2_with (first | (go_at_call 166; first | (refine (iTruth true _).mono ?_; rintro e w1 ⟨rfl, rfl⟩) | (refine (iTruth false _).mono ?_; rintro e w1 ⟨rfl, rfl⟩)) | (go_at_call 151; refine (iIntValue _ _).mono ?_; rintro e w2 ⟨rfl, hb2⟩; have hr2 := rowL hrr hb2; have hB2 := bstep hbU hb2; obtain ⟨q0, q1, q2, f0, f1, f2⟩ := box3 hr2))
      refine bodyPost_ret (v := .agg #[.int .i64 1, .int .i64 (tvI _), .string ⟨#[]⟩]) (results_cell_row Tryz.results136 _ _ (w.heap.size + 1) 66 _ (0, 0) _ rfl (row3 hr2 _ _ _) Tryz.underlying66 rfl (by kernel_rfl)) rfl ⟨by rw [HT.out], bset3 hB2 (by omega) _ _ _⟩
  by_cases e13 : o = 13
  · subst e13
    have hbU : Below w.heap.size w ((w.alloc (.cells #[.int .i64 13, .int .i64 mm, .string s] 108)).alloc (.cells #[.int .i64 0, .int .i64 0, .string ⟨#[]⟩] 66)) := bstep (bal _ _) (bal _ _)
    have hrr : ((w.alloc (.cells #[.int .i64 13, .int .i64 mm, .string s] 108)).alloc (.cells #[.int .i64 0, .int .i64 0, .string ⟨#[]⟩] 66)).heap[w.heap.size + 1]? = some (.cells #[.int .i64 0, .int .i64 0, .string ⟨#[]⟩] 66 (0, 0)) := by
      have q := heap_alloc_new (w.alloc (.cells #[.int .i64 13, .int .i64 mm, .string s] 108)) (.cells #[.int .i64 0, .int .i64 0, .string ⟨#[]⟩] 66)
      rw [World.size_alloc] at q
      exact q
    have hri : ((w.alloc (.cells #[.int .i64 13, .int .i64 mm, .string s] 108)).alloc (.cells #[.int .i64 0, .int .i64 0, .string ⟨#[]⟩] 66)).heap[w.heap.size]? = some (.cells #[.int .i64 13, .int .i64 mm, .string s] 108 (0, 0)) := rowL (heap_alloc_new w _) (bal _ _)
    have ha : 1 ≤ m := by simp [arity] at hm; omega
    obtain ⟨b, off, rfl, x0, x1, x2, -⟩ := hX.later hbU 0 (by omega)
    simp only [Nat.zero_mul, Nat.add_zero] at x0 x1 x2
    have i0_ : (0 : Int) < m := by omega
    have in0_ : 0 < m := by omega
    have hz0 := hsz 0 (by omega)
    obtain ⟨xo, xm, xs, hx⟩ : ∃ xo xm xs, X 0 = ⟨xo, xm, xs⟩ := ⟨_, _, _, rfl⟩
    rw [hx] at x0 x1 x2 hz0
    simp only at x0 x1 x2 hz0
    have HT : Hid (itW ⟨13, mm, s⟩ (X 0) (X 1) = ⟨1, (xs.size : Int), ⟨#[]⟩⟩) := by show _ = _; simp [itW, appI, hx]
    clear hx
    go_enter Tryz.func136, Tryz.ntmps136
    go_wp2_with (go_at_call 151; refine (iIntValue _ _).mono ?_; rintro e w2 ⟨rfl, hb2⟩; have hr2 := rowL hrr hb2; have hB2 := bstep hbU hb2; obtain ⟨q0, q1, q2, f0, f1, f2⟩ := box3 hr2)
    refine bodyPost_ret (v := .agg #[.int .i64 1, .int .i64 (xs.size : Int), .string ⟨#[]⟩]) (results_cell_row Tryz.results136 _ _ (w.heap.size + 1) 66 _ (0, 0) _ rfl (row3 hr2 _ _ _) Tryz.underlying66 rfl (by kernel_rfl)) rfl ⟨by rw [HT.out], bset3 hB2 (by omega) _ _ _⟩
  by_cases e12 : o = 12
  · subst e12
    have hbU : Below w.heap.size w ((w.alloc (.cells #[.int .i64 12, .int .i64 mm, .string s] 108)).alloc (.cells #[.int .i64 0, .int .i64 0, .string ⟨#[]⟩] 66)) := bstep (bal _ _) (bal _ _)
    have hrr : ((w.alloc (.cells #[.int .i64 12, .int .i64 mm, .string s] 108)).alloc (.cells #[.int .i64 0, .int .i64 0, .string ⟨#[]⟩] 66)).heap[w.heap.size + 1]? = some (.cells #[.int .i64 0, .int .i64 0, .string ⟨#[]⟩] 66 (0, 0)) := by
      have q := heap_alloc_new (w.alloc (.cells #[.int .i64 12, .int .i64 mm, .string s] 108)) (.cells #[.int .i64 0, .int .i64 0, .string ⟨#[]⟩] 66)
      rw [World.size_alloc] at q
      exact q
    have hri : ((w.alloc (.cells #[.int .i64 12, .int .i64 mm, .string s] 108)).alloc (.cells #[.int .i64 0, .int .i64 0, .string ⟨#[]⟩] 66)).heap[w.heap.size]? = some (.cells #[.int .i64 12, .int .i64 mm, .string s] 108 (0, 0)) := rowL (heap_alloc_new w _) (bal _ _)
    have ha : 2 ≤ m := by simp [arity] at hm; omega
    obtain ⟨b, off, rfl, x0, x1, x2, -⟩ := hX.later hbU 0 (by omega)
    simp only [Nat.zero_mul, Nat.add_zero] at x0 x1 x2
    have i0_ : (0 : Int) < m := by omega
    have in0_ : 0 < m := by omega
    have hz0 := hsz 0 (by omega)
    obtain ⟨b9, off9, e9, y0, y1, y2, -⟩ := hX.later hbU 1 (by omega)
    obtain ⟨rfl, rfl⟩ : b = b9 ∧ off = off9 := by simpa using e9
    clear e9
    simp only [Nat.one_mul] at y0 y1 y2
    have i1_ : (1 : Int) < m := by omega
    have in1_ : 1 < m := by omega
    have hz1 := hsz 1 (by omega)
    obtain ⟨xo, xm, xs, hx⟩ : ∃ xo xm xs, X 0 = ⟨xo, xm, xs⟩ := ⟨_, _, _, rfl⟩
    rw [hx] at x0 x1 x2 hz0
    simp only at x0 x1 x2 hz0
    obtain ⟨yo, ym, ys, hy⟩ : ∃ yo ym ys, X 1 = ⟨yo, ym, ys⟩ := ⟨_, _, _, rfl⟩
    rw [hy] at y0 y1 y2 hz1
    simp only at y0 y1 y2 hz1
    have hcat : ¬ 9223372036854775807 < xs.size + ys.size := by omega
    have HXY : Hid (X 0 = ⟨xo, xm, xs⟩ ∧ X 1 = ⟨yo, ym, ys⟩) := ⟨hx, hy⟩
    have HT : Hid (itW ⟨12, mm, s⟩ (X 0) (X 1) = ⟨2, 0, xs ++ ys⟩) := by show _ = _; simp [itW, appI, hx, hy]
    clear hx hy
    go_enter Tryz.func136, Tryz.ntmps136
    go_upto_region 13 with (fail)
    replace hrr : ((w.alloc (.cells #[.int .i64 12, .int .i64 mm, .string s] 108)).alloc (.cells #[.int .i64 0, .int .i64 0, .string ⟨#[]⟩] 66)).drew.heap[w.heap.size + 1]? = some (.cells #[.int .i64 0, .int .i64 0, .string ⟨#[]⟩] 66 (0, 0)) := hrr
    refine wp_region_held_drew (S := fun x => Below w.heap.size w x ∧ x.heap[w.heap.size]? = some (.cells #[.int .i64 12, .int .i64 mm, .string s] 108 (0, 0))) (by kernel_rfl) (⟨bstep hbU (bdrV _), hri⟩) (fun hHeld => ?_)
    refine' takeF (i := 0) (oi := ({ dst := some 50, op := Op.move (Operand.tmp 1), type := 41, pos := "l5_replay.go:310", after := #[], guard := none } : Oper)) rfl ⟨by rfl, fun x hSw => ?h1⟩ hHeld ?r1
    case h1 =>
      go_simp
      try with_reducible rfl
    try simp only [Act.put, List.setIfInBounds_toArray, List.set_cons_zero, List.set_cons_succ]
    refine' takeF (i := 1) (oi := ({ dst := some 51, op := Op.indexAddr 41 (Operand.tmp 50) (Operand.const (Value.int IntKind.i64 0)), type := 0, pos := "l5_replay.go:310", after := #[{ on := 0, ground := Ground.data }], guard := none } : Oper)) rfl ⟨by rfl, fun x hSw => ?h2⟩ hHeld ?r2
    case h2 =>
      go_simp
      try with_reducible rfl
    try simp only [Act.put, List.setIfInBounds_toArray, List.set_cons_zero, List.set_cons_succ]
    refine' takeF (i := 2) (oi := ({ dst := some 52, op := Op.fieldAddr 66 (Operand.tmp 51) 2, type := 0, pos := "l5_replay.go:310", after := #[{ on := 1, ground := Ground.data }], guard := none } : Oper)) rfl ⟨by rfl, fun x hSw => ?h3⟩ hHeld ?r3
    case h3 =>
      go_simp
      try with_reducible rfl
    try simp only [Act.put, List.setIfInBounds_toArray, List.set_cons_zero, List.set_cons_succ]
    refine' takeF (i := 3) (oi := ({ dst := some 53, op := Op.load 9 (Operand.tmp 52), type := 9, pos := "l5_replay.go:310", after := #[{ on := 2, ground := Ground.data }], guard := none } : Oper)) rfl ⟨by rfl, fun x hSw => ?h4⟩ hHeld ?r4
    case h4 =>
      obtain ⟨hs1, hs2⟩ := hSw; obtain ⟨k0, k1, k2, -⟩ := box3 hs2; obtain ⟨_, _, ea, l0, l1, l2, -⟩ := hX.later hs1 0 (by omega); obtain ⟨_, _, eb, m0, m1, m2, -⟩ := hX.later hs1 1 (by omega); obtain ⟨rfl, rfl⟩ := (by simpa using ea); obtain ⟨rfl, rfl⟩ := (by simpa using eb); simp only [Nat.zero_mul, Nat.one_mul, Nat.add_zero] at l0 l1 l2 m0 m1 m2; rw [HXY.out.1] at l0 l1 l2; rw [HXY.out.2] at m0 m1 m2; simp only at l0 l1 l2 m0 m1 m2
      go_simp
      try with_reducible rfl
    try simp only [Act.put, List.setIfInBounds_toArray, List.set_cons_zero, List.set_cons_succ]
    refine' takeF (i := 4) (oi := ({ dst := some 54, op := Op.move (Operand.tmp 1), type := 41, pos := "l5_replay.go:310", after := #[], guard := none } : Oper)) rfl ⟨by rfl, fun x hSw => ?h5⟩ hHeld ?r5
    case h5 =>
      go_simp
      try with_reducible rfl
    try simp only [Act.put, List.setIfInBounds_toArray, List.set_cons_zero, List.set_cons_succ]
    refine' takeF (i := 5) (oi := ({ dst := some 55, op := Op.indexAddr 41 (Operand.tmp 54) (Operand.const (Value.int IntKind.i64 1)), type := 0, pos := "l5_replay.go:310", after := #[{ on := 4, ground := Ground.data }], guard := none } : Oper)) rfl ⟨by rfl, fun x hSw => ?h6⟩ hHeld ?r6
    case h6 =>
      go_simp
      try with_reducible rfl
    try simp only [Act.put, List.setIfInBounds_toArray, List.set_cons_zero, List.set_cons_succ]
    refine' takeF (i := 6) (oi := ({ dst := some 56, op := Op.fieldAddr 66 (Operand.tmp 55) 2, type := 0, pos := "l5_replay.go:310", after := #[{ on := 5, ground := Ground.data }], guard := none } : Oper)) rfl ⟨by rfl, fun x hSw => ?h7⟩ hHeld ?r7
    case h7 =>
      go_simp
      try with_reducible rfl
    try simp only [Act.put, List.setIfInBounds_toArray, List.set_cons_zero, List.set_cons_succ]
    refine' takeF (i := 7) (oi := ({ dst := some 57, op := Op.load 9 (Operand.tmp 56), type := 9, pos := "l5_replay.go:310", after := #[{ on := 6, ground := Ground.data }], guard := none } : Oper)) rfl ⟨by rfl, fun x hSw => ?h8⟩ hHeld ?r8
    case h8 =>
      obtain ⟨hs1, hs2⟩ := hSw; obtain ⟨k0, k1, k2, -⟩ := box3 hs2; obtain ⟨_, _, ea, l0, l1, l2, -⟩ := hX.later hs1 0 (by omega); obtain ⟨_, _, eb, m0, m1, m2, -⟩ := hX.later hs1 1 (by omega); obtain ⟨rfl, rfl⟩ := (by simpa using ea); obtain ⟨rfl, rfl⟩ := (by simpa using eb); simp only [Nat.zero_mul, Nat.one_mul, Nat.add_zero] at l0 l1 l2 m0 m1 m2; rw [HXY.out.1] at l0 l1 l2; rw [HXY.out.2] at m0 m1 m2; simp only at l0 l1 l2 m0 m1 m2
      go_simp
      try with_reducible rfl
    try simp only [Act.put, List.setIfInBounds_toArray, List.set_cons_zero, List.set_cons_succ]
    refine' takeF (i := 8) (oi := ({ dst := some 58, op := Op.binOp BinOp.add 9 (Operand.tmp 53) (Operand.tmp 57) 9, type := 9, pos := "l5_replay.go:310", after := #[{ on := 3, ground := Ground.data }, { on := 7, ground := Ground.data }], guard := none } : Oper)) rfl ⟨by rfl, fun x hSw => ?h9⟩ hHeld ?r9
    case h9 =>
      go_simp
      try with_reducible rfl
    try simp only [Act.put, List.setIfInBounds_toArray, List.set_cons_zero, List.set_cons_succ]
    refine wpAnyH_ready (rs := [9]) (by kernel_rfl) (by simp) ?_
    refine AllReadyH.cons (o := ({ dst := some 59, op := Op.call { callee := Callee.value (Operand.func 165), args := #[Operand.tmp 58], argTypes := #[9] }, type := 66, pos := "l5_replay.go:310", after := #[{ on := 8, ground := Ground.data }], guard := none } : Oper)) rfl (fun K hK => ?_) AllReadyH.nil
    go_simp
    refine (iTextV _ _).mono ?_
    rintro e w5 ⟨rfl, hb5⟩; replace hrr := rowL hrr hb5
    refine hK.out _ _ (⟨bstep hHeld.1 hb5, rowL hHeld.2 hb5⟩) (fun hHeld => ?_)
    clear hK K
    try simp only [Act.put, List.setIfInBounds_toArray, List.set_cons_zero, List.set_cons_succ]
    refine wpAnyH_ready (rs := [10]) (by kernel_rfl) (by simp) ?_
    refine AllReadyH.cons (o := ({ dst := none, op := Op.store 66 (Operand.tmp 4) (Operand.tmp 59), type := 0, pos := "l5_replay.go:310", after := #[{ on := 9, ground := Ground.data }, { on := 9, ground := Ground.chain }, { on := 0, ground := Ground.phase }, { on := 1, ground := Ground.phase }, { on := 2, ground := Ground.phase }, { on := 3, ground := Ground.phase }, { on := 4, ground := Ground.phase }, { on := 5, ground := Ground.phase }, { on := 6, ground := Ground.phase }, { on := 7, ground := Ground.phase }, { on := 8, ground := Ground.phase }, { on := 9, ground := Ground.phase }], guard := none } : Oper)) rfl (fun K hK => ?_) AllReadyH.nil
    obtain ⟨g0_, g1_, g2_, gf0, gf1, gf2⟩ := box3 hrr
    go_simp
    refine hK.out _ _ (⟨bset3 hHeld.1 (by omega) _ _ _, rowO (rowO (rowO hHeld.2 (by omega)) (by omega)) (by omega)⟩) (fun hHeld => ?_)
    clear hK K
    try simp only [Act.put, List.setIfInBounds_toArray, List.set_cons_zero, List.set_cons_succ]
    refine wpAnyH_done (by kernel_rfl) ?_ _
    go_wp2
    refine bodyPost_ret (v := .agg #[.int .i64 2, .int .i64 0, .string (xs ++ ys)]) (results_cell_row Tryz.results136 _ _ (w.heap.size + 1) 66 _ (0, 0) _ rfl (row3 hrr _ _ _) Tryz.underlying66 rfl (by kernel_rfl)) rfl ⟨by rw [HT.out], hHeld.1⟩
  by_cases e8 : o = 8
  · subst e8
    have hbU : Below w.heap.size w ((w.alloc (.cells #[.int .i64 8, .int .i64 mm, .string s] 108)).alloc (.cells #[.int .i64 0, .int .i64 0, .string ⟨#[]⟩] 66)) := bstep (bal _ _) (bal _ _)
    have hrr : ((w.alloc (.cells #[.int .i64 8, .int .i64 mm, .string s] 108)).alloc (.cells #[.int .i64 0, .int .i64 0, .string ⟨#[]⟩] 66)).heap[w.heap.size + 1]? = some (.cells #[.int .i64 0, .int .i64 0, .string ⟨#[]⟩] 66 (0, 0)) := by
      have q := heap_alloc_new (w.alloc (.cells #[.int .i64 8, .int .i64 mm, .string s] 108)) (.cells #[.int .i64 0, .int .i64 0, .string ⟨#[]⟩] 66)
      rw [World.size_alloc] at q
      exact q
    have hri : ((w.alloc (.cells #[.int .i64 8, .int .i64 mm, .string s] 108)).alloc (.cells #[.int .i64 0, .int .i64 0, .string ⟨#[]⟩] 66)).heap[w.heap.size]? = some (.cells #[.int .i64 8, .int .i64 mm, .string s] 108 (0, 0)) := rowL (heap_alloc_new w _) (bal _ _)
    have ha : 2 ≤ m := by simp [arity] at hm; omega
    obtain ⟨b, off, rfl, x0, x1, x2, -⟩ := hX.later hbU 0 (by omega)
    simp only [Nat.zero_mul, Nat.add_zero] at x0 x1 x2
    have i0_ : (0 : Int) < m := by omega
    have in0_ : 0 < m := by omega
    have hz0 := hsz 0 (by omega)
    obtain ⟨b9, off9, e9, y0, y1, y2, -⟩ := hX.later hbU 1 (by omega)
    obtain ⟨rfl, rfl⟩ : b = b9 ∧ off = off9 := by simpa using e9
    clear e9
    simp only [Nat.one_mul] at y0 y1 y2
    have i1_ : (1 : Int) < m := by omega
    have in1_ : 1 < m := by omega
    have hz1 := hsz 1 (by omega)
    obtain ⟨xo, xm, xs, hx⟩ : ∃ xo xm xs, X 0 = ⟨xo, xm, xs⟩ := ⟨_, _, _, rfl⟩
    rw [hx] at x0 x1 x2 hz0
    simp only at x0 x1 x2 hz0
    obtain ⟨yo, ym, ys, hy⟩ : ∃ yo ym ys, X 1 = ⟨yo, ym, ys⟩ := ⟨_, _, _, rfl⟩
    rw [hy] at y0 y1 y2 hz1
    simp only at y0 y1 y2 hz1
    have hcl := cmp_lt (HGO.out (by simp)).1 (HGO.out (by simp)).2.1 (HGO.out (by simp)).2.2
    rw [hx, hy] at hcl
    simp only at hcl
    have HXY : Hid (X 0 = ⟨xo, xm, xs⟩ ∧ X 1 = ⟨yo, ym, ys⟩) := ⟨hx, hy⟩
    have HT : Hid (itW ⟨8, mm, s⟩ (X 0) (X 1) = ⟨1, tvI (lesB xo xm xs ym ys), ⟨#[]⟩⟩) := by show _ = _; simp [itW, appI, tru, hx, hy]; rw [← hcl]
    clear hx hy
    go_enter Tryz.func136, Tryz.ntmps136
    go_upto_region 9 with (fail)
    replace hrr : ((w.alloc (.cells #[.int .i64 8, .int .i64 mm, .string s] 108)).alloc (.cells #[.int .i64 0, .int .i64 0, .string ⟨#[]⟩] 66)).drew.heap[w.heap.size + 1]? = some (.cells #[.int .i64 0, .int .i64 0, .string ⟨#[]⟩] 66 (0, 0)) := hrr
    refine wp_region_held_drew (S := fun x => Below w.heap.size w x ∧ x.heap[w.heap.size]? = some (.cells #[.int .i64 8, .int .i64 mm, .string s] 108 (0, 0))) (by kernel_rfl) (⟨bstep hbU (bdrV _), hri⟩) (fun hHeld => ?_)
    refine' takeF (i := 0) (oi := ({ dst := some 30, op := Op.move (Operand.tmp 1), type := 41, pos := "l5_replay.go:306", after := #[], guard := none } : Oper)) rfl ⟨by rfl, fun x hSw => ?h10⟩ hHeld ?r10
    case h10 =>
      go_simp
      try with_reducible rfl
    try simp only [Act.put, List.setIfInBounds_toArray, List.set_cons_zero, List.set_cons_succ]
    refine' takeF (i := 1) (oi := ({ dst := some 31, op := Op.indexAddr 41 (Operand.tmp 30) (Operand.const (Value.int IntKind.i64 0)), type := 0, pos := "l5_replay.go:306", after := #[{ on := 0, ground := Ground.data }], guard := none } : Oper)) rfl ⟨by rfl, fun x hSw => ?h11⟩ hHeld ?r11
    case h11 =>
      go_simp
      try with_reducible rfl
    try simp only [Act.put, List.setIfInBounds_toArray, List.set_cons_zero, List.set_cons_succ]
    refine' takeF (i := 2) (oi := ({ dst := some 32, op := Op.load 66 (Operand.tmp 31), type := 66, pos := "l5_replay.go:306", after := #[{ on := 1, ground := Ground.data }], guard := none } : Oper)) rfl ⟨by rfl, fun x hSw => ?h12⟩ hHeld ?r12
    case h12 =>
      obtain ⟨hs1, hs2⟩ := hSw; obtain ⟨k0, k1, k2, -⟩ := box3 hs2; obtain ⟨_, _, ea, l0, l1, l2, -⟩ := hX.later hs1 0 (by omega); obtain ⟨_, _, eb, m0, m1, m2, -⟩ := hX.later hs1 1 (by omega); obtain ⟨rfl, rfl⟩ := (by simpa using ea); obtain ⟨rfl, rfl⟩ := (by simpa using eb); simp only [Nat.zero_mul, Nat.one_mul, Nat.add_zero] at l0 l1 l2 m0 m1 m2; rw [HXY.out.1] at l0 l1 l2; rw [HXY.out.2] at m0 m1 m2; simp only at l0 l1 l2 m0 m1 m2
      go_simp
      try with_reducible rfl
    try simp only [Act.put, List.setIfInBounds_toArray, List.set_cons_zero, List.set_cons_succ]
    refine' takeF (i := 3) (oi := ({ dst := some 33, op := Op.move (Operand.tmp 1), type := 41, pos := "l5_replay.go:306", after := #[], guard := none } : Oper)) rfl ⟨by rfl, fun x hSw => ?h13⟩ hHeld ?r13
    case h13 =>
      go_simp
      try with_reducible rfl
    try simp only [Act.put, List.setIfInBounds_toArray, List.set_cons_zero, List.set_cons_succ]
    refine' takeF (i := 4) (oi := ({ dst := some 34, op := Op.indexAddr 41 (Operand.tmp 33) (Operand.const (Value.int IntKind.i64 1)), type := 0, pos := "l5_replay.go:306", after := #[{ on := 3, ground := Ground.data }], guard := none } : Oper)) rfl ⟨by rfl, fun x hSw => ?h14⟩ hHeld ?r14
    case h14 =>
      go_simp
      try with_reducible rfl
    try simp only [Act.put, List.setIfInBounds_toArray, List.set_cons_zero, List.set_cons_succ]
    refine' takeF (i := 5) (oi := ({ dst := some 35, op := Op.load 66 (Operand.tmp 34), type := 66, pos := "l5_replay.go:306", after := #[{ on := 4, ground := Ground.data }], guard := none } : Oper)) rfl ⟨by rfl, fun x hSw => ?h15⟩ hHeld ?r15
    case h15 =>
      obtain ⟨hs1, hs2⟩ := hSw; obtain ⟨k0, k1, k2, -⟩ := box3 hs2; obtain ⟨_, _, ea, l0, l1, l2, -⟩ := hX.later hs1 0 (by omega); obtain ⟨_, _, eb, m0, m1, m2, -⟩ := hX.later hs1 1 (by omega); obtain ⟨rfl, rfl⟩ := (by simpa using ea); obtain ⟨rfl, rfl⟩ := (by simpa using eb); simp only [Nat.zero_mul, Nat.one_mul, Nat.add_zero] at l0 l1 l2 m0 m1 m2; rw [HXY.out.1] at l0 l1 l2; rw [HXY.out.2] at m0 m1 m2; simp only at l0 l1 l2 m0 m1 m2
      go_simp
      try with_reducible rfl
    try simp only [Act.put, List.setIfInBounds_toArray, List.set_cons_zero, List.set_cons_succ]
    refine wpAnyH_ready (rs := [6]) (by kernel_rfl) (by simp) ?_
    refine AllReadyH.cons (o := ({ dst := some 36, op := Op.call { callee := Callee.value (Operand.func 167), args := #[Operand.tmp 32, Operand.tmp 35], argTypes := #[66, 66] }, type := 4, pos := "l5_replay.go:306", after := #[{ on := 2, ground := Ground.data }, { on := 5, ground := Ground.data }], guard := none } : Oper)) rfl (fun K hK => ?_) AllReadyH.nil
    go_simp
    refine (iIsLess xo xm xs yo ym ys _).mono ?_
    rintro e w4 ⟨rfl, hb4⟩; replace hrr := rowL hrr hb4
    refine hK.out _ _ (⟨bstep hHeld.1 hb4, rowL hHeld.2 hb4⟩) (fun hHeld => ?_)
    clear hK K
    try simp only [Act.put, List.setIfInBounds_toArray, List.set_cons_zero, List.set_cons_succ]
    refine wpAnyH_ready (rs := [7]) (by kernel_rfl) (by simp) ?_
    refine AllReadyH.cons (o := ({ dst := some 37, op := Op.call { callee := Callee.value (Operand.func 166), args := #[Operand.tmp 36], argTypes := #[4] }, type := 3, pos := "l5_replay.go:306", after := #[{ on := 6, ground := Ground.data }, { on := 6, ground := Ground.chain }], guard := none } : Oper)) rfl (fun K hK => ?_) AllReadyH.nil
    go_simp
    refine (iTruth _ _).mono ?_
    rintro e w1 ⟨rfl, rfl⟩
    refine hK.out _ _ (hHeld) (fun hHeld => ?_)
    clear hK K
    try simp only [Act.put, List.setIfInBounds_toArray, List.set_cons_zero, List.set_cons_succ]
    refine wpAnyH_ready (rs := [8]) (by kernel_rfl) (by simp) ?_
    refine AllReadyH.cons (o := ({ dst := some 38, op := Op.call { callee := Callee.value (Operand.func 151), args := #[Operand.tmp 37], argTypes := #[3] }, type := 66, pos := "l5_replay.go:306", after := #[{ on := 7, ground := Ground.data }, { on := 7, ground := Ground.chain }], guard := none } : Oper)) rfl (fun K hK => ?_) AllReadyH.nil
    go_simp
    refine (iIntValue _ _).mono ?_
    rintro e w6 ⟨rfl, hb6⟩; replace hrr := rowL hrr hb6
    refine hK.out _ _ (⟨bstep hHeld.1 hb6, rowL hHeld.2 hb6⟩) (fun hHeld => ?_)
    clear hK K
    try simp only [Act.put, List.setIfInBounds_toArray, List.set_cons_zero, List.set_cons_succ]
    refine wpAnyH_ready (rs := [9]) (by kernel_rfl) (by simp) ?_
    refine AllReadyH.cons (o := ({ dst := none, op := Op.store 66 (Operand.tmp 4) (Operand.tmp 38), type := 0, pos := "l5_replay.go:306", after := #[{ on := 8, ground := Ground.data }, { on := 8, ground := Ground.chain }, { on := 0, ground := Ground.phase }, { on := 1, ground := Ground.phase }, { on := 2, ground := Ground.phase }, { on := 3, ground := Ground.phase }, { on := 4, ground := Ground.phase }, { on := 5, ground := Ground.phase }, { on := 6, ground := Ground.phase }, { on := 7, ground := Ground.phase }, { on := 8, ground := Ground.phase }], guard := none } : Oper)) rfl (fun K hK => ?_) AllReadyH.nil
    obtain ⟨g0_, g1_, g2_, gf0, gf1, gf2⟩ := box3 hrr
    go_simp
    refine hK.out _ _ (⟨bset3 hHeld.1 (by omega) _ _ _, rowO (rowO (rowO hHeld.2 (by omega)) (by omega)) (by omega)⟩) (fun hHeld => ?_)
    clear hK K
    try simp only [Act.put, List.setIfInBounds_toArray, List.set_cons_zero, List.set_cons_succ]
    refine wpAnyH_done (by kernel_rfl) ?_ _
    go_wp2
    refine bodyPost_ret (v := .agg #[.int .i64 1, .int .i64 (tvI (lesB xo xm xs ym ys)), .string ⟨#[]⟩]) (results_cell_row Tryz.results136 _ _ (w.heap.size + 1) 66 _ (0, 0) _ rfl (row3 hrr _ _ _) Tryz.underlying66 rfl (by kernel_rfl)) rfl ⟨by rw [HT.out], hHeld.1⟩
  by_cases e7 : o = 7
  · subst e7
    have hbU : Below w.heap.size w ((w.alloc (.cells #[.int .i64 7, .int .i64 mm, .string s] 108)).alloc (.cells #[.int .i64 0, .int .i64 0, .string ⟨#[]⟩] 66)) := bstep (bal _ _) (bal _ _)
    have hrr : ((w.alloc (.cells #[.int .i64 7, .int .i64 mm, .string s] 108)).alloc (.cells #[.int .i64 0, .int .i64 0, .string ⟨#[]⟩] 66)).heap[w.heap.size + 1]? = some (.cells #[.int .i64 0, .int .i64 0, .string ⟨#[]⟩] 66 (0, 0)) := by
      have q := heap_alloc_new (w.alloc (.cells #[.int .i64 7, .int .i64 mm, .string s] 108)) (.cells #[.int .i64 0, .int .i64 0, .string ⟨#[]⟩] 66)
      rw [World.size_alloc] at q
      exact q
    have hri : ((w.alloc (.cells #[.int .i64 7, .int .i64 mm, .string s] 108)).alloc (.cells #[.int .i64 0, .int .i64 0, .string ⟨#[]⟩] 66)).heap[w.heap.size]? = some (.cells #[.int .i64 7, .int .i64 mm, .string s] 108 (0, 0)) := rowL (heap_alloc_new w _) (bal _ _)
    have ha : 2 ≤ m := by simp [arity] at hm; omega
    obtain ⟨b, off, rfl, x0, x1, x2, -⟩ := hX.later hbU 0 (by omega)
    simp only [Nat.zero_mul, Nat.add_zero] at x0 x1 x2
    have i0_ : (0 : Int) < m := by omega
    have in0_ : 0 < m := by omega
    have hz0 := hsz 0 (by omega)
    obtain ⟨b9, off9, e9, y0, y1, y2, -⟩ := hX.later hbU 1 (by omega)
    obtain ⟨rfl, rfl⟩ : b = b9 ∧ off = off9 := by simpa using e9
    clear e9
    simp only [Nat.one_mul] at y0 y1 y2
    have i1_ : (1 : Int) < m := by omega
    have in1_ : 1 < m := by omega
    have hz1 := hsz 1 (by omega)
    obtain ⟨xo, xm, xs, hx⟩ : ∃ xo xm xs, X 0 = ⟨xo, xm, xs⟩ := ⟨_, _, _, rfl⟩
    rw [hx] at x0 x1 x2 hz0
    simp only at x0 x1 x2 hz0
    obtain ⟨yo, ym, ys, hy⟩ : ∃ yo ym ys, X 1 = ⟨yo, ym, ys⟩ := ⟨_, _, _, rfl⟩
    rw [hy] at y0 y1 y2 hz1
    simp only at y0 y1 y2 hz1
    have hcl := cmp_eq (HGO.out (by simp)).1 (HGO.out (by simp)).2.1 (HGO.out (by simp)).2.2
    have hoo := (HGO.out (by simp)).2.2
    rw [hx, hy] at hcl hoo
    simp only at hcl hoo
    subst hoo
    obtain ⟨be, hbe⟩ : ∃ be, decide (xm = ym ∧ xs = ys) = be := ⟨_, rfl⟩
    rw [hbe] at hcl
    have HBE : Hid (decide (xm = ym ∧ xs = ys) = be) := hbe
    clear hbe
    have HXY : Hid (X 0 = ⟨xo, xm, xs⟩ ∧ X 1 = ⟨xo, ym, ys⟩) := ⟨hx, hy⟩
    have HT : Hid (itW ⟨7, mm, s⟩ (X 0) (X 1) = ⟨1, tvI be, ⟨#[]⟩⟩) := by show _ = _; simp [itW, appI, tru, hx, hy]; rw [hcl]
    clear hx hy
    go_enter Tryz.func136, Tryz.ntmps136
    go_upto_region 7 with (fail)
    replace hrr : ((w.alloc (.cells #[.int .i64 7, .int .i64 mm, .string s] 108)).alloc (.cells #[.int .i64 0, .int .i64 0, .string ⟨#[]⟩] 66)).drew.heap[w.heap.size + 1]? = some (.cells #[.int .i64 0, .int .i64 0, .string ⟨#[]⟩] 66 (0, 0)) := hrr
    refine wp_region_held_drew (S := fun x => Below w.heap.size w x ∧ x.heap[w.heap.size]? = some (.cells #[.int .i64 7, .int .i64 mm, .string s] 108 (0, 0))) (by kernel_rfl) (⟨bstep hbU (bdrV _), hri⟩) (fun hHeld => ?_)
    refine' takeF (i := 0) (oi := ({ dst := some 19, op := Op.move (Operand.tmp 1), type := 41, pos := "l5_replay.go:304", after := #[], guard := none } : Oper)) rfl ⟨by rfl, fun x hSw => ?h16⟩ hHeld ?r16
    case h16 =>
      go_simp
      try with_reducible rfl
    try simp only [Act.put, List.setIfInBounds_toArray, List.set_cons_zero, List.set_cons_succ]
    refine' takeF (i := 1) (oi := ({ dst := some 20, op := Op.indexAddr 41 (Operand.tmp 19) (Operand.const (Value.int IntKind.i64 0)), type := 0, pos := "l5_replay.go:304", after := #[{ on := 0, ground := Ground.data }], guard := none } : Oper)) rfl ⟨by rfl, fun x hSw => ?h17⟩ hHeld ?r17
    case h17 =>
      go_simp
      try with_reducible rfl
    try simp only [Act.put, List.setIfInBounds_toArray, List.set_cons_zero, List.set_cons_succ]
    refine' takeF (i := 2) (oi := ({ dst := some 21, op := Op.load 66 (Operand.tmp 20), type := 66, pos := "l5_replay.go:304", after := #[{ on := 1, ground := Ground.data }], guard := none } : Oper)) rfl ⟨by rfl, fun x hSw => ?h18⟩ hHeld ?r18
    case h18 =>
      obtain ⟨hs1, hs2⟩ := hSw; obtain ⟨k0, k1, k2, -⟩ := box3 hs2; obtain ⟨_, _, ea, l0, l1, l2, -⟩ := hX.later hs1 0 (by omega); obtain ⟨_, _, eb, m0, m1, m2, -⟩ := hX.later hs1 1 (by omega); obtain ⟨rfl, rfl⟩ := (by simpa using ea); obtain ⟨rfl, rfl⟩ := (by simpa using eb); simp only [Nat.zero_mul, Nat.one_mul, Nat.add_zero] at l0 l1 l2 m0 m1 m2; rw [HXY.out.1] at l0 l1 l2; rw [HXY.out.2] at m0 m1 m2; simp only at l0 l1 l2 m0 m1 m2
      go_simp
      try with_reducible rfl
    try simp only [Act.put, List.setIfInBounds_toArray, List.set_cons_zero, List.set_cons_succ]
    refine' takeF (i := 3) (oi := ({ dst := some 22, op := Op.move (Operand.tmp 1), type := 41, pos := "l5_replay.go:304", after := #[], guard := none } : Oper)) rfl ⟨by rfl, fun x hSw => ?h19⟩ hHeld ?r19
    case h19 =>
      go_simp
      try with_reducible rfl
    try simp only [Act.put, List.setIfInBounds_toArray, List.set_cons_zero, List.set_cons_succ]
    refine' takeF (i := 4) (oi := ({ dst := some 23, op := Op.indexAddr 41 (Operand.tmp 22) (Operand.const (Value.int IntKind.i64 1)), type := 0, pos := "l5_replay.go:304", after := #[{ on := 3, ground := Ground.data }], guard := none } : Oper)) rfl ⟨by rfl, fun x hSw => ?h20⟩ hHeld ?r20
    case h20 =>
      go_simp
      try with_reducible rfl
    try simp only [Act.put, List.setIfInBounds_toArray, List.set_cons_zero, List.set_cons_succ]
    refine' takeF (i := 5) (oi := ({ dst := some 24, op := Op.load 66 (Operand.tmp 23), type := 66, pos := "l5_replay.go:304", after := #[{ on := 4, ground := Ground.data }], guard := none } : Oper)) rfl ⟨by rfl, fun x hSw => ?h21⟩ hHeld ?r21
    case h21 =>
      obtain ⟨hs1, hs2⟩ := hSw; obtain ⟨k0, k1, k2, -⟩ := box3 hs2; obtain ⟨_, _, ea, l0, l1, l2, -⟩ := hX.later hs1 0 (by omega); obtain ⟨_, _, eb, m0, m1, m2, -⟩ := hX.later hs1 1 (by omega); obtain ⟨rfl, rfl⟩ := (by simpa using ea); obtain ⟨rfl, rfl⟩ := (by simpa using eb); simp only [Nat.zero_mul, Nat.one_mul, Nat.add_zero] at l0 l1 l2 m0 m1 m2; rw [HXY.out.1] at l0 l1 l2; rw [HXY.out.2] at m0 m1 m2; simp only at l0 l1 l2 m0 m1 m2
      go_simp
      try with_reducible rfl
    try simp only [Act.put, List.setIfInBounds_toArray, List.set_cons_zero, List.set_cons_succ]
    refine wpAnyH_take (i := 6) (oi := ({ dst := some 25, op := Op.binOp BinOp.eql 66 (Operand.tmp 21) (Operand.tmp 24) 66, type := 4, pos := "l5_replay.go:304", after := #[{ on := 2, ground := Ground.data }, { on := 5, ground := Ground.data }], guard := none } : Oper)) (v := .bool be) rfl (by kernel_rfl) (by kernel_rfl) (by kernel_rfl) (fun _ _ _ h => h) (Or.inl ⟨by rfl, fun x hSw => (by obtain ⟨hs1, hs2⟩ := hSw; obtain ⟨k0, k1, k2, -⟩ := box3 hs2; obtain ⟨_, _, ea, l0, l1, l2, -⟩ := hX.later hs1 0 (by omega); obtain ⟨_, _, eb, m0, m1, m2, -⟩ := hX.later hs1 1 (by omega); obtain ⟨rfl, rfl⟩ := (by simpa using ea); obtain ⟨rfl, rfl⟩ := (by simpa using eb); simp only [Nat.zero_mul, Nat.one_mul, Nat.add_zero] at l0 l1 l2 m0 m1 m2; rw [HXY.out.1] at l0 l1 l2; rw [HXY.out.2] at m0 m1 m2; simp only at l0 l1 l2 m0 m1 m2; go_simp; rw [← HBE.out]; exact if_be xm ym xs ys (fun b => Result.ok (Next.value (Value.bool b)) x))⟩) hHeld ?_
    try simp only [Act.put, List.setIfInBounds_toArray, List.set_cons_zero, List.set_cons_succ]
    refine wpAnyH_ready (rs := [7]) (by kernel_rfl) (by simp) ?_
    refine AllReadyH.cons (o := ({ dst := some 26, op := Op.call { callee := Callee.value (Operand.func 166), args := #[Operand.tmp 25], argTypes := #[4] }, type := 3, pos := "l5_replay.go:304", after := #[{ on := 6, ground := Ground.data }], guard := none } : Oper)) rfl (fun K hK => ?_) AllReadyH.nil
    go_simp
    refine (iTruth _ _).mono ?_
    rintro e w1 ⟨rfl, rfl⟩
    refine hK.out _ _ (hHeld) (fun hHeld => ?_)
    clear hK K
    try simp only [Act.put, List.setIfInBounds_toArray, List.set_cons_zero, List.set_cons_succ]
    refine wpAnyH_ready (rs := [8]) (by kernel_rfl) (by simp) ?_
    refine AllReadyH.cons (o := ({ dst := some 27, op := Op.call { callee := Callee.value (Operand.func 151), args := #[Operand.tmp 26], argTypes := #[3] }, type := 66, pos := "l5_replay.go:304", after := #[{ on := 7, ground := Ground.data }, { on := 7, ground := Ground.chain }], guard := none } : Oper)) rfl (fun K hK => ?_) AllReadyH.nil
    go_simp
    refine (iIntValue _ _).mono ?_
    rintro e w6 ⟨rfl, hb6⟩; replace hrr := rowL hrr hb6
    refine hK.out _ _ (⟨bstep hHeld.1 hb6, rowL hHeld.2 hb6⟩) (fun hHeld => ?_)
    clear hK K
    try simp only [Act.put, List.setIfInBounds_toArray, List.set_cons_zero, List.set_cons_succ]
    refine wpAnyH_ready (rs := [9]) (by kernel_rfl) (by simp) ?_
    refine AllReadyH.cons (o := ({ dst := none, op := Op.store 66 (Operand.tmp 4) (Operand.tmp 27), type := 0, pos := "l5_replay.go:304", after := #[{ on := 8, ground := Ground.data }, { on := 8, ground := Ground.chain }, { on := 0, ground := Ground.phase }, { on := 1, ground := Ground.phase }, { on := 2, ground := Ground.phase }, { on := 3, ground := Ground.phase }, { on := 4, ground := Ground.phase }, { on := 5, ground := Ground.phase }, { on := 6, ground := Ground.phase }, { on := 7, ground := Ground.phase }, { on := 8, ground := Ground.phase }], guard := none } : Oper)) rfl (fun K hK => ?_) AllReadyH.nil
    obtain ⟨g0_, g1_, g2_, gf0, gf1, gf2⟩ := box3 hrr
    go_simp
    refine hK.out _ _ (⟨bset3 hHeld.1 (by omega) _ _ _, rowO (rowO (rowO hHeld.2 (by omega)) (by omega)) (by omega)⟩) (fun hHeld => ?_)
    clear hK K
    try simp only [Act.put, List.setIfInBounds_toArray, List.set_cons_zero, List.set_cons_succ]
    refine wpAnyH_done (by kernel_rfl) ?_ _
    go_wp2
    refine bodyPost_ret (v := .agg #[.int .i64 1, .int .i64 (tvI be), .string ⟨#[]⟩]) (results_cell_row Tryz.results136 _ _ (w.heap.size + 1) 66 _ (0, 0) _ rfl (row3 hrr _ _ _) Tryz.underlying66 rfl (by kernel_rfl)) rfl ⟨by rw [HT.out], hHeld.1⟩
  have ha2 : arity o = 2 := by unfold arity; rw [if_neg (by omega), if_neg (by omega)]
  have ha : 2 ≤ m := by omega
  have n1 : (o == 1) = false := by simpa using e1
  have n2 : (o == 2) = false := by simpa using e2
  have n7 : (o == 7) = false := by simpa using e7
  have n8 : (o == 8) = false := by simpa using e8
  have n11 : (o == 11) = false := by simpa using e11
  have n12 : (o == 12) = false := by simpa using e12
  have n13 : (o == 13) = false := by simpa using e13
  have hbU : Below w.heap.size w ((w.alloc (.cells #[.int .i64 o, .int .i64 mm, .string s] 108)).alloc (.cells #[.int .i64 0, .int .i64 0, .string ⟨#[]⟩] 66)) := bstep (bal _ _) (bal _ _)
  have hrr : ((w.alloc (.cells #[.int .i64 o, .int .i64 mm, .string s] 108)).alloc (.cells #[.int .i64 0, .int .i64 0, .string ⟨#[]⟩] 66)).heap[w.heap.size + 1]? = some (.cells #[.int .i64 0, .int .i64 0, .string ⟨#[]⟩] 66 (0, 0)) := by
    have q := heap_alloc_new (w.alloc (.cells #[.int .i64 o, .int .i64 mm, .string s] 108)) (.cells #[.int .i64 0, .int .i64 0, .string ⟨#[]⟩] 66)
    rw [World.size_alloc] at q
    exact q
  have hri : ((w.alloc (.cells #[.int .i64 o, .int .i64 mm, .string s] 108)).alloc (.cells #[.int .i64 0, .int .i64 0, .string ⟨#[]⟩] 66)).heap[w.heap.size]? = some (.cells #[.int .i64 o, .int .i64 mm, .string s] 108 (0, 0)) := rowL (heap_alloc_new w _) (bal _ _)
  obtain ⟨b, off, rfl, x0, x1, x2, -⟩ := hX.later hbU 0 (by omega)
  simp only [Nat.zero_mul, Nat.add_zero] at x0 x1 x2
  have i0_ : (0 : Int) < m := by omega
  have in0_ : 0 < m := by omega
  have hz0 := hsz 0 (by omega)
  obtain ⟨b9, off9, e9, y0, y1, y2, -⟩ := hX.later hbU 1 (by omega)
  obtain ⟨rfl, rfl⟩ : b = b9 ∧ off = off9 := by simpa using e9
  clear e9
  simp only [Nat.one_mul] at y0 y1 y2
  have i1_ : (1 : Int) < m := by omega
  have in1_ : 1 < m := by omega
  have hz1 := hsz 1 (by omega)
  obtain ⟨xo, xm, xs, hx⟩ : ∃ xo xm xs, X 0 = ⟨xo, xm, xs⟩ := ⟨_, _, _, rfl⟩
  rw [hx] at x0 x1 x2 hz0
  simp only at x0 x1 x2 hz0
  obtain ⟨yo, ym, ys, hy⟩ : ∃ yo ym ys, X 1 = ⟨yo, ym, ys⟩ := ⟨_, _, _, rfl⟩
  rw [hy] at y0 y1 y2 hz1
  simp only at y0 y1 y2 hz1
  have HXY : Hid (X 0 = ⟨xo, xm, xs⟩ ∧ X 1 = ⟨yo, ym, ys⟩) := ⟨hx, hy⟩
  have HT : Hid (itW ⟨o, mm, s⟩ (X 0) (X 1) = ⟨1, caI o xm ym, ⟨#[]⟩⟩) := by
    show _ = _
    have h5 : o = 4 ∨ o = 5 ∨ o = 6 ∨ o = 9 ∨ o = 10 := by omega
    rw [hx, hy]
    rcases h5 with rfl | rfl | rfl | rfl | rfl <;> simp [itW, appI, caI, tru]
  clear hx hy e1 e2 e7 e8 e11 e12 e13 ha2
  go_enter Tryz.func136, Tryz.ntmps136
  go_upto_region 16 with (fail)
  replace hrr : ((w.alloc (.cells #[.int .i64 o, .int .i64 mm, .string s] 108)).alloc (.cells #[.int .i64 0, .int .i64 0, .string ⟨#[]⟩] 66)).drew.heap[w.heap.size + 1]? = some (.cells #[.int .i64 0, .int .i64 0, .string ⟨#[]⟩] 66 (0, 0)) := hrr
  refine wp_region_held_drew (S := fun x => Below w.heap.size w x ∧ x.heap[w.heap.size]? = some (.cells #[.int .i64 o, .int .i64 mm, .string s] 108 (0, 0))) (by kernel_rfl) (⟨bstep hbU (bdrV _), hri⟩) (fun hHeld => ?_)
  refine' takeF (i := 0) (oi := ({ dst := some 68, op := Op.fieldAddr 108 (Operand.tmp 2) 0, type := 0, pos := "l5_replay.go:314", after := #[], guard := none } : Oper)) rfl ⟨by rfl, fun x hSw => ?h22⟩ hHeld ?r22
  case h22 =>
    go_simp
    try with_reducible rfl
  try simp only [Act.put, List.setIfInBounds_toArray, List.set_cons_zero, List.set_cons_succ]
  refine' takeF (i := 1) (oi := ({ dst := some 69, op := Op.load 3 (Operand.tmp 68), type := 3, pos := "l5_replay.go:314", after := #[{ on := 0, ground := Ground.data }], guard := none } : Oper)) rfl ⟨by rfl, fun x hSw => ?h23⟩ hHeld ?r23
  case h23 =>
    obtain ⟨hs1, hs2⟩ := hSw; obtain ⟨k0, k1, k2, -⟩ := box3 hs2; obtain ⟨_, _, ea, l0, l1, l2, -⟩ := hX.later hs1 0 (by omega); obtain ⟨_, _, eb, m0, m1, m2, -⟩ := hX.later hs1 1 (by omega); obtain ⟨rfl, rfl⟩ := (by simpa using ea); obtain ⟨rfl, rfl⟩ := (by simpa using eb); simp only [Nat.zero_mul, Nat.one_mul, Nat.add_zero] at l0 l1 l2 m0 m1 m2; rw [HXY.out.1] at l0 l1 l2; rw [HXY.out.2] at m0 m1 m2; simp only at l0 l1 l2 m0 m1 m2
    go_simp
    try with_reducible rfl
  try simp only [Act.put, List.setIfInBounds_toArray, List.set_cons_zero, List.set_cons_succ]
  refine' takeF (i := 2) (oi := ({ dst := some 70, op := Op.move (Operand.tmp 1), type := 41, pos := "l5_replay.go:314", after := #[], guard := none } : Oper)) rfl ⟨by rfl, fun x hSw => ?h24⟩ hHeld ?r24
  case h24 =>
    go_simp
    try with_reducible rfl
  try simp only [Act.put, List.setIfInBounds_toArray, List.set_cons_zero, List.set_cons_succ]
  refine' takeF (i := 3) (oi := ({ dst := some 71, op := Op.indexAddr 41 (Operand.tmp 70) (Operand.const (Value.int IntKind.i64 0)), type := 0, pos := "l5_replay.go:314", after := #[{ on := 2, ground := Ground.data }], guard := none } : Oper)) rfl ⟨by rfl, fun x hSw => ?h25⟩ hHeld ?r25
  case h25 =>
    go_simp
    try with_reducible rfl
  try simp only [Act.put, List.setIfInBounds_toArray, List.set_cons_zero, List.set_cons_succ]
  refine' takeF (i := 4) (oi := ({ dst := some 72, op := Op.fieldAddr 66 (Operand.tmp 71) 1, type := 0, pos := "l5_replay.go:314", after := #[{ on := 3, ground := Ground.data }], guard := none } : Oper)) rfl ⟨by rfl, fun x hSw => ?h26⟩ hHeld ?r26
  case h26 =>
    go_simp
    try with_reducible rfl
  try simp only [Act.put, List.setIfInBounds_toArray, List.set_cons_zero, List.set_cons_succ]
  refine' takeF (i := 5) (oi := ({ dst := some 73, op := Op.load 3 (Operand.tmp 72), type := 3, pos := "l5_replay.go:314", after := #[{ on := 4, ground := Ground.data }], guard := none } : Oper)) rfl ⟨by rfl, fun x hSw => ?h27⟩ hHeld ?r27
  case h27 =>
    obtain ⟨hs1, hs2⟩ := hSw; obtain ⟨k0, k1, k2, -⟩ := box3 hs2; obtain ⟨_, _, ea, l0, l1, l2, -⟩ := hX.later hs1 0 (by omega); obtain ⟨_, _, eb, m0, m1, m2, -⟩ := hX.later hs1 1 (by omega); obtain ⟨rfl, rfl⟩ := (by simpa using ea); obtain ⟨rfl, rfl⟩ := (by simpa using eb); simp only [Nat.zero_mul, Nat.one_mul, Nat.add_zero] at l0 l1 l2 m0 m1 m2; rw [HXY.out.1] at l0 l1 l2; rw [HXY.out.2] at m0 m1 m2; simp only at l0 l1 l2 m0 m1 m2
    go_simp
    try with_reducible rfl
  try simp only [Act.put, List.setIfInBounds_toArray, List.set_cons_zero, List.set_cons_succ]
  refine' takeF (i := 6) (oi := ({ dst := some 74, op := Op.move (Operand.tmp 1), type := 41, pos := "l5_replay.go:314", after := #[], guard := none } : Oper)) rfl ⟨by rfl, fun x hSw => ?h28⟩ hHeld ?r28
  case h28 =>
    go_simp
    try with_reducible rfl
  try simp only [Act.put, List.setIfInBounds_toArray, List.set_cons_zero, List.set_cons_succ]
  refine' takeF (i := 7) (oi := ({ dst := some 75, op := Op.indexAddr 41 (Operand.tmp 74) (Operand.const (Value.int IntKind.i64 1)), type := 0, pos := "l5_replay.go:314", after := #[{ on := 6, ground := Ground.data }], guard := none } : Oper)) rfl ⟨by rfl, fun x hSw => ?h29⟩ hHeld ?r29
  case h29 =>
    go_simp
    try with_reducible rfl
  try simp only [Act.put, List.setIfInBounds_toArray, List.set_cons_zero, List.set_cons_succ]
  refine' takeF (i := 8) (oi := ({ dst := some 76, op := Op.fieldAddr 66 (Operand.tmp 75) 1, type := 0, pos := "l5_replay.go:314", after := #[{ on := 7, ground := Ground.data }], guard := none } : Oper)) rfl ⟨by rfl, fun x hSw => ?h30⟩ hHeld ?r30
  case h30 =>
    go_simp
    try with_reducible rfl
  try simp only [Act.put, List.setIfInBounds_toArray, List.set_cons_zero, List.set_cons_succ]
  refine' takeF (i := 9) (oi := ({ dst := some 77, op := Op.load 3 (Operand.tmp 76), type := 3, pos := "l5_replay.go:314", after := #[{ on := 8, ground := Ground.data }], guard := none } : Oper)) rfl ⟨by rfl, fun x hSw => ?h31⟩ hHeld ?r31
  case h31 =>
    obtain ⟨hs1, hs2⟩ := hSw; obtain ⟨k0, k1, k2, -⟩ := box3 hs2; obtain ⟨_, _, ea, l0, l1, l2, -⟩ := hX.later hs1 0 (by omega); obtain ⟨_, _, eb, m0, m1, m2, -⟩ := hX.later hs1 1 (by omega); obtain ⟨rfl, rfl⟩ := (by simpa using ea); obtain ⟨rfl, rfl⟩ := (by simpa using eb); simp only [Nat.zero_mul, Nat.one_mul, Nat.add_zero] at l0 l1 l2 m0 m1 m2; rw [HXY.out.1] at l0 l1 l2; rw [HXY.out.2] at m0 m1 m2; simp only at l0 l1 l2 m0 m1 m2
    go_simp
    try with_reducible rfl
  try simp only [Act.put, List.setIfInBounds_toArray, List.set_cons_zero, List.set_cons_succ]
  refine wpAnyH_ready (rs := [10]) (by kernel_rfl) (by simp) ?_
  refine AllReadyH.cons (o := ({ dst := some 78, op := Op.call { callee := Callee.value (Operand.func 168), args := #[Operand.tmp 69, Operand.tmp 73, Operand.tmp 77], argTypes := #[3, 3, 3] }, type := 3, pos := "l5_replay.go:314", after := #[{ on := 1, ground := Ground.data }, { on := 5, ground := Ground.data }, { on := 9, ground := Ground.data }], guard := none } : Oper)) rfl (fun K hK => ?_) AllReadyH.nil
  go_simp
  refine (iCalc o xm ym _).mono ?_
  rintro e w1 ⟨rfl, rfl⟩
  refine hK.out _ _ (hHeld) (fun hHeld => ?_)
  clear hK K
  try simp only [Act.put, List.setIfInBounds_toArray, List.set_cons_zero, List.set_cons_succ]
  refine wpAnyH_ready (rs := [11]) (by kernel_rfl) (by simp) ?_
  refine AllReadyH.cons (o := ({ dst := some 79, op := Op.call { callee := Callee.value (Operand.func 151), args := #[Operand.tmp 78], argTypes := #[3] }, type := 66, pos := "l5_replay.go:314", after := #[{ on := 10, ground := Ground.data }, { on := 10, ground := Ground.chain }], guard := none } : Oper)) rfl (fun K hK => ?_) AllReadyH.nil
  go_simp
  refine (iIntValue _ _).mono ?_
  rintro e w6 ⟨rfl, hb6⟩; replace hrr := rowL hrr hb6
  refine hK.out _ _ (⟨bstep hHeld.1 hb6, rowL hHeld.2 hb6⟩) (fun hHeld => ?_)
  clear hK K
  try simp only [Act.put, List.setIfInBounds_toArray, List.set_cons_zero, List.set_cons_succ]
  refine wpAnyH_ready (rs := [12]) (by kernel_rfl) (by simp) ?_
  refine AllReadyH.cons (o := ({ dst := none, op := Op.store 66 (Operand.tmp 4) (Operand.tmp 79), type := 0, pos := "l5_replay.go:314", after := #[{ on := 11, ground := Ground.data }, { on := 11, ground := Ground.chain }, { on := 0, ground := Ground.phase }, { on := 1, ground := Ground.phase }, { on := 2, ground := Ground.phase }, { on := 3, ground := Ground.phase }, { on := 4, ground := Ground.phase }, { on := 5, ground := Ground.phase }, { on := 6, ground := Ground.phase }, { on := 7, ground := Ground.phase }, { on := 8, ground := Ground.phase }, { on := 9, ground := Ground.phase }, { on := 10, ground := Ground.phase }, { on := 11, ground := Ground.phase }], guard := none } : Oper)) rfl (fun K hK => ?_) AllReadyH.nil
  obtain ⟨g0_, g1_, g2_, gf0, gf1, gf2⟩ := box3 hrr
  go_simp
  refine hK.out _ _ (⟨bset3 hHeld.1 (by omega) _ _ _, rowO (rowO (rowO hHeld.2 (by omega)) (by omega)) (by omega)⟩) (fun hHeld => ?_)
  clear hK K
  try simp only [Act.put, List.setIfInBounds_toArray, List.set_cons_zero, List.set_cons_succ]
  refine wpAnyH_done (by kernel_rfl) ?_ _
  go_wp2
  refine bodyPost_ret (v := .agg #[.int .i64 1, .int .i64 (caI o xm ym), .string ⟨#[]⟩]) (results_cell_row Tryz.results136 _ _ (w.heap.size + 1) 66 _ (0, 0) _ rfl (row3 hrr _ _ _) Tryz.underlying66 rfl (by kernel_rfl)) rfl ⟨by rw [HT.out], hHeld.1⟩
end Go.Proofs.YtgeiamgeclbiaaaGreatDoor
