/-
  The cursor that the specification draws with.
-/
import Derived.Test.YtlilmbeehmjpkaaHe
import Derived.Test.YtlilmbeehmjpkaaEv
namespace Go.Proofs.Ytlilmbeehmjpkaa
open Go.RowKit
/-- A cursor over a code of cn bytes: z bytes are drawn, the seed is s. -/
structure Cu (w : World) (g B : Nat) (ca : Option Addr) (cn cc : Nat) (z s : Nat) : Prop where
  c0 : w.cell? ⟨g, 0, none⟩ = some (.slice ca cn cc)
  c1 : w.cell? ⟨g, 1, none⟩ = some (.int .i64 z)
  c2 : w.cell? ⟨g, 2, none⟩ = some (.int .i64 s)
  f1 : w.frozen? ⟨g, 1, none⟩ = false
  f2 : w.frozen? ⟨g, 2, none⟩ = false
  hs : s < 2147483648
  hn : cn ≤ 1048576
  lt : g < B
  code : ∀ j, j < cn → ∃ b off v, ca = some ⟨b, off, none⟩ ∧ b ≠ g ∧ b < B ∧ w.cell? ⟨b, off + j, none⟩ = some (.int .u8 v) ∧ 0 ≤ v ∧ v ≤ 255
theorem gset (w : World) (g i : Nat) (v : Value) : w.grownBy (w.setCell ⟨g, i, none⟩ v) (some g) :=
  ⟨rfl, rfl, rfl, by simp [World.setCell], fun k _ hk => Below.heap_setCell _ _ _ _ (fun e => hk (by rw [e]))⟩
theorem Cu.set1 {w : World} {g B : Nat} {ca : Option Addr} {cn cc z s : Nat} (h : Cu w g B ca cn cc z s) (z' : Nat) : Cu (w.setCell ⟨g, 1, none⟩ (.int .i64 z')) g B ca cn cc z' s := by
  have n10 : (⟨g, 1, none⟩ : Addr) ≠ ⟨g, 0, none⟩ := fun h => by cases h
  have n12 : (⟨g, 1, none⟩ : Addr) ≠ ⟨g, 2, none⟩ := fun h => by cases h
  refine ⟨(World.cell?_setCell_other (h := n10) ..).trans h.c0, World.cell?_setCell_same (h := h.c1) .., (World.cell?_setCell_other (h := n12) ..).trans h.c2, by simpa using h.f1, by simpa using h.f2, h.hs, h.hn, h.lt, fun j hj => ?_⟩
  obtain ⟨b, off, v, e, hb, hB, hc, h0, h1⟩ := h.code j hj
  exact ⟨b, off, v, e, hb, hB, (World.cell?_setCell_far _ _ _ _ (fun e => hb e.symm)).trans hc, h0, h1⟩
theorem Cu.set2 {w : World} {g B : Nat} {ca : Option Addr} {cn cc z s : Nat} (h : Cu w g B ca cn cc z s) (s' : Nat) (hs' : s' < 2147483648) : Cu (w.setCell ⟨g, 2, none⟩ (.int .i64 s')) g B ca cn cc z s' := by
  have n20 : (⟨g, 2, none⟩ : Addr) ≠ ⟨g, 0, none⟩ := fun h => by cases h
  have n21 : (⟨g, 2, none⟩ : Addr) ≠ ⟨g, 1, none⟩ := fun h => by cases h
  refine ⟨(World.cell?_setCell_other (h := n20) ..).trans h.c0, (World.cell?_setCell_other (h := n21) ..).trans h.c1, World.cell?_setCell_same (h := h.c2) .., by simpa using h.f1, by simpa using h.f2, hs', h.hn, h.lt, fun j hj => ?_⟩
  obtain ⟨b, off, v, e, hb, hB, hc, h0, h1⟩ := h.code j hj
  exact ⟨b, off, v, e, hb, hB, (World.cell?_setCell_far _ _ _ _ (fun e => hb e.symm)).trans hc, h0, h1⟩
theorem Cu.drawn {w : World} {g B : Nat} {ca : Option Addr} {cn cc z s : Nat} (h : Cu w g B ca cn cc z s) (q : Nat) : Cu (w.drewN q) g B ca cn cc z s := ⟨h.c0, h.c1, h.c2, h.f1, h.f2, h.hs, h.hn, h.lt, h.code⟩
theorem Cu.gr {w w' : World} {g B : Nat} {ca : Option Addr} {cn cc z s : Nat} {r : Option Nat} (h : Cu w g B ca cn cc z s) (hg : w.grownBy w' r) (hr : ∀ k, r = some k → B ≤ k) (hB : B ≤ w.heap.size) : Cu w' g B ca cn cc z s := by
  have bl : ∀ k, k < B → w'.heap[k]? = w.heap[k]? := fun k hk => hg.block k (by omega) (fun e => by have := hr k e.symm; omega)
  have cc' : ∀ i, w'.cell? ⟨g, i, none⟩ = w.cell? ⟨g, i, none⟩ := fun i => World.cell?_of_block (bl g h.lt)
  have ff : ∀ i, w'.frozen? ⟨g, i, none⟩ = w.frozen? ⟨g, i, none⟩ := fun i => World.frozen?_of_block (bl g h.lt)
  refine ⟨(cc' 0).trans h.c0, (cc' 1).trans h.c1, (cc' 2).trans h.c2, (ff 1).trans h.f1, (ff 2).trans h.f2, h.hs, h.hn, h.lt, fun j hj => ?_⟩
  obtain ⟨b, off, v, e, hb, hB', hc, h0, h1⟩ := h.code j hj
  exact ⟨b, off, v, e, hb, hB', (World.cell?_of_block (bl b hB')).trans hc, h0, h1⟩
theorem galloc (w : World) (o : Obj) (r : Option Nat) : w.grownBy (w.alloc o) r := ⟨rfl, rfl, rfl, by simp, fun k hk _ => Below.heap_alloc _ _ _ hk⟩
theorem blk_lt {w : World} {k : Nat} {o : Obj} (h : w.heap[k]? = some o) : k < w.heap.size := by
  rcases Nat.lt_or_ge k w.heap.size with hlt | hge
  · exact hlt
  · rw [Array.getElem?_eq_none hge] at h
    cases h
theorem own_gr {w w' : World} {base e size n g : Nat} {v : Value} {xs : List Value} (h : w.ownsRow base e size v n xs) (hg : w.grownBy w' (some g)) (hgb : g < base) : w'.ownsRow base e size v n xs := by
  obtain ⟨hl, hh⟩ := h
  refine ⟨hl, ?_⟩
  rcases hh with hh | ⟨gg, cap, cur, e1, e2, e3, e4⟩
  · exact Or.inl hh
  · exact Or.inr ⟨gg, cap, cur, e1, e2, (hg.block gg (blk_lt e3) (fun e => by have := Option.some.inj e; omega)).trans e3, e4⟩
/-- A row of the call's own was written: to the cursor's eyes nothing but its own block. -/
theorem gjoin {a b c : World} {g : Nat} {r : Option Nat} (h : a.grownBy b (some g)) (k : b.grownBy c r) (hr : ∀ j, r = some j → a.heap.size ≤ j) : a.grownBy c (some g) :=
  ⟨k.os.trans h.os, k.tape.trans h.tape, k.output.trans h.output, Nat.le_trans h.size k.size, fun i hi hn => (k.block i (Nat.lt_of_lt_of_le hi h.size) (fun e => by have := hr i e.symm; omega)).trans (h.block i hi hn)⟩
theorem gdrew {w w' : World} {r : Option Nat} (h : w.grownBy w' r) (q : Nat) : w.grownBy (w'.drewN q) r := ⟨h.os, h.tape, h.output, h.size, h.block⟩
theorem gtrans {a b c : World} {r : Option Nat} (h : a.grownBy b r) (k : b.grownBy c r) : a.grownBy c r :=
  ⟨k.os.trans h.os, k.tape.trans h.tape, k.output.trans h.output, Nat.le_trans h.size k.size, fun i hi hn => (k.block i (Nat.lt_of_lt_of_le hi h.size) hn).trans (h.block i hi hn)⟩
set_option maxRecDepth 20000 in
set_option maxHeartbeats 4000000 in
theorem byte_any (g B : Nat) (ca : Option Addr) (cn cc z s : Nat) (w : World) (h : Cu w g B ca cn cc z s) (hz : z ≤ 1099511627776) :
    Calls Try.prog 29 #[.pointer (some ⟨g, 0, none⟩)] w fun e w' => ∃ (r : Int) (s' : Nat), e = .returned (.int .i64 r) ∧ 0 ≤ r ∧ r ≤ 255 ∧ Cu w' g B ca cn cc (z + 1) s' ∧ w.grownBy w' (some g) := by
  have hn := h.hn
  have hs := h.hs
  obtain ⟨c0, c1, c2, f1, f2, -, -, -, -⟩ := id h
  have h1 := h.set1 (z + 1)
  have ez : ((z + 1 : Nat) : Int) = (z : Int) + 1 := by omega
  rw [ez] at h1
  obtain ⟨a0, a1, a2, k1, k2, -, -, -, hcode⟩ := id h1
  rw [ez] at a1
  have HC : Hid (Cu (w.setCell ⟨g, 1, none⟩ (.int .i64 ((z : Int) + 1))) g B ca cn cc (z + 1) s) := h1
  have HG : Hid (w.grownBy (w.setCell ⟨g, 1, none⟩ (.int .i64 ((z : Int) + 1))) (some g)) := gset _ _ _ _
  clear h h1
  have e1 : IntKind.i64.wrap (40 * (cn : Int)) = 40 * cn := by rw [IntKind.wrap_i64]; omega
  have e2 : IntKind.i64.wrap (200 + 40 * (cn : Int)) = 200 + 40 * cn := by rw [IntKind.wrap_i64]; omega
  by_cases hA : 200 + 40 * (cn : Int) < (z : Int) + 1
  · have dA : decide (200 + 40 * (cn : Int) < (z : Int) + 1) = true := decide_eq_true hA
    go_enter Try.func29, Try.ntmps29
    go_wp2
    go_quiet (fail)
    go_wp2
    go_ret
    exact ⟨0, s, rfl, by omega, by omega, HC.out.drawn _, gdrew HG.out _⟩
  · have dA : decide (200 + 40 * (cn : Int) < (z : Int) + 1) = false := decide_eq_false hA
    by_cases hB : (cn : Int) < (z : Int) + 1
    · have dB : decide ((cn : Int) < (z : Int) + 1) = true := decide_eq_true hB
      go_enter Try.func29, Try.ntmps29
      go_wp2
      go_quiet (fail)
      go_wp2
      go_quiet (fail)
      go_wp2
      go_ret
      have es : (((s * 1103515245 + 12345) % 2147483648 : Nat) : Int) = ((s : Int) * 1103515245 + 12345) % 2147483648 := by omega
      refine ⟨_, (s * 1103515245 + 12345) % 2147483648, rfl, by omega, by omega, ?_, gtrans (gdrew HG.out _) (gset _ _ _ _)⟩
      rw [← es]
      exact (HC.out.drawn _).set2 _ (by omega)
    · have dB : decide ((cn : Int) < (z : Int) + 1) = false := decide_eq_false hB
      obtain ⟨b, off, v, rfl, hbg, -, hcv, hv0, hv1⟩ := hcode z (by omega)
      obtain ⟨vn, rfl⟩ : ∃ vn : Nat, v = vn := ⟨v.toNat, by omega⟩
      obtain ⟨s2, hs2⟩ : ∃ s2, (s * 31 + vn + 7) % 2147483648 = s2 := ⟨_, rfl⟩
      have e8 : ((s : Int) * 31 + vn + 7).tmod 2147483648 = (s2 : Nat) := by rw [Int.tmod_eq_emod_of_nonneg (by omega)]; omega
      have hs2l : s2 < 2147483648 := by omega
      clear hs2
      have n20 : (⟨g, 2, none⟩ : Addr) ≠ ⟨g, 0, none⟩ := fun h => by cases h
      have n21 : (⟨g, 2, none⟩ : Addr) ≠ ⟨g, 1, none⟩ := fun h => by cases h
      have e3 : IntKind.i64.wrap ((z : Int) + 1 - 1) = z := by rw [IntKind.wrap_i64]; omega
      have e3' : IntKind.i64.wrap (z : Int) = z := by rw [IntKind.wrap_i64]; omega
      have e4 : IntKind.i64.wrap ((s : Int) * 31) = s * 31 := by rw [IntKind.wrap_i64]; omega
      have e5 : IntKind.i64.wrap ((s : Int) * 31 + vn) = s * 31 + vn := by rw [IntKind.wrap_i64]; omega
      have e6 : IntKind.i64.wrap ((s : Int) * 31 + vn + 7) = s * 31 + vn + 7 := by rw [IntKind.wrap_i64]; omega
      have e7 : IntKind.i64.wrap (vn : Int) = vn := by rw [IntKind.wrap_i64]; omega
      have i0 : (0 : Int) ≤ (z : Int) := by omega
      have i1 : (z : Int) < (cn : Int) := by omega
      go_enter Try.func29, Try.ntmps29
      go_wp2
      go_quiet (fail)
      go_wp2
      go_quiet (fail)
      go_wp2
      refine wp_region_held_drew (S := fun w' => w'.cell? ⟨g, 0, none⟩ = some (.slice (some ⟨b, off, none⟩) cn cc) ∧ w'.cell? ⟨g, 1, none⟩ = some (.int .i64 ((z : Int) + 1)) ∧ w'.cell? ⟨b, off + z, none⟩ = some (.int .u8 vn)) (by kernel_rfl) ⟨a0, a1, hcv⟩ (fun _ => ?_)
      refine wpAnyH_take (i := 0) (oi := ({ dst := some 48, op := Op.move (Operand.tmp 0), type := 32, pos := "l1_hash.go:143", after := #[], guard := none } : Oper)) (v := .pointer (some ⟨g, 0, none⟩)) rfl (by kernel_rfl) (by kernel_rfl) (by kernel_rfl) (fun _ _ _ h => h) (Or.inl ⟨by rfl, fun w hSw => by go_simp⟩) ⟨a0, a1, hcv⟩ ?_
      simp only [Act.put, List.setIfInBounds_toArray, List.set_cons_zero, List.set_cons_succ]
      refine wpAnyH_take (i := 1) (oi := ({ dst := some 49, op := Op.move (Operand.tmp 0), type := 32, pos := "l1_hash.go:143", after := #[], guard := none } : Oper)) (v := .pointer (some ⟨g, 0, none⟩)) rfl (by kernel_rfl) (by kernel_rfl) (by kernel_rfl) (fun _ _ _ h => h) (Or.inl ⟨by rfl, fun w hSw => by go_simp⟩) ⟨a0, a1, hcv⟩ ?_
      simp only [Act.put, List.setIfInBounds_toArray, List.set_cons_zero, List.set_cons_succ]
      refine wpAnyH_take (i := 2) (oi := ({ dst := some 50, op := Op.nilCheck (Operand.tmp 49), type := 0, pos := "l1_hash.go:143", after := #[{ on := 1, ground := Ground.data }], guard := none } : Oper)) (v := .pointer (some ⟨g, 0, none⟩)) rfl (by kernel_rfl) (by kernel_rfl) (by kernel_rfl) (fun _ _ _ h => h) (Or.inl ⟨by rfl, fun w hSw => by go_simp⟩) ⟨a0, a1, hcv⟩ ?_
      simp only [Act.put, List.setIfInBounds_toArray, List.set_cons_zero, List.set_cons_succ]
      refine wpAnyH_take (i := 3) (oi := ({ dst := some 51, op := Op.fieldAddr 34 (Operand.tmp 50) 2, type := 0, pos := "l1_hash.go:143", after := #[{ on := 2, ground := Ground.data }], guard := none } : Oper)) (v := .pointer (some ⟨g, 2, none⟩)) rfl (by kernel_rfl) (by kernel_rfl) (by kernel_rfl) (fun _ _ _ h => h) (Or.inl ⟨by rfl, fun w hSw => by go_simp⟩) ⟨a0, a1, hcv⟩ ?_
      simp only [Act.put, List.setIfInBounds_toArray, List.set_cons_zero, List.set_cons_succ]
      refine wpAnyH_take (i := 6) (oi := ({ dst := some 54, op := Op.move (Operand.tmp 0), type := 32, pos := "l1_hash.go:143", after := #[], guard := none } : Oper)) (v := .pointer (some ⟨g, 0, none⟩)) rfl (by kernel_rfl) (by kernel_rfl) (by kernel_rfl) (fun _ _ _ h => h) (Or.inl ⟨by rfl, fun w hSw => by go_simp⟩) ⟨a0, a1, hcv⟩ ?_
      simp only [Act.put, List.setIfInBounds_toArray, List.set_cons_zero, List.set_cons_succ]
      refine wpAnyH_take (i := 7) (oi := ({ dst := some 55, op := Op.nilCheck (Operand.tmp 54), type := 0, pos := "l1_hash.go:143", after := #[{ on := 6, ground := Ground.data }], guard := none } : Oper)) (v := .pointer (some ⟨g, 0, none⟩)) rfl (by kernel_rfl) (by kernel_rfl) (by kernel_rfl) (fun _ _ _ h => h) (Or.inl ⟨by rfl, fun w hSw => by go_simp⟩) ⟨a0, a1, hcv⟩ ?_
      simp only [Act.put, List.setIfInBounds_toArray, List.set_cons_zero, List.set_cons_succ]
      refine wpAnyH_take (i := 8) (oi := ({ dst := some 56, op := Op.fieldAddr 34 (Operand.tmp 55) 0, type := 0, pos := "l1_hash.go:143", after := #[{ on := 7, ground := Ground.data }], guard := none } : Oper)) (v := .pointer (some ⟨g, 0, none⟩)) rfl (by kernel_rfl) (by kernel_rfl) (by kernel_rfl) (fun _ _ _ h => h) (Or.inl ⟨by rfl, fun w hSw => by go_simp⟩) ⟨a0, a1, hcv⟩ ?_
      simp only [Act.put, List.setIfInBounds_toArray, List.set_cons_zero, List.set_cons_succ]
      refine wpAnyH_take (i := 9) (oi := ({ dst := some 57, op := Op.load 22 (Operand.tmp 56), type := 22, pos := "l1_hash.go:143", after := #[{ on := 8, ground := Ground.data }], guard := none } : Oper)) (v := .slice (some ⟨b, off, none⟩) cn cc) rfl (by kernel_rfl) (by kernel_rfl) (by kernel_rfl) (fun _ _ _ h => h) (Or.inl ⟨by rfl, fun w hSw => by obtain ⟨hs0, hs1, hs3⟩ := hSw; go_simp⟩) ⟨a0, a1, hcv⟩ ?_
      simp only [Act.put, List.setIfInBounds_toArray, List.set_cons_zero, List.set_cons_succ]
      refine wpAnyH_take (i := 10) (oi := ({ dst := some 58, op := Op.move (Operand.tmp 0), type := 32, pos := "l1_hash.go:143", after := #[], guard := none } : Oper)) (v := .pointer (some ⟨g, 0, none⟩)) rfl (by kernel_rfl) (by kernel_rfl) (by kernel_rfl) (fun _ _ _ h => h) (Or.inl ⟨by rfl, fun w hSw => by go_simp⟩) ⟨a0, a1, hcv⟩ ?_
      simp only [Act.put, List.setIfInBounds_toArray, List.set_cons_zero, List.set_cons_succ]
      refine wpAnyH_take (i := 11) (oi := ({ dst := some 59, op := Op.nilCheck (Operand.tmp 58), type := 0, pos := "l1_hash.go:143", after := #[{ on := 10, ground := Ground.data }], guard := none } : Oper)) (v := .pointer (some ⟨g, 0, none⟩)) rfl (by kernel_rfl) (by kernel_rfl) (by kernel_rfl) (fun _ _ _ h => h) (Or.inl ⟨by rfl, fun w hSw => by go_simp⟩) ⟨a0, a1, hcv⟩ ?_
      simp only [Act.put, List.setIfInBounds_toArray, List.set_cons_zero, List.set_cons_succ]
      refine wpAnyH_take (i := 12) (oi := ({ dst := some 60, op := Op.fieldAddr 34 (Operand.tmp 59) 1, type := 0, pos := "l1_hash.go:143", after := #[{ on := 11, ground := Ground.data }], guard := none } : Oper)) (v := .pointer (some ⟨g, 1, none⟩)) rfl (by kernel_rfl) (by kernel_rfl) (by kernel_rfl) (fun _ _ _ h => h) (Or.inl ⟨by rfl, fun w hSw => by go_simp⟩) ⟨a0, a1, hcv⟩ ?_
      simp only [Act.put, List.setIfInBounds_toArray, List.set_cons_zero, List.set_cons_succ]
      refine wpAnyH_take (i := 13) (oi := ({ dst := some 61, op := Op.load 3 (Operand.tmp 60), type := 3, pos := "l1_hash.go:143", after := #[{ on := 12, ground := Ground.data }], guard := none } : Oper)) (v := .int .i64 ((z : Int) + 1)) rfl (by kernel_rfl) (by kernel_rfl) (by kernel_rfl) (fun _ _ _ h => h) (Or.inl ⟨by rfl, fun w hSw => by obtain ⟨hs0, hs1, hs3⟩ := hSw; go_simp⟩) ⟨a0, a1, hcv⟩ ?_
      simp only [Act.put, List.setIfInBounds_toArray, List.set_cons_zero, List.set_cons_succ]
      refine wpAnyH_take (i := 14) (oi := ({ dst := some 62, op := Op.binOp BinOp.sub 3 (Operand.tmp 61) (Operand.const (Value.int IntKind.i64 1)) 3, type := 3, pos := "l1_hash.go:143", after := #[{ on := 13, ground := Ground.data }], guard := none } : Oper)) (v := .int .i64 z) rfl (by kernel_rfl) (by kernel_rfl) (by kernel_rfl) (fun _ _ _ h => h) (Or.inl ⟨by rfl, fun w hSw => by go_simp⟩) ⟨a0, a1, hcv⟩ ?_
      simp only [Act.put, List.setIfInBounds_toArray, List.set_cons_zero, List.set_cons_succ]
      refine wpAnyH_take (i := 15) (oi := ({ dst := some 63, op := Op.indexAddr 22 (Operand.tmp 57) (Operand.tmp 62), type := 0, pos := "l1_hash.go:143", after := #[{ on := 9, ground := Ground.data }, { on := 14, ground := Ground.data }], guard := none } : Oper)) (v := .pointer (some ⟨b, off + z, none⟩)) rfl (by kernel_rfl) (by kernel_rfl) (by kernel_rfl) (fun _ _ _ h => h) (Or.inl ⟨by rfl, fun w hSw => by go_simp⟩) ⟨a0, a1, hcv⟩ ?_
      simp only [Act.put, List.setIfInBounds_toArray, List.set_cons_zero, List.set_cons_succ]
      refine wpAnyH_take (i := 16) (oi := ({ dst := some 64, op := Op.load 5 (Operand.tmp 63), type := 5, pos := "l1_hash.go:143", after := #[{ on := 15, ground := Ground.data }], guard := none } : Oper)) (v := .int .u8 vn) rfl (by kernel_rfl) (by kernel_rfl) (by kernel_rfl) (fun _ _ _ h => h) (Or.inl ⟨by rfl, fun w hSw => by obtain ⟨hs0, hs1, hs3⟩ := hSw; go_simp⟩) ⟨a0, a1, hcv⟩ ?_
      simp only [Act.put, List.setIfInBounds_toArray, List.set_cons_zero, List.set_cons_succ]
      refine wpAnyH_take (i := 17) (oi := ({ dst := some 65, op := Op.convert 5 3 (Operand.tmp 64), type := 3, pos := "l1_hash.go:143", after := #[{ on := 16, ground := Ground.data }], guard := none } : Oper)) (v := .int .i64 vn) rfl (by kernel_rfl) (by kernel_rfl) (by kernel_rfl) (fun _ _ _ h => h) (Or.inl ⟨by rfl, fun w hSw => by go_simp⟩) ⟨a0, a1, hcv⟩ ?_
      simp only [Act.put, List.setIfInBounds_toArray, List.set_cons_zero, List.set_cons_succ]
      refine wpAnyH_ready (rs := [4]) (by kernel_rfl) (by simp) ?_
      refine AllReadyH.cons (o := ({ dst := some 52, op := Op.load 3 (Operand.tmp 51), type := 3, pos := "l1_hash.go:143", after := #[{ on := 3, ground := Ground.data }], guard := none } : Oper)) rfl (fun K hK => ?_) AllReadyH.nil
      go_simp
      refine hK.out _ _ ⟨a0, a1, hcv⟩ (fun _ => ?_)
      clear hK K
      refine wpAnyH_take (i := 5) (oi := ({ dst := some 53, op := Op.binOp BinOp.mul 3 (Operand.tmp 52) (Operand.const (Value.int IntKind.i64 31)) 3, type := 3, pos := "l1_hash.go:143", after := #[{ on := 4, ground := Ground.data }], guard := none } : Oper)) (v := .int .i64 ((s : Int) * 31)) rfl (by kernel_rfl) (by kernel_rfl) (by kernel_rfl) (fun _ _ _ h => h) (Or.inl ⟨by rfl, fun w hSw => by go_simp⟩) ⟨a0, a1, hcv⟩ ?_
      simp only [Act.put, List.setIfInBounds_toArray, List.set_cons_zero, List.set_cons_succ]
      refine wpAnyH_take (i := 18) (oi := ({ dst := some 66, op := Op.binOp BinOp.add 3 (Operand.tmp 53) (Operand.tmp 65) 3, type := 3, pos := "l1_hash.go:143", after := #[{ on := 5, ground := Ground.data }, { on := 17, ground := Ground.data }], guard := none } : Oper)) (v := .int .i64 ((s : Int) * 31 + vn)) rfl (by kernel_rfl) (by kernel_rfl) (by kernel_rfl) (fun _ _ _ h => h) (Or.inl ⟨by rfl, fun w hSw => by go_simp⟩) ⟨a0, a1, hcv⟩ ?_
      simp only [Act.put, List.setIfInBounds_toArray, List.set_cons_zero, List.set_cons_succ]
      refine wpAnyH_take (i := 19) (oi := ({ dst := some 67, op := Op.binOp BinOp.add 3 (Operand.tmp 66) (Operand.const (Value.int IntKind.i64 7)) 3, type := 3, pos := "l1_hash.go:143", after := #[{ on := 18, ground := Ground.data }], guard := none } : Oper)) (v := .int .i64 ((s : Int) * 31 + vn + 7)) rfl (by kernel_rfl) (by kernel_rfl) (by kernel_rfl) (fun _ _ _ h => h) (Or.inl ⟨by rfl, fun w hSw => by go_simp⟩) ⟨a0, a1, hcv⟩ ?_
      simp only [Act.put, List.setIfInBounds_toArray, List.set_cons_zero, List.set_cons_succ]
      refine wpAnyH_take (i := 20) (oi := ({ dst := some 68, op := Op.binOp BinOp.rem 3 (Operand.tmp 67) (Operand.const (Value.int IntKind.i64 2147483648)) 3, type := 3, pos := "l1_hash.go:143", after := #[{ on := 19, ground := Ground.data }], guard := none } : Oper)) (v := .int .i64 (s2 : Nat)) rfl (by kernel_rfl) (by kernel_rfl) (by kernel_rfl) (fun _ _ _ h => h) (Or.inl ⟨by rfl, fun w hSw => by go_simp⟩) ⟨a0, a1, hcv⟩ ?_
      simp only [Act.put, List.setIfInBounds_toArray, List.set_cons_zero, List.set_cons_succ]
      refine wpAnyH_take (i := 21) (oi := ({ dst := some 69, op := Op.nilCheck (Operand.tmp 48), type := 0, pos := "l1_hash.go:143", after := #[{ on := 0, ground := Ground.data }, { on := 0, ground := Ground.phase }, { on := 1, ground := Ground.phase }, { on := 2, ground := Ground.phase }, { on := 3, ground := Ground.phase }, { on := 4, ground := Ground.phase }, { on := 5, ground := Ground.phase }, { on := 6, ground := Ground.phase }, { on := 7, ground := Ground.phase }, { on := 8, ground := Ground.phase }, { on := 9, ground := Ground.phase }, { on := 10, ground := Ground.phase }, { on := 11, ground := Ground.phase }, { on := 12, ground := Ground.phase }, { on := 13, ground := Ground.phase }, { on := 14, ground := Ground.phase }, { on := 15, ground := Ground.phase }, { on := 16, ground := Ground.phase }, { on := 17, ground := Ground.phase }, { on := 18, ground := Ground.phase }, { on := 19, ground := Ground.phase }, { on := 20, ground := Ground.phase }], guard := none } : Oper)) (v := .pointer (some ⟨g, 0, none⟩)) rfl (by kernel_rfl) (by kernel_rfl) (by kernel_rfl) (fun _ _ _ h => h) (Or.inl ⟨by rfl, fun w hSw => by go_simp⟩) ⟨a0, a1, hcv⟩ ?_
      simp only [Act.put, List.setIfInBounds_toArray, List.set_cons_zero, List.set_cons_succ]
      refine wpAnyH_take (i := 22) (oi := ({ dst := some 70, op := Op.fieldAddr 34 (Operand.tmp 69) 2, type := 0, pos := "l1_hash.go:143", after := #[{ on := 21, ground := Ground.data }, { on := 0, ground := Ground.phase }, { on := 1, ground := Ground.phase }, { on := 2, ground := Ground.phase }, { on := 3, ground := Ground.phase }, { on := 4, ground := Ground.phase }, { on := 5, ground := Ground.phase }, { on := 6, ground := Ground.phase }, { on := 7, ground := Ground.phase }, { on := 8, ground := Ground.phase }, { on := 9, ground := Ground.phase }, { on := 10, ground := Ground.phase }, { on := 11, ground := Ground.phase }, { on := 12, ground := Ground.phase }, { on := 13, ground := Ground.phase }, { on := 14, ground := Ground.phase }, { on := 15, ground := Ground.phase }, { on := 16, ground := Ground.phase }, { on := 17, ground := Ground.phase }, { on := 18, ground := Ground.phase }, { on := 19, ground := Ground.phase }, { on := 20, ground := Ground.phase }], guard := none } : Oper)) (v := .pointer (some ⟨g, 2, none⟩)) rfl (by kernel_rfl) (by kernel_rfl) (by kernel_rfl) (fun _ _ _ h => h) (Or.inl ⟨by rfl, fun w hSw => by go_simp⟩) ⟨a0, a1, hcv⟩ ?_
      simp only [Act.put, List.setIfInBounds_toArray, List.set_cons_zero, List.set_cons_succ]
      refine wpAnyH_ready (rs := [23]) (by kernel_rfl) (by simp) ?_
      refine AllReadyH.cons (o := ({ dst := none, op := Op.store 3 (Operand.tmp 70) (Operand.tmp 68), type := 0, pos := "l1_hash.go:143", after := #[{ on := 22, ground := Ground.data }, { on := 20, ground := Ground.data }, { on := 0, ground := Ground.phase }, { on := 1, ground := Ground.phase }, { on := 2, ground := Ground.phase }, { on := 3, ground := Ground.phase }, { on := 4, ground := Ground.phase }, { on := 5, ground := Ground.phase }, { on := 6, ground := Ground.phase }, { on := 7, ground := Ground.phase }, { on := 8, ground := Ground.phase }, { on := 9, ground := Ground.phase }, { on := 10, ground := Ground.phase }, { on := 11, ground := Ground.phase }, { on := 12, ground := Ground.phase }, { on := 13, ground := Ground.phase }, { on := 14, ground := Ground.phase }, { on := 15, ground := Ground.phase }, { on := 16, ground := Ground.phase }, { on := 17, ground := Ground.phase }, { on := 18, ground := Ground.phase }, { on := 19, ground := Ground.phase }, { on := 20, ground := Ground.phase }], guard := none } : Oper)) rfl (fun K hK => ?_) AllReadyH.nil
      go_simp
      refine hK.out _ _ ⟨(World.cell?_setCell_other (h := n20) ..).trans a0, (World.cell?_setCell_other (h := n21) ..).trans a1, (World.cell?_setCell_far _ _ _ _ (fun e => hbg e.symm)).trans hcv⟩ (fun _ => ?_)
      clear hK K
      refine wpAnyH_done (by kernel_rfl) ?_ _
      go_wp2
      go_quiet (fail)
      go_wp2
      go_ret
      refine ⟨_, s2, rfl, by omega, by omega, ?_, gdrew (gtrans (gdrew HG.out _) (gset _ _ _ _)) _⟩
      exact ((HC.out.drawn _).set2 s2 hs2l).drawn _
end Go.Proofs.Ytlilmbeehmjpkaa
