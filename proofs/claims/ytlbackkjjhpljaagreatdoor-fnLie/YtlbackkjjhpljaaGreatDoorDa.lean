/-
  The extractor for a path: the specification's way.
-/
import Derived.Test.YtlbackkjjhpljaaGreatDoorDn
import Derived.Test.YtlbackkjjhpljaaGreatDoorRa
import Derived.Test.YtlbackkjjhpljaaGreatDoorCk
import Derived.Test.YtlbackkjjhpljaaGreatDoorTs
import Derived.Test.YtlbackkjjhpljaaGreatDoorIa
import Derived.Deep.RegionHeld3
namespace Go.Proofs.YtlbackkjjhpljaaGreatDoor
open Go.RowKit
theorem ba_tol {u v : ByteArray} (h : u.toList = v.toList) : u = v := by
  rw [ByteArray.toList_eq, ByteArray.toList_eq] at h
  exact ba_same h
/-- A box of three cells that may be written. -/
structure B3 (w : World) (g : Nat) (x y z : Value) : Prop where
  c0 : w.cell? ⟨g, 0, none⟩ = some x
  c1 : w.cell? ⟨g, 1, none⟩ = some y
  c2 : w.cell? ⟨g, 2, none⟩ = some z
  f0 : w.frozen? ⟨g, 0, none⟩ = false
  f1 : w.frozen? ⟨g, 1, none⟩ = false
  f2 : w.frozen? ⟨g, 2, none⟩ = false
theorem B3.new (w : World) (x y z : Value) (t : TypeId) : B3 (w.alloc (.cells #[x, y, z] t)) w.heap.size x y z :=
  ⟨(cell_of_row _ _ 0 _ _ _ (heap_alloc_new w _)).trans rfl, (cell_of_row _ _ 1 _ _ _ (heap_alloc_new w _)).trans rfl, (cell_of_row _ _ 2 _ _ _ (heap_alloc_new w _)).trans rfl,
   frozen_of_row _ _ 0 _ _ (heap_alloc_new w _), frozen_of_row _ _ 1 _ _ (heap_alloc_new w _), frozen_of_row _ _ 2 _ _ (heap_alloc_new w _)⟩
theorem keep_f {w w' : World} {p : Addr} {v : Value} (hb : Below w.heap.size w w') (hc : w.cell? p = some v) (hf : w.frozen? p = false) : w'.frozen? p = false :=
  ((bcell hb).2 _ _ (World.block_lt_of_cell? _ _ hc)).trans hf
theorem B3.later {w w' : World} {g : Nat} {x y z : Value} (h : B3 w g x y z) (hb : Below w.heap.size w w') : B3 w' g x y z :=
  ⟨keep hb h.c0, keep hb h.c1, keep hb h.c2, keep_f hb h.c0 h.f0, keep_f hb h.c1 h.f1, keep_f hb h.c2 h.f2⟩
theorem triple_set (w : World) (g : Nat) (x y z x' y' z' : Value) (h : B3 w g x y z) :
    (((w.setCell ⟨g, 0, none⟩ x').setCell ⟨g, 1, none⟩ y').setCell ⟨g, 2, none⟩ z').cell? ⟨g, 0, none⟩ = some x' ∧ (((w.setCell ⟨g, 0, none⟩ x').setCell ⟨g, 1, none⟩ y').setCell ⟨g, 2, none⟩ z').cell? ⟨g, 1, none⟩ = some y' ∧ (((w.setCell ⟨g, 0, none⟩ x').setCell ⟨g, 1, none⟩ y').setCell ⟨g, 2, none⟩ z').cell? ⟨g, 2, none⟩ = some z' := by
  have n01 : (⟨g, 0, none⟩ : Addr) ≠ ⟨g, 1, none⟩ := fun h => by cases h
  have n02 : (⟨g, 0, none⟩ : Addr) ≠ ⟨g, 2, none⟩ := fun h => by cases h
  have n12 : (⟨g, 1, none⟩ : Addr) ≠ ⟨g, 2, none⟩ := fun h => by cases h
  have a0 := World.cell?_setCell_same (v := x') (h := h.c0) ..
  have a1 := (World.cell?_setCell_other (v := x') (h := n01) ..).trans h.c1
  have a2 := (World.cell?_setCell_other (v := x') (h := n02) ..).trans h.c2
  have b0 := (World.cell?_setCell_other (v := y') (h := n01.symm) ..).trans a0
  have b1 := World.cell?_setCell_same (v := y') (h := a1) ..
  have b2 := (World.cell?_setCell_other (v := y') (h := n12) ..).trans a2
  exact ⟨(World.cell?_setCell_other (h := n02.symm) ..).trans b0, (World.cell?_setCell_other (h := n12.symm) ..).trans b1, World.cell?_setCell_same (h := b2) ..⟩
theorem below3s {B g : Nat} {a w : World} (h : Below B a w) (hg : B ≤ g) (x y z : Value) : Below B a (((w.setCell ⟨g, 0, none⟩ x).setCell ⟨g, 1, none⟩ y).setCell ⟨g, 2, none⟩ z) :=
  ((h.setCell hg _).setCell hg _).setCell hg _
set_option maxRecDepth 20000 in
set_option maxHeartbeats 4000000 in
theorem specCand_any (k : Int) (x y : ByteArray) (w : World) (hx : x.size ≤ 8388608) (hy : y.size ≤ 8388608) (p : Pr) (hp : cand k x y = p) :
    Calls Tryz.prog 53 #[.int .i64 k, .string x, .string y] w fun e w' => e = .returned (.agg #[.bool p.f, .string p.x, .string p.y]) ∧ Below w.heap.size w w' := by
  obtain ⟨d1, h1⟩ : ∃ d, dg k x = d := ⟨_, rfl⟩
  obtain ⟨d2, h2⟩ : ∃ d, dg k y = d := ⟨_, rfl⟩
  have H1 : Hid (dg k x = d1) := h1
  have H2 : Hid (dg k y = d2) := h2
  unfold cand at hp
  rw [h1, h2] at hp
  clear h1 h2
  have hb0 := below1 w (.cells #[.bool false, .string (⟨#[]⟩ : ByteArray), .string ⟨#[]⟩] 25)
  have q0 := B3.new w (.bool false) (.string (⟨#[]⟩ : ByteArray)) (.string ⟨#[]⟩) 25
  by_cases e : d1 = d2
  · have t : (d1.toList == d2.toList) = true := by rw [bytes_eq]; exact decide_eq_true e
    rw [if_pos e] at hp
    subst hp
    clear e
    go_enter Tryz.func53, Tryz.ntmps53
    go_wp2_with (first | (go_at_call 36; have _h := hb1; refine (specDg_any k y _ hy d2 H2.out).mono ?_; rintro e w2 ⟨rfl, hb2⟩; have q2 := q1.later hb2; obtain ⟨c0, c1, c2, f0, f1, f2⟩ := id q2) | (go_at_call 36; refine (specDg_any k x _ hx d1 H1.out).mono ?_; rintro e w1 ⟨rfl, hb1⟩; have q1 := q0.later hb1))
    obtain ⟨r0, r1, r2⟩ := triple_set w2 _ _ _ _ (.bool true) (.string x) (.string y) q2
    exact bodyPost_ret (v := .agg #[.bool true, .string x, .string y]) (by simp [results, Tryz.results53, go_sem, r0, r1, r2]) rfl ⟨rfl, below3s ((hb0.trans (hb1.mono hb0.size)).trans (hb2.mono (Nat.le_trans hb0.size hb1.size))) (Nat.le_refl _) _ _ _⟩
  · have t : (d1.toList == d2.toList) = false := by rw [bytes_eq]; exact decide_eq_false e
    rw [if_neg e] at hp
    subst hp
    clear e
    go_enter Tryz.func53, Tryz.ntmps53
    go_wp2_with (first | (go_at_call 36; have _h := hb1; refine (specDg_any k y _ hy d2 H2.out).mono ?_; rintro e w2 ⟨rfl, hb2⟩; have q2 := q1.later hb2; obtain ⟨c0, c1, c2, f0, f1, f2⟩ := id q2) | (go_at_call 36; refine (specDg_any k x _ hx d1 H1.out).mono ?_; rintro e w1 ⟨rfl, hb1⟩; have q1 := q0.later hb1))
    obtain ⟨r0, r1, r2⟩ := triple_set w2 _ _ _ _ (.bool false) (.string ⟨#[]⟩) (.string ⟨#[]⟩) q2
    exact bodyPost_ret (v := .agg #[.bool false, .string ⟨#[]⟩, .string ⟨#[]⟩]) (by simp [results, Tryz.results53, go_sem, r0, r1, r2]) rfl ⟨rfl, below3s ((hb0.trans (hb1.mono hb0.size)).trans (hb2.mono (Nat.le_trans hb0.size hb1.size))) (Nat.le_refl _) _ _ _⟩
theorem specRoot_as (k : Int) (n : Nat) (S : Nat → ByteArray) (a : Option Addr) (c : Nat) (w : World) (y : ByteArray) (h : Sl w a n S) (hc : n ≤ c) (hn : n ≤ 1048576) (hsz : ∀ j, j < n → (S j).size ≤ 4194304) (hy : RT k S n = y) :
    Calls Tryz.prog 16 #[.int .i64 k, .slice a n c] w fun e w' => e = .returned (.string y) ∧ Below w.heap.size w w' := by
  subst hy
  exact specRoot_any k n n S a c w (Nat.le_refl _) h hc hn hsz
set_option maxRecDepth 20000 in
set_option maxHeartbeats 4000000 in
theorem specInside_any (k : Int) (n s : Nat) (L : Nat → ByteArray) (a : Option Addr) (c : Nat) (w : World) (z : Int) (hz : z = s) (hs : s < n) (h : Sl w a n L) (hc : n ≤ c) (hn : n ≤ 1048576) (hsz : ∀ j, j < n → (L j).size ≤ 4194304) (r : ByteArray) (hr : one1 (RT k L s) (RT k (fun j => L (s + j)) (n - s)) = r) :
    Calls Tryz.prog 54 #[.int .i64 k, .slice a n c, .int .i64 z] w fun e w' => e = .returned (.string r) ∧ Below w.heap.size w w' := by
  subst hz
  obtain ⟨P, off, rfl, hc0⟩ := h.at 0 (by omega)
  have hA : Sl w.drew (some ⟨P, off, none⟩) s L := h.left s (by omega)
  have hB : Sl w.drew (some ⟨P, off + s, none⟩) (n - s) (fun j => L (s + j)) := h.right s (by omega)
  obtain ⟨u, hu⟩ : ∃ u, RT k L s = u := ⟨_, rfl⟩
  obtain ⟨v, hv⟩ : ∃ v, RT k (fun j => L (s + j)) (n - s) = v := ⟨_, rfl⟩
  have HU : Hid (RT k L s = u) := hu
  have HV : Hid (RT k (fun j => L (s + j)) (n - s) = v) := hv
  have hul : u.size ≤ 32 := by rw [← hu]; exact rt_size _ _ _ _
  have hvl : v.size ≤ 32 := by rw [← hv]; exact rt_size _ _ _ _
  rw [hu, hv] at hr
  have hr' : (⟨#[1]⟩ : ByteArray) ++ u ++ v = r := hr
  clear hu hv hr hc0
  have i0 : (0 : Int) ≤ (s : Int) := by omega
  have i1 : (s : Int) ≤ (n : Int) := by omega
  have i2 : (s : Int) ≤ (c : Int) := by omega
  have i3 : (n : Int) ≤ (c : Int) := by omega
  have i4 : s ≤ c := by omega
  have i5 : s ≤ n := by omega
  have i6 : ¬ c = s := by omega
  have i7 : ¬ n = s := by omega
  have j1 : ¬ 9223372036854775807 < 1 + u.size := by omega
  have j2 : ¬ 9223372036854775807 < 1 + u.size + v.size := by omega
  go_enter Tryz.func54, Tryz.ntmps54
  go_wp2
  refine wp_region_held_drew (S := fun _ => True) (by kernel_rfl) trivial (fun _ => ?_)
  refine wpAnyH_take (i := 0) (oi := ({ dst := some 7, op := Op.move (Operand.tmp 0), type := 3, pos := "l3_verify.go:104", after := #[], guard := none } : Oper)) (v := .int .i64 k) rfl (by kernel_rfl) (by kernel_rfl) (by kernel_rfl) (fun _ _ _ h => h) (Or.inl ⟨by rfl, fun w hSw => by go_simp⟩) trivial ?_
  simp only [Act.put, List.setIfInBounds_toArray, List.set_cons_zero, List.set_cons_succ]
  refine wpAnyH_take (i := 1) (oi := ({ dst := some 8, op := Op.move (Operand.tmp 1), type := 22, pos := "l3_verify.go:104", after := #[], guard := none } : Oper)) (v := .slice (some ⟨P, off, none⟩) n c) rfl (by kernel_rfl) (by kernel_rfl) (by kernel_rfl) (fun _ _ _ h => h) (Or.inl ⟨by rfl, fun w hSw => by go_simp⟩) trivial ?_
  simp only [Act.put, List.setIfInBounds_toArray, List.set_cons_zero, List.set_cons_succ]
  refine wpAnyH_take (i := 2) (oi := ({ dst := some 9, op := Op.move (Operand.tmp 2), type := 3, pos := "l3_verify.go:104", after := #[], guard := none } : Oper)) (v := .int .i64 (s : Int)) rfl (by kernel_rfl) (by kernel_rfl) (by kernel_rfl) (fun _ _ _ h => h) (Or.inl ⟨by rfl, fun w hSw => by go_simp⟩) trivial ?_
  simp only [Act.put, List.setIfInBounds_toArray, List.set_cons_zero, List.set_cons_succ]
  refine wpAnyH_take (i := 3) (oi := ({ dst := some 10, op := Op.slice 22 (Operand.tmp 8) none (some (Operand.tmp 9)) none, type := 22, pos := "l3_verify.go:104", after := #[{ on := 1, ground := Ground.data }, { on := 2, ground := Ground.data }], guard := none } : Oper)) (v := .slice (some ⟨P, off, none⟩) s c) rfl (by kernel_rfl) (by kernel_rfl) (by kernel_rfl) (fun _ _ _ h => h) (Or.inl ⟨by rfl, fun w hSw => by go_simp⟩) trivial ?_
  simp only [Act.put, List.setIfInBounds_toArray, List.set_cons_zero, List.set_cons_succ]
  refine wpAnyH_take (i := 6) (oi := ({ dst := some 13, op := Op.move (Operand.tmp 0), type := 3, pos := "l3_verify.go:104", after := #[], guard := none } : Oper)) (v := .int .i64 k) rfl (by kernel_rfl) (by kernel_rfl) (by kernel_rfl) (fun _ _ _ h => h) (Or.inl ⟨by rfl, fun w hSw => by go_simp⟩) trivial ?_
  simp only [Act.put, List.setIfInBounds_toArray, List.set_cons_zero, List.set_cons_succ]
  refine wpAnyH_take (i := 7) (oi := ({ dst := some 14, op := Op.move (Operand.tmp 1), type := 22, pos := "l3_verify.go:104", after := #[], guard := none } : Oper)) (v := .slice (some ⟨P, off, none⟩) n c) rfl (by kernel_rfl) (by kernel_rfl) (by kernel_rfl) (fun _ _ _ h => h) (Or.inl ⟨by rfl, fun w hSw => by go_simp⟩) trivial ?_
  simp only [Act.put, List.setIfInBounds_toArray, List.set_cons_zero, List.set_cons_succ]
  refine wpAnyH_take (i := 8) (oi := ({ dst := some 15, op := Op.move (Operand.tmp 2), type := 3, pos := "l3_verify.go:104", after := #[], guard := none } : Oper)) (v := .int .i64 (s : Int)) rfl (by kernel_rfl) (by kernel_rfl) (by kernel_rfl) (fun _ _ _ h => h) (Or.inl ⟨by rfl, fun w hSw => by go_simp⟩) trivial ?_
  simp only [Act.put, List.setIfInBounds_toArray, List.set_cons_zero, List.set_cons_succ]
  refine wpAnyH_take (i := 9) (oi := ({ dst := some 16, op := Op.slice 22 (Operand.tmp 14) (some (Operand.tmp 15)) none none, type := 22, pos := "l3_verify.go:104", after := #[{ on := 7, ground := Ground.data }, { on := 8, ground := Ground.data }], guard := none } : Oper)) (v := .slice (some ⟨P, off + s, none⟩) (n - s) (c - s)) rfl (by kernel_rfl) (by kernel_rfl) (by kernel_rfl) (fun _ _ _ h => h) (Or.inl ⟨by rfl, fun w hSw => by go_simp⟩) trivial ?_
  simp only [Act.put, List.setIfInBounds_toArray, List.set_cons_zero, List.set_cons_succ]
  refine wpAnyH_ready (rs := [4]) (by kernel_rfl) (by simp) ?_
  refine AllReadyH.cons (o := ({ dst := some 11, op := Op.call { callee := Callee.value (Operand.func 16), args := #[Operand.tmp 7, Operand.tmp 10], argTypes := #[3, 22] }, type := 9, pos := "l3_verify.go:104", after := #[{ on := 0, ground := Ground.data }, { on := 3, ground := Ground.data }], guard := none } : Oper)) rfl (fun K hK => ?_) AllReadyH.nil
  go_simp
  refine (specRoot_as k s L (some ⟨P, off, none⟩) c _ u hA i4 (by omega) (fun j hj => hsz j (by omega)) HU.out).mono ?_
  rintro e w1 ⟨rfl, hb1⟩
  refine hK.out _ _ trivial (fun _ => ?_)
  clear hK K
  refine wpAnyH_take (i := 5) (oi := ({ dst := some 12, op := Op.binOp BinOp.add 9 (Operand.const (Value.string { data := #[1] })) (Operand.tmp 11) 9, type := 9, pos := "l3_verify.go:104", after := #[{ on := 4, ground := Ground.data }], guard := none } : Oper)) (v := .string (⟨#[1]⟩ ++ u)) rfl (by kernel_rfl) (by kernel_rfl) (by kernel_rfl) (fun _ _ _ h => h) (Or.inl ⟨by rfl, fun w hSw => by go_simp⟩) trivial ?_
  simp only [Act.put, List.setIfInBounds_toArray, List.set_cons_zero, List.set_cons_succ]
  refine wpAnyH_ready (rs := [10]) (by kernel_rfl) (by simp) ?_
  refine AllReadyH.cons (o := ({ dst := some 17, op := Op.call { callee := Callee.value (Operand.func 16), args := #[Operand.tmp 13, Operand.tmp 16], argTypes := #[3, 22] }, type := 9, pos := "l3_verify.go:104", after := #[{ on := 6, ground := Ground.data }, { on := 9, ground := Ground.data }, { on := 4, ground := Ground.chain }], guard := none } : Oper)) rfl (fun K hK => ?_) AllReadyH.nil
  go_simp
  refine (specRoot_as k (n - s) (fun j => L (s + j)) (some ⟨P, off + s, none⟩) (c - s) _ v (hB.later hb1) (by omega) (by omega) (fun j hj => hsz (s + j) (by omega)) HV.out).mono ?_
  rintro e w2 ⟨rfl, hb2⟩
  refine hK.out _ _ trivial (fun _ => ?_)
  clear hK K
  refine wpAnyH_take (i := 11) (oi := ({ dst := some 18, op := Op.binOp BinOp.add 9 (Operand.tmp 12) (Operand.tmp 17) 9, type := 9, pos := "l3_verify.go:104", after := #[{ on := 5, ground := Ground.data }, { on := 10, ground := Ground.data }], guard := none } : Oper)) (v := .string r) rfl (by kernel_rfl) (by kernel_rfl) (by kernel_rfl) (fun _ _ _ h => h) (Or.inl ⟨by rfl, fun w hSw => by go_simp⟩) trivial ?_
  simp only [Act.put, List.setIfInBounds_toArray, List.set_cons_zero, List.set_cons_succ]
  refine wpAnyH_ready (rs := [12]) (by kernel_rfl) (by simp) ?_
  refine AllReadyH.cons (o := ({ dst := some 6, op := Op.assign (Operand.tmp 18), type := 9, pos := "l3_verify.go:104", after := #[{ on := 11, ground := Ground.data }, { on := 10, ground := Ground.chain }, { on := 0, ground := Ground.phase }, { on := 1, ground := Ground.phase }, { on := 2, ground := Ground.phase }, { on := 3, ground := Ground.phase }, { on := 4, ground := Ground.phase }, { on := 5, ground := Ground.phase }, { on := 6, ground := Ground.phase }, { on := 7, ground := Ground.phase }, { on := 8, ground := Ground.phase }, { on := 9, ground := Ground.phase }, { on := 10, ground := Ground.phase }, { on := 11, ground := Ground.phase }], guard := none } : Oper)) rfl (fun K hK => ?_) AllReadyH.nil
  go_simp
  refine hK.out _ _ trivial (fun _ => ?_)
  clear hK K
  refine wpAnyH_done (by kernel_rfl) ?_ _
  go_wp2
  go_ret
  exact ⟨rfl, undrew (hb1.trans (hb2.mono hb1.size))⟩
end Go.Proofs.YtlbackkjjhpljaaGreatDoor
