/-
  What the specification draws: names, numbers, texts, values, columns.
-/
import Derived.Test.YtlilmbeehmjpkaaJd
namespace Go.Proofs.Ytlilmbeehmjpkaa
open Go.RowKit
theorem g0 (w : World) (r : Option Nat) : w.grownBy w r := ⟨rfl, rfl, rfl, Nat.le_refl _, fun _ _ _ => rfl⟩
theorem gAl {w w1 : World} {o : Obj} {r : Option Nat} (h : (w.alloc o).grownBy w1 r) : w.grownBy w1 r := gtrans (galloc w o r) h
def isP (p : ByteArray → Bool) : Value → Bool
  | .string s => p s
  | _ => false
def isQ (p : Int → Bool) : Value → Bool
  | .int .i64 x => p x
  | _ => false
theorem cell_after {w w1 : World} {A : Array Value} {t : TypeId} {g : Nat} (p : ByteArray → Bool) (hG : (w.alloc (.cells A t)).grownBy w1 (some g)) (hg : g < w.heap.size) (hA : A.toList.all (isP p) = true) (k : Nat) (hk : k < A.size) : ∃ s : ByteArray, w1.cell? ⟨w.heap.size, k, none⟩ = some (.string s) ∧ p s = true := by
  have h1 := List.all_eq_true.1 hA A[k] (by simp)
  have h2 : ∃ s : ByteArray, A[k]? = some (.string s) ∧ p s = true := by
    rw [Array.getElem?_eq_getElem hk]
    generalize A[k] = v at h1
    cases v with
    | string s => exact ⟨s, rfl, h1⟩
    | _ => simp [isP] at h1
  obtain ⟨s, e, hs⟩ := h2
  exact ⟨s, keepG hG ((cell_of_row _ _ k _ _ _ (heap_alloc_new w _)).trans e) (fun e => by have := Option.some.inj e; simp at this; omega), hs⟩
theorem cell_afterI {w w1 : World} {A : Array Value} {t : TypeId} {g : Nat} (p : Int → Bool) (hG : (w.alloc (.cells A t)).grownBy w1 (some g)) (hg : g < w.heap.size) (hA : A.toList.all (isQ p) = true) (k : Nat) (hk : k < A.size) : ∃ x : Int, w1.cell? ⟨w.heap.size, k, none⟩ = some (.int .i64 x) ∧ p x = true := by
  have h1 := List.all_eq_true.1 hA A[k] (by simp)
  have h2 : ∃ x : Int, A[k]? = some (.int .i64 x) ∧ p x = true := by
    rw [Array.getElem?_eq_getElem hk]
    generalize A[k] = v at h1
    match v, h1 with
    | .int .i64 x, h => exact ⟨x, rfl, h⟩
  obtain ⟨x, e, hx⟩ := h2
  exact ⟨x, keepG hG ((cell_of_row _ _ k _ _ _ (heap_alloc_new w _)).trans e) (fun e => by have := Option.some.inj e; simp at this; omega), hx⟩
set_option maxRecDepth 20000 in
set_option maxHeartbeats 2000000 in
theorem drawName_any (g B : Nat) (ca : Option Addr) (cn cc z s : Nat) (w : World) (h : Cu w g B ca cn cc z s) (hz : z ≤ 1000000000000) (hB : B ≤ w.heap.size) :
    Calls Try.prog 30 #[.pointer (some ⟨g, 0, none⟩)] w fun e w' => ∃ (T : ByteArray) (z' s' : Nat), e = .returned (.string T) ∧ okName T = true ∧ z' ≤ z + 1 ∧ Cu w' g B ca cn cc z' s' ∧ w.grownBy w' (some g) := by
  have hlt := h.lt
  go_enter Try.func30, Try.ntmps30
  go_wp2_with (go_at_call 16; refine (pick_any g B ca cn cc z s _ (h.gr (galloc w _ none) (fun _ h => by cases h) hB) (by omega) _ (by omega)).mono ?_; rintro e w1 ⟨r, z1, s1, rfl, hr0, hr1, -, hz1', hC1, hG1⟩; obtain ⟨k, rfl⟩ : ∃ k : Nat, r = k := ⟨r.toNat, by omega⟩; obtain ⟨S, hS, hSs⟩ := cell_after okName hG1 (by omega) (by kernel_rfl) k (by show k < 4; omega))
  go_ret
  exact ⟨S, z1, s1, rfl, hSs, hz1', hC1, gAl hG1⟩
set_option maxRecDepth 20000 in
set_option maxHeartbeats 2000000 in
theorem drawText_any (g B : Nat) (ca : Option Addr) (cn cc z s : Nat) (w : World) (h : Cu w g B ca cn cc z s) (hz : z ≤ 1000000000000) (hB : B ≤ w.heap.size) :
    Calls Try.prog 42 #[.pointer (some ⟨g, 0, none⟩)] w fun e w' => ∃ (T : ByteArray) (z' s' : Nat), e = .returned (.string T) ∧ okText T = true ∧ z' ≤ z + 1 ∧ Cu w' g B ca cn cc z' s' ∧ w.grownBy w' (some g) := by
  have hlt := h.lt
  go_enter Try.func42, Try.ntmps42
  go_wp2_with (go_at_call 16; refine (pick_any g B ca cn cc z s _ (h.gr (galloc w _ none) (fun _ h => by cases h) hB) (by omega) _ (by omega)).mono ?_; rintro e w1 ⟨r, z1, s1, rfl, hr0, hr1, -, hz1', hC1, hG1⟩; obtain ⟨k, rfl⟩ : ∃ k : Nat, r = k := ⟨r.toNat, by omega⟩; obtain ⟨S, hS, hSs⟩ := cell_after okText hG1 (by omega) (by kernel_rfl) k (by show k < 8; omega))
  go_ret
  exact ⟨S, z1, s1, rfl, hSs, hz1', hC1, gAl hG1⟩
set_option maxRecDepth 20000 in
set_option maxHeartbeats 2000000 in
theorem drawInt_any (g B : Nat) (ca : Option Addr) (cn cc z s : Nat) (w : World) (h : Cu w g B ca cn cc z s) (hz : z ≤ 1000000000000) (hB : B ≤ w.heap.size) :
    Calls Try.prog 41 #[.pointer (some ⟨g, 0, none⟩)] w fun e w' => ∃ (x : Int) (z' s' : Nat), e = .returned (.int .i64 x) ∧ isNum x = true ∧ z' ≤ z + 1 ∧ Cu w' g B ca cn cc z' s' ∧ w.grownBy w' (some g) := by
  have hlt := h.lt
  go_enter Try.func41, Try.ntmps41
  go_wp2_with (go_at_call 16; refine (pick_any g B ca cn cc z s _ (h.gr (galloc w _ none) (fun _ h => by cases h) hB) (by omega) _ (by omega)).mono ?_; rintro e w1 ⟨r, z1, s1, rfl, hr0, hr1, -, hz1', hC1, hG1⟩; obtain ⟨k, rfl⟩ : ∃ k : Nat, r = k := ⟨r.toNat, by omega⟩; obtain ⟨S, hS, hSn⟩ := cell_afterI isNum hG1 (by omega) (by kernel_rfl) k (by show k < 12; omega))
  go_ret
  exact ⟨S, z1, s1, rfl, hSn, hz1', hC1, gAl hG1⟩
/-- A box of three cells that may be written. -/
structure B3 (w : World) (g : Nat) (x y z : Value) : Prop where
  c0 : w.cell? ⟨g, 0, none⟩ = some x
  c1 : w.cell? ⟨g, 1, none⟩ = some y
  c2 : w.cell? ⟨g, 2, none⟩ = some z
  f0 : w.frozen? ⟨g, 0, none⟩ = false
  f1 : w.frozen? ⟨g, 1, none⟩ = false
  f2 : w.frozen? ⟨g, 2, none⟩ = false
theorem B3.new (w : World) (x y z : Value) (t : TypeId) : B3 (w.alloc (.cells #[x, y, z] t)) w.heap.size x y z :=
  ⟨(cell_of_row _ _ 0 _ _ _ (heap_alloc_new w _)).trans rfl, (cell_of_row _ _ 1 _ _ _ (heap_alloc_new w _)).trans rfl, (cell_of_row _ _ 2 _ _ _ (heap_alloc_new w _)).trans rfl,
   frozen_of_row _ _ 0 _ _ (heap_alloc_new w _), frozen_of_row _ _ 1 _ _ (heap_alloc_new w _), frozen_of_row _ _ 2 _ _ (heap_alloc_new w _)⟩
theorem keepF {w w' : World} {p : Addr} {v : Value} {r : Option Nat} (hg : w.grownBy w' r) (hc : w.cell? p = some v) (hf : w.frozen? p = false) (hne : some p.block ≠ r) : w'.frozen? p = false :=
  (World.frozen?_of_block (hg.block p.block (World.block_lt_of_cell? _ _ hc) hne)).trans hf
theorem B3.gr {w w' : World} {g : Nat} {x y z : Value} {r : Option Nat} (h : B3 w g x y z) (hg : w.grownBy w' r) (hne : some g ≠ r) : B3 w' g x y z :=
  ⟨keepG hg h.c0 hne, keepG hg h.c1 hne, keepG hg h.c2 hne, keepF hg h.c0 h.f0 hne, keepF hg h.c1 h.f1 hne, keepF hg h.c2 h.f2 hne⟩
theorem gset3 (w : World) (b : Nat) (x y z : Value) : w.grownBy (((w.setCell ⟨b, 0, none⟩ x).setCell ⟨b, 1, none⟩ y).setCell ⟨b, 2, none⟩ z) (some b) := gtrans (gtrans (gset w b 0 x) (gset _ b 1 y)) (gset _ b 2 z)
theorem triple_set (w : World) (g : Nat) (x y z x' y' z' : Value) (h : B3 w g x y z) :
    (((w.setCell ⟨g, 0, none⟩ x').setCell ⟨g, 1, none⟩ y').setCell ⟨g, 2, none⟩ z').cell? ⟨g, 0, none⟩ = some x' ∧ (((w.setCell ⟨g, 0, none⟩ x').setCell ⟨g, 1, none⟩ y').setCell ⟨g, 2, none⟩ z').cell? ⟨g, 1, none⟩ = some y' ∧ (((w.setCell ⟨g, 0, none⟩ x').setCell ⟨g, 1, none⟩ y').setCell ⟨g, 2, none⟩ z').cell? ⟨g, 2, none⟩ = some z' := by
  have n01 : (⟨g, 0, none⟩ : Addr) ≠ ⟨g, 1, none⟩ := fun h => by cases h
  have n02 : (⟨g, 0, none⟩ : Addr) ≠ ⟨g, 2, none⟩ := fun h => by cases h
  have n12 : (⟨g, 1, none⟩ : Addr) ≠ ⟨g, 2, none⟩ := fun h => by cases h
  have a0 := World.cell?_setCell_same (v := x') (h := h.c0) ..
  have a1 := (World.cell?_setCell_other (v := x') (h := n01) ..).trans h.c1
  have a2 := (World.cell?_setCell_other (v := x') (h := n02) ..).trans h.c2
  have b0 := (World.cell?_setCell_other (v := y') (h := n01.symm) ..).trans a0
  have b1 := World.cell?_setCell_same (v := y') (h := a1) ..
  have b2 := (World.cell?_setCell_other (v := y') (h := n12) ..).trans a2
  exact ⟨(World.cell?_setCell_other (h := n02.symm) ..).trans b0, (World.cell?_setCell_other (h := n12.symm) ..).trans b1, World.cell?_setCell_same (h := b2) ..⟩
theorem Cu.gw {w w' : World} {g B b : Nat} {ca : Option Addr} {cn cc z s : Nat} (h : Cu w g B ca cn cc z s) (hg : w.grownBy w' (some b)) (hb : B ≤ b) (hB : B ≤ w.heap.size) : Cu w' g B ca cn cc z s :=
  h.gr hg (fun k e => by have := Option.some.inj e; omega) hB
set_option maxRecDepth 20000 in
set_option maxHeartbeats 2000000 in
theorem drawValue_any (g B : Nat) (ca : Option Addr) (cn cc z s : Nat) (kd : Int) (w : World) (h : Cu w g B ca cn cc z s) (hz : z ≤ 1000000000000) (hB : B ≤ w.heap.size) :
    Calls Try.prog 32 #[.pointer (some ⟨g, 0, none⟩), .int .i64 kd] w fun e w' => ∃ (o m : Int) (T : ByteArray) (z' s' : Nat), e = .returned (.agg #[.int .i64 o, .int .i64 m, .string T]) ∧ okValue o m T = true ∧ z' ≤ z + 1 ∧ Cu w' g B ca cn cc z' s' ∧ w.grownBy w' (some g) := by
  have hlt := h.lt
  have q0 := B3.new w (.int .i64 0) (.int .i64 0) (.string ⟨#[]⟩) 67
  go_enter Try.func32, Try.ntmps32
  go_wp2_with (first | (go_at_call 41; refine (drawInt_any g B ca cn cc z s _ (h.gr (galloc w _ none) (fun _ h => by cases h) hB) (by omega) (by simp; omega)).mono ?_; rintro e w1 ⟨x, z1, s1, rfl, hxn, hz1', hC1, hG1⟩; have q1 := q0.gr hG1 (fun e => by have := Option.some.inj e; omega); obtain ⟨c0, c1, c2, f0, f1, f2⟩ := id q1) | (go_at_call 42; refine (drawText_any g B ca cn cc z s _ (h.gr (galloc w _ none) (fun _ h => by cases h) hB) (by omega) (by simp; omega)).mono ?_; rintro e w1 ⟨T, z1, s1, rfl, hT, hz1', hC1, hG1⟩; have q1 := q0.gr hG1 (fun e => by have := Option.some.inj e; omega); obtain ⟨c0, c1, c2, f0, f1, f2⟩ := id q1))
  · obtain ⟨r0, r1, r2⟩ := triple_set w1 w.heap.size _ _ _ (.int .i64 1) (.int .i64 x) (.string ⟨#[]⟩) q1
    exact bodyPost_ret (v := .agg #[.int .i64 1, .int .i64 x, .string ⟨#[]⟩]) (by simp [results, Try.results32, go_sem, r0, r1, r2]) rfl ⟨1, x, ⟨#[]⟩, z1, s1, rfl, by simp [okValue, hxn]; rfl, hz1', hC1.gw (gset3 _ _ _ _ _) hB (Nat.le_trans hB (gAl hG1).size), gjoin (gAl hG1) (gset3 _ _ _ _ _) (fun j e => by have := Option.some.inj e; omega)⟩
  · obtain ⟨r0, r1, r2⟩ := triple_set w1 w.heap.size _ _ _ (.int .i64 2) (.int .i64 0) (.string T) q1
    exact bodyPost_ret (v := .agg #[.int .i64 2, .int .i64 0, .string T]) (by simp [results, Try.results32, go_sem, r0, r1, r2]) rfl ⟨2, 0, T, z1, s1, rfl, by simp [okValue, hT], hz1', hC1.gw (gset3 _ _ _ _ _) hB (Nat.le_trans hB (gAl hG1).size), gjoin (gAl hG1) (gset3 _ _ _ _ _) (fun j e => by have := Option.some.inj e; omega)⟩
theorem co_new (w : World) (A : Array Value) (t : TypeId) (n : Nat) (h : ∀ k, k < n → ∃ m s, A[k * 2]? = some (.string s) ∧ A[k * 2 + 1]? = some (.int .i64 m) ∧ okCol s m = true) : Co (w.alloc (.cells A t)) (some ⟨w.heap.size, 0, none⟩) n := fun k hk => by
  obtain ⟨m, s, e0, e1, hs⟩ := h k hk
  exact ⟨w.heap.size, 0, m, s, rfl, by rw [Nat.zero_add]; exact (cell_of_row _ _ _ _ _ _ (heap_alloc_new w _)).trans e0, by rw [Nat.zero_add]; exact (cell_of_row _ _ _ _ _ _ (heap_alloc_new w _)).trans e1, hs⟩
set_option maxRecDepth 20000 in
set_option maxHeartbeats 2000000 in
theorem usual_any (x : ByteArray) (w : World) : Calls Try.prog 23 #[.string x] w fun e w' => ∃ n : Nat, 1 ≤ n ∧ n ≤ 3 ∧ e = .returned (.slice (some ⟨w.heap.size, 0, none⟩) n n) ∧ Co w' (some ⟨w.heap.size, 0, none⟩) n ∧ w.heap.size < w'.heap.size ∧ w.grownBy w' none := by
  go_enter Try.func23, Try.ntmps23
  go_wp2
  · go_ret
    exact ⟨3, by omega, by omega, rfl, co_new w _ _ 3 (fun k hk => by
      rcases k with _ | _ | _ | k
      · exact ⟨_, _, rfl, rfl, by kernel_rfl⟩
      · exact ⟨_, _, rfl, rfl, by kernel_rfl⟩
      · exact ⟨_, _, rfl, rfl, by kernel_rfl⟩
      · omega), by simp, galloc w _ none⟩
  · go_ret
    exact ⟨2, by omega, by omega, rfl, co_new w _ _ 2 (fun k hk => by
      rcases k with _ | _ | k
      · exact ⟨_, _, rfl, rfl, by kernel_rfl⟩
      · exact ⟨_, _, rfl, rfl, by kernel_rfl⟩
      · omega), by simp, galloc w _ none⟩
  · go_ret
    exact ⟨1, by omega, by omega, rfl, co_new w _ _ 1 (fun k hk => by
      rcases k with _ | k
      · exact ⟨_, _, rfl, rfl, by kernel_rfl⟩
      · omega), by simp, galloc w _ none⟩
end Go.Proofs.Ytlilmbeehmjpkaa
