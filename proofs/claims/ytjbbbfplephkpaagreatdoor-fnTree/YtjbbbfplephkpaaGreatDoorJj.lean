/-
  What the specification draws: expressions.
-/
import Derived.Test.YtjbbbfplephkpaaGreatDoorJh
import Derived.Deep.Onto
namespace Go.Proofs.YtjbbbfplephkpaaGreatDoor
open Go.RowKit
theorem g0 (w : World) (r : Option Nat) : w.grownBy w r := ⟨rfl, rfl, rfl, Nat.le_refl _, fun _ _ _ => rfl⟩
theorem gAl {w w1 : World} {o : Obj} {r : Option Nat} (h : (w.alloc o).grownBy w1 r) : w.grownBy w1 r := gtrans (galloc w o r) h
/-- After a text out of a list, and a number drawn. -/
theorem cell_after {w w1 : World} {A : Array Value} {t : TypeId} {g : Nat} (hG : (w.alloc (.cells A t)).grownBy w1 (some g)) (hg : g < w.heap.size) (hA : A.toList.all isS = true) (k : Nat) (hk : k < A.size) : ∃ s : ByteArray, w1.cell? ⟨w.heap.size, k, none⟩ = some (.string s) ∧ s.size ≤ 40 := by
  obtain ⟨s, e, hs⟩ := cell_new w A t hA k hk
  exact ⟨s, keepG hG e (fun e => by have := Option.some.inj e; simp at this; omega), hs⟩
def isI : Value → Bool
  | .int .i64 _ => true
  | _ => false
theorem cell_afterI {w w1 : World} {A : Array Value} {t : TypeId} {g : Nat} (hG : (w.alloc (.cells A t)).grownBy w1 (some g)) (hg : g < w.heap.size) (hA : A.toList.all isI = true) (k : Nat) (hk : k < A.size) : ∃ x : Int, w1.cell? ⟨w.heap.size, k, none⟩ = some (.int .i64 x) := by
  have h1 := List.all_eq_true.1 hA A[k] (by simp)
  have h2 : ∃ x : Int, A[k]? = some (.int .i64 x) := by
    rw [Array.getElem?_eq_getElem hk]
    generalize A[k] = v at h1
    match v, h1 with
    | .int .i64 x, _ => exact ⟨x, rfl⟩
  obtain ⟨x, e⟩ := h2
  exact ⟨x, keepG hG ((cell_of_row _ _ k _ _ _ (heap_alloc_new w _)).trans e) (fun e => by have := Option.some.inj e; simp at this; omega)⟩
set_option maxRecDepth 20000 in
set_option maxHeartbeats 2000000 in
theorem drawName_any (g B : Nat) (ca : Option Addr) (cn cc z s : Nat) (w : World) (h : Cu w g B ca cn cc z s) (hz : z ≤ 1000000000000) (hB : B ≤ w.heap.size) :
    Calls Tryz.prog 48 #[.pointer (some ⟨g, 0, none⟩)] w fun e w' => ∃ (T : ByteArray) (z' s' : Nat), e = .returned (.string T) ∧ T.size ≤ 40 ∧ z' ≤ z + 1 ∧ Cu w' g B ca cn cc z' s' ∧ w.grownBy w' (some g) := by
  have hlt := h.lt
  go_enter Tryz.func48, Tryz.ntmps48
  go_wp2_with (go_at_call 31; refine (pick_any g B ca cn cc z s _ (h.gr (galloc w _ none) (fun _ h => by cases h) hB) (by omega) _ (by omega)).mono ?_; rintro e w1 ⟨r, z1, s1, rfl, hr0, hr1, -, hz1', hC1, hG1⟩; obtain ⟨k, rfl⟩ : ∃ k : Nat, r = k := ⟨r.toNat, by omega⟩; obtain ⟨S, hS, hSs⟩ := cell_after hG1 (by omega) (by kernel_rfl) k (by show k < 4; omega))
  go_ret
  exact ⟨S, z1, s1, rfl, hSs, hz1', hC1, gAl hG1⟩
set_option maxRecDepth 20000 in
set_option maxHeartbeats 2000000 in
theorem drawText_any (g B : Nat) (ca : Option Addr) (cn cc z s : Nat) (w : World) (h : Cu w g B ca cn cc z s) (hz : z ≤ 1000000000000) (hB : B ≤ w.heap.size) :
    Calls Tryz.prog 70 #[.pointer (some ⟨g, 0, none⟩)] w fun e w' => ∃ (T : ByteArray) (z' s' : Nat), e = .returned (.string T) ∧ T.size ≤ 40 ∧ z' ≤ z + 1 ∧ Cu w' g B ca cn cc z' s' ∧ w.grownBy w' (some g) := by
  have hlt := h.lt
  go_enter Tryz.func70, Tryz.ntmps70
  go_wp2_with (go_at_call 31; refine (pick_any g B ca cn cc z s _ (h.gr (galloc w _ none) (fun _ h => by cases h) hB) (by omega) _ (by omega)).mono ?_; rintro e w1 ⟨r, z1, s1, rfl, hr0, hr1, -, hz1', hC1, hG1⟩; obtain ⟨k, rfl⟩ : ∃ k : Nat, r = k := ⟨r.toNat, by omega⟩; obtain ⟨S, hS, hSs⟩ := cell_after hG1 (by omega) (by kernel_rfl) k (by show k < 8; omega))
  go_ret
  exact ⟨S, z1, s1, rfl, hSs, hz1', hC1, gAl hG1⟩
set_option maxRecDepth 20000 in
set_option maxHeartbeats 2000000 in
theorem drawInt_any (g B : Nat) (ca : Option Addr) (cn cc z s : Nat) (w : World) (h : Cu w g B ca cn cc z s) (hz : z ≤ 1000000000000) (hB : B ≤ w.heap.size) :
    Calls Tryz.prog 69 #[.pointer (some ⟨g, 0, none⟩)] w fun e w' => ∃ (x : Int) (z' s' : Nat), e = .returned (.int .i64 x) ∧ z' ≤ z + 1 ∧ Cu w' g B ca cn cc z' s' ∧ w.grownBy w' (some g) := by
  have hlt := h.lt
  go_enter Tryz.func69, Tryz.ntmps69
  go_wp2_with (go_at_call 31; refine (pick_any g B ca cn cc z s _ (h.gr (galloc w _ none) (fun _ h => by cases h) hB) (by omega) _ (by omega)).mono ?_; rintro e w1 ⟨r, z1, s1, rfl, hr0, hr1, -, hz1', hC1, hG1⟩; obtain ⟨k, rfl⟩ : ∃ k : Nat, r = k := ⟨r.toNat, by omega⟩; obtain ⟨S, hS⟩ := cell_afterI hG1 (by omega) (by kernel_rfl) k (by show k < 12; omega))
  go_ret
  exact ⟨S, z1, s1, rfl, hz1', hC1, gAl hG1⟩
/-- A box of three cells that may be written. -/
structure B3 (w : World) (g : Nat) (x y z : Value) : Prop where
  c0 : w.cell? ⟨g, 0, none⟩ = some x
  c1 : w.cell? ⟨g, 1, none⟩ = some y
  c2 : w.cell? ⟨g, 2, none⟩ = some z
  f0 : w.frozen? ⟨g, 0, none⟩ = false
  f1 : w.frozen? ⟨g, 1, none⟩ = false
  f2 : w.frozen? ⟨g, 2, none⟩ = false
theorem B3.new (w : World) (x y z : Value) (t : TypeId) : B3 (w.alloc (.cells #[x, y, z] t)) w.heap.size x y z :=
  ⟨(cell_of_row _ _ 0 _ _ _ (heap_alloc_new w _)).trans rfl, (cell_of_row _ _ 1 _ _ _ (heap_alloc_new w _)).trans rfl, (cell_of_row _ _ 2 _ _ _ (heap_alloc_new w _)).trans rfl,
   frozen_of_row _ _ 0 _ _ (heap_alloc_new w _), frozen_of_row _ _ 1 _ _ (heap_alloc_new w _), frozen_of_row _ _ 2 _ _ (heap_alloc_new w _)⟩
theorem keepF {w w' : World} {p : Addr} {v : Value} {r : Option Nat} (hg : w.grownBy w' r) (hc : w.cell? p = some v) (hf : w.frozen? p = false) (hne : some p.block ≠ r) : w'.frozen? p = false :=
  (World.frozen?_of_block (hg.block p.block (World.block_lt_of_cell? _ _ hc) hne)).trans hf
theorem B3.gr {w w' : World} {g : Nat} {x y z : Value} {r : Option Nat} (h : B3 w g x y z) (hg : w.grownBy w' r) (hne : some g ≠ r) : B3 w' g x y z :=
  ⟨keepG hg h.c0 hne, keepG hg h.c1 hne, keepG hg h.c2 hne, keepF hg h.c0 h.f0 hne, keepF hg h.c1 h.f1 hne, keepF hg h.c2 h.f2 hne⟩
theorem gset3 (w : World) (b : Nat) (x y z : Value) : w.grownBy (((w.setCell ⟨b, 0, none⟩ x).setCell ⟨b, 1, none⟩ y).setCell ⟨b, 2, none⟩ z) (some b) := gtrans (gtrans (gset w b 0 x) (gset _ b 1 y)) (gset _ b 2 z)
theorem triple_set (w : World) (g : Nat) (x y z x' y' z' : Value) (h : B3 w g x y z) :
    (((w.setCell ⟨g, 0, none⟩ x').setCell ⟨g, 1, none⟩ y').setCell ⟨g, 2, none⟩ z').cell? ⟨g, 0, none⟩ = some x' ∧ (((w.setCell ⟨g, 0, none⟩ x').setCell ⟨g, 1, none⟩ y').setCell ⟨g, 2, none⟩ z').cell? ⟨g, 1, none⟩ = some y' ∧ (((w.setCell ⟨g, 0, none⟩ x').setCell ⟨g, 1, none⟩ y').setCell ⟨g, 2, none⟩ z').cell? ⟨g, 2, none⟩ = some z' := by
  have n01 : (⟨g, 0, none⟩ : Addr) ≠ ⟨g, 1, none⟩ := fun h => by cases h
  have n02 : (⟨g, 0, none⟩ : Addr) ≠ ⟨g, 2, none⟩ := fun h => by cases h
  have n12 : (⟨g, 1, none⟩ : Addr) ≠ ⟨g, 2, none⟩ := fun h => by cases h
  have a0 := World.cell?_setCell_same (v := x') (h := h.c0) ..
  have a1 := (World.cell?_setCell_other (v := x') (h := n01) ..).trans h.c1
  have a2 := (World.cell?_setCell_other (v := x') (h := n02) ..).trans h.c2
  have b0 := (World.cell?_setCell_other (v := y') (h := n01.symm) ..).trans a0
  have b1 := World.cell?_setCell_same (v := y') (h := a1) ..
  have b2 := (World.cell?_setCell_other (v := y') (h := n12) ..).trans a2
  exact ⟨(World.cell?_setCell_other (h := n02.symm) ..).trans b0, (World.cell?_setCell_other (h := n12.symm) ..).trans b1, World.cell?_setCell_same (h := b2) ..⟩
theorem Cu.gw {w w' : World} {g B b : Nat} {ca : Option Addr} {cn cc z s : Nat} (h : Cu w g B ca cn cc z s) (hg : w.grownBy w' (some b)) (hb : B ≤ b) (hB : B ≤ w.heap.size) : Cu w' g B ca cn cc z s :=
  h.gr hg (fun k e => by have := Option.some.inj e; omega) hB
set_option maxRecDepth 20000 in
set_option maxHeartbeats 2000000 in
theorem drawValue_any (g B : Nat) (ca : Option Addr) (cn cc z s : Nat) (kd : Int) (w : World) (h : Cu w g B ca cn cc z s) (hz : z ≤ 1000000000000) (hB : B ≤ w.heap.size) :
    Calls Tryz.prog 50 #[.pointer (some ⟨g, 0, none⟩), .int .i64 kd] w fun e w' => ∃ (o m : Int) (T : ByteArray) (z' s' : Nat), e = .returned (.agg #[.int .i64 o, .int .i64 m, .string T]) ∧ T.size ≤ 40 ∧ z' ≤ z + 1 ∧ Cu w' g B ca cn cc z' s' ∧ w.grownBy w' (some g) := by
  have hlt := h.lt
  have q0 := B3.new w (.int .i64 0) (.int .i64 0) (.string ⟨#[]⟩) 78
  go_enter Tryz.func50, Tryz.ntmps50
  go_wp2_with (first | (go_at_call 69; refine (drawInt_any g B ca cn cc z s _ (h.gr (galloc w _ none) (fun _ h => by cases h) hB) (by omega) (by simp; omega)).mono ?_; rintro e w1 ⟨x, z1, s1, rfl, hz1', hC1, hG1⟩; have q1 := q0.gr hG1 (fun e => by have := Option.some.inj e; omega); obtain ⟨c0, c1, c2, f0, f1, f2⟩ := id q1) | (go_at_call 70; refine (drawText_any g B ca cn cc z s _ (h.gr (galloc w _ none) (fun _ h => by cases h) hB) (by omega) (by simp; omega)).mono ?_; rintro e w1 ⟨T, z1, s1, rfl, hT, hz1', hC1, hG1⟩; have q1 := q0.gr hG1 (fun e => by have := Option.some.inj e; omega); obtain ⟨c0, c1, c2, f0, f1, f2⟩ := id q1))
  · obtain ⟨r0, r1, r2⟩ := triple_set w1 w.heap.size _ _ _ (.int .i64 1) (.int .i64 x) (.string ⟨#[]⟩) q1
    exact bodyPost_ret (v := .agg #[.int .i64 1, .int .i64 x, .string ⟨#[]⟩]) (by simp [results, Tryz.results50, go_sem, r0, r1, r2]) rfl ⟨1, x, ⟨#[]⟩, z1, s1, rfl, Nat.zero_le _, hz1', hC1.gw (gset3 _ _ _ _ _) hB (Nat.le_trans hB (gAl hG1).size), gjoin (gAl hG1) (gset3 _ _ _ _ _) (fun j e => by have := Option.some.inj e; omega)⟩
  · obtain ⟨r0, r1, r2⟩ := triple_set w1 w.heap.size _ _ _ (.int .i64 2) (.int .i64 0) (.string T) q1
    exact bodyPost_ret (v := .agg #[.int .i64 2, .int .i64 0, .string T]) (by simp [results, Tryz.results50, go_sem, r0, r1, r2]) rfl ⟨2, 0, T, z1, s1, rfl, hT, hz1', hC1.gw (gset3 _ _ _ _ _) hB (Nat.le_trans hB (gAl hG1).size), gjoin (gAl hG1) (gset3 _ _ _ _ _) (fun j e => by have := Option.some.inj e; omega)⟩
theorem co_new (w : World) (A : Array Value) (t : TypeId) (n : Nat) (h : ∀ k, k < n → ∃ m s, A[k * 2]? = some (.string s) ∧ A[k * 2 + 1]? = some (.int .i64 m) ∧ s.size ≤ 40) : Co (w.alloc (.cells A t)) (some ⟨w.heap.size, 0, none⟩) n := fun k hk => by
  obtain ⟨m, s, e0, e1, hs⟩ := h k hk
  exact ⟨w.heap.size, 0, m, s, rfl, by rw [Nat.zero_add]; exact (cell_of_row _ _ _ _ _ _ (heap_alloc_new w _)).trans e0, by rw [Nat.zero_add]; exact (cell_of_row _ _ _ _ _ _ (heap_alloc_new w _)).trans e1, hs⟩
set_option maxRecDepth 20000 in
set_option maxHeartbeats 2000000 in
theorem usual_any (x : ByteArray) (w : World) : Calls Tryz.prog 41 #[.string x] w fun e w' => ∃ n : Nat, 1 ≤ n ∧ n ≤ 3 ∧ e = .returned (.slice (some ⟨w.heap.size, 0, none⟩) n n) ∧ Co w' (some ⟨w.heap.size, 0, none⟩) n ∧ w.heap.size < w'.heap.size ∧ w.grownBy w' none := by
  go_enter Tryz.func41, Tryz.ntmps41
  go_wp2
  · go_ret
    exact ⟨3, by omega, by omega, rfl, co_new w _ _ 3 (fun k hk => by
      rcases k with _ | _ | _ | k
      · exact ⟨_, _, rfl, rfl, by decide⟩
      · exact ⟨_, _, rfl, rfl, by decide⟩
      · exact ⟨_, _, rfl, rfl, by decide⟩
      · omega), by simp, galloc w _ none⟩
  · go_ret
    exact ⟨2, by omega, by omega, rfl, co_new w _ _ 2 (fun k hk => by
      rcases k with _ | _ | k
      · exact ⟨_, _, rfl, rfl, by decide⟩
      · exact ⟨_, _, rfl, rfl, by decide⟩
      · omega), by simp, galloc w _ none⟩
  · go_ret
    exact ⟨1, by omega, by omega, rfl, co_new w _ _ 1 (fun k hk => by
      rcases k with _ | k
      · exact ⟨_, _, rfl, rfl, by decide⟩
      · omega), by simp, galloc w _ none⟩
end Go.Proofs.YtjbbbfplephkpaaGreatDoor
namespace Go.Proofs.YtjbbbfplephkpaaGreatDoor
open Go.RowKit
set_option maxRecDepth 20000 in
theorem Tryz.info85i : (Tryz.prog.info? 85).map (fun i => (i.zero, i.size, i.bytes)) = some (some (.agg #[.int .i64 0, .int .i64 0, .string ⟨#[]⟩]), 3, 32) := by kernel_rfl
/-- The cells of n items. -/
def Its (n : Nat) (xs : List Value) : Prop := xs.length = n * 3 ∧ ∀ k, k < n → ∃ (o m : Int) (s : ByteArray), xs[k * 3]? = some (.int .i64 o) ∧ xs[k * 3 + 1]? = some (.int .i64 m) ∧ xs[k * 3 + 2]? = some (.string s) ∧ s.size ≤ 40
theorem Its.one (o m : Int) (s : ByteArray) (hs : s.size ≤ 40) : Its 1 [.int .i64 o, .int .i64 m, .string s] := ⟨rfl, fun k hk => by
  obtain rfl : k = 0 := by omega
  exact ⟨o, m, s, rfl, rfl, rfl, hs⟩⟩
theorem Its.app {n m : Nat} {xs ys : List Value} (h : Its n xs) (k : Its m ys) : Its (n + m) (xs ++ ys) := ⟨by rw [List.length_append, h.1, k.1]; omega, fun j hj => by
  have h1 := h.1
  by_cases hjn : j < n
  · obtain ⟨o, q, s, e0, e1, e2, hs⟩ := h.2 j hjn
    refine ⟨o, q, s, ?_, ?_, ?_, hs⟩
    · rw [List.getElem?_append_left (by omega)]; exact e0
    · rw [List.getElem?_append_left (by omega)]; exact e1
    · rw [List.getElem?_append_left (by omega)]; exact e2
  · obtain ⟨o, q, s, e0, e1, e2, hs⟩ := k.2 (j - n) (by omega)
    refine ⟨o, q, s, ?_, ?_, ?_, hs⟩
    · rw [List.getElem?_append_right (by omega), ← e0]; congr 1; omega
    · rw [List.getElem?_append_right (by omega), ← e1]; congr 1; omega
    · rw [List.getElem?_append_right (by omega), ← e2]; congr 1; omega⟩
/-- A row of items of one's own lies there. -/
theorem it_own {w : World} {base e g n cap : Nat} {xs : List Value} (h : w.ownsRow base e 3 (.slice (some ⟨g, 0, none⟩) n cap) n xs) (hx : Its n xs) : It w (some ⟨g, 0, none⟩) n := fun k hk => by
  obtain ⟨o, m, s, e0, e1, e2, hs⟩ := hx.2 k hk
  have hc := h.cells (g := g) rfl
  refine ⟨g, 0, o, m, s, rfl, ?_, ?_, ?_, hs⟩
  · rw [Nat.zero_add]; have := hc _ _ e0; rwa [addj] at this
  · rw [Nat.zero_add]; have := hc _ _ e1; rwa [addj] at this
  · rw [Nat.zero_add]; have := hc _ _ e2; rwa [addj] at this
def pb : Nat → Nat
  | 0 => 5
  | f + 1 => 5 + 2 * pb f
def nb : Nat → Nat
  | 0 => 1
  | f + 1 => 2 * nb f + 1
theorem co_gr {w w' : World} {a : Option Addr} {n g : Nat} (h : Co w a n) (hg : w.grownBy w' (some g)) (ha : ∀ b off, a = some ⟨b, off, none⟩ → b ≠ g) : Co w' a n := fun k hk => by
  obtain ⟨b, off, m, s, e, h0, h1, hs⟩ := h k hk
  exact ⟨b, off, m, s, e, keepG hg h0 (fun e' => ha b off e (Option.some.inj e')), keepG hg h1 (fun e' => ha b off e (Option.some.inj e')), hs⟩
theorem Cu.al {w : World} {g B : Nat} {ca : Option Addr} {cn cc z s : Nat} (h : Cu w g B ca cn cc z s) (hB : B ≤ w.heap.size) (o : Obj) : Cu (w.alloc o) g B ca cn cc z s := h.gr (galloc w o none) (fun _ h => by cases h) hB
theorem own1 (w : World) (base : Nat) (o m : Int) (t : ByteArray) (hb : base ≤ w.heap.size) : (w.alloc (.cells #[.int .i64 o, .int .i64 m, .string t] 85)).ownsRow base 85 3 (.slice (some ⟨w.heap.size, 0, none⟩) 1 1) 1 [.int .i64 o, .int .i64 m, .string t] :=
  World.ownsRow_lit w #[.int .i64 o, .int .i64 m, .string t] 1 hb (by simp [maxLen]) rfl
theorem own2 (w : World) (Z : Obj) (base : Nat) (o m : Int) (t : ByteArray) (hb : base ≤ w.heap.size) : ((w.alloc Z).alloc (.cells #[.int .i64 o, .int .i64 m, .string t] 85)).ownsRow base 85 3 (.slice (some ⟨w.heap.size + 1, 0, none⟩) 1 1) 1 [.int .i64 o, .int .i64 m, .string t] := by
  have h := own1 (w.alloc Z) base o m t (by simp; omega)
  simpa using h
theorem Its.cells1 {n : Nat} {xs : List Value} (h : Its n xs) : ∀ u ∈ xs, u.oneCell' = true := fun u hu => by
  obtain ⟨i, hi, rfl⟩ := List.mem_iff_getElem.1 hu
  have hl := h.1
  obtain ⟨o, m, s, e0, e1, e2, -⟩ := h.2 (i / 3) (by omega)
  have hm := Nat.mod_lt i (show 0 < 3 by omega)
  have hi' : xs[i]? = some xs[i] := List.getElem?_eq_getElem hi
  rcases (show i = i / 3 * 3 ∨ i = i / 3 * 3 + 1 ∨ i = i / 3 * 3 + 2 by omega) with e | e | e
  · rw [← e, hi'] at e0
    rw [Option.some.inj e0]
    rfl
  · rw [← e, hi'] at e1
    rw [Option.some.inj e1]
    rfl
  · rw [← e, hi'] at e2
    rw [Option.some.inj e2]
    rfl
theorem pb0 : pb 0 = 5 := rfl
theorem pb1 (f : Nat) : pb (f + 1) = 5 + 2 * pb f := rfl
theorem nb1 (f : Nat) : nb (f + 1) = 2 * nb f + 1 := rfl
theorem nb_pos : ∀ f, 1 ≤ nb f
  | 0 => by show 1 ≤ 1; omega
  | f + 1 => by rw [nb1]; omega
set_option maxRecDepth 20000 in
set_option maxHeartbeats 4000000 in
theorem drawExp_leaf (g B : Nat) (ca : Option Addr) (cn cc : Nat) (d : Int) (z s : Nat) (a : Option Addr) (n c : Nat) (kd : Int) (w : World) (hd : d = 3) (h : Cu w g B ca cn cc z s) (hz : z ≤ 100000000000) (hB : B ≤ w.heap.size) (hco : Co w a n) (ha : ∀ b off, a = some ⟨b, off, none⟩ → b ≠ g) (hn1 : 1 ≤ n) (hn : n ≤ 100) :
    Calls Tryz.prog 49 #[.pointer (some ⟨g, 0, none⟩), .slice a n c, .int .i64 kd, .int .i64 d] w fun e w' => ∃ (m gz cap z' s' : Nat) (xs : List Value), e = .returned (.slice (some ⟨gz, 0, none⟩) m cap) ∧ 1 ≤ m ∧ m ≤ nb 0 ∧ Its m xs ∧ w'.ownsRow w.heap.size 85 3 (.slice (some ⟨gz, 0, none⟩) m cap) m xs ∧ z' ≤ z + pb 0 ∧ Cu w' g B ca cn cc z' s' ∧ w.grownBy w' (some g) := by
  subst hd
  have hlt := h.lt
  have hC1 := h
  have hG1 := g0 w (some g)
  obtain ⟨z1, hz1e⟩ : ∃ z1, z = z1 := ⟨_, rfl⟩
  obtain ⟨s1, hs1e⟩ : ∃ s1, s = s1 := ⟨_, rfl⟩
  rw [hz1e, hs1e] at hC1
  go_enter Tryz.func49, Tryz.ntmps49
  go_wp2
  go_loopw [8, 9, 10] (fun _ i _ wr => ∃ j zz ss : Nat, j ≤ 3 ∧ i = .int .i64 j ∧ Cu wr g B ca cn cc zz ss ∧ zz ≤ z1 + j ∧ w.grownBy wr (some g)) (fun _ i _ _ => 3 - (intOf i).toNat)
  case atStart => exact ⟨0, z1, s1, by omega, rfl, hC1, by omega, hG1⟩
  case round =>
    obtain ⟨j, zz, ss, hj, rfl, hC, hzz, hG⟩ := hrel
    have hsr := hG.size
    by_cases hj3 : j < 3
    · go_wp2_with (go_at_call 31; refine (pick_any g B ca cn cc zz ss _ hC (by omega) _ (by omega)).mono ?_; rintro e w2 ⟨r, z2, s2, rfl, hr0, hr1, -, hz2, hC2, hG2⟩; obtain ⟨k, rfl⟩ : ∃ k : Nat, r = k := ⟨r.toNat, by omega⟩; have hG3 := gtrans hG hG2; have hs3 := hG3.size; obtain ⟨b, off, m, S, rfl, c0, c1, hS⟩ := co_gr hco hG3 ha k (by omega))
      · go_ret
        exact ⟨1, _, _, z2, s2, _, rfl, by omega, by show 1 ≤ 1; omega, Its.one _ _ _ hS, own2 w2 _ w.heap.size _ _ _ (by omega), by rw [pb0]; omega, (hC2.al (by omega) _).al (by simp; omega) _, gtrans (gtrans hG3 (galloc _ _ _)) (galloc _ _ _)⟩
      · go_roundw
        case rel => exact ⟨j + 1, z2, s2, by omega, by go_num, hC2.al (by omega) _, by omega, gtrans hG3 (galloc _ _ _)⟩
        case measure => simp [intOf]; omega
    · go_wp2_with (first | (go_at_call 69; refine (drawInt_any g B ca cn cc zz ss _ hC (by omega) (by omega)).mono ?_; rintro e w2 ⟨x, z2, s2, rfl, hz2, hC2, hG2⟩; have hG3 := gtrans hG hG2; have hs3 := hG3.size) | (go_at_call 70; refine (drawText_any g B ca cn cc zz ss _ hC (by omega) (by omega)).mono ?_; rintro e w2 ⟨T, z2, s2, rfl, hT, hz2, hC2, hG2⟩; have hG3 := gtrans hG hG2; have hs3 := hG3.size))
      · go_ret
        exact ⟨1, _, _, z2, s2, _, rfl, by omega, by show 1 ≤ 1; omega, Its.one _ _ _ (Nat.zero_le _), own1 w2 w.heap.size _ _ _ (by omega), by rw [pb0]; omega, hC2.al (by omega) _, gtrans hG3 (galloc _ _ _)⟩
      · go_ret
        exact ⟨1, _, _, z2, s2, _, rfl, by omega, by show 1 ≤ 1; omega, Its.one _ _ _ hT, own1 w2 w.heap.size _ _ _ (by omega), by rw [pb0]; omega, hC2.al (by omega) _, gtrans hG3 (galloc _ _ _)⟩
end Go.Proofs.YtjbbbfplephkpaaGreatDoor
