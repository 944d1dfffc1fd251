/-
  The law's copies: where they lie.
-/
import Derived.Test.YtgeiamgeclbiaaaGreatDoorWf
namespace Go.Proofs.YtgeiamgeclbiaaaGreatDoor
open Go.RowKit Go.Maps Go.WideMaps
theorem WR.kp {w w' : World} {lo hi : Nat} {t : TypeId} {z : Nat} {a : Option Addr} {n : Nat} (h : WR w lo hi t z a n) (k : KpR lo hi w w') : WR w' lo hi t z a n := by
  rcases h with h | ⟨g, cur, h1, h2, h3, h4, h5⟩
  · exact Or.inl h
  · exact Or.inr ⟨g, cur, h1, h2, h3, k g h2 h3 _ h4, h5⟩
theorem WR.hi {w : World} {lo hi lo' hi' : Nat} {t : TypeId} {z : Nat} {a : Option Addr} {n : Nat} (h : WR w lo hi t z a n) (h1 : lo' ≤ lo) (h2 : hi ≤ hi') : WR w lo' hi' t z a n := h.wide (Below.refl _ _) h1 h2
theorem WR.set {w : World} {lo R i : Nat} {v : Value} {t : TypeId} {z : Nat} {a : Option Addr} {n : Nat} (h : WR w lo w.heap.size t z a n) (hR : R < lo) : WR (w.setCell ⟨R, i, none⟩ v) lo (w.setCell ⟨R, i, none⟩ v).heap.size t z a n := (h.kp (KpR.set hR)).hi (Nat.le_refl _) (by simp)
theorem SR.kp {w w' : World} {lo hi : Nat} {u t : TypeId} {g n : Nat} {m : Nat → Nat} (h : SR w lo hi u t g n m) (k : KpR lo hi w w') : SR w' lo hi u t g n m := by
  obtain ⟨h1, h2, cur, h3, h4⟩ := h
  refine ⟨h1, h2, cur, k g h1 h2 _ h3, fun j hj => ?_⟩
  obtain ⟨hm, q, e1, e2⟩ := h4 j hj
  exact ⟨hm, q, e1, e2.kp k⟩
theorem SR.hi {w : World} {lo hi lo' hi' : Nat} {u t : TypeId} {g n : Nat} {m : Nat → Nat} (h : SR w lo hi u t g n m) (k1 : lo' ≤ lo) (k2 : hi ≤ hi') : SR w lo' hi' u t g n m := by
  obtain ⟨h1, h2, cur, h3, h4⟩ := h
  refine ⟨by omega, by omega, cur, h3, fun j hj => ?_⟩
  obtain ⟨hm, q, e1, e2⟩ := h4 j hj
  exact ⟨hm, q, e1, e2.hi k1 k2⟩
set_option maxRecDepth 20000 in
set_option maxHeartbeats 4000000 in
theorem toCols' (a : Option Addr) (n c : Nat) (C : Nat → Clm) (w : World) (h : CL w a n C) (hn : n ≤ 1048576) :
    Calls Tryz.prog 30 #[.slice a n c] w fun e w' => ∃ g, w.heap.size ≤ g ∧ e = .returned (.slice (some ⟨g, 0, none⟩) n n) ∧ CL w' (some ⟨g, 0, none⟩) n C ∧ WR w' w.heap.size w'.heap.size 113 2 (some ⟨g, 0, none⟩) n ∧ Below w.heap.size w w' := by
  have hmk := make_any (t := 40) Tryz.underlying40 Tryz.infoCol n hn (by omega)
  go_enter Tryz.func30, Tryz.ntmps30
  go_wp2
  clear hmk
  go_loopw [4] (fun i wr => ∃ (k : Nat) (cur : Array Value), k ≤ n ∧ i = .int .i64 k ∧ wr.heap[w.heap.size]? = some (.cells cur 113 (0, 0)) ∧ cur.size = n * 2 ∧ (∀ j, j < k → cur[j * 2]? = some (.string (C j).s) ∧ cur[j * 2 + 1]? = some (.int .i64 (C j).t)) ∧ Below w.heap.size w wr) (fun i _ => n - (intOf i).toNat)
  case atStart => exact ⟨0, _, by omega, rfl, heap_alloc_new _ _, made_size _ _, fun j hj => by omega, bal _ _⟩
  case round =>
    obtain ⟨k, cur, hk, rfl, hG, hsz, hall, hb⟩ := hrel
    have HG : Hid (wr.heap[w.heap.size]? = some (.cells cur 113 (0, 0))) := hG
    clear hG
    by_cases hlt : k < n
    · obtain ⟨b, off, rfl, c0, c1, hs⟩ := h.later hb k hlt
      obtain ⟨v0, hv0⟩ := there (A := cur) (k := k * 2) (by omega)
      obtain ⟨v1, hv1⟩ := there (A := cur) (k := k * 2 + 1) (by omega)
      go_wp2_with (go_at_call 70; refine (toCol _ _ _).mono ?_; rintro e w1 ⟨rfl, hb1⟩; have HG1 : Hid (w1.heap[w.heap.size]? = some (.cells cur 113 (0, 0))) := (hb1.block _ (Array.getElem?_eq_some_iff.1 HG.out).1).trans HG.out; have g0 : w1.cell? ⟨w.heap.size, k * 2, none⟩ = some v0 := (cell_of_row w1 _ _ _ _ _ HG1.out).trans hv0; have f0 : w1.frozen? ⟨w.heap.size, k * 2, none⟩ = false := frozen_of_row w1 _ _ _ _ HG1.out; have g1 : w1.cell? ⟨w.heap.size, k * 2 + 1, none⟩ = some v1 := (cell_of_row w1 _ _ _ _ _ HG1.out).trans hv1; have f1 : w1.frozen? ⟨w.heap.size, k * 2 + 1, none⟩ = false := frozen_of_row w1 _ _ _ _ HG1.out; replace hb1 := bstep hb hb1)
      go_roundw
      case rel =>
        refine ⟨k + 1, ((cur.setIfInBounds (k * 2) (.string (C k).s)).setIfInBounds (k * 2 + 1) (.int .i64 (C k).t)), by omega, by go_num, (heap_setCell_same _ _ _ _ _ _ (heap_setCell_same _ _ _ _ _ _ HG1.out)), by simpa using hsz, fun j hj => ?_, ((hb1.setCell (by simp) _).setCell (by simp) _)⟩
        by_cases e : j = k
        · subst e
          exact ⟨(setA (setS (by omega)) (by omega)), (setS (by simp only [Array.size_setIfInBounds]; omega))⟩
        · exact ⟨(setA (setA (hall j (by omega)).1 (by omega)) (by omega)), (setA (setA (hall j (by omega)).2 (by omega)) (by omega))⟩
      case measure => simp [intOf]; omega
    · obtain rfl : k = n := by omega
      go_wp2
      go_ret
      refine ⟨_, Nat.le_refl _, rfl, fun j hj => ?_, Or.inr ⟨_, cur, rfl, Nat.le_refl _, (Array.getElem?_eq_some_iff.1 HG.out).1, HG.out, by omega⟩, hb⟩
      have := hall j hj
      have hsj := (h j hj).choose_spec.choose_spec.2.2.2
      exact ⟨_, 0, rfl, by rw [Nat.zero_add, cell_of_row wr _ _ _ _ _ HG.out]; exact this.1, by rw [Nat.zero_add, cell_of_row wr _ _ _ _ _ HG.out]; exact this.2, hsj⟩
set_option maxRecDepth 20000 in
set_option maxHeartbeats 4000000 in
theorem toVals' (a : Option Addr) (n c : Nat) (I : Nat → Itm) (w : World) (h : IL w a n I) (hn : n ≤ 1048576) :
    Calls Tryz.prog 31 #[.slice a n c] w fun e w' => ∃ g, w.heap.size ≤ g ∧ e = .returned (.slice (some ⟨g, 0, none⟩) n n) ∧ IL w' (some ⟨g, 0, none⟩) n I ∧ WR w' w.heap.size w'.heap.size 66 3 (some ⟨g, 0, none⟩) n ∧ Below w.heap.size w w' := by
  have hmk := make_any (t := 41) Tryz.underlying41 Tryz.infoVal n hn (by omega)
  go_enter Tryz.func31, Tryz.ntmps31
  go_wp2
  clear hmk
  go_loopw [4] (fun i wr => ∃ (k : Nat) (cur : Array Value), k ≤ n ∧ i = .int .i64 k ∧ wr.heap[w.heap.size]? = some (.cells cur 66 (0, 0)) ∧ cur.size = n * 3 ∧ (∀ j, j < k → cur[j * 3]? = some (.int .i64 (I j).o) ∧ cur[j * 3 + 1]? = some (.int .i64 (I j).m) ∧ cur[j * 3 + 2]? = some (.string (I j).s)) ∧ Below w.heap.size w wr) (fun i _ => n - (intOf i).toNat)
  case atStart => exact ⟨0, _, by omega, rfl, heap_alloc_new _ _, made_size _ _, fun j hj => by omega, bal _ _⟩
  case round =>
    obtain ⟨k, cur, hk, rfl, hG, hsz, hall, hb⟩ := hrel
    have HG : Hid (wr.heap[w.heap.size]? = some (.cells cur 66 (0, 0))) := hG
    clear hG
    by_cases hlt : k < n
    · obtain ⟨b, off, rfl, c0, c1, c2, hs⟩ := h.later hb k hlt
      obtain ⟨v0, hv0⟩ := there (A := cur) (k := k * 3) (by omega)
      obtain ⟨v1, hv1⟩ := there (A := cur) (k := k * 3 + 1) (by omega)
      obtain ⟨v2, hv2⟩ := there (A := cur) (k := k * 3 + 2) (by omega)
      go_wp2_with (go_at_call 71; refine (toVal _ _ _ _).mono ?_; rintro e w1 ⟨rfl, hb1⟩; have HG1 : Hid (w1.heap[w.heap.size]? = some (.cells cur 66 (0, 0))) := (hb1.block _ (Array.getElem?_eq_some_iff.1 HG.out).1).trans HG.out; have g0 : w1.cell? ⟨w.heap.size, k * 3, none⟩ = some v0 := (cell_of_row w1 _ _ _ _ _ HG1.out).trans hv0; have f0 : w1.frozen? ⟨w.heap.size, k * 3, none⟩ = false := frozen_of_row w1 _ _ _ _ HG1.out; have g1 : w1.cell? ⟨w.heap.size, k * 3 + 1, none⟩ = some v1 := (cell_of_row w1 _ _ _ _ _ HG1.out).trans hv1; have f1 : w1.frozen? ⟨w.heap.size, k * 3 + 1, none⟩ = false := frozen_of_row w1 _ _ _ _ HG1.out; have g2 : w1.cell? ⟨w.heap.size, k * 3 + 2, none⟩ = some v2 := (cell_of_row w1 _ _ _ _ _ HG1.out).trans hv2; have f2 : w1.frozen? ⟨w.heap.size, k * 3 + 2, none⟩ = false := frozen_of_row w1 _ _ _ _ HG1.out; replace hb1 := bstep hb hb1)
      go_roundw
      case rel =>
        refine ⟨k + 1, (((cur.setIfInBounds (k * 3) (.int .i64 (I k).o)).setIfInBounds (k * 3 + 1) (.int .i64 (I k).m)).setIfInBounds (k * 3 + 2) (.string (I k).s)), by omega, by go_num, (heap_setCell_same _ _ _ _ _ _ (heap_setCell_same _ _ _ _ _ _ (heap_setCell_same _ _ _ _ _ _ HG1.out))), by simpa using hsz, fun j hj => ?_, (((hb1.setCell (by simp) _).setCell (by simp) _).setCell (by simp) _)⟩
        by_cases e : j = k
        · subst e
          exact ⟨(setA (setA (setS (by omega)) (by omega)) (by omega)), (setA (setS (by simp only [Array.size_setIfInBounds]; omega)) (by omega)), (setS (by simp only [Array.size_setIfInBounds]; omega))⟩
        · exact ⟨(setA (setA (setA (hall j (by omega)).1 (by omega)) (by omega)) (by omega)), (setA (setA (setA (hall j (by omega)).2.1 (by omega)) (by omega)) (by omega)), (setA (setA (setA (hall j (by omega)).2.2 (by omega)) (by omega)) (by omega))⟩
      case measure => simp [intOf]; omega
    · obtain rfl : k = n := by omega
      go_wp2
      go_ret
      refine ⟨_, Nat.le_refl _, rfl, fun j hj => ?_, Or.inr ⟨_, cur, rfl, Nat.le_refl _, (Array.getElem?_eq_some_iff.1 HG.out).1, HG.out, by omega⟩, hb⟩
      have := hall j hj
      have hsj := (h j hj).choose_spec.choose_spec.2.2.2.2
      exact ⟨_, 0, rfl, by rw [Nat.zero_add, cell_of_row wr _ _ _ _ _ HG.out]; exact this.1, by rw [Nat.zero_add, cell_of_row wr _ _ _ _ _ HG.out]; exact this.2.1, by rw [Nat.zero_add, cell_of_row wr _ _ _ _ _ HG.out]; exact this.2.2, hsj⟩
set_option maxRecDepth 20000 in
set_option maxHeartbeats 4000000 in
theorem toItms' (a : Option Addr) (n c : Nat) (I : Nat → Itm) (w : World) (h : IL w a n I) (hn : n ≤ 1048576) :
    Calls Tryz.prog 32 #[.slice a n c] w fun e w' => ∃ g, w.heap.size ≤ g ∧ e = .returned (.slice (some ⟨g, 0, none⟩) n n) ∧ IL w' (some ⟨g, 0, none⟩) n I ∧ WR w' w.heap.size w'.heap.size 108 3 (some ⟨g, 0, none⟩) n ∧ Below w.heap.size w w' := by
  have hmk := make_any (t := 42) Tryz.underlying42 Tryz.infoItm n hn (by omega)
  go_enter Tryz.func32, Tryz.ntmps32
  go_wp2
  clear hmk
  go_loopw [4] (fun i wr => ∃ (k : Nat) (cur : Array Value), k ≤ n ∧ i = .int .i64 k ∧ wr.heap[w.heap.size]? = some (.cells cur 108 (0, 0)) ∧ cur.size = n * 3 ∧ (∀ j, j < k → cur[j * 3]? = some (.int .i64 (I j).o) ∧ cur[j * 3 + 1]? = some (.int .i64 (I j).m) ∧ cur[j * 3 + 2]? = some (.string (I j).s)) ∧ Below w.heap.size w wr) (fun i _ => n - (intOf i).toNat)
  case atStart => exact ⟨0, _, by omega, rfl, heap_alloc_new _ _, made_size _ _, fun j hj => by omega, bal _ _⟩
  case round =>
    obtain ⟨k, cur, hk, rfl, hG, hsz, hall, hb⟩ := hrel
    have HG : Hid (wr.heap[w.heap.size]? = some (.cells cur 108 (0, 0))) := hG
    clear hG
    by_cases hlt : k < n
    · obtain ⟨b, off, rfl, c0, c1, c2, hs⟩ := h.later hb k hlt
      obtain ⟨v0, hv0⟩ := there (A := cur) (k := k * 3) (by omega)
      obtain ⟨v1, hv1⟩ := there (A := cur) (k := k * 3 + 1) (by omega)
      obtain ⟨v2, hv2⟩ := there (A := cur) (k := k * 3 + 2) (by omega)
      go_wp2_with (go_at_call 72; refine (toItm _ _ _ _).mono ?_; rintro e w1 ⟨rfl, hb1⟩; have HG1 : Hid (w1.heap[w.heap.size]? = some (.cells cur 108 (0, 0))) := (hb1.block _ (Array.getElem?_eq_some_iff.1 HG.out).1).trans HG.out; have g0 : w1.cell? ⟨w.heap.size, k * 3, none⟩ = some v0 := (cell_of_row w1 _ _ _ _ _ HG1.out).trans hv0; have f0 : w1.frozen? ⟨w.heap.size, k * 3, none⟩ = false := frozen_of_row w1 _ _ _ _ HG1.out; have g1 : w1.cell? ⟨w.heap.size, k * 3 + 1, none⟩ = some v1 := (cell_of_row w1 _ _ _ _ _ HG1.out).trans hv1; have f1 : w1.frozen? ⟨w.heap.size, k * 3 + 1, none⟩ = false := frozen_of_row w1 _ _ _ _ HG1.out; have g2 : w1.cell? ⟨w.heap.size, k * 3 + 2, none⟩ = some v2 := (cell_of_row w1 _ _ _ _ _ HG1.out).trans hv2; have f2 : w1.frozen? ⟨w.heap.size, k * 3 + 2, none⟩ = false := frozen_of_row w1 _ _ _ _ HG1.out; replace hb1 := bstep hb hb1)
      go_roundw
      case rel =>
        refine ⟨k + 1, (((cur.setIfInBounds (k * 3) (.int .i64 (I k).o)).setIfInBounds (k * 3 + 1) (.int .i64 (I k).m)).setIfInBounds (k * 3 + 2) (.string (I k).s)), by omega, by go_num, (heap_setCell_same _ _ _ _ _ _ (heap_setCell_same _ _ _ _ _ _ (heap_setCell_same _ _ _ _ _ _ HG1.out))), by simpa using hsz, fun j hj => ?_, (((hb1.setCell (by simp) _).setCell (by simp) _).setCell (by simp) _)⟩
        by_cases e : j = k
        · subst e
          exact ⟨(setA (setA (setS (by omega)) (by omega)) (by omega)), (setA (setS (by simp only [Array.size_setIfInBounds]; omega)) (by omega)), (setS (by simp only [Array.size_setIfInBounds]; omega))⟩
        · exact ⟨(setA (setA (setA (hall j (by omega)).1 (by omega)) (by omega)) (by omega)), (setA (setA (setA (hall j (by omega)).2.1 (by omega)) (by omega)) (by omega)), (setA (setA (setA (hall j (by omega)).2.2 (by omega)) (by omega)) (by omega))⟩
      case measure => simp [intOf]; omega
    · obtain rfl : k = n := by omega
      go_wp2
      go_ret
      refine ⟨_, Nat.le_refl _, rfl, fun j hj => ?_, Or.inr ⟨_, cur, rfl, Nat.le_refl _, (Array.getElem?_eq_some_iff.1 HG.out).1, HG.out, by omega⟩, hb⟩
      have := hall j hj
      have hsj := (h j hj).choose_spec.choose_spec.2.2.2.2
      exact ⟨_, 0, rfl, by rw [Nat.zero_add, cell_of_row wr _ _ _ _ _ HG.out]; exact this.1, by rw [Nat.zero_add, cell_of_row wr _ _ _ _ _ HG.out]; exact this.2.1, by rw [Nat.zero_add, cell_of_row wr _ _ _ _ _ HG.out]; exact this.2.2, hsj⟩
set_option maxRecDepth 20000 in
set_option maxHeartbeats 4000000 in
theorem toRows' (a : Option Addr) (n c : Nat) (m : Nat → Nat) (O : Nat → Nat → Itm) (w : World) (h : OL w a n m O) (hn : n ≤ 1048576) :
    Calls Tryz.prog 114 #[.slice a n c] w fun e w' => ∃ g, w.heap.size ≤ g ∧ e = .returned (.slice (some ⟨g, 0, none⟩) n n) ∧ OF w.heap.size w' g n m O ∧ SR w' w.heap.size w'.heap.size 41 66 g n m ∧ Below w.heap.size w w' := by
  have hmk := make_any (t := 33) Tryz.underlying33 Tryz.infoRow n hn (by omega)
  rw [Nat.mul_one] at hmk
  go_enter Tryz.func114, Tryz.ntmps114
  go_wp2
  clear hmk
  go_loopw [4] (fun i wr => ∃ (k : Nat) (cur : Array Value), k ≤ n ∧ i = .int .i64 k ∧ wr.heap[w.heap.size]? = some (.cells cur 41 (0, 0)) ∧ cur.size = n ∧ (∀ j, j < k → ∃ g, w.heap.size < g ∧ cur[j]? = some (.slice (some ⟨g, 0, none⟩) (m j) (m j)) ∧ IL wr (some ⟨g, 0, none⟩) (m j) (O j) ∧ WR wr (w.heap.size + 1) wr.heap.size 66 3 (some ⟨g, 0, none⟩) (m j)) ∧ Below w.heap.size w wr) (fun i _ => n - (intOf i).toNat)
  case atStart => exact ⟨0, _, by omega, rfl, heap_alloc_new _ _, made_size _ _, fun j hj => by omega, bal _ _⟩
  case round =>
    obtain ⟨k, cur, hk, rfl, hG, hsz, hall, hb⟩ := hrel
    have HG : Hid (wr.heap[w.heap.size]? = some (.cells cur 41 (0, 0))) := hG
    clear hG
    by_cases hlt : k < n
    · obtain ⟨b, off, i, c', rfl, c0, hi, hm⟩ := h.later hb k hlt
      obtain ⟨v0, hv0⟩ := there (A := cur) (k := k) (by omega)
      have hlw := (Array.getElem?_eq_some_iff.1 HG.out).1
      go_wp2_with (go_at_call 31; refine (toVals' i _ c' _ _ hi hm).mono ?_; rintro e w1 ⟨g1, hg1, rfl, hI1, hW1, hb1⟩; have HG1 : Hid (w1.heap[w.heap.size]? = some (.cells cur 41 (0, 0))) := (hb1.block _ hlw).trans HG.out; have g0 : w1.cell? ⟨w.heap.size, k, none⟩ = some v0 := (cell_of_row w1 _ _ _ _ _ HG1.out).trans hv0; have f0 : w1.frozen? ⟨w.heap.size, k, none⟩ = false := frozen_of_row w1 _ _ _ _ HG1.out; have hbo := hb1; replace hb1 := bstep hb hb1)
      go_roundw
      case rel =>
        refine ⟨k + 1, cur.setIfInBounds k (.slice (some ⟨g1, 0, none⟩) (m k) (m k)), by omega, by go_num, heap_setCell_same _ _ _ _ _ _ HG1.out, by simpa using hsz, fun j hj => ?_, hb1.setCell (by simp) _⟩
        by_cases e : j = k
        · subst e
          exact ⟨g1, by omega, setS (by omega), hI1.set (by omega), (hW1.hi (by omega) (Nat.le_refl _)).set (by omega)⟩
        · obtain ⟨g, hg, hcur, hI, hWj⟩ := hall j (by omega)
          exact ⟨g, hg, setA hcur (by omega), (hI.later hbo).set (by omega), (hWj.wide hbo (Nat.le_refl _) hbo.size).set (by omega)⟩
      case measure => simp [intOf]; omega
    · obtain rfl : k = n := by omega
      go_wp2
      go_ret
      refine ⟨_, Nat.le_refl _, rfl, fun j hj => ?_, ⟨Nat.le_refl _, (Array.getElem?_eq_some_iff.1 HG.out).1, cur, HG.out, fun j hj => ?_⟩, hb⟩
      rotate_left
      · obtain ⟨g, hg, hcur, -, hWj⟩ := hall j hj
        obtain ⟨_, _, _, _, _, _, _, hm⟩ := h j hj
        exact ⟨hm, g, hcur, hWj.hi (by omega) (Nat.le_refl _)⟩
      obtain ⟨g, hg, hcur, hI, -⟩ := hall j hj
      obtain ⟨_, _, _, _, _, _, _, hm⟩ := h j hj
      exact ⟨g, by omega, by rw [cell_of_row wr _ _ _ _ _ HG.out]; exact hcur, hI, hm⟩
set_option maxRecDepth 20000 in
set_option maxHeartbeats 4000000 in
theorem toOuts' (a : Option Addr) (n c : Nat) (m : Nat → Nat) (O : Nat → Nat → Itm) (w : World) (h : OL w a n m O) (hn : n ≤ 1048576) :
    Calls Tryz.prog 33 #[.slice a n c] w fun e w' => ∃ g, w.heap.size ≤ g ∧ e = .returned (.slice (some ⟨g, 0, none⟩) n n) ∧ OF w.heap.size w' g n m O ∧ SR w' w.heap.size w'.heap.size 42 108 g n m ∧ Below w.heap.size w w' := by
  have hmk := make_any (t := 43) Tryz.underlying43 Tryz.infoOut n hn (by omega)
  rw [Nat.mul_one] at hmk
  go_enter Tryz.func33, Tryz.ntmps33
  go_wp2
  clear hmk
  go_loopw [4] (fun i wr => ∃ (k : Nat) (cur : Array Value), k ≤ n ∧ i = .int .i64 k ∧ wr.heap[w.heap.size]? = some (.cells cur 42 (0, 0)) ∧ cur.size = n ∧ (∀ j, j < k → ∃ g, w.heap.size < g ∧ cur[j]? = some (.slice (some ⟨g, 0, none⟩) (m j) (m j)) ∧ IL wr (some ⟨g, 0, none⟩) (m j) (O j) ∧ WR wr (w.heap.size + 1) wr.heap.size 108 3 (some ⟨g, 0, none⟩) (m j)) ∧ Below w.heap.size w wr) (fun i _ => n - (intOf i).toNat)
  case atStart => exact ⟨0, _, by omega, rfl, heap_alloc_new _ _, made_size _ _, fun j hj => by omega, bal _ _⟩
  case round =>
    obtain ⟨k, cur, hk, rfl, hG, hsz, hall, hb⟩ := hrel
    have HG : Hid (wr.heap[w.heap.size]? = some (.cells cur 42 (0, 0))) := hG
    clear hG
    by_cases hlt : k < n
    · obtain ⟨b, off, i, c', rfl, c0, hi, hm⟩ := h.later hb k hlt
      obtain ⟨v0, hv0⟩ := there (A := cur) (k := k) (by omega)
      have hlw := (Array.getElem?_eq_some_iff.1 HG.out).1
      go_wp2_with (go_at_call 32; refine (toItms' i _ c' _ _ hi hm).mono ?_; rintro e w1 ⟨g1, hg1, rfl, hI1, hW1, hb1⟩; have HG1 : Hid (w1.heap[w.heap.size]? = some (.cells cur 42 (0, 0))) := (hb1.block _ hlw).trans HG.out; have g0 : w1.cell? ⟨w.heap.size, k, none⟩ = some v0 := (cell_of_row w1 _ _ _ _ _ HG1.out).trans hv0; have f0 : w1.frozen? ⟨w.heap.size, k, none⟩ = false := frozen_of_row w1 _ _ _ _ HG1.out; have hbo := hb1; replace hb1 := bstep hb hb1)
      go_roundw
      case rel =>
        refine ⟨k + 1, cur.setIfInBounds k (.slice (some ⟨g1, 0, none⟩) (m k) (m k)), by omega, by go_num, heap_setCell_same _ _ _ _ _ _ HG1.out, by simpa using hsz, fun j hj => ?_, hb1.setCell (by simp) _⟩
        by_cases e : j = k
        · subst e
          exact ⟨g1, by omega, setS (by omega), hI1.set (by omega), (hW1.hi (by omega) (Nat.le_refl _)).set (by omega)⟩
        · obtain ⟨g, hg, hcur, hI, hWj⟩ := hall j (by omega)
          exact ⟨g, hg, setA hcur (by omega), (hI.later hbo).set (by omega), (hWj.wide hbo (Nat.le_refl _) hbo.size).set (by omega)⟩
      case measure => simp [intOf]; omega
    · obtain rfl : k = n := by omega
      go_wp2
      go_ret
      refine ⟨_, Nat.le_refl _, rfl, fun j hj => ?_, ⟨Nat.le_refl _, (Array.getElem?_eq_some_iff.1 HG.out).1, cur, HG.out, fun j hj => ?_⟩, hb⟩
      rotate_left
      · obtain ⟨g, hg, hcur, -, hWj⟩ := hall j hj
        obtain ⟨_, _, _, _, _, _, _, hm⟩ := h j hj
        exact ⟨hm, g, hcur, hWj.hi (by omega) (Nat.le_refl _)⟩
      obtain ⟨g, hg, hcur, hI, -⟩ := hall j hj
      obtain ⟨_, _, _, _, _, _, _, hm⟩ := h j hj
      exact ⟨g, by omega, by rw [cell_of_row wr _ _ _ _ _ HG.out]; exact hcur, hI, hm⟩
end Go.Proofs.YtgeiamgeclbiaaaGreatDoor
