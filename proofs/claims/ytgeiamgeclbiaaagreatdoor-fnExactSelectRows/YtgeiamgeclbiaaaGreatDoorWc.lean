/-
  The law's marks found again: lists of columns, values, items.
-/
import Derived.Test.YtgeiamgeclbiaaaGreatDoorWa
namespace Go.Proofs.YtgeiamgeclbiaaaGreatDoor
open Go.RowKit Go.Maps Go.WideMaps
theorem grown_step {w wr W : World} {g o : Nat} {v : Value} (h : w.grownBy wr (some g)) (hb : Below wr.heap.size wr W) : w.grownBy (W.setCell ⟨g, o, none⟩ v) (some g) :=
  ⟨hb.os.trans h.os, hb.tape.trans h.tape, hb.output.trans h.output, by have := hb.size; have := h.size; simp; omega, fun i hi hne => (heap_setCell_other _ _ _ _ (by simpa using fun e => hne (by rw [e]))).trans ((hb.block i (Nat.lt_of_lt_of_le hi h.size)).trans (h.block i hi hne))⟩
/-- The marks lie there: columns. -/
def MC (w : World) (a : Option Addr) (n k : Nat) : Prop := n = 0 ∨ ∃ g cur, a = some ⟨g, 0, none⟩ ∧ w.heap[g]? = some (.cells cur 113 (0, 0)) ∧ ∀ q, q < n → cur[q * 2]? = some (.string (mtx (k + 2 * q))) ∧ cur[q * 2 + 1]? = some (.int .i64 ((k + 2 * q + 1 : Nat) : Int))
/-- The marks lie there: items, values. -/
def M3 (w : World) (t : TypeId) (a : Option Addr) (n k : Nat) : Prop := n = 0 ∨ ∃ g cur, a = some ⟨g, 0, none⟩ ∧ w.heap[g]? = some (.cells cur t (0, 0)) ∧ ∀ q, q < n → cur[q * 3]? = some (.int .i64 ((k + 3 * q : Nat) : Int)) ∧ cur[q * 3 + 1]? = some (.int .i64 ((k + 3 * q + 1 : Nat) : Int)) ∧ cur[q * 3 + 2]? = some (.string (mtx (k + 3 * q + 2)))
theorem bk_some {g n : Nat} (h : n ≠ 0) : bk (some ⟨g, 0, none⟩) n = some g := by unfold bk; rw [if_neg h]; rfl
theorem bk_zero (a : Option Addr) : bk a 0 = none := rfl
theorem WR.gr {w w' : World} {lo hi : Nat} {t : TypeId} {z : Nat} {a a' : Option Addr} {n n' : Nat} (h : WR w lo hi t z a n) (hg : w.grownBy w' (bk a' n')) (hd : Dj a n a' n') : WR w' lo hi t z a n := by
  by_cases e : n = 0
  · exact Or.inl e
  · rcases h with h | ⟨g, cur, rfl, h2, h3, h4, h5⟩
    · exact Or.inl h
    · rcases hd with hd | hd
      · rw [bk_some e] at hd; cases hd
      · rw [bk_some e] at hd
        exact Or.inr ⟨g, cur, rfl, h2, h3, rowG' h4 hg hd, h5⟩
theorem MC.gr {w w' : World} {a : Option Addr} {n k : Nat} {r : Option Nat} (h : MC w a n k) (hg : w.grownBy w' r) (hd : bk a n = none ∨ bk a n ≠ r) : MC w' a n k := by
  by_cases e : n = 0
  · exact Or.inl e
  · rcases h with h | ⟨g, cur, rfl, h2, h3⟩
    · exact Or.inl h
    · rw [bk_some e] at hd
      exact Or.inr ⟨g, cur, rfl, rowG' h2 hg (hd.resolve_left (by simp)), h3⟩
theorem M3.gr {w w' : World} {t : TypeId} {a : Option Addr} {n k : Nat} {r : Option Nat} (h : M3 w t a n k) (hg : w.grownBy w' r) (hd : bk a n = none ∨ bk a n ≠ r) : M3 w' t a n k := by
  by_cases e : n = 0
  · exact Or.inl e
  · rcases h with h | ⟨g, cur, rfl, h2, h3⟩
    · exact Or.inl h
    · rw [bk_some e] at hd
      exact Or.inr ⟨g, cur, rfl, rowG' h2 hg (hd.resolve_left (by simp)), h3⟩
theorem MC.later {w w' : World} {a : Option Addr} {n k : Nat} (h : MC w a n k) (hb : Below w.heap.size w w') : MC w' a n k := by
  rcases h with h | ⟨g, cur, rfl, h2, h3⟩
  · exact Or.inl h
  · exact Or.inr ⟨g, cur, rfl, rowL h2 hb, h3⟩
theorem M3.later {w w' : World} {t : TypeId} {a : Option Addr} {n k : Nat} (h : M3 w t a n k) (hb : Below w.heap.size w w') : M3 w' t a n k := by
  rcases h with h | ⟨g, cur, rfl, h2, h3⟩
  · exact Or.inl h
  · exact Or.inr ⟨g, cur, rfl, rowL h2 hb, h3⟩
set_option maxRecDepth 20000 in
set_option maxHeartbeats 8000000 in
theorem markCl_some (g n c z : Nat) (cur0 : Array Value) (w : World) (hg0 : w.heap[g]? = some (.cells cur0 113 (0, 0))) (hcs : n * 2 ≤ cur0.size) (hz0 : 0 < z) (hz : z + 2 * n < 9000000000000000000) :
    Calls Tryz.prog 45 #[.slice (some ⟨g, 0, none⟩) n c, .int .i64 (z : Int)] w fun e w' => e = .returned (.int .i64 ((z + 2 * n : Nat) : Int)) ∧ (∃ cur, w'.heap[g]? = some (.cells cur 113 (0, 0)) ∧ cur.size = cur0.size ∧ ∀ q, q < n → cur[q * 2]? = some (.string (mtx (z + 2 * q))) ∧ cur[q * 2 + 1]? = some (.int .i64 ((z + 2 * q + 1 : Nat) : Int))) ∧ w.grownBy w' (some g) := by
  go_enter Tryz.func45, Tryz.ntmps45
  go_wp2
  go_loopw [1, 5] (fun k i wr => ∃ (j : Nat) (K : Int) (cur : Array Value), k = .int .i64 K ∧ K = ((z + 2 * j : Nat) : Int) ∧ j ≤ n ∧ i = .int .i64 j ∧ wr.heap[g]? = some (.cells cur 113 (0, 0)) ∧ cur.size = cur0.size ∧ (∀ q, q < j → cur[q * 2]? = some (.string (mtx (z + 2 * q))) ∧ cur[q * 2 + 1]? = some (.int .i64 ((z + 2 * q + 1 : Nat) : Int))) ∧ w.grownBy wr (some g)) (fun _ i _ => n - (intOf i).toNat)
  case atStart => exact ⟨0, _, cur0, rfl, by omega, by omega, rfl, hg0, rfl, fun q hq => by omega, grefl _ _⟩
  case round =>
    obtain ⟨j, K, cur, rfl, hK, hj, rfl, hg, hsz, hall, hgr⟩ := hrel
    have HK : Hid (K = ((z + 2 * j : Nat) : Int)) := hK
    have hK0 : 0 < K := by omega
    have hK1 : K < 9000000000000000000 := by omega
    clear hK
    have HG : Hid (wr.heap[g]? = some (.cells cur 113 (0, 0))) := hg
    have HALL : Hid (∀ q, q < j → cur[q * 2]? = some (.string (mtx (z + 2 * q))) ∧ cur[q * 2 + 1]? = some (.int .i64 ((z + 2 * q + 1 : Nat) : Int))) := hall
    clear hg hall
    by_cases hlt : j < n
    · obtain ⟨y0, hy0⟩ : ∃ y, mtx (z + 2 * j) = y := ⟨_, rfl⟩
      have HY0 : Hid (mtx (z + 2 * j) = y0) := hy0
      clear hy0
      obtain ⟨v0, hv0⟩ := there (A := cur) (k := j * 2) (by omega)
      obtain ⟨v1, hv1⟩ := there (A := cur) (k := j * 2 + 1) (by omega)
      have HV : Hid (cur[j * 2]? = some v0 ∧ cur[j * 2 + 1]? = some v1) := ⟨hv0, hv1⟩
      clear hv0 hv1
      go_upto_region 6 with (go_at_call 96; refine (markText_as (z + 2 * j) _ _ (by have := HK.out; omega) (by omega) (by omega) y0 HY0.out).mono ?_; rintro e u0 ⟨rfl, hb0⟩; have K0 : Hid (u0.heap[g]? = some (.cells (cur) 113 (0, 0))) := rowL HG.out hb0; have c0 : u0.cell? ⟨g, j * 2, none⟩ = some v0 := (cell_of_row _ _ _ _ _ _ K0.out).trans (HV.out.1); have f0 : u0.frozen? ⟨g, j * 2, none⟩ = false := frozen_of_row _ _ _ _ _ K0.out)
      have HG0 : Hid ((u0.setCell ⟨g, j * 2, none⟩ (.string y0)).heap[g]? = some (.cells (cur.setIfInBounds (j * 2) (.string y0)) 113 (0, 0))) := heap_setCell_same _ _ _ _ _ _ K0.out
      have hgr0 : w.grownBy (u0.setCell ⟨g, j * 2, none⟩ (.string y0)) (some g) := grown_step hgr (hb0)
      obtain ⟨W0, hW0⟩ : ∃ W, u0.setCell ⟨g, j * 2, none⟩ (.string y0) = W := ⟨_, rfl⟩
      rw [hW0] at HG0 hgr0 ⊢
      clear hW0 c0 f0
      have c1 : W0.cell? ⟨g, j * 2 + 1, none⟩ = some v1 := (cell_of_row _ _ _ _ _ _ HG0.out).trans (setA (HV.out.2) (by omega))
      have f1 : W0.frozen? ⟨g, j * 2 + 1, none⟩ = false := frozen_of_row _ _ _ _ _ HG0.out
      go_wp2
      go_roundw
      case rel =>
        refine ⟨j + 1, _, _, rfl, by have := HK.out; omega, by omega, by go_num, heap_setCell_same _ _ _ _ _ _ HG0.out, by simpa using hsz, fun q hq => ?_, grown_step hgr0 (Below.refl _ _)⟩
        by_cases e : q = j
        · subst e
          rw [HY0.out]
          exact ⟨setA (setS (by first | omega | (simp only [Array.size_setIfInBounds]; omega))) (by omega), (setS (by first | omega | (simp only [Array.size_setIfInBounds]; omega))).trans (by rw [show (K + 1 : Int) = ((z + 2 * q + 1 : Nat) : Int) from by have := HK.out; omega])⟩
        · obtain ⟨r0, r1⟩ := HALL.out q (by omega)
          exact ⟨setA (setA (r0) (by omega)) (by omega), setA (setA (r1) (by omega)) (by omega)⟩
      case measure => simp [intOf]; omega
    · obtain rfl : j = n := by omega
      go_wp2
      go_ret
      exact ⟨by rw [HK.out]; rfl, ⟨cur, HG.out, hsz, HALL.out⟩, hgr⟩
set_option maxRecDepth 20000 in
set_option maxHeartbeats 4000000 in
theorem markCl_zero (a : Option Addr) (c z : Nat) (w : World) : Calls Tryz.prog 45 #[.slice a 0 c, .int .i64 (z : Int)] w fun e w' => e = .returned (.int .i64 (z : Int)) ∧ w' = w := by
  go_enter Tryz.func45, Tryz.ntmps45
  go_wp2
  go_loop [1, 5] (fun k i => k = .int .i64 (z : Int) ∧ i = .int .i64 0) (fun _ _ => 0)
  case atStart => exact ⟨rfl, rfl⟩
  case round =>
    obtain ⟨rfl, rfl⟩ := hrel
    go_wp2
    go_ret
    exact ⟨rfl, rfl⟩
set_option maxRecDepth 20000 in
set_option maxHeartbeats 8000000 in
theorem markVl_some (g n c z : Nat) (cur0 : Array Value) (w : World) (hg0 : w.heap[g]? = some (.cells cur0 66 (0, 0))) (hcs : n * 3 ≤ cur0.size) (hz0 : 0 < z) (hz : z + 3 * n < 9000000000000000000) :
    Calls Tryz.prog 46 #[.slice (some ⟨g, 0, none⟩) n c, .int .i64 (z : Int)] w fun e w' => e = .returned (.int .i64 ((z + 3 * n : Nat) : Int)) ∧ (∃ cur, w'.heap[g]? = some (.cells cur 66 (0, 0)) ∧ cur.size = cur0.size ∧ ∀ q, q < n → cur[q * 3]? = some (.int .i64 ((z + 3 * q : Nat) : Int)) ∧ cur[q * 3 + 1]? = some (.int .i64 ((z + 3 * q + 1 : Nat) : Int)) ∧ cur[q * 3 + 2]? = some (.string (mtx (z + 3 * q + 2)))) ∧ w.grownBy w' (some g) := by
  go_enter Tryz.func46, Tryz.ntmps46
  go_wp2
  go_loopw [1, 5] (fun k i wr => ∃ (j : Nat) (K : Int) (cur : Array Value), k = .int .i64 K ∧ K = ((z + 3 * j : Nat) : Int) ∧ j ≤ n ∧ i = .int .i64 j ∧ wr.heap[g]? = some (.cells cur 66 (0, 0)) ∧ cur.size = cur0.size ∧ (∀ q, q < j → cur[q * 3]? = some (.int .i64 ((z + 3 * q : Nat) : Int)) ∧ cur[q * 3 + 1]? = some (.int .i64 ((z + 3 * q + 1 : Nat) : Int)) ∧ cur[q * 3 + 2]? = some (.string (mtx (z + 3 * q + 2)))) ∧ w.grownBy wr (some g)) (fun _ i _ => n - (intOf i).toNat)
  case atStart => exact ⟨0, _, cur0, rfl, by omega, by omega, rfl, hg0, rfl, fun q hq => by omega, grefl _ _⟩
  case round =>
    obtain ⟨j, K, cur, rfl, hK, hj, rfl, hg, hsz, hall, hgr⟩ := hrel
    have HK : Hid (K = ((z + 3 * j : Nat) : Int)) := hK
    have hK0 : 0 < K := by omega
    have hK1 : K < 9000000000000000000 := by omega
    clear hK
    have HG : Hid (wr.heap[g]? = some (.cells cur 66 (0, 0))) := hg
    have HALL : Hid (∀ q, q < j → cur[q * 3]? = some (.int .i64 ((z + 3 * q : Nat) : Int)) ∧ cur[q * 3 + 1]? = some (.int .i64 ((z + 3 * q + 1 : Nat) : Int)) ∧ cur[q * 3 + 2]? = some (.string (mtx (z + 3 * q + 2)))) := hall
    clear hg hall
    by_cases hlt : j < n
    · obtain ⟨y0, hy0⟩ : ∃ y, mtx (z + 3 * j + 2) = y := ⟨_, rfl⟩
      have HY0 : Hid (mtx (z + 3 * j + 2) = y0) := hy0
      clear hy0
      obtain ⟨v0, hv0⟩ := there (A := cur) (k := j * 3) (by omega)
      obtain ⟨v1, hv1⟩ := there (A := cur) (k := j * 3 + 1) (by omega)
      obtain ⟨v2, hv2⟩ := there (A := cur) (k := j * 3 + 2) (by omega)
      have HV : Hid (cur[j * 3]? = some v0 ∧ cur[j * 3 + 1]? = some v1 ∧ cur[j * 3 + 2]? = some v2) := ⟨hv0, hv1, hv2⟩
      clear hv0 hv1 hv2
      have c0 : wr.cell? ⟨g, j * 3, none⟩ = some v0 := (cell_of_row _ _ _ _ _ _ HG.out).trans (HV.out.1)
      have f0 : wr.frozen? ⟨g, j * 3, none⟩ = false := frozen_of_row _ _ _ _ _ HG.out
      go_upto_region 6 with (fail)
      have HG0 : Hid ((wr.setCell ⟨g, j * 3, none⟩ (.int .i64 K)).heap[g]? = some (.cells (cur.setIfInBounds (j * 3) (.int .i64 K)) 66 (0, 0))) := heap_setCell_same _ _ _ _ _ _ HG.out
      have hgr0 : w.grownBy (wr.setCell ⟨g, j * 3, none⟩ (.int .i64 K)) (some g) := grown_step hgr (Below.refl _ _)
      obtain ⟨W0, hW0⟩ : ∃ W, wr.setCell ⟨g, j * 3, none⟩ (.int .i64 K) = W := ⟨_, rfl⟩
      rw [hW0] at HG0 hgr0 ⊢
      clear hW0 c0 f0
      have c1 : W0.cell? ⟨g, j * 3 + 1, none⟩ = some v1 := (cell_of_row _ _ _ _ _ _ HG0.out).trans (setA (HV.out.2.1) (by omega))
      have f1 : W0.frozen? ⟨g, j * 3 + 1, none⟩ = false := frozen_of_row _ _ _ _ _ HG0.out
      go_upto_region 8 with (fail)
      have HG1 : Hid ((W0.setCell ⟨g, j * 3 + 1, none⟩ (.int .i64 (K + 1))).heap[g]? = some (.cells ((cur.setIfInBounds (j * 3) (.int .i64 K)).setIfInBounds (j * 3 + 1) (.int .i64 (K + 1))) 66 (0, 0))) := heap_setCell_same _ _ _ _ _ _ HG0.out
      have hgr1 : w.grownBy (W0.setCell ⟨g, j * 3 + 1, none⟩ (.int .i64 (K + 1))) (some g) := grown_step hgr0 (Below.refl _ _)
      obtain ⟨W1, hW1⟩ : ∃ W, W0.setCell ⟨g, j * 3 + 1, none⟩ (.int .i64 (K + 1)) = W := ⟨_, rfl⟩
      rw [hW1] at HG1 hgr1 ⊢
      clear hW1 c1 f1
      go_wp2_with (go_at_call 96; refine (markText_as (z + 3 * j + 2) _ _ (by have := HK.out; omega) (by omega) (by omega) y0 HY0.out).mono ?_; rintro e u2 ⟨rfl, hb2⟩; have K2 : Hid (u2.heap[g]? = some (.cells ((cur.setIfInBounds (j * 3) (.int .i64 K)).setIfInBounds (j * 3 + 1) (.int .i64 (K + 1))) 66 (0, 0))) := rowL HG1.out hb2; have c2 : u2.cell? ⟨g, j * 3 + 2, none⟩ = some v2 := (cell_of_row _ _ _ _ _ _ K2.out).trans (setA (setA (HV.out.2.2) (by omega)) (by omega)); have f2 : u2.frozen? ⟨g, j * 3 + 2, none⟩ = false := frozen_of_row _ _ _ _ _ K2.out)
      go_roundw
      case rel =>
        refine ⟨j + 1, _, _, rfl, by have := HK.out; omega, by omega, by go_num, heap_setCell_same _ _ _ _ _ _ K2.out, by simpa using hsz, fun q hq => ?_, grown_step hgr1 (hb2)⟩
        by_cases e : q = j
        · subst e
          rw [HY0.out]
          exact ⟨setA (setA ((setS (by first | omega | (simp only [Array.size_setIfInBounds]; omega))).trans (by rw [show (K : Int) = ((z + 3 * q : Nat) : Int) from by have := HK.out; omega])) (by omega)) (by omega), setA ((setS (by first | omega | (simp only [Array.size_setIfInBounds]; omega))).trans (by rw [show (K + 1 : Int) = ((z + 3 * q + 1 : Nat) : Int) from by have := HK.out; omega])) (by omega), setS (by first | omega | (simp only [Array.size_setIfInBounds]; omega))⟩
        · obtain ⟨r0, r1, r2⟩ := HALL.out q (by omega)
          exact ⟨setA (setA (setA (r0) (by omega)) (by omega)) (by omega), setA (setA (setA (r1) (by omega)) (by omega)) (by omega), setA (setA (setA (r2) (by omega)) (by omega)) (by omega)⟩
      case measure => simp [intOf]; omega
    · obtain rfl : j = n := by omega
      go_wp2
      go_ret
      exact ⟨by rw [HK.out]; rfl, ⟨cur, HG.out, hsz, HALL.out⟩, hgr⟩
set_option maxRecDepth 20000 in
set_option maxHeartbeats 4000000 in
theorem markVl_zero (a : Option Addr) (c z : Nat) (w : World) : Calls Tryz.prog 46 #[.slice a 0 c, .int .i64 (z : Int)] w fun e w' => e = .returned (.int .i64 (z : Int)) ∧ w' = w := by
  go_enter Tryz.func46, Tryz.ntmps46
  go_wp2
  go_loop [1, 5] (fun k i => k = .int .i64 (z : Int) ∧ i = .int .i64 0) (fun _ _ => 0)
  case atStart => exact ⟨rfl, rfl⟩
  case round =>
    obtain ⟨rfl, rfl⟩ := hrel
    go_wp2
    go_ret
    exact ⟨rfl, rfl⟩
theorem markVl (lo hi : Nat) (a : Option Addr) (n c z : Nat) (w : World) (h : WR w lo hi 66 3 a n) (hz0 : 0 < z) (hz : z + 3 * n < 9000000000000000000) :
    Calls Tryz.prog 46 #[.slice a n c, .int .i64 (z : Int)] w fun e w' => e = .returned (.int .i64 ((z + 3 * n : Nat) : Int)) ∧ M3 w' 66 a n z ∧ w.grownBy w' (bk a n) := by
  by_cases e : n = 0
  · subst e
    refine (markVl_zero a c z w).mono ?_
    rintro e w' ⟨rfl, rfl⟩
    exact ⟨rfl, Or.inl rfl, grefl _ _⟩
  · rcases h with h | ⟨g, cur, rfl, h2, h3, h4, h5⟩
    · exact absurd h e
    · refine (markVl_some g n c z cur w h4 h5 hz0 hz).mono ?_
      rintro e' w' ⟨rfl, ⟨cur', k1, -, k2⟩, k3⟩
      exact ⟨rfl, Or.inr ⟨g, cur', rfl, k1, k2⟩, by rw [bk_some e]; exact k3⟩
set_option maxRecDepth 20000 in
set_option maxHeartbeats 8000000 in
theorem markIt_some (g n c z : Nat) (cur0 : Array Value) (w : World) (hg0 : w.heap[g]? = some (.cells cur0 108 (0, 0))) (hcs : n * 3 ≤ cur0.size) (hz0 : 0 < z) (hz : z + 3 * n < 9000000000000000000) :
    Calls Tryz.prog 47 #[.slice (some ⟨g, 0, none⟩) n c, .int .i64 (z : Int)] w fun e w' => e = .returned (.int .i64 ((z + 3 * n : Nat) : Int)) ∧ (∃ cur, w'.heap[g]? = some (.cells cur 108 (0, 0)) ∧ cur.size = cur0.size ∧ ∀ q, q < n → cur[q * 3]? = some (.int .i64 ((z + 3 * q : Nat) : Int)) ∧ cur[q * 3 + 1]? = some (.int .i64 ((z + 3 * q + 1 : Nat) : Int)) ∧ cur[q * 3 + 2]? = some (.string (mtx (z + 3 * q + 2)))) ∧ w.grownBy w' (some g) := by
  go_enter Tryz.func47, Tryz.ntmps47
  go_wp2
  go_loopw [1, 5] (fun k i wr => ∃ (j : Nat) (K : Int) (cur : Array Value), k = .int .i64 K ∧ K = ((z + 3 * j : Nat) : Int) ∧ j ≤ n ∧ i = .int .i64 j ∧ wr.heap[g]? = some (.cells cur 108 (0, 0)) ∧ cur.size = cur0.size ∧ (∀ q, q < j → cur[q * 3]? = some (.int .i64 ((z + 3 * q : Nat) : Int)) ∧ cur[q * 3 + 1]? = some (.int .i64 ((z + 3 * q + 1 : Nat) : Int)) ∧ cur[q * 3 + 2]? = some (.string (mtx (z + 3 * q + 2)))) ∧ w.grownBy wr (some g)) (fun _ i _ => n - (intOf i).toNat)
  case atStart => exact ⟨0, _, cur0, rfl, by omega, by omega, rfl, hg0, rfl, fun q hq => by omega, grefl _ _⟩
  case round =>
    obtain ⟨j, K, cur, rfl, hK, hj, rfl, hg, hsz, hall, hgr⟩ := hrel
    have HK : Hid (K = ((z + 3 * j : Nat) : Int)) := hK
    have hK0 : 0 < K := by omega
    have hK1 : K < 9000000000000000000 := by omega
    clear hK
    have HG : Hid (wr.heap[g]? = some (.cells cur 108 (0, 0))) := hg
    have HALL : Hid (∀ q, q < j → cur[q * 3]? = some (.int .i64 ((z + 3 * q : Nat) : Int)) ∧ cur[q * 3 + 1]? = some (.int .i64 ((z + 3 * q + 1 : Nat) : Int)) ∧ cur[q * 3 + 2]? = some (.string (mtx (z + 3 * q + 2)))) := hall
    clear hg hall
    by_cases hlt : j < n
    · obtain ⟨y0, hy0⟩ : ∃ y, mtx (z + 3 * j + 2) = y := ⟨_, rfl⟩
      have HY0 : Hid (mtx (z + 3 * j + 2) = y0) := hy0
      clear hy0
      obtain ⟨v0, hv0⟩ := there (A := cur) (k := j * 3) (by omega)
      obtain ⟨v1, hv1⟩ := there (A := cur) (k := j * 3 + 1) (by omega)
      obtain ⟨v2, hv2⟩ := there (A := cur) (k := j * 3 + 2) (by omega)
      have HV : Hid (cur[j * 3]? = some v0 ∧ cur[j * 3 + 1]? = some v1 ∧ cur[j * 3 + 2]? = some v2) := ⟨hv0, hv1, hv2⟩
      clear hv0 hv1 hv2
      have c0 : wr.cell? ⟨g, j * 3, none⟩ = some v0 := (cell_of_row _ _ _ _ _ _ HG.out).trans (HV.out.1)
      have f0 : wr.frozen? ⟨g, j * 3, none⟩ = false := frozen_of_row _ _ _ _ _ HG.out
      go_upto_region 6 with (fail)
      have HG0 : Hid ((wr.setCell ⟨g, j * 3, none⟩ (.int .i64 K)).heap[g]? = some (.cells (cur.setIfInBounds (j * 3) (.int .i64 K)) 108 (0, 0))) := heap_setCell_same _ _ _ _ _ _ HG.out
      have hgr0 : w.grownBy (wr.setCell ⟨g, j * 3, none⟩ (.int .i64 K)) (some g) := grown_step hgr (Below.refl _ _)
      obtain ⟨W0, hW0⟩ : ∃ W, wr.setCell ⟨g, j * 3, none⟩ (.int .i64 K) = W := ⟨_, rfl⟩
      rw [hW0] at HG0 hgr0 ⊢
      clear hW0 c0 f0
      have c1 : W0.cell? ⟨g, j * 3 + 1, none⟩ = some v1 := (cell_of_row _ _ _ _ _ _ HG0.out).trans (setA (HV.out.2.1) (by omega))
      have f1 : W0.frozen? ⟨g, j * 3 + 1, none⟩ = false := frozen_of_row _ _ _ _ _ HG0.out
      go_upto_region 8 with (fail)
      have HG1 : Hid ((W0.setCell ⟨g, j * 3 + 1, none⟩ (.int .i64 (K + 1))).heap[g]? = some (.cells ((cur.setIfInBounds (j * 3) (.int .i64 K)).setIfInBounds (j * 3 + 1) (.int .i64 (K + 1))) 108 (0, 0))) := heap_setCell_same _ _ _ _ _ _ HG0.out
      have hgr1 : w.grownBy (W0.setCell ⟨g, j * 3 + 1, none⟩ (.int .i64 (K + 1))) (some g) := grown_step hgr0 (Below.refl _ _)
      obtain ⟨W1, hW1⟩ : ∃ W, W0.setCell ⟨g, j * 3 + 1, none⟩ (.int .i64 (K + 1)) = W := ⟨_, rfl⟩
      rw [hW1] at HG1 hgr1 ⊢
      clear hW1 c1 f1
      go_wp2_with (go_at_call 96; refine (markText_as (z + 3 * j + 2) _ _ (by have := HK.out; omega) (by omega) (by omega) y0 HY0.out).mono ?_; rintro e u2 ⟨rfl, hb2⟩; have K2 : Hid (u2.heap[g]? = some (.cells ((cur.setIfInBounds (j * 3) (.int .i64 K)).setIfInBounds (j * 3 + 1) (.int .i64 (K + 1))) 108 (0, 0))) := rowL HG1.out hb2; have c2 : u2.cell? ⟨g, j * 3 + 2, none⟩ = some v2 := (cell_of_row _ _ _ _ _ _ K2.out).trans (setA (setA (HV.out.2.2) (by omega)) (by omega)); have f2 : u2.frozen? ⟨g, j * 3 + 2, none⟩ = false := frozen_of_row _ _ _ _ _ K2.out)
      go_roundw
      case rel =>
        refine ⟨j + 1, _, _, rfl, by have := HK.out; omega, by omega, by go_num, heap_setCell_same _ _ _ _ _ _ K2.out, by simpa using hsz, fun q hq => ?_, grown_step hgr1 (hb2)⟩
        by_cases e : q = j
        · subst e
          rw [HY0.out]
          exact ⟨setA (setA ((setS (by first | omega | (simp only [Array.size_setIfInBounds]; omega))).trans (by rw [show (K : Int) = ((z + 3 * q : Nat) : Int) from by have := HK.out; omega])) (by omega)) (by omega), setA ((setS (by first | omega | (simp only [Array.size_setIfInBounds]; omega))).trans (by rw [show (K + 1 : Int) = ((z + 3 * q + 1 : Nat) : Int) from by have := HK.out; omega])) (by omega), setS (by first | omega | (simp only [Array.size_setIfInBounds]; omega))⟩
        · obtain ⟨r0, r1, r2⟩ := HALL.out q (by omega)
          exact ⟨setA (setA (setA (r0) (by omega)) (by omega)) (by omega), setA (setA (setA (r1) (by omega)) (by omega)) (by omega), setA (setA (setA (r2) (by omega)) (by omega)) (by omega)⟩
      case measure => simp [intOf]; omega
    · obtain rfl : j = n := by omega
      go_wp2
      go_ret
      exact ⟨by rw [HK.out]; rfl, ⟨cur, HG.out, hsz, HALL.out⟩, hgr⟩
set_option maxRecDepth 20000 in
set_option maxHeartbeats 4000000 in
theorem markIt_zero (a : Option Addr) (c z : Nat) (w : World) : Calls Tryz.prog 47 #[.slice a 0 c, .int .i64 (z : Int)] w fun e w' => e = .returned (.int .i64 (z : Int)) ∧ w' = w := by
  go_enter Tryz.func47, Tryz.ntmps47
  go_wp2
  go_loop [1, 5] (fun k i => k = .int .i64 (z : Int) ∧ i = .int .i64 0) (fun _ _ => 0)
  case atStart => exact ⟨rfl, rfl⟩
  case round =>
    obtain ⟨rfl, rfl⟩ := hrel
    go_wp2
    go_ret
    exact ⟨rfl, rfl⟩
end Go.Proofs.YtgeiamgeclbiaaaGreatDoor
namespace Go.Proofs.YtgeiamgeclbiaaaGreatDoor
open Go.RowKit Go.Maps Go.WideMaps
set_option maxRecDepth 20000 in
set_option maxHeartbeats 8000000 in
theorem heldVl (a : Option Addr) (n c z : Nat) (w : World) (h : M3 w 66 a n z) (hz0 : 0 < z) (hz : z + 3 * n < 9000000000000000000) :
    Calls Tryz.prog 49 #[.slice a n c, .int .i64 (z : Int)] w fun e w' => e = .returned (.int .i64 ((z + 3 * n : Nat) : Int)) ∧ Below w.heap.size w w' := by
  have hb0 := Below.refl w.heap.size w
  go_enter Tryz.func49, Tryz.ntmps49
  go_wp2
  go_loopw [1, 5] (fun k i wr => ∃ (j : Nat) (K : Int), k = .int .i64 K ∧ K = ((z + 3 * j : Nat) : Int) ∧ j ≤ n ∧ i = .int .i64 j ∧ Below w.heap.size w wr) (fun _ i _ => n - (intOf i).toNat)
  case atStart => exact ⟨0, _, rfl, by omega, by omega, rfl, hb0⟩
  case round =>
    obtain ⟨j, K, rfl, hK, hj, rfl, hb⟩ := hrel
    have HK : Hid (K = ((z + 3 * j : Nat) : Int)) := hK
    have hK0 : 0 < K := by omega
    have hK1 : K < 9000000000000000000 := by omega
    by_cases hlt : j < n
    · have hjn : (j : Int) < n := by omega
      obtain ⟨y0, hy0⟩ : ∃ y, mtx (z + 3 * j + 2) = y := ⟨_, rfl⟩
      have HY0 : Hid (mtx (z + 3 * j + 2) = y0) := hy0
      rcases h.later hb with h0 | ⟨g, cur, rfl, hg, hall⟩
      · omega
      obtain ⟨r0, r1, r2⟩ := hall j hlt
      rw [show ((z + 3 * j : Nat) : Int) = K from by omega] at r0
      have c0 : wr.cell? ⟨g, j * 3, none⟩ = some (.int .i64 K) := (cell_of_row _ _ _ _ _ _ hg).trans r0
      rw [show ((z + 3 * j + 1 : Nat) : Int) = K + 1 from by omega] at r1
      have c1 : wr.cell? ⟨g, j * 3 + 1, none⟩ = some (.int .i64 (K + 1)) := (cell_of_row _ _ _ _ _ _ hg).trans r1
      rw [hy0] at r2
      have c2 : wr.cell? ⟨g, j * 3 + 2, none⟩ = some (.string y0) := (cell_of_row _ _ _ _ _ _ hg).trans r2
      clear hy0 hK hg hall r0 r1 r2
      have e0 := eqS_same y0
      go_upto_region 10 with (fail)
      refine wp_region_held_drew (S := fun x => Below wr.heap.size wr x) (by kernel_rfl) (bdrV _) (fun hHeld => ?_)
      refine' takeF (i := 0) (oi := ({ dst := some 30, op := Op.move (Operand.tmp 0), type := 41, pos := "exact.go:556", after := #[], guard := none } : Oper)) rfl ⟨by rfl, fun x hSw => ?h1⟩ hHeld ?r1
      case h1 =>
        go_simp
        try with_reducible rfl
      try simp only [Act.put, List.setIfInBounds_toArray, List.set_cons_zero, List.set_cons_succ]
      refine' takeF (i := 1) (oi := ({ dst := some 31, op := Op.move (Operand.tmp 5), type := 3, pos := "exact.go:556", after := #[], guard := none } : Oper)) rfl ⟨by rfl, fun x hSw => ?h2⟩ hHeld ?r2
      case h2 =>
        go_simp
        try with_reducible rfl
      try simp only [Act.put, List.setIfInBounds_toArray, List.set_cons_zero, List.set_cons_succ]
      refine' takeF (i := 2) (oi := ({ dst := some 32, op := Op.indexAddr 41 (Operand.tmp 30) (Operand.tmp 31), type := 0, pos := "exact.go:556", after := #[{ on := 0, ground := Ground.data }, { on := 1, ground := Ground.data }], guard := none } : Oper)) rfl ⟨by rfl, fun x hSw => ?h3⟩ hHeld ?r3
      case h3 =>
        go_simp
        try with_reducible rfl
      try simp only [Act.put, List.setIfInBounds_toArray, List.set_cons_zero, List.set_cons_succ]
      refine' takeF (i := 3) (oi := ({ dst := some 33, op := Op.fieldAddr 66 (Operand.tmp 32) 2, type := 0, pos := "exact.go:556", after := #[{ on := 2, ground := Ground.data }], guard := none } : Oper)) rfl ⟨by rfl, fun x hSw => ?h4⟩ hHeld ?r4
      case h4 =>
        go_simp
        try with_reducible rfl
      try simp only [Act.put, List.setIfInBounds_toArray, List.set_cons_zero, List.set_cons_succ]
      refine' takeF (i := 4) (oi := ({ dst := some 34, op := Op.load 9 (Operand.tmp 33), type := 9, pos := "exact.go:556", after := #[{ on := 3, ground := Ground.data }], guard := none } : Oper)) rfl ⟨by rfl, fun x hSw => ?h5⟩ hHeld ?r5
      case h5 =>
        have k0 := keepB hSw c0; have k1 := keepB hSw c1; have k2 := keepB hSw c2
        go_simp
        try with_reducible rfl
      try simp only [Act.put, List.setIfInBounds_toArray, List.set_cons_zero, List.set_cons_succ]
      refine' takeF (i := 5) (oi := ({ dst := some 35, op := Op.move (Operand.tmp 1), type := 3, pos := "exact.go:556", after := #[], guard := none } : Oper)) rfl ⟨by rfl, fun x hSw => ?h6⟩ hHeld ?r6
      case h6 =>
        go_simp
        try with_reducible rfl
      try simp only [Act.put, List.setIfInBounds_toArray, List.set_cons_zero, List.set_cons_succ]
      refine wpAnyH_ready (rs := [6]) (by kernel_rfl) (by simp) ?_
      refine AllReadyH.cons (o := ({ dst := some 36, op := Op.call { callee := Callee.value (Operand.func 96), args := #[Operand.tmp 35], argTypes := #[3] }, type := 9, pos := "exact.go:556", after := #[{ on := 5, ground := Ground.data }], guard := none } : Oper)) rfl (fun K hK => ?_) AllReadyH.nil
      go_simp
      refine (markText_as (z + 3 * j + 2) _ _ (by have := HK.out; omega) (by omega) (by omega) y0 HY0.out).mono ?_
      rintro e w2 ⟨rfl, hb2⟩
      refine hK.out _ _ (bstep hHeld hb2) (fun hHeld => ?_)
      clear hK K
      try simp only [Act.put, List.setIfInBounds_toArray, List.set_cons_zero, List.set_cons_succ]
      refine' takeF (i := 7) (oi := ({ dst := some 37, op := Op.binOp BinOp.neq 9 (Operand.tmp 34) (Operand.tmp 36) 9, type := 4, pos := "exact.go:556", after := #[{ on := 4, ground := Ground.data }, { on := 6, ground := Ground.data }], guard := none } : Oper)) rfl ⟨by rfl, fun x hSw => ?h7⟩ hHeld ?r7
      case h7 =>
        go_simp
        try with_reducible rfl
      try simp only [Act.put, List.setIfInBounds_toArray, List.set_cons_zero, List.set_cons_succ]
      refine wpAnyH_done (by kernel_rfl) ?_ _
      have k0 := keepB hHeld c0
      have k1 := keepB hHeld c1
      have k2 := keepB hHeld c2
      go_wp2
      go_roundw
      case rel => exact ⟨j + 1, _, rfl, by have := HK.out; omega, by omega, by go_num, bstep hb hHeld⟩
      case measure => simp [intOf]; omega
    · obtain rfl : j = n := by omega
      clear hK
      go_wp2
      go_ret
      exact ⟨by rw [HK.out]; rfl, hb⟩
end Go.Proofs.YtgeiamgeclbiaaaGreatDoor
