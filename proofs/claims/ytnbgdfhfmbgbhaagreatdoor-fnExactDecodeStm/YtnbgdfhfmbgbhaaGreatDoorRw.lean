/-
  The law's marks: lists of columns, values, items.
-/
import Derived.Test.YtnbgdfhfmbgbhaaGreatDoorRu
import Derived.RegionCalls
namespace Go.Proofs.YtnbgdfhfmbgbhaaGreatDoor
open Go.RowKit Go.Maps Go.WideMaps
theorem size1 (b : UInt8) (x : ByteArray) : ((⟨#[b]⟩ : ByteArray) ++ x).size = x.size + 1 := by
  have : (⟨#[b]⟩ : ByteArray).size = 1 := rfl
  rw [ByteArray.size_append]; omega
def dgs : Nat → Nat → ByteArray → ByteArray
  | 0, _, acc => acc
  | f + 1, i, acc => if i = 0 then acc else dgs f (i / 10) (⟨#[UInt8.ofNat (48 + i % 10)]⟩ ++ acc)
theorem dgs_zero (f : Nat) (acc : ByteArray) : dgs f 0 acc = acc := by cases f <;> simp [dgs]
theorem dgs_more (f i : Nat) (acc : ByteArray) (h : i < 10 ^ f) : dgs (f + 1) i acc = dgs f i acc := by
  induction f generalizing i acc with
  | zero => have : i = 0 := by simpa using h
            subst this; simp [dgs]
  | succ f ih =>
    by_cases hi : i = 0
    · subst hi; simp [dgs]
    · have h' : i / 10 < 10 ^ f := by rw [Nat.pow_succ] at h; omega
      have e1 : dgs (f + 1 + 1) i acc = dgs (f + 1) (i / 10) (⟨#[UInt8.ofNat (48 + i % 10)]⟩ ++ acc) := by simp [dgs, hi]
      have e2 : dgs (f + 1) i acc = dgs f (i / 10) (⟨#[UInt8.ofNat (48 + i % 10)]⟩ ++ acc) := by simp [dgs, hi]
      rw [e1, e2, ih _ _ h']
/-- The text that marks number i. -/
def mtx (i : Nat) : ByteArray := ⟨#[109]⟩ ++ dgs 8 i ⟨#[]⟩
theorem dgs_step (i : Nat) (acc : ByteArray) (h0 : 0 < i) (h : i < 10000000) : dgs 8 i acc = dgs 8 (i / 10) (⟨#[UInt8.ofNat (48 + i % 10)]⟩ ++ acc) := by
  have e : dgs 8 i acc = dgs 7 (i / 10) (⟨#[UInt8.ofNat (48 + i % 10)]⟩ ++ acc) := by
    rw [dgs, if_neg (by omega)]
  rw [e, dgs_more 7 _ _ (by omega)]
theorem conv1 (w : World) (x : Int) (hx : 48 ≤ x) (hx2 : x ≤ 57) :
    (convert 127 9 (.slice (some ⟨w.heap.size, 0, none⟩) 1 1)).run Tryz.prog (w.alloc (.cells #[.int .u8 x] 5)) = .ok (.string ⟨#[UInt8.ofNat x.toNat]⟩) (w.alloc (.cells #[.int .u8 x] 5)) := by
  refine run_convert_bytes_back _ 127 9 5 ⟨w.heap.size, 0, none⟩ _ [UInt8.ofNat x.toNat] Tryz.underlying127 Tryz.underlying5 Tryz.underlying9 ?_
  intro j hj
  obtain rfl : j = 0 := by simpa using hj
  have hadd : (⟨w.heap.size, 0, none⟩ : Addr).add 0 = ⟨w.heap.size, 0, none⟩ := rfl
  rw [hadd, cell_of_row _ _ 0 _ 5 _ (heap_alloc_new w _)]
  have : ((UInt8.ofNat x.toNat).toNat : Int) = x := by simp; omega
  have e2 : (List.toArray [Value.int .u8 x])[0]? = some (.int .u8 x) := rfl
  simp only [List.length_cons, List.length_nil] at hj
  show some (Value.int .u8 x) = some (Value.int .u8 ((UInt8.ofNat x.toNat).toNat : Int))
  rw [this]
set_option maxRecDepth 20000 in
set_option maxHeartbeats 1000000 in
theorem markText_any (i : Nat) (w : World) (h0 : 0 < i) (h1 : i < 10000000) (y : ByteArray) (hy : mtx i = y) :
    Calls Tryz.prog 79 #[.int .i64 i] w fun e w' => e = .returned (.string y) ∧ Below w.heap.size w w' := by
  have HY : Hid (mtx i = y) := hy
  clear hy
  have hd0 : decide (i = 0) = false := by simpa using (by omega : ¬ i = 0)
  go_enter Tryz.func79, Tryz.ntmps79
  go_wp2
  go_loopw [0, 3] (fun x s wr => ∃ (j : Nat) (acc : ByteArray), acc.size + j ≤ 10000000 ∧ j < 10000000 ∧ x = .int .i64 j ∧ s = .string acc ∧ dgs 8 j acc = dgs 8 i ⟨#[]⟩ ∧ Below w.heap.size w wr) (fun x _ _ => (intOf x).toNat)
  case atStart => exact ⟨i, ⟨#[]⟩, (show 0 + i ≤ 10000000 by omega), h1, rfl, rfl, rfl, Below.refl _ _⟩
  case round =>
    obtain ⟨j, acc, hsz, hj, rfl, rfl, hd, hb⟩ := hrel
    have HD : Hid (dgs 8 j acc = dgs 8 i ⟨#[]⟩) := hd
    clear hd
    by_cases hlt : 0 < j
    · have HS : Hid (dgs 8 j acc = dgs 8 (j / 10) (⟨#[UInt8.ofNat (48 + j % 10)]⟩ ++ acc)) := dgs_step j acc hlt hj
      have hx1 : (48 : Int) ≤ 48 + (j : Int) % 10 := by omega
      have hx2 : 48 + (j : Int) % 10 ≤ 57 := by omega
      have hcv := conv1 wr (48 + (j : Int) % 10) hx1 hx2
      have e : (48 + (j : Int) % 10).toNat = 48 + j % 10 := by omega
      rw [e] at hcv
      have hw8 : IntKind.u8.wrap (48 + (j : Int) % 10) = 48 + (j : Int) % 10 := by rw [IntKind.wrap_u8']; omega
      clear e
      obtain ⟨c8, hc8⟩ : ∃ c, UInt8.ofNat (48 + j % 10) = c := ⟨_, rfl⟩
      rw [hc8] at hcv HS
      clear hc8
      go_wp2
      go_roundw
      case rel => exact ⟨j / 10, _, by have := size1 c8 acc; omega, by omega, by go_num, rfl, by rw [← HS.out]; exact HD.out, hb.alloc hb.size _⟩
      case measure => simp [intOf]; omega
    · obtain rfl : j = 0 := by omega
      have HE : Hid (⟨#[109]⟩ ++ acc = y) := by show ⟨#[109]⟩ ++ acc = y; rw [← HY.out]; unfold mtx; rw [← HD.out, dgs_zero]
      go_wp2
      go_ret
      exact ⟨by rw [← HE.out]; rfl, hb⟩
theorem mtx_size (i : Nat) : (mtx i).size ≤ 1000 := by
  have h : ∀ f j acc, (dgs f j acc).size ≤ f + acc.size := by
    intro f
    induction f with
    | zero => intro j acc; simp [dgs]
    | succ f ih =>
      intro j acc
      rw [dgs]
      split
      · omega
      · have := ih (j / 10) (⟨#[UInt8.ofNat (48 + j % 10)]⟩ ++ acc)
        rw [size1] at this
        omega
  unfold mtx
  rw [size1]
  have := h 8 i ⟨#[]⟩
  have e : (⟨#[]⟩ : ByteArray).size = 0 := rfl
  omega
theorem markText_as (i : Nat) (w : World) (z : Int) (hz : z = i) (h0 : 0 < i) (h1 : i < 10000000) (y : ByteArray) (hy : mtx i = y) :
    Calls Tryz.prog 79 #[.int .i64 z] w fun e w' => e = .returned (.string y) ∧ Below w.heap.size w w' := by
  subst hz
  exact markText_any i w h0 h1 y hy
theorem rowG' {w w' : World} {q : Nat} {r : Option Nat} {o : Obj} (h : w.heap[q]? = some o) (hg : w.grownBy w' r) (hne : some q ≠ r) : w'.heap[q]? = some o := (hg.block q (Array.getElem?_eq_some_iff.1 h).1 hne).trans h
end Go.Proofs.YtnbgdfhfmbgbhaaGreatDoor
namespace Go.Proofs.YtnbgdfhfmbgbhaaGreatDoor
open Go.RowKit Go.Maps Go.WideMaps
theorem grown_step {w wr W : World} {g o : Nat} {v : Value} (h : w.grownBy wr (some g)) (hb : Below wr.heap.size wr W) : w.grownBy (W.setCell ⟨g, o, none⟩ v) (some g) :=
  ⟨hb.os.trans h.os, hb.tape.trans h.tape, hb.output.trans h.output, by have := hb.size; have := h.size; simp; omega, fun i hi hne => (heap_setCell_other _ _ _ _ (by simpa using fun e => hne (by rw [e]))).trans ((hb.block i (Nat.lt_of_lt_of_le hi h.size)).trans (h.block i hi hne))⟩
/-- The marks lie there: columns. -/
def MC (w : World) (a : Option Addr) (n k : Nat) : Prop := n = 0 ∨ ∃ g cur, a = some ⟨g, 0, none⟩ ∧ w.heap[g]? = some (.cells cur 49 (0, 0)) ∧ ∀ q, q < n → cur[q * 2]? = some (.string (mtx (k + 2 * q))) ∧ cur[q * 2 + 1]? = some (.int .i64 ((k + 2 * q + 1 : Nat) : Int))
/-- The marks lie there: items, values. -/
def M3 (w : World) (t : TypeId) (a : Option Addr) (n k : Nat) : Prop := n = 0 ∨ ∃ g cur, a = some ⟨g, 0, none⟩ ∧ w.heap[g]? = some (.cells cur t (0, 0)) ∧ ∀ q, q < n → cur[q * 3]? = some (.int .i64 ((k + 3 * q : Nat) : Int)) ∧ cur[q * 3 + 1]? = some (.int .i64 ((k + 3 * q + 1 : Nat) : Int)) ∧ cur[q * 3 + 2]? = some (.string (mtx (k + 3 * q + 2)))
theorem bk_some {g n : Nat} (h : n ≠ 0) : bk (some ⟨g, 0, none⟩) n = some g := by unfold bk; rw [if_neg h]; rfl
theorem bk_zero (a : Option Addr) : bk a 0 = none := rfl
theorem WR.gr {w w' : World} {lo hi : Nat} {t : TypeId} {z : Nat} {a a' : Option Addr} {n n' : Nat} (h : WR w lo hi t z a n) (hg : w.grownBy w' (bk a' n')) (hd : Dj a n a' n') : WR w' lo hi t z a n := by
  by_cases e : n = 0
  · exact Or.inl e
  · rcases h with h | ⟨g, cur, rfl, h2, h3, h4, h5⟩
    · exact Or.inl h
    · rcases hd with hd | hd
      · rw [bk_some e] at hd; cases hd
      · rw [bk_some e] at hd
        exact Or.inr ⟨g, cur, rfl, h2, h3, rowG' h4 hg hd, h5⟩
theorem MC.gr {w w' : World} {a : Option Addr} {n k : Nat} {r : Option Nat} (h : MC w a n k) (hg : w.grownBy w' r) (hd : bk a n = none ∨ bk a n ≠ r) : MC w' a n k := by
  by_cases e : n = 0
  · exact Or.inl e
  · rcases h with h | ⟨g, cur, rfl, h2, h3⟩
    · exact Or.inl h
    · rw [bk_some e] at hd
      exact Or.inr ⟨g, cur, rfl, rowG' h2 hg (hd.resolve_left (by simp)), h3⟩
theorem M3.gr {w w' : World} {t : TypeId} {a : Option Addr} {n k : Nat} {r : Option Nat} (h : M3 w t a n k) (hg : w.grownBy w' r) (hd : bk a n = none ∨ bk a n ≠ r) : M3 w' t a n k := by
  by_cases e : n = 0
  · exact Or.inl e
  · rcases h with h | ⟨g, cur, rfl, h2, h3⟩
    · exact Or.inl h
    · rw [bk_some e] at hd
      exact Or.inr ⟨g, cur, rfl, rowG' h2 hg (hd.resolve_left (by simp)), h3⟩
theorem MC.later {w w' : World} {a : Option Addr} {n k : Nat} (h : MC w a n k) (hb : Below w.heap.size w w') : MC w' a n k := by
  rcases h with h | ⟨g, cur, rfl, h2, h3⟩
  · exact Or.inl h
  · exact Or.inr ⟨g, cur, rfl, rowL h2 hb, h3⟩
theorem M3.later {w w' : World} {t : TypeId} {a : Option Addr} {n k : Nat} (h : M3 w t a n k) (hb : Below w.heap.size w w') : M3 w' t a n k := by
  rcases h with h | ⟨g, cur, rfl, h2, h3⟩
  · exact Or.inl h
  · exact Or.inr ⟨g, cur, rfl, rowL h2 hb, h3⟩
set_option maxRecDepth 20000 in
set_option maxHeartbeats 8000000 in
theorem markCl_some (g n c z : Nat) (cur0 : Array Value) (w : World) (hg0 : w.heap[g]? = some (.cells cur0 49 (0, 0))) (hcs : n * 2 ≤ cur0.size) (hz0 : 0 < z) (hz : z + 2 * n < 9000000) :
    Calls Tryz.prog 25 #[.slice (some ⟨g, 0, none⟩) n c, .int .i64 (z : Int)] w fun e w' => e = .returned (.int .i64 ((z + 2 * n : Nat) : Int)) ∧ (∃ cur, w'.heap[g]? = some (.cells cur 49 (0, 0)) ∧ ∀ q, q < n → cur[q * 2]? = some (.string (mtx (z + 2 * q))) ∧ cur[q * 2 + 1]? = some (.int .i64 ((z + 2 * q + 1 : Nat) : Int))) ∧ w.grownBy w' (some g) := by
  go_enter Tryz.func25, Tryz.ntmps25
  go_wp2
  go_loopw [1, 5] (fun k i wr => ∃ (j : Nat) (K : Int) (cur : Array Value), k = .int .i64 K ∧ K = ((z + 2 * j : Nat) : Int) ∧ j ≤ n ∧ i = .int .i64 j ∧ wr.heap[g]? = some (.cells cur 49 (0, 0)) ∧ n * 2 ≤ cur.size ∧ (∀ q, q < j → cur[q * 2]? = some (.string (mtx (z + 2 * q))) ∧ cur[q * 2 + 1]? = some (.int .i64 ((z + 2 * q + 1 : Nat) : Int))) ∧ w.grownBy wr (some g)) (fun _ i _ => n - (intOf i).toNat)
  case atStart => exact ⟨0, _, cur0, rfl, by omega, by omega, rfl, hg0, hcs, fun q hq => by omega, grefl _ _⟩
  case round =>
    obtain ⟨j, K, cur, rfl, hK, hj, rfl, hg, hsz, hall, hgr⟩ := hrel
    have HK : Hid (K = ((z + 2 * j : Nat) : Int)) := hK
    have hK0 : 0 < K := by omega
    have hK1 : K < 9000000 := by omega
    clear hK
    have HG : Hid (wr.heap[g]? = some (.cells cur 49 (0, 0))) := hg
    have HALL : Hid (∀ q, q < j → cur[q * 2]? = some (.string (mtx (z + 2 * q))) ∧ cur[q * 2 + 1]? = some (.int .i64 ((z + 2 * q + 1 : Nat) : Int))) := hall
    clear hg hall
    by_cases hlt : j < n
    · obtain ⟨y0, hy0⟩ : ∃ y, mtx (z + 2 * j) = y := ⟨_, rfl⟩
      have HY0 : Hid (mtx (z + 2 * j) = y0) := hy0
      clear hy0
      obtain ⟨v0, hv0⟩ := there (A := cur) (k := j * 2) (by omega)
      obtain ⟨v1, hv1⟩ := there (A := cur) (k := j * 2 + 1) (by omega)
      have HV : Hid (cur[j * 2]? = some v0 ∧ cur[j * 2 + 1]? = some v1) := ⟨hv0, hv1⟩
      clear hv0 hv1
      go_upto_region 6 with (go_at_call 79; refine (markText_as (z + 2 * j) _ _ (by have := HK.out; omega) (by omega) (by omega) y0 HY0.out).mono ?_; rintro e u0 ⟨rfl, hb0⟩; have K0 : Hid (u0.heap[g]? = some (.cells (cur) 49 (0, 0))) := rowL HG.out hb0; have c0 : u0.cell? ⟨g, j * 2, none⟩ = some v0 := (cell_of_row _ _ _ _ _ _ K0.out).trans (HV.out.1); have f0 : u0.frozen? ⟨g, j * 2, none⟩ = false := frozen_of_row _ _ _ _ _ K0.out)
      have HG0 : Hid ((u0.setCell ⟨g, j * 2, none⟩ (.string y0)).heap[g]? = some (.cells (cur.setIfInBounds (j * 2) (.string y0)) 49 (0, 0))) := heap_setCell_same _ _ _ _ _ _ K0.out
      have hgr0 : w.grownBy (u0.setCell ⟨g, j * 2, none⟩ (.string y0)) (some g) := grown_step hgr (hb0)
      obtain ⟨W0, hW0⟩ : ∃ W, u0.setCell ⟨g, j * 2, none⟩ (.string y0) = W := ⟨_, rfl⟩
      rw [hW0] at HG0 hgr0 ⊢
      clear hW0 c0 f0
      have c1 : W0.cell? ⟨g, j * 2 + 1, none⟩ = some v1 := (cell_of_row _ _ _ _ _ _ HG0.out).trans (setA (HV.out.2) (by omega))
      have f1 : W0.frozen? ⟨g, j * 2 + 1, none⟩ = false := frozen_of_row _ _ _ _ _ HG0.out
      go_wp2
      go_roundw
      case rel =>
        refine ⟨j + 1, _, _, rfl, by have := HK.out; omega, by omega, by go_num, heap_setCell_same _ _ _ _ _ _ HG0.out, by simpa using hsz, fun q hq => ?_, grown_step hgr0 (Below.refl _ _)⟩
        by_cases e : q = j
        · subst e
          rw [HY0.out]
          exact ⟨setA (setS (by first | omega | (simp only [Array.size_setIfInBounds]; omega))) (by omega), (setS (by first | omega | (simp only [Array.size_setIfInBounds]; omega))).trans (by rw [show (K + 1 : Int) = ((z + 2 * q + 1 : Nat) : Int) from by have := HK.out; omega])⟩
        · obtain ⟨r0, r1⟩ := HALL.out q (by omega)
          exact ⟨setA (setA (r0) (by omega)) (by omega), setA (setA (r1) (by omega)) (by omega)⟩
      case measure => simp [intOf]; omega
    · obtain rfl : j = n := by omega
      go_wp2
      go_ret
      exact ⟨by rw [HK.out]; rfl, ⟨cur, HG.out, HALL.out⟩, hgr⟩
set_option maxRecDepth 20000 in
set_option maxHeartbeats 4000000 in
theorem markCl_zero (a : Option Addr) (c z : Nat) (w : World) : Calls Tryz.prog 25 #[.slice a 0 c, .int .i64 (z : Int)] w fun e w' => e = .returned (.int .i64 (z : Int)) ∧ w' = w := by
  go_enter Tryz.func25, Tryz.ntmps25
  go_wp2
  go_loop [1, 5] (fun k i => k = .int .i64 (z : Int) ∧ i = .int .i64 0) (fun _ _ => 0)
  case atStart => exact ⟨rfl, rfl⟩
  case round =>
    obtain ⟨rfl, rfl⟩ := hrel
    go_wp2
    go_ret
    exact ⟨rfl, rfl⟩
theorem markCl (lo hi : Nat) (a : Option Addr) (n c z : Nat) (w : World) (h : WR w lo hi 49 2 a n) (hz0 : 0 < z) (hz : z + 2 * n < 9000000) :
    Calls Tryz.prog 25 #[.slice a n c, .int .i64 (z : Int)] w fun e w' => e = .returned (.int .i64 ((z + 2 * n : Nat) : Int)) ∧ MC w' a n z ∧ w.grownBy w' (bk a n) := by
  by_cases e : n = 0
  · subst e
    refine (markCl_zero a c z w).mono ?_
    rintro e w' ⟨rfl, rfl⟩
    exact ⟨rfl, Or.inl rfl, grefl _ _⟩
  · rcases h with h | ⟨g, cur, rfl, h2, h3, h4, h5⟩
    · exact absurd h e
    · refine (markCl_some g n c z cur w h4 h5 hz0 hz).mono ?_
      rintro e' w' ⟨rfl, ⟨cur', k1, k2⟩, k3⟩
      exact ⟨rfl, Or.inr ⟨g, cur', rfl, k1, k2⟩, by rw [bk_some e]; exact k3⟩
set_option maxRecDepth 20000 in
set_option maxHeartbeats 8000000 in
theorem markVl_some (g n c z : Nat) (cur0 : Array Value) (w : World) (hg0 : w.heap[g]? = some (.cells cur0 51 (0, 0))) (hcs : n * 3 ≤ cur0.size) (hz0 : 0 < z) (hz : z + 3 * n < 9000000) :
    Calls Tryz.prog 26 #[.slice (some ⟨g, 0, none⟩) n c, .int .i64 (z : Int)] w fun e w' => e = .returned (.int .i64 ((z + 3 * n : Nat) : Int)) ∧ (∃ cur, w'.heap[g]? = some (.cells cur 51 (0, 0)) ∧ ∀ q, q < n → cur[q * 3]? = some (.int .i64 ((z + 3 * q : Nat) : Int)) ∧ cur[q * 3 + 1]? = some (.int .i64 ((z + 3 * q + 1 : Nat) : Int)) ∧ cur[q * 3 + 2]? = some (.string (mtx (z + 3 * q + 2)))) ∧ w.grownBy w' (some g) := by
  go_enter Tryz.func26, Tryz.ntmps26
  go_wp2
  go_loopw [1, 5] (fun k i wr => ∃ (j : Nat) (K : Int) (cur : Array Value), k = .int .i64 K ∧ K = ((z + 3 * j : Nat) : Int) ∧ j ≤ n ∧ i = .int .i64 j ∧ wr.heap[g]? = some (.cells cur 51 (0, 0)) ∧ n * 3 ≤ cur.size ∧ (∀ q, q < j → cur[q * 3]? = some (.int .i64 ((z + 3 * q : Nat) : Int)) ∧ cur[q * 3 + 1]? = some (.int .i64 ((z + 3 * q + 1 : Nat) : Int)) ∧ cur[q * 3 + 2]? = some (.string (mtx (z + 3 * q + 2)))) ∧ w.grownBy wr (some g)) (fun _ i _ => n - (intOf i).toNat)
  case atStart => exact ⟨0, _, cur0, rfl, by omega, by omega, rfl, hg0, hcs, fun q hq => by omega, grefl _ _⟩
  case round =>
    obtain ⟨j, K, cur, rfl, hK, hj, rfl, hg, hsz, hall, hgr⟩ := hrel
    have HK : Hid (K = ((z + 3 * j : Nat) : Int)) := hK
    have hK0 : 0 < K := by omega
    have hK1 : K < 9000000 := by omega
    clear hK
    have HG : Hid (wr.heap[g]? = some (.cells cur 51 (0, 0))) := hg
    have HALL : Hid (∀ q, q < j → cur[q * 3]? = some (.int .i64 ((z + 3 * q : Nat) : Int)) ∧ cur[q * 3 + 1]? = some (.int .i64 ((z + 3 * q + 1 : Nat) : Int)) ∧ cur[q * 3 + 2]? = some (.string (mtx (z + 3 * q + 2)))) := hall
    clear hg hall
    by_cases hlt : j < n
    · obtain ⟨y0, hy0⟩ : ∃ y, mtx (z + 3 * j + 2) = y := ⟨_, rfl⟩
      have HY0 : Hid (mtx (z + 3 * j + 2) = y0) := hy0
      clear hy0
      obtain ⟨v0, hv0⟩ := there (A := cur) (k := j * 3) (by omega)
      obtain ⟨v1, hv1⟩ := there (A := cur) (k := j * 3 + 1) (by omega)
      obtain ⟨v2, hv2⟩ := there (A := cur) (k := j * 3 + 2) (by omega)
      have HV : Hid (cur[j * 3]? = some v0 ∧ cur[j * 3 + 1]? = some v1 ∧ cur[j * 3 + 2]? = some v2) := ⟨hv0, hv1, hv2⟩
      clear hv0 hv1 hv2
      have c0 : wr.cell? ⟨g, j * 3, none⟩ = some v0 := (cell_of_row _ _ _ _ _ _ HG.out).trans (HV.out.1)
      have f0 : wr.frozen? ⟨g, j * 3, none⟩ = false := frozen_of_row _ _ _ _ _ HG.out
      go_upto_region 6 with (fail)
      have HG0 : Hid ((wr.setCell ⟨g, j * 3, none⟩ (.int .i64 K)).heap[g]? = some (.cells (cur.setIfInBounds (j * 3) (.int .i64 K)) 51 (0, 0))) := heap_setCell_same _ _ _ _ _ _ HG.out
      have hgr0 : w.grownBy (wr.setCell ⟨g, j * 3, none⟩ (.int .i64 K)) (some g) := grown_step hgr (Below.refl _ _)
      obtain ⟨W0, hW0⟩ : ∃ W, wr.setCell ⟨g, j * 3, none⟩ (.int .i64 K) = W := ⟨_, rfl⟩
      rw [hW0] at HG0 hgr0 ⊢
      clear hW0 c0 f0
      have c1 : W0.cell? ⟨g, j * 3 + 1, none⟩ = some v1 := (cell_of_row _ _ _ _ _ _ HG0.out).trans (setA (HV.out.2.1) (by omega))
      have f1 : W0.frozen? ⟨g, j * 3 + 1, none⟩ = false := frozen_of_row _ _ _ _ _ HG0.out
      go_upto_region 8 with (fail)
      have HG1 : Hid ((W0.setCell ⟨g, j * 3 + 1, none⟩ (.int .i64 (K + 1))).heap[g]? = some (.cells ((cur.setIfInBounds (j * 3) (.int .i64 K)).setIfInBounds (j * 3 + 1) (.int .i64 (K + 1))) 51 (0, 0))) := heap_setCell_same _ _ _ _ _ _ HG0.out
      have hgr1 : w.grownBy (W0.setCell ⟨g, j * 3 + 1, none⟩ (.int .i64 (K + 1))) (some g) := grown_step hgr0 (Below.refl _ _)
      obtain ⟨W1, hW1⟩ : ∃ W, W0.setCell ⟨g, j * 3 + 1, none⟩ (.int .i64 (K + 1)) = W := ⟨_, rfl⟩
      rw [hW1] at HG1 hgr1 ⊢
      clear hW1 c1 f1
      go_wp2_with (go_at_call 79; refine (markText_as (z + 3 * j + 2) _ _ (by have := HK.out; omega) (by omega) (by omega) y0 HY0.out).mono ?_; rintro e u2 ⟨rfl, hb2⟩; have K2 : Hid (u2.heap[g]? = some (.cells ((cur.setIfInBounds (j * 3) (.int .i64 K)).setIfInBounds (j * 3 + 1) (.int .i64 (K + 1))) 51 (0, 0))) := rowL HG1.out hb2; have c2 : u2.cell? ⟨g, j * 3 + 2, none⟩ = some v2 := (cell_of_row _ _ _ _ _ _ K2.out).trans (setA (setA (HV.out.2.2) (by omega)) (by omega)); have f2 : u2.frozen? ⟨g, j * 3 + 2, none⟩ = false := frozen_of_row _ _ _ _ _ K2.out)
      go_roundw
      case rel =>
        refine ⟨j + 1, _, _, rfl, by have := HK.out; omega, by omega, by go_num, heap_setCell_same _ _ _ _ _ _ K2.out, by simpa using hsz, fun q hq => ?_, grown_step hgr1 (hb2)⟩
        by_cases e : q = j
        · subst e
          rw [HY0.out]
          exact ⟨setA (setA ((setS (by first | omega | (simp only [Array.size_setIfInBounds]; omega))).trans (by rw [show (K : Int) = ((z + 3 * q : Nat) : Int) from by have := HK.out; omega])) (by omega)) (by omega), setA ((setS (by first | omega | (simp only [Array.size_setIfInBounds]; omega))).trans (by rw [show (K + 1 : Int) = ((z + 3 * q + 1 : Nat) : Int) from by have := HK.out; omega])) (by omega), setS (by first | omega | (simp only [Array.size_setIfInBounds]; omega))⟩
        · obtain ⟨r0, r1, r2⟩ := HALL.out q (by omega)
          exact ⟨setA (setA (setA (r0) (by omega)) (by omega)) (by omega), setA (setA (setA (r1) (by omega)) (by omega)) (by omega), setA (setA (setA (r2) (by omega)) (by omega)) (by omega)⟩
      case measure => simp [intOf]; omega
    · obtain rfl : j = n := by omega
      go_wp2
      go_ret
      exact ⟨by rw [HK.out]; rfl, ⟨cur, HG.out, HALL.out⟩, hgr⟩
set_option maxRecDepth 20000 in
set_option maxHeartbeats 4000000 in
theorem markVl_zero (a : Option Addr) (c z : Nat) (w : World) : Calls Tryz.prog 26 #[.slice a 0 c, .int .i64 (z : Int)] w fun e w' => e = .returned (.int .i64 (z : Int)) ∧ w' = w := by
  go_enter Tryz.func26, Tryz.ntmps26
  go_wp2
  go_loop [1, 5] (fun k i => k = .int .i64 (z : Int) ∧ i = .int .i64 0) (fun _ _ => 0)
  case atStart => exact ⟨rfl, rfl⟩
  case round =>
    obtain ⟨rfl, rfl⟩ := hrel
    go_wp2
    go_ret
    exact ⟨rfl, rfl⟩
theorem markVl (lo hi : Nat) (a : Option Addr) (n c z : Nat) (w : World) (h : WR w lo hi 51 3 a n) (hz0 : 0 < z) (hz : z + 3 * n < 9000000) :
    Calls Tryz.prog 26 #[.slice a n c, .int .i64 (z : Int)] w fun e w' => e = .returned (.int .i64 ((z + 3 * n : Nat) : Int)) ∧ M3 w' 51 a n z ∧ w.grownBy w' (bk a n) := by
  by_cases e : n = 0
  · subst e
    refine (markVl_zero a c z w).mono ?_
    rintro e w' ⟨rfl, rfl⟩
    exact ⟨rfl, Or.inl rfl, grefl _ _⟩
  · rcases h with h | ⟨g, cur, rfl, h2, h3, h4, h5⟩
    · exact absurd h e
    · refine (markVl_some g n c z cur w h4 h5 hz0 hz).mono ?_
      rintro e' w' ⟨rfl, ⟨cur', k1, k2⟩, k3⟩
      exact ⟨rfl, Or.inr ⟨g, cur', rfl, k1, k2⟩, by rw [bk_some e]; exact k3⟩
set_option maxRecDepth 20000 in
set_option maxHeartbeats 8000000 in
theorem markIt_some (g n c z : Nat) (cur0 : Array Value) (w : World) (hg0 : w.heap[g]? = some (.cells cur0 85 (0, 0))) (hcs : n * 3 ≤ cur0.size) (hz0 : 0 < z) (hz : z + 3 * n < 9000000) :
    Calls Tryz.prog 27 #[.slice (some ⟨g, 0, none⟩) n c, .int .i64 (z : Int)] w fun e w' => e = .returned (.int .i64 ((z + 3 * n : Nat) : Int)) ∧ (∃ cur, w'.heap[g]? = some (.cells cur 85 (0, 0)) ∧ ∀ q, q < n → cur[q * 3]? = some (.int .i64 ((z + 3 * q : Nat) : Int)) ∧ cur[q * 3 + 1]? = some (.int .i64 ((z + 3 * q + 1 : Nat) : Int)) ∧ cur[q * 3 + 2]? = some (.string (mtx (z + 3 * q + 2)))) ∧ w.grownBy w' (some g) := by
  go_enter Tryz.func27, Tryz.ntmps27
  go_wp2
  go_loopw [1, 5] (fun k i wr => ∃ (j : Nat) (K : Int) (cur : Array Value), k = .int .i64 K ∧ K = ((z + 3 * j : Nat) : Int) ∧ j ≤ n ∧ i = .int .i64 j ∧ wr.heap[g]? = some (.cells cur 85 (0, 0)) ∧ n * 3 ≤ cur.size ∧ (∀ q, q < j → cur[q * 3]? = some (.int .i64 ((z + 3 * q : Nat) : Int)) ∧ cur[q * 3 + 1]? = some (.int .i64 ((z + 3 * q + 1 : Nat) : Int)) ∧ cur[q * 3 + 2]? = some (.string (mtx (z + 3 * q + 2)))) ∧ w.grownBy wr (some g)) (fun _ i _ => n - (intOf i).toNat)
  case atStart => exact ⟨0, _, cur0, rfl, by omega, by omega, rfl, hg0, hcs, fun q hq => by omega, grefl _ _⟩
  case round =>
    obtain ⟨j, K, cur, rfl, hK, hj, rfl, hg, hsz, hall, hgr⟩ := hrel
    have HK : Hid (K = ((z + 3 * j : Nat) : Int)) := hK
    have hK0 : 0 < K := by omega
    have hK1 : K < 9000000 := by omega
    clear hK
    have HG : Hid (wr.heap[g]? = some (.cells cur 85 (0, 0))) := hg
    have HALL : Hid (∀ q, q < j → cur[q * 3]? = some (.int .i64 ((z + 3 * q : Nat) : Int)) ∧ cur[q * 3 + 1]? = some (.int .i64 ((z + 3 * q + 1 : Nat) : Int)) ∧ cur[q * 3 + 2]? = some (.string (mtx (z + 3 * q + 2)))) := hall
    clear hg hall
    by_cases hlt : j < n
    · obtain ⟨y0, hy0⟩ : ∃ y, mtx (z + 3 * j + 2) = y := ⟨_, rfl⟩
      have HY0 : Hid (mtx (z + 3 * j + 2) = y0) := hy0
      clear hy0
      obtain ⟨v0, hv0⟩ := there (A := cur) (k := j * 3) (by omega)
      obtain ⟨v1, hv1⟩ := there (A := cur) (k := j * 3 + 1) (by omega)
      obtain ⟨v2, hv2⟩ := there (A := cur) (k := j * 3 + 2) (by omega)
      have HV : Hid (cur[j * 3]? = some v0 ∧ cur[j * 3 + 1]? = some v1 ∧ cur[j * 3 + 2]? = some v2) := ⟨hv0, hv1, hv2⟩
      clear hv0 hv1 hv2
      have c0 : wr.cell? ⟨g, j * 3, none⟩ = some v0 := (cell_of_row _ _ _ _ _ _ HG.out).trans (HV.out.1)
      have f0 : wr.frozen? ⟨g, j * 3, none⟩ = false := frozen_of_row _ _ _ _ _ HG.out
      go_upto_region 6 with (fail)
      have HG0 : Hid ((wr.setCell ⟨g, j * 3, none⟩ (.int .i64 K)).heap[g]? = some (.cells (cur.setIfInBounds (j * 3) (.int .i64 K)) 85 (0, 0))) := heap_setCell_same _ _ _ _ _ _ HG.out
      have hgr0 : w.grownBy (wr.setCell ⟨g, j * 3, none⟩ (.int .i64 K)) (some g) := grown_step hgr (Below.refl _ _)
      obtain ⟨W0, hW0⟩ : ∃ W, wr.setCell ⟨g, j * 3, none⟩ (.int .i64 K) = W := ⟨_, rfl⟩
      rw [hW0] at HG0 hgr0 ⊢
      clear hW0 c0 f0
      have c1 : W0.cell? ⟨g, j * 3 + 1, none⟩ = some v1 := (cell_of_row _ _ _ _ _ _ HG0.out).trans (setA (HV.out.2.1) (by omega))
      have f1 : W0.frozen? ⟨g, j * 3 + 1, none⟩ = false := frozen_of_row _ _ _ _ _ HG0.out
      go_upto_region 8 with (fail)
      have HG1 : Hid ((W0.setCell ⟨g, j * 3 + 1, none⟩ (.int .i64 (K + 1))).heap[g]? = some (.cells ((cur.setIfInBounds (j * 3) (.int .i64 K)).setIfInBounds (j * 3 + 1) (.int .i64 (K + 1))) 85 (0, 0))) := heap_setCell_same _ _ _ _ _ _ HG0.out
      have hgr1 : w.grownBy (W0.setCell ⟨g, j * 3 + 1, none⟩ (.int .i64 (K + 1))) (some g) := grown_step hgr0 (Below.refl _ _)
      obtain ⟨W1, hW1⟩ : ∃ W, W0.setCell ⟨g, j * 3 + 1, none⟩ (.int .i64 (K + 1)) = W := ⟨_, rfl⟩
      rw [hW1] at HG1 hgr1 ⊢
      clear hW1 c1 f1
      go_wp2_with (go_at_call 79; refine (markText_as (z + 3 * j + 2) _ _ (by have := HK.out; omega) (by omega) (by omega) y0 HY0.out).mono ?_; rintro e u2 ⟨rfl, hb2⟩; have K2 : Hid (u2.heap[g]? = some (.cells ((cur.setIfInBounds (j * 3) (.int .i64 K)).setIfInBounds (j * 3 + 1) (.int .i64 (K + 1))) 85 (0, 0))) := rowL HG1.out hb2; have c2 : u2.cell? ⟨g, j * 3 + 2, none⟩ = some v2 := (cell_of_row _ _ _ _ _ _ K2.out).trans (setA (setA (HV.out.2.2) (by omega)) (by omega)); have f2 : u2.frozen? ⟨g, j * 3 + 2, none⟩ = false := frozen_of_row _ _ _ _ _ K2.out)
      go_roundw
      case rel =>
        refine ⟨j + 1, _, _, rfl, by have := HK.out; omega, by omega, by go_num, heap_setCell_same _ _ _ _ _ _ K2.out, by simpa using hsz, fun q hq => ?_, grown_step hgr1 (hb2)⟩
        by_cases e : q = j
        · subst e
          rw [HY0.out]
          exact ⟨setA (setA ((setS (by first | omega | (simp only [Array.size_setIfInBounds]; omega))).trans (by rw [show (K : Int) = ((z + 3 * q : Nat) : Int) from by have := HK.out; omega])) (by omega)) (by omega), setA ((setS (by first | omega | (simp only [Array.size_setIfInBounds]; omega))).trans (by rw [show (K + 1 : Int) = ((z + 3 * q + 1 : Nat) : Int) from by have := HK.out; omega])) (by omega), setS (by first | omega | (simp only [Array.size_setIfInBounds]; omega))⟩
        · obtain ⟨r0, r1, r2⟩ := HALL.out q (by omega)
          exact ⟨setA (setA (setA (r0) (by omega)) (by omega)) (by omega), setA (setA (setA (r1) (by omega)) (by omega)) (by omega), setA (setA (setA (r2) (by omega)) (by omega)) (by omega)⟩
      case measure => simp [intOf]; omega
    · obtain rfl : j = n := by omega
      go_wp2
      go_ret
      exact ⟨by rw [HK.out]; rfl, ⟨cur, HG.out, HALL.out⟩, hgr⟩
set_option maxRecDepth 20000 in
set_option maxHeartbeats 4000000 in
theorem markIt_zero (a : Option Addr) (c z : Nat) (w : World) : Calls Tryz.prog 27 #[.slice a 0 c, .int .i64 (z : Int)] w fun e w' => e = .returned (.int .i64 (z : Int)) ∧ w' = w := by
  go_enter Tryz.func27, Tryz.ntmps27
  go_wp2
  go_loop [1, 5] (fun k i => k = .int .i64 (z : Int) ∧ i = .int .i64 0) (fun _ _ => 0)
  case atStart => exact ⟨rfl, rfl⟩
  case round =>
    obtain ⟨rfl, rfl⟩ := hrel
    go_wp2
    go_ret
    exact ⟨rfl, rfl⟩
theorem markIt (lo hi : Nat) (a : Option Addr) (n c z : Nat) (w : World) (h : WR w lo hi 85 3 a n) (hz0 : 0 < z) (hz : z + 3 * n < 9000000) :
    Calls Tryz.prog 27 #[.slice a n c, .int .i64 (z : Int)] w fun e w' => e = .returned (.int .i64 ((z + 3 * n : Nat) : Int)) ∧ M3 w' 85 a n z ∧ w.grownBy w' (bk a n) := by
  by_cases e : n = 0
  · subst e
    refine (markIt_zero a c z w).mono ?_
    rintro e w' ⟨rfl, rfl⟩
    exact ⟨rfl, Or.inl rfl, grefl _ _⟩
  · rcases h with h | ⟨g, cur, rfl, h2, h3, h4, h5⟩
    · exact absurd h e
    · refine (markIt_some g n c z cur w h4 h5 hz0 hz).mono ?_
      rintro e' w' ⟨rfl, ⟨cur', k1, k2⟩, k3⟩
      exact ⟨rfl, Or.inr ⟨g, cur', rfl, k1, k2⟩, by rw [bk_some e]; exact k3⟩
end Go.Proofs.YtnbgdfhfmbgbhaaGreatDoor
