/-
  The law on FsCrash.
-/
import Derived.Test.YtngppfjphbodcaaGreatDoorFg
import Derived.Test.YtngppfjphbodcaaGreatDoorKc
import Derived.RangeFuncBox
namespace Go.Proofs.YtngppfjphbodcaaGreatDoor
open Go.RowKit
def tlOf (m : Nat) (T : Nat → ByteArray) (k : Nat) : ByteArray := if k < m then T k else ByteArray.empty
/-- The files behind a crash. -/
def crF (F : Nat → Fil) (m : Nat) (T : Nat → ByteArray) : Nat → Fil := fun k => ⟨(F k).s, crD (F k).d (F k).y (tlOf m T k), ((crD (F k).d (F k).y (tlOf m T k)).size : Int)⟩
theorem OwnF.cur {w : World} {B n cap g : Nat} {F : Nat → Fil} (h : OwnF w B (.slice (some ⟨g, 0, none⟩) n cap) n F) : ∃ cur, w.heap[g]? = some (.cells cur 49 (0, 0)) ∧ B ≤ g ∧ n ≤ cap ∧ cap ≤ maxLen ∧ cur.size = cap * 3 ∧ ∀ k, k < n → cur[k * 3]? = some (.string (F k).s) ∧ cur[k * 3 + 1]? = some (.string (F k).d) ∧ cur[k * 3 + 2]? = some (.int .i64 (F k).y) := by
  rcases h.2 with ⟨e, _⟩ | ⟨g', cap', cur, e, hB, hg, hc, hm, hs, ht⟩
  · cases e
  · simp only [Value.slice.injEq, Option.some.injEq, Addr.mk.injEq, and_true, true_and] at e
    obtain ⟨rfl, rfl⟩ := e
    have key : ∀ j, j < n * 3 → cur[j]? = (flat n F)[j]? := fun j hj => by
      have h1 : (cur.toList.take (n * 3))[j]? = (flatL n F)[j]? := by rw [ht]
      rw [List.getElem?_take, if_pos hj] at h1
      simpa [flatL] using h1
    exact ⟨cur, hg, hB, hc, hm, hs, fun k hk => ⟨by rw [key _ (by omega)]; exact flat0 F hk, by rw [key _ (by omega)]; exact flat1 F hk, by rw [key _ (by omega)]; exact flat2 F hk⟩⟩
theorem OwnF.mk {w : World} {B n cap g : Nat} {F : Nat → Fil} {cur : Array Value} (hg : w.heap[g]? = some (.cells cur 49 (0, 0))) (hB : B ≤ g) (hc : n ≤ cap) (hm : cap ≤ maxLen) (hs : cur.size = cap * 3)
    (hall : ∀ k, k < n → cur[k * 3]? = some (.string (F k).s) ∧ cur[k * 3 + 1]? = some (.string (F k).d) ∧ cur[k * 3 + 2]? = some (.int .i64 (F k).y)) : OwnF w B (.slice (some ⟨g, 0, none⟩) n cap) n F := by
  refine ⟨flatL_len n F, Or.inr ⟨g, cap, cur, rfl, hB, hg, hc, hm, hs, ?_⟩⟩
  have e : cur.extract 0 (n * 3) = flat n F := by
    apply flat_of
    · simp; omega
    · intro k hk
      obtain ⟨h0, h1, h2⟩ := hall k hk
      refine ⟨?_, ?_, ?_⟩
      · rw [Array.getElem?_extract]; simp; exact ⟨by omega, h0⟩
      · rw [Array.getElem?_extract]; simp; exact ⟨by omega, h1⟩
      · rw [Array.getElem?_extract]; simp; exact ⟨by omega, h2⟩
  unfold flatL
  rw [← e]
  simp
theorem okFl_of {n : Nat} {F : Nat → Fil} {x1 x2 x3 x4 : Int} (h : okFs n F x1 x2 x3 x4 = true) (k : Nat) (hk : k < n) : 0 ≤ (F k).y ∧ (F k).y ≤ (F k).d.size := by
  have h1 := okFs_split n F x1 x2 x3 x4
  rw [h] at h1
  have h2 : allN n (okFl F) = true := by
    rcases hh : allN n (okFl F)
    · rw [hh] at h1; simp at h1
    · rfl
  unfold allN at h2
  rw [List.all_eq_true] at h2
  have h3 := h2 k (by simpa using hk)
  simp [okFl, btw] at h3
  omega
theorem okFs_n {n : Nat} {F : Nat → Fil} {x1 x2 x3 x4 : Int} (h : okFs n F x1 x2 x3 x4 = true) : n ≤ 300 := by
  simp [okFs] at h
  omega
theorem set6_row {V : World} {Q : Nat} {t : TypeId} {z0 z1 z2 z3 z4 z5 : Value} (v0 v1 v2 v3 v4 v5 : Value) (h : V.heap[Q]? = some (.cells #[z0, z1, z2, z3, z4, z5] t (0, 0))) :
    ((((((V.setCell ⟨Q, 0, none⟩ v0).setCell ⟨Q, 1, none⟩ v1).setCell ⟨Q, 2, none⟩ v2).setCell ⟨Q, 3, none⟩ v3).setCell ⟨Q, 4, none⟩ v4).setCell ⟨Q, 5, none⟩ v5).heap[Q]? = some (.cells #[v0, v1, v2, v3, v4, v5] t (0, 0)) :=
  heap_setCell_same _ _ 5 _ _ _ (heap_setCell_same _ _ 4 _ _ _ (heap_setCell_same _ _ 3 _ _ _ (heap_setCell_same _ _ 2 _ _ _ (heap_setCell_same _ _ 1 _ _ _ (heap_setCell_same _ _ 0 _ _ _ h)))))
theorem set6_oth {V : World} {Q P : Nat} {o : Obj} (v0 v1 v2 v3 v4 v5 : Value) (h : V.heap[P]? = some o) (hne : P ≠ Q) :
    ((((((V.setCell ⟨Q, 0, none⟩ v0).setCell ⟨Q, 1, none⟩ v1).setCell ⟨Q, 2, none⟩ v2).setCell ⟨Q, 3, none⟩ v3).setCell ⟨Q, 4, none⟩ v4).setCell ⟨Q, 5, none⟩ v5).heap[P]? = some o :=
  rowO (rowO (rowO (rowO (rowO (rowO h hne) hne) hne) hne) hne) hne
theorem set6_below {w V : World} {Q : Nat} (v0 v1 v2 v3 v4 v5 : Value) (h : Below w.heap.size w V) (hQ : w.heap.size ≤ Q) :
    Below w.heap.size w ((((((V.setCell ⟨Q, 0, none⟩ v0).setCell ⟨Q, 1, none⟩ v1).setCell ⟨Q, 2, none⟩ v2).setCell ⟨Q, 3, none⟩ v3).setCell ⟨Q, 4, none⟩ v4).setCell ⟨Q, 5, none⟩ v5) :=
  bset (bset (bset (bset (bset (bset h hQ) hQ) hQ) hQ) hQ) hQ
theorem not_own {W : World} {q : Nat} {X : Array Value} {t e : TypeId} {fr : Nat × Nat} (h : W.heap[q]? = some (.cells X t fr)) (hte : t ≠ e) {base size k : Nat} {v : Value} {xs : List Value} (hr : W.ownsRow base e size v k xs) : some q ≠ v.ownBlock := by
  rcases hr.2 with ⟨rfl, _⟩ | ⟨g, cap, cur, rfl, _, hgb, _⟩
  · simp [Value.ownBlock]
  · intro e'
    obtain rfl : q = g := by simpa [Value.ownBlock] using e'
    rw [h] at hgb
    simp at hgb
    exact hte hgb.2.1
theorem own_slice {w : World} {B n : Nat} {v : Value} {F : Nat → Fil} (h : OwnF w B v n F) : ∃ a cap, v = .slice a n cap := by
  rcases h.2 with ⟨rfl, rfl⟩ | ⟨g, cap, _, rfl, _⟩
  · exact ⟨none, 0, rfl⟩
  · exact ⟨_, _, rfl⟩
theorem ext_all (t : ByteArray) : t.extract 0 t.size = t := rst_zero t
/-- The marks of files, from z on. -/
def MF (z : Nat) : Nat → Fil := fun j => ⟨mtx (z + 3 * j), mtx (z + 3 * j + 1), ((z + 3 * j + 2 : Nat) : Int)⟩
theorem grown_step {w wr W : World} {g o : Nat} {v : Value} (h : w.grownBy wr (some g)) (hb : Below wr.heap.size wr W) : w.grownBy (W.setCell ⟨g, o, none⟩ v) (some g) :=
  ⟨hb.os.trans h.os, hb.tape.trans h.tape, hb.output.trans h.output, by have := hb.size; have := h.size; simp; omega, fun i hi hne => (heap_setCell_other _ _ _ _ (by simpa using fun e => hne (by rw [e]))).trans ((hb.block i (Nat.lt_of_lt_of_le hi h.size)).trans (h.block i hi hne))⟩
theorem grown_refl (w : World) (r : Option Nat) : w.grownBy w r := ⟨rfl, rfl, rfl, Nat.le_refl _, fun _ _ _ => rfl⟩
set_option maxRecDepth 20000 in
set_option maxHeartbeats 4000000 in
theorem markFils_some (B g n cap z : Nat) (F : Nat → Fil) (w : World) (h : OwnF w B (.slice (some ⟨g, 0, none⟩) n cap) n F) (hn : n ≤ 2097152) (hz0 : 0 < z) (hz : z ≤ 1048577) :
    Calls Tryz.prog 29 #[.slice (some ⟨g, 0, none⟩) n cap, .int .i64 (z : Int)] w fun e w' => e = .returned (.int .i64 ((z + 3 * n : Nat) : Int)) ∧ OwnF w' B (.slice (some ⟨g, 0, none⟩) n cap) n (MF z) ∧ w.grownBy w' (some g) := by
  obtain ⟨cur0, hg0, hBg, hcap, hcm, hcs, _⟩ := h.cur
  clear h
  go_enter Tryz.func29, Tryz.ntmps29
  go_wp2
  go_loopw [1, 5] (fun k i wr => ∃ (j : Nat) (cur : Array Value), j ≤ n ∧ k = .int .i64 ((z + 3 * j : Nat) : Int) ∧ i = .int .i64 j ∧ wr.heap[g]? = some (.cells cur 49 (0, 0)) ∧ cur.size = cap * 3 ∧ (∀ q, q < j → cur[q * 3]? = some (.string (MF z q).s) ∧ cur[q * 3 + 1]? = some (.string (MF z q).d) ∧ cur[q * 3 + 2]? = some (.int .i64 (MF z q).y)) ∧ w.grownBy wr (some g)) (fun _ i _ => n - (intOf i).toNat)
  case atStart => exact ⟨0, cur0, by omega, rfl, rfl, hg0, hcs, fun q hq => by omega, grown_refl _ _⟩
  case round =>
    obtain ⟨j, cur, hj, rfl, rfl, hg, hsz, hall, hgr⟩ := hrel
    have HG : Hid (wr.heap[g]? = some (.cells cur 49 (0, 0))) := hg
    have HALL : Hid (∀ q, q < j → cur[q * 3]? = some (.string (MF z q).s) ∧ cur[q * 3 + 1]? = some (.string (MF z q).d) ∧ cur[q * 3 + 2]? = some (.int .i64 (MF z q).y)) := hall
    clear hg hall
    by_cases hlt : j < n
    · obtain ⟨y0, hy0⟩ : ∃ y, mtx (z + 3 * j) = y := ⟨_, rfl⟩
      obtain ⟨y1, hy1⟩ : ∃ y, mtx (z + 3 * j + 1) = y := ⟨_, rfl⟩
      have HY0 : Hid (mtx (z + 3 * j) = y0) := hy0
      have HY1 : Hid (mtx (z + 3 * j + 1) = y1) := hy1
      clear hy0 hy1
      obtain ⟨v0, hv0⟩ := there (A := cur) (k := j * 3) (by omega)
      obtain ⟨v1, hv1⟩ := there (A := cur) (k := j * 3 + 1) (by omega)
      obtain ⟨v2, hv2⟩ := there (A := cur) (k := j * 3 + 2) (by omega)
      have HV : Hid (cur[j * 3]? = some v0 ∧ cur[j * 3 + 1]? = some v1 ∧ cur[j * 3 + 2]? = some v2) := ⟨hv0, hv1, hv2⟩
      clear hv0 hv1 hv2
      go_upto_region 6 with (go_at_call 30; refine (markText_as (z + 3 * j) _ _ (by first | rfl | omega) (by omega) (by omega) y0 HY0.out).mono ?_; rintro e w2 ⟨rfl, hb2⟩; have HG2 : Hid (w2.heap[g]? = some (.cells cur 49 (0, 0))) := rowL HG.out hb2; have c0 : w2.cell? ⟨g, j * 3, none⟩ = some v0 := (cell_of_row _ _ _ _ _ _ HG2.out).trans HV.out.1; have f0 : w2.frozen? ⟨g, j * 3, none⟩ = false := frozen_of_row _ _ _ _ _ HG2.out)
      have HG3 : Hid ((w2.setCell ⟨g, j * 3, none⟩ (.string y0)).heap[g]? = some (.cells (cur.setIfInBounds (j * 3) (.string y0)) 49 (0, 0))) := heap_setCell_same _ _ _ _ _ _ HG2.out
      have hgr3 : w.grownBy (w2.setCell ⟨g, j * 3, none⟩ (.string y0)) (some g) := grown_step hgr hb2
      obtain ⟨W3, hW3⟩ : ∃ W3, w2.setCell ⟨g, j * 3, none⟩ (.string y0) = W3 := ⟨_, rfl⟩
      rw [hW3] at HG3 hgr3 ⊢
      clear hW3 c0 f0
      go_upto_region 8 with (go_at_call 30; refine (markText_as (z + 3 * j + 1) _ _ (by first | rfl | omega) (by omega) (by omega) y1 HY1.out).mono ?_; rintro e w4 ⟨rfl, hb4⟩; have HG4 : Hid (w4.heap[g]? = some (.cells (cur.setIfInBounds (j * 3) (.string y0)) 49 (0, 0))) := rowL HG3.out hb4; have c1 : w4.cell? ⟨g, j * 3 + 1, none⟩ = some v1 := (cell_of_row _ _ _ _ _ _ HG4.out).trans (setA HV.out.2.1 (by omega)); have f1 : w4.frozen? ⟨g, j * 3 + 1, none⟩ = false := frozen_of_row _ _ _ _ _ HG4.out)
      have HG5 : Hid ((w4.setCell ⟨g, j * 3 + 1, none⟩ (.string y1)).heap[g]? = some (.cells ((cur.setIfInBounds (j * 3) (.string y0)).setIfInBounds (j * 3 + 1) (.string y1)) 49 (0, 0))) := heap_setCell_same _ _ _ _ _ _ HG4.out
      have hgr5 : w.grownBy (w4.setCell ⟨g, j * 3 + 1, none⟩ (.string y1)) (some g) := grown_step hgr3 hb4
      obtain ⟨W5, hW5⟩ : ∃ W5, w4.setCell ⟨g, j * 3 + 1, none⟩ (.string y1) = W5 := ⟨_, rfl⟩
      rw [hW5] at HG5 hgr5 ⊢
      clear hW5 c1 f1
      have c2 : W5.cell? ⟨g, j * 3 + 2, none⟩ = some v2 := (cell_of_row _ _ _ _ _ _ HG5.out).trans (setA (setA HV.out.2.2 (by omega)) (by omega))
      have f2 : W5.frozen? ⟨g, j * 3 + 2, none⟩ = false := frozen_of_row _ _ _ _ _ HG5.out
      go_wp2
      go_roundw
      case rel =>
        refine ⟨j + 1, _, by omega, by go_num, by go_num, heap_setCell_same _ _ _ _ _ _ HG5.out, by simpa using hsz, fun q hq => ?_, grown_step hgr5 (Below.refl _ _)⟩
        by_cases e : q = j
        · subst e
          refine ⟨setA (setA (by rw [show (MF z q).s = y0 from HY0.out]; exact setS (by omega)) (by omega)) (by omega), setA (by rw [show (MF z q).d = y1 from HY1.out]; exact setS (by simp only [Array.size_setIfInBounds]; omega)) (by omega), ?_⟩
          rw [setS (by simp only [Array.size_setIfInBounds]; omega)]
          simp [MF]
          omega
        · obtain ⟨r0, r1, r2⟩ := HALL.out q (by omega)
          exact ⟨setA (setA (setA r0 (by omega)) (by omega)) (by omega), setA (setA (setA r1 (by omega)) (by omega)) (by omega), setA (setA (setA r2 (by omega)) (by omega)) (by omega)⟩
      case measure => simp [intOf]; omega
    · obtain rfl : j = n := by omega
      go_wp2
      go_ret
      exact ⟨rfl, OwnF.mk HG.out hBg hcap hcm hsz HALL.out, hgr⟩
set_option maxRecDepth 20000 in
set_option maxHeartbeats 4000000 in
theorem markFils_none (a : Option Addr) (c : Nat) (z : Nat) (w : World) : Calls Tryz.prog 29 #[.slice a 0 c, .int .i64 (z : Int)] w fun e w' => e = .returned (.int .i64 (z : Int)) ∧ w' = w := by
  go_enter Tryz.func29, Tryz.ntmps29
  go_wp2
  go_loop [1, 5] (fun k i => k = .int .i64 (z : Int) ∧ i = .int .i64 0) (fun _ _ => 0)
  case atStart => exact ⟨rfl, rfl⟩
  case round =>
    obtain ⟨rfl, rfl⟩ := hrel
    go_wp2
    go_ret
    exact ⟨rfl, rfl⟩
theorem markFils (B n cap z : Nat) (a : Option Addr) (F : Nat → Fil) (w : World) (h : OwnF w B (.slice a n cap) n F) (hn : n ≤ 2097152) (hz0 : 0 < z) (hz : z ≤ 1048577) :
    Calls Tryz.prog 29 #[.slice a n cap, .int .i64 (z : Int)] w fun e w' => e = .returned (.int .i64 ((z + 3 * n : Nat) : Int)) ∧ OwnF w' B (.slice a n cap) n (MF z) ∧ w.grownBy w' (Value.slice a n cap).ownBlock := by
  have h' := h
  rcases h.2 with ⟨e, rfl⟩ | ⟨g, cap', cur, e, h2⟩
  · simp only [Value.slice.injEq, true_and] at e
    obtain ⟨rfl, rfl⟩ := e
    refine (markFils_none none 0 z w).mono ?_
    rintro e w' ⟨rfl, rfl⟩
    exact ⟨rfl, ⟨rfl, Or.inl ⟨rfl, rfl⟩⟩, grown_refl _ _⟩
  · simp only [Value.slice.injEq, true_and] at e
    obtain ⟨rfl, rfl⟩ := e
    exact markFils_some B g n cap z F w h' hn hz0 hz
set_option maxRecDepth 20000 in
set_option maxHeartbeats 4000000 in
theorem heldFils (a : Option Addr) (n c z : Nat) (w : World) (h : FL w a n (MF z)) (hn : n ≤ 2097152) (hz0 : 0 < z) (hz : z ≤ 1048577) :
    Calls Tryz.prog 31 #[.slice a n c, .int .i64 (z : Int)] w fun e w' => e = .returned (.int .i64 ((z + 3 * n : Nat) : Int)) ∧ Below w.heap.size w w' := by
  have hb0 := Below.refl w.heap.size w
  go_enter Tryz.func31, Tryz.ntmps31
  go_wp2
  go_loopw [1, 5] (fun k i wr => ∃ j : Nat, j ≤ n ∧ k = .int .i64 ((z + 3 * j : Nat) : Int) ∧ i = .int .i64 j ∧ Below w.heap.size w wr) (fun _ i _ => n - (intOf i).toNat)
  case atStart => exact ⟨0, by omega, rfl, rfl, hb0⟩
  case round =>
    obtain ⟨j, hj, rfl, rfl, hb⟩ := hrel
    by_cases hlt : j < n
    · obtain ⟨b, off, rfl, c0, c1, c2⟩ := h.later hb j hlt
      have hjn : (j : Int) < n := by omega
      obtain ⟨y0, hy0⟩ : ∃ y, mtx (z + 3 * j) = y := ⟨_, rfl⟩
      obtain ⟨y1, hy1⟩ : ∃ y, mtx (z + 3 * j + 1) = y := ⟨_, rfl⟩
      rw [show (MF z j).s = y0 from hy0] at c0
      rw [show (MF z j).d = y1 from hy1] at c1
      rw [show (MF z j).y = ((z + 3 * j + 2 : Nat) : Int) from rfl] at c2
      have HY0 : Hid (mtx (z + 3 * j) = y0) := hy0
      have HY1 : Hid (mtx (z + 3 * j + 1) = y1) := hy1
      clear hy0 hy1
      have e0 := eqS_same y0
      have e1 := eqS_same y1
      go_wp2
      refine wp_region_held_drew (S := fun x => Below wr.heap.size wr x) (by kernel_rfl) (bdrew1 _) (fun hHeld => ?_)
      refine' wpAnyH_take (i := 0) (oi := ({ dst := some 12, op := Op.move (Operand.tmp 0), type := 26, pos := "exact.go:971", after := #[], guard := none } : Oper)) (v := _) rfl (by kernel_rfl) (by kernel_rfl) (by kernel_rfl) (fun _ _ _ h => h) (Or.inl ⟨by rfl, fun x hSw => ?hyz1_0⟩) hHeld ?restz1_0
      case hyz1_0 =>
        have k0 := keepB hSw c0; have k1 := keepB hSw c1; have k2 := keepB hSw c2
        go_simp
        try with_reducible rfl
      try simp only [Act.put, List.setIfInBounds_toArray, List.set_cons_zero, List.set_cons_succ]
      refine' wpAnyH_take (i := 1) (oi := ({ dst := some 13, op := Op.move (Operand.tmp 5), type := 3, pos := "exact.go:971", after := #[], guard := none } : Oper)) (v := _) rfl (by kernel_rfl) (by kernel_rfl) (by kernel_rfl) (fun _ _ _ h => h) (Or.inl ⟨by rfl, fun x hSw => ?hyz1_1⟩) hHeld ?restz1_1
      case hyz1_1 =>
        have k0 := keepB hSw c0; have k1 := keepB hSw c1; have k2 := keepB hSw c2
        go_simp
        try with_reducible rfl
      try simp only [Act.put, List.setIfInBounds_toArray, List.set_cons_zero, List.set_cons_succ]
      refine' wpAnyH_take (i := 2) (oi := ({ dst := some 14, op := Op.indexAddr 26 (Operand.tmp 12) (Operand.tmp 13), type := 0, pos := "exact.go:971", after := #[{ on := 0, ground := Ground.data }, { on := 1, ground := Ground.data }], guard := none } : Oper)) (v := _) rfl (by kernel_rfl) (by kernel_rfl) (by kernel_rfl) (fun _ _ _ h => h) (Or.inl ⟨by rfl, fun x hSw => ?hyz1_2⟩) hHeld ?restz1_2
      case hyz1_2 =>
        have k0 := keepB hSw c0; have k1 := keepB hSw c1; have k2 := keepB hSw c2
        go_simp
        try with_reducible rfl
      try simp only [Act.put, List.setIfInBounds_toArray, List.set_cons_zero, List.set_cons_succ]
      refine' wpAnyH_take (i := 3) (oi := ({ dst := some 15, op := Op.fieldAddr 49 (Operand.tmp 14) 0, type := 0, pos := "exact.go:971", after := #[{ on := 2, ground := Ground.data }], guard := none } : Oper)) (v := _) rfl (by kernel_rfl) (by kernel_rfl) (by kernel_rfl) (fun _ _ _ h => h) (Or.inl ⟨by rfl, fun x hSw => ?hyz1_3⟩) hHeld ?restz1_3
      case hyz1_3 =>
        have k0 := keepB hSw c0; have k1 := keepB hSw c1; have k2 := keepB hSw c2
        go_simp
        try with_reducible rfl
      try simp only [Act.put, List.setIfInBounds_toArray, List.set_cons_zero, List.set_cons_succ]
      refine' wpAnyH_take (i := 4) (oi := ({ dst := some 16, op := Op.load 9 (Operand.tmp 15), type := 9, pos := "exact.go:971", after := #[{ on := 3, ground := Ground.data }], guard := none } : Oper)) (v := _) rfl (by kernel_rfl) (by kernel_rfl) (by kernel_rfl) (fun _ _ _ h => h) (Or.inl ⟨by rfl, fun x hSw => ?hyz1_4⟩) hHeld ?restz1_4
      case hyz1_4 =>
        have k0 := keepB hSw c0; have k1 := keepB hSw c1; have k2 := keepB hSw c2
        go_simp
        try with_reducible rfl
      try simp only [Act.put, List.setIfInBounds_toArray, List.set_cons_zero, List.set_cons_succ]
      refine' wpAnyH_take (i := 5) (oi := ({ dst := some 17, op := Op.move (Operand.tmp 1), type := 3, pos := "exact.go:971", after := #[], guard := none } : Oper)) (v := _) rfl (by kernel_rfl) (by kernel_rfl) (by kernel_rfl) (fun _ _ _ h => h) (Or.inl ⟨by rfl, fun x hSw => ?hyz1_5⟩) hHeld ?restz1_5
      case hyz1_5 =>
        have k0 := keepB hSw c0; have k1 := keepB hSw c1; have k2 := keepB hSw c2
        go_simp
        try with_reducible rfl
      try simp only [Act.put, List.setIfInBounds_toArray, List.set_cons_zero, List.set_cons_succ]
      refine wpAnyH_ready (rs := [6]) (by kernel_rfl) (by simp) ?_
      refine AllReadyH.cons (o := ({ dst := some 18, op := Op.call { callee := Callee.value (Operand.func 30), args := #[Operand.tmp 17], argTypes := #[3] }, type := 9, pos := "exact.go:971", after := #[{ on := 5, ground := Ground.data }], guard := none } : Oper)) rfl (fun K hK => ?_) AllReadyH.nil
      go_simp
      refine (markText_as (z + 3 * j) _ _ (by first | rfl | omega) (by omega) (by omega) y0 HY0.out).mono ?_
      rintro e w2 ⟨rfl, hb2⟩
      refine hK.out _ _ (bstep hHeld hb2) (fun hHeld => ?_)
      clear hK K
      try simp only [Act.put, List.setIfInBounds_toArray, List.set_cons_zero, List.set_cons_succ]
      refine' wpAnyH_take (i := 7) (oi := ({ dst := some 19, op := Op.binOp BinOp.neq 9 (Operand.tmp 16) (Operand.tmp 18) 9, type := 4, pos := "exact.go:971", after := #[{ on := 4, ground := Ground.data }, { on := 6, ground := Ground.data }], guard := none } : Oper)) (v := _) rfl (by kernel_rfl) (by kernel_rfl) (by kernel_rfl) (fun _ _ _ h => h) (Or.inl ⟨by rfl, fun x hSw => ?hyz1_7⟩) hHeld ?restz1_7
      case hyz1_7 =>
        have k0 := keepB hSw c0; have k1 := keepB hSw c1; have k2 := keepB hSw c2
        go_simp
        try with_reducible rfl
      try simp only [Act.put, List.setIfInBounds_toArray, List.set_cons_zero, List.set_cons_succ]
      refine wpAnyH_done (by kernel_rfl) ?_ _
      have hH2 := hHeld
      go_wp2
      refine wp_region_held_drew (S := fun x => Below wr.heap.size wr x) (by kernel_rfl) (bstep hH2 (bdrew1 _)) (fun hHeld => ?_)
      refine' wpAnyH_take (i := 0) (oi := ({ dst := some 22, op := Op.move (Operand.tmp 0), type := 26, pos := "exact.go:975", after := #[], guard := none } : Oper)) (v := _) rfl (by kernel_rfl) (by kernel_rfl) (by kernel_rfl) (fun _ _ _ h => h) (Or.inl ⟨by rfl, fun x hSw => ?hyz2_0⟩) hHeld ?restz2_0
      case hyz2_0 =>
        have k0 := keepB hSw c0; have k1 := keepB hSw c1; have k2 := keepB hSw c2
        go_simp
        try with_reducible rfl
      try simp only [Act.put, List.setIfInBounds_toArray, List.set_cons_zero, List.set_cons_succ]
      refine' wpAnyH_take (i := 1) (oi := ({ dst := some 23, op := Op.move (Operand.tmp 5), type := 3, pos := "exact.go:975", after := #[], guard := none } : Oper)) (v := _) rfl (by kernel_rfl) (by kernel_rfl) (by kernel_rfl) (fun _ _ _ h => h) (Or.inl ⟨by rfl, fun x hSw => ?hyz2_1⟩) hHeld ?restz2_1
      case hyz2_1 =>
        have k0 := keepB hSw c0; have k1 := keepB hSw c1; have k2 := keepB hSw c2
        go_simp
        try with_reducible rfl
      try simp only [Act.put, List.setIfInBounds_toArray, List.set_cons_zero, List.set_cons_succ]
      refine' wpAnyH_take (i := 2) (oi := ({ dst := some 24, op := Op.indexAddr 26 (Operand.tmp 22) (Operand.tmp 23), type := 0, pos := "exact.go:975", after := #[{ on := 0, ground := Ground.data }, { on := 1, ground := Ground.data }], guard := none } : Oper)) (v := _) rfl (by kernel_rfl) (by kernel_rfl) (by kernel_rfl) (fun _ _ _ h => h) (Or.inl ⟨by rfl, fun x hSw => ?hyz2_2⟩) hHeld ?restz2_2
      case hyz2_2 =>
        have k0 := keepB hSw c0; have k1 := keepB hSw c1; have k2 := keepB hSw c2
        go_simp
        try with_reducible rfl
      try simp only [Act.put, List.setIfInBounds_toArray, List.set_cons_zero, List.set_cons_succ]
      refine' wpAnyH_take (i := 3) (oi := ({ dst := some 25, op := Op.fieldAddr 49 (Operand.tmp 24) 1, type := 0, pos := "exact.go:975", after := #[{ on := 2, ground := Ground.data }], guard := none } : Oper)) (v := _) rfl (by kernel_rfl) (by kernel_rfl) (by kernel_rfl) (fun _ _ _ h => h) (Or.inl ⟨by rfl, fun x hSw => ?hyz2_3⟩) hHeld ?restz2_3
      case hyz2_3 =>
        have k0 := keepB hSw c0; have k1 := keepB hSw c1; have k2 := keepB hSw c2
        go_simp
        try with_reducible rfl
      try simp only [Act.put, List.setIfInBounds_toArray, List.set_cons_zero, List.set_cons_succ]
      refine' wpAnyH_take (i := 4) (oi := ({ dst := some 26, op := Op.load 9 (Operand.tmp 25), type := 9, pos := "exact.go:975", after := #[{ on := 3, ground := Ground.data }], guard := none } : Oper)) (v := _) rfl (by kernel_rfl) (by kernel_rfl) (by kernel_rfl) (fun _ _ _ h => h) (Or.inl ⟨by rfl, fun x hSw => ?hyz2_4⟩) hHeld ?restz2_4
      case hyz2_4 =>
        have k0 := keepB hSw c0; have k1 := keepB hSw c1; have k2 := keepB hSw c2
        go_simp
        try with_reducible rfl
      try simp only [Act.put, List.setIfInBounds_toArray, List.set_cons_zero, List.set_cons_succ]
      refine' wpAnyH_take (i := 5) (oi := ({ dst := some 27, op := Op.move (Operand.tmp 1), type := 3, pos := "exact.go:975", after := #[], guard := none } : Oper)) (v := _) rfl (by kernel_rfl) (by kernel_rfl) (by kernel_rfl) (fun _ _ _ h => h) (Or.inl ⟨by rfl, fun x hSw => ?hyz2_5⟩) hHeld ?restz2_5
      case hyz2_5 =>
        have k0 := keepB hSw c0; have k1 := keepB hSw c1; have k2 := keepB hSw c2
        go_simp
        try with_reducible rfl
      try simp only [Act.put, List.setIfInBounds_toArray, List.set_cons_zero, List.set_cons_succ]
      refine wpAnyH_ready (rs := [6]) (by kernel_rfl) (by simp) ?_
      refine AllReadyH.cons (o := ({ dst := some 28, op := Op.call { callee := Callee.value (Operand.func 30), args := #[Operand.tmp 27], argTypes := #[3] }, type := 9, pos := "exact.go:975", after := #[{ on := 5, ground := Ground.data }], guard := none } : Oper)) rfl (fun K hK => ?_) AllReadyH.nil
      go_simp
      refine (markText_as (z + 3 * j + 1) _ _ (by first | rfl | omega) (by omega) (by omega) y1 HY1.out).mono ?_
      rintro e w3 ⟨rfl, hb3⟩
      refine hK.out _ _ (bstep hHeld hb3) (fun hHeld => ?_)
      clear hK K
      try simp only [Act.put, List.setIfInBounds_toArray, List.set_cons_zero, List.set_cons_succ]
      refine' wpAnyH_take (i := 7) (oi := ({ dst := some 29, op := Op.binOp BinOp.neq 9 (Operand.tmp 26) (Operand.tmp 28) 9, type := 4, pos := "exact.go:975", after := #[{ on := 4, ground := Ground.data }, { on := 6, ground := Ground.data }], guard := none } : Oper)) (v := _) rfl (by kernel_rfl) (by kernel_rfl) (by kernel_rfl) (fun _ _ _ h => h) (Or.inl ⟨by rfl, fun x hSw => ?hyz2_7⟩) hHeld ?restz2_7
      case hyz2_7 =>
        have k0 := keepB hSw c0; have k1 := keepB hSw c1; have k2 := keepB hSw c2
        go_simp
        try with_reducible rfl
      try simp only [Act.put, List.setIfInBounds_toArray, List.set_cons_zero, List.set_cons_succ]
      refine wpAnyH_done (by kernel_rfl) ?_ _
      have k2 := keepB hHeld c2
      go_wp2
      go_roundw
      case rel => exact ⟨j + 1, by omega, by go_num, by go_num, bstep hb hHeld⟩
      case measure => simp [intOf]; omega
    · obtain rfl : j = n := by omega
      go_wp2
      go_ret
      exact ⟨rfl, hb⟩
set_option maxRecDepth 20000 in
set_option maxHeartbeats 4000000 in
theorem markStrs_z (B g n cap z : Nat) (xs : List Value) (w : World) (h : w.ownsRow B 9 1 (.slice (some ⟨g, 0, none⟩) n cap) n xs) (hn : n ≤ 2097152) (hz0 : 0 < z) (hz : z ≤ 5000000) :
    Calls Tryz.prog 12 #[.slice (some ⟨g, 0, none⟩) n cap, .int .i64 (z : Int)] w fun e w' => e = .returned (.int .i64 ((z + n : Nat) : Int)) ∧ w.grownBy w' (some g) := by
  obtain ⟨cur0, hg0, hcs⟩ : ∃ cur, w.heap[g]? = some (.cells cur 9 (0, 0)) ∧ n ≤ cur.size := by
    rcases h.2 with ⟨h0, _⟩ | ⟨g', cap', cur, hv, hb, hg, hn, hc, hs, ht⟩
    · simp at h0
    · simp at hv
      obtain ⟨rfl, rfl⟩ := hv
      exact ⟨cur, hg, by omega⟩
  clear h
  go_enter Tryz.func12, Tryz.ntmps12
  go_wp2
  go_loopw [1, 5] (fun k i wr => ∃ (j : Nat) (cur : Array Value), j ≤ n ∧ k = .int .i64 ((z + j : Nat) : Int) ∧ i = .int .i64 j ∧ wr.heap[g]? = some (.cells cur 9 (0, 0)) ∧ n ≤ cur.size ∧ w.grownBy wr (some g)) (fun _ i _ => n - (intOf i).toNat)
  case atStart => exact ⟨0, cur0, by omega, rfl, rfl, hg0, hcs, grown_refl _ _⟩
  case round =>
    obtain ⟨j, cur, hj, rfl, rfl, hg, hsz, hgr⟩ := hrel
    have HG : Hid (wr.heap[g]? = some (.cells cur 9 (0, 0))) := hg
    clear hg
    by_cases hlt : j < n
    · obtain ⟨y0, hy0⟩ : ∃ y, mtx (z + j) = y := ⟨_, rfl⟩
      have HY0 : Hid (mtx (z + j) = y0) := hy0
      clear hy0
      obtain ⟨v0, hv0⟩ := there (A := cur) (k := j) (by omega)
      have HV : Hid (cur[j]? = some v0) := hv0
      clear hv0
      go_wp2_with (go_at_call 30; refine (markText_as (z + j) _ _ (by first | rfl | omega) (by omega) (by omega) y0 HY0.out).mono ?_; rintro e w2 ⟨rfl, hb2⟩; have HG2 : Hid (w2.heap[g]? = some (.cells cur 9 (0, 0))) := rowL HG.out hb2; have c0 : w2.cell? ⟨g, j, none⟩ = some v0 := (cell_of_row _ _ _ _ _ _ HG2.out).trans HV.out; have f0 : w2.frozen? ⟨g, j, none⟩ = false := frozen_of_row _ _ _ _ _ HG2.out)
      go_roundw
      case rel => exact ⟨j + 1, _, by omega, by go_num, by go_num, heap_setCell_same _ _ _ _ _ _ HG2.out, by simpa using hsz, grown_step hgr hb2⟩
      case measure => simp [intOf]; omega
    · obtain rfl : j = n := by omega
      go_wp2
      go_ret
      exact ⟨rfl, hgr⟩
set_option maxRecDepth 20000 in
set_option maxHeartbeats 4000000 in
theorem markFs_any (B n cap z : Nat) (a : Option Addr) (F : Nat → Fil) (x1 x2 x3 x4 : Int) (x5 : Bool) (w : World) (h : OwnF w B (.slice a n cap) n F) (hn : n ≤ 2097152) (hz0 : 0 < z) (hz : z ≤ 1048577) :
    Calls Tryz.prog 11 #[.agg #[.slice a n cap, .int .i64 x1, .int .i64 x2, .int .i64 x3, .int .i64 x4, .bool x5], .int .i64 (z : Int)] w fun e w' => e = .returned (.int .i64 ((z + 3 * n : Nat) : Int)) ∧ OwnF w' B (.slice a n cap) n (MF z) ∧ w.grownBy w' (Value.slice a n cap).ownBlock := by
  have hb0 := bal w (.cells #[.slice a n cap, .int .i64 x1, .int .i64 x2, .int .i64 x3, .int .i64 x4, .bool x5] 28)
  go_enter Tryz.func11, Tryz.ntmps11
  go_wp2_with (go_at_call 29; refine (markFils B n cap z a F _ (h.later hb0) hn hz0 hz).mono ?_; rintro e w1 ⟨rfl, hO1, hg1⟩)
  go_ret
  exact ⟨rfl, hO1, ⟨hg1.os.trans hb0.os, hg1.tape.trans hb0.tape, hg1.output.trans hb0.output, Nat.le_trans hb0.size hg1.size, fun k hk hne => (hg1.block k (Nat.lt_of_lt_of_le hk hb0.size) hne).trans (hb0.block k hk)⟩⟩
set_option maxRecDepth 20000 in
set_option maxHeartbeats 4000000 in
theorem heldFs_any (n cap z : Nat) (a : Option Addr) (x1 x2 x3 x4 : Int) (x5 : Bool) (w : World) (h : FL w a n (MF z)) (hn : n ≤ 2097152) (hz0 : 0 < z) (hz : z ≤ 1048577) :
    Calls Tryz.prog 13 #[.agg #[.slice a n cap, .int .i64 x1, .int .i64 x2, .int .i64 x3, .int .i64 x4, .bool x5], .int .i64 (z : Int)] w fun e w' => e = .returned (.int .i64 ((z + 3 * n : Nat) : Int)) ∧ Below w.heap.size w w' := by
  have hb0 := bal w (.cells #[.slice a n cap, .int .i64 x1, .int .i64 x2, .int .i64 x3, .int .i64 x4, .bool x5] 28)
  go_enter Tryz.func13, Tryz.ntmps13
  go_wp2_with (go_at_call 31; refine (heldFils a n cap z _ (h.later hb0) hn hz0 hz).mono ?_; rintro e w1 ⟨rfl, hb1⟩)
  go_ret
  exact ⟨rfl, bstep hb0 hb1⟩
/-- What an answer is made of. -/
def Ans (n : Nat) (F : Nat → Fil) (x1 x2 x3 x4 : Int) (rn : Nat) (r1 r2 : Int) : Prop := (okFs n F x1 x2 x3 x4 = true ∧ rn = n ∧ r1 = x1 ∧ r2 = x2) ∨ (okFs n F x1 x2 x3 x4 = false ∧ rn = 0 ∧ r1 = 0 ∧ r2 = 0)
theorem Ans.there (n : Nat) (F : Nat → Fil) (x1 x2 x3 x4 : Int) : ∃ rn r1 r2, Ans n F x1 x2 x3 x4 rn r1 r2 := by
  rcases h : okFs n F x1 x2 x3 x4
  · exact ⟨0, 0, 0, Or.inr ⟨h, rfl, rfl, rfl⟩⟩
  · exact ⟨n, x1, x2, Or.inl ⟨h, rfl, rfl, rfl⟩⟩
theorem sl_of {w : World} {B g n cap : Nat} {S : Nat → ByteArray} (h : w.ownsRow B 9 1 (.slice (some ⟨g, 0, none⟩) n cap) n (strs S n)) (hn : n ≤ 2097152) (hs : ∀ k, k < n → (S k).size ≤ 2097152) : Sl w (some ⟨g, 0, none⟩) n S :=
  ⟨by omega, fun k hk => ⟨by have := hs k hk; omega, g, 0, rfl, by rw [Nat.zero_add]; exact own_cell h k _ (strs_get _ _ _ hk)⟩⟩
theorem rowG {w w' : World} {q : Nat} {r : Option Nat} {o : Obj} (h : w.heap[q]? = some o) (hg : w.grownBy w' r) (hne : some q ≠ r) : w'.heap[q]? = some o := (hg.block q (Array.getElem?_eq_some_iff.1 h).1 hne).trans h
end Go.Proofs.YtngppfjphbodcaaGreatDoor
