/-
  FsCrash: the program's side.
-/
import Derived.Test.YtdbcihebhgpblaaKb
import Derived.Test.YtdbcihebhgpblaaKc
namespace Go.Proofs.Ytdbcihebhgpblaa
open Go.RowKit
def tlOf (m : Nat) (T : Nat → ByteArray) (k : Nat) : ByteArray := if k < m then T k else ByteArray.empty
/-- The files behind a crash. -/
def crF (F : Nat → Fil) (m : Nat) (T : Nat → ByteArray) : Nat → Fil := fun k => ⟨(F k).s, crD (F k).d (F k).y (tlOf m T k), ((crD (F k).d (F k).y (tlOf m T k)).size : Int)⟩
theorem OwnF.cur {w : World} {B n cap g : Nat} {F : Nat → Fil} (h : OwnF w B (.slice (some ⟨g, 0, none⟩) n cap) n F) : ∃ cur, w.heap[g]? = some (.cells cur 69 (0, 0)) ∧ B ≤ g ∧ n ≤ cap ∧ cap ≤ maxLen ∧ cur.size = cap * 3 ∧ ∀ k, k < n → cur[k * 3]? = some (.string (F k).s) ∧ cur[k * 3 + 1]? = some (.string (F k).d) ∧ cur[k * 3 + 2]? = some (.int .i64 (F k).y) := by
  rcases h.2 with ⟨e, _⟩ | ⟨g', cap', cur, e, hB, hg, hc, hm, hs, ht⟩
  · cases e
  · simp only [Value.slice.injEq, Option.some.injEq, Addr.mk.injEq, and_true, true_and] at e
    obtain ⟨rfl, rfl⟩ := e
    have key : ∀ j, j < n * 3 → cur[j]? = (flat n F)[j]? := fun j hj => by
      have h1 : (cur.toList.take (n * 3))[j]? = (flatL n F)[j]? := by rw [ht]
      rw [List.getElem?_take, if_pos hj] at h1
      simpa [flatL] using h1
    exact ⟨cur, hg, hB, hc, hm, hs, fun k hk => ⟨by rw [key _ (by omega)]; exact flat0 F hk, by rw [key _ (by omega)]; exact flat1 F hk, by rw [key _ (by omega)]; exact flat2 F hk⟩⟩
theorem OwnF.mk {w : World} {B n cap g : Nat} {F : Nat → Fil} {cur : Array Value} (hg : w.heap[g]? = some (.cells cur 69 (0, 0))) (hB : B ≤ g) (hc : n ≤ cap) (hm : cap ≤ maxLen) (hs : cur.size = cap * 3)
    (hall : ∀ k, k < n → cur[k * 3]? = some (.string (F k).s) ∧ cur[k * 3 + 1]? = some (.string (F k).d) ∧ cur[k * 3 + 2]? = some (.int .i64 (F k).y)) : OwnF w B (.slice (some ⟨g, 0, none⟩) n cap) n F := by
  refine ⟨flatL_len n F, Or.inr ⟨g, cap, cur, rfl, hB, hg, hc, hm, hs, ?_⟩⟩
  have e : cur.extract 0 (n * 3) = flat n F := by
    apply flat_of
    · simp; omega
    · intro k hk
      obtain ⟨h0, h1, h2⟩ := hall k hk
      refine ⟨?_, ?_, ?_⟩
      · rw [Array.getElem?_extract]; simp; exact ⟨by omega, h0⟩
      · rw [Array.getElem?_extract]; simp; exact ⟨by omega, h1⟩
      · rw [Array.getElem?_extract]; simp; exact ⟨by omega, h2⟩
  unfold flatL
  rw [← e]
  simp
theorem okFl_of {n : Nat} {F : Nat → Fil} {x1 x2 x3 x4 : Int} (h : okFs n F x1 x2 x3 x4 = true) (k : Nat) (hk : k < n) : 0 ≤ (F k).y ∧ (F k).y ≤ (F k).d.size := by
  have h1 := okFs_split n F x1 x2 x3 x4
  rw [h] at h1
  have h2 : allN n (okFl F) = true := by
    rcases hh : allN n (okFl F)
    · rw [hh] at h1; simp at h1
    · rfl
  unfold allN at h2
  rw [List.all_eq_true] at h2
  have h3 := h2 k (by simpa using hk)
  simp [okFl, btw] at h3
  omega
theorem okFs_n {n : Nat} {F : Nat → Fil} {x1 x2 x3 x4 : Int} (h : okFs n F x1 x2 x3 x4 = true) : n ≤ 300 := by
  simp [okFs] at h
  omega
theorem set6_row {V : World} {Q : Nat} {t : TypeId} {z0 z1 z2 z3 z4 z5 : Value} (v0 v1 v2 v3 v4 v5 : Value) (h : V.heap[Q]? = some (.cells #[z0, z1, z2, z3, z4, z5] t (0, 0))) :
    ((((((V.setCell ⟨Q, 0, none⟩ v0).setCell ⟨Q, 1, none⟩ v1).setCell ⟨Q, 2, none⟩ v2).setCell ⟨Q, 3, none⟩ v3).setCell ⟨Q, 4, none⟩ v4).setCell ⟨Q, 5, none⟩ v5).heap[Q]? = some (.cells #[v0, v1, v2, v3, v4, v5] t (0, 0)) :=
  heap_setCell_same _ _ 5 _ _ _ (heap_setCell_same _ _ 4 _ _ _ (heap_setCell_same _ _ 3 _ _ _ (heap_setCell_same _ _ 2 _ _ _ (heap_setCell_same _ _ 1 _ _ _ (heap_setCell_same _ _ 0 _ _ _ h)))))
theorem set6_oth {V : World} {Q P : Nat} {o : Obj} (v0 v1 v2 v3 v4 v5 : Value) (h : V.heap[P]? = some o) (hne : P ≠ Q) :
    ((((((V.setCell ⟨Q, 0, none⟩ v0).setCell ⟨Q, 1, none⟩ v1).setCell ⟨Q, 2, none⟩ v2).setCell ⟨Q, 3, none⟩ v3).setCell ⟨Q, 4, none⟩ v4).setCell ⟨Q, 5, none⟩ v5).heap[P]? = some o :=
  rowO (rowO (rowO (rowO (rowO (rowO h hne) hne) hne) hne) hne) hne
theorem set6_below {w V : World} {Q : Nat} (v0 v1 v2 v3 v4 v5 : Value) (h : Below w.heap.size w V) (hQ : w.heap.size ≤ Q) :
    Below w.heap.size w ((((((V.setCell ⟨Q, 0, none⟩ v0).setCell ⟨Q, 1, none⟩ v1).setCell ⟨Q, 2, none⟩ v2).setCell ⟨Q, 3, none⟩ v3).setCell ⟨Q, 4, none⟩ v4).setCell ⟨Q, 5, none⟩ v5) :=
  bset (bset (bset (bset (bset (bset h hQ) hQ) hQ) hQ) hQ) hQ
set_option maxRecDepth 20000 in
set_option maxHeartbeats 8000000 in
theorem iCrashNo (a : Option Addr) (n c : Nat) (F : Nat → Fil) (x1 x2 x3 x4 : Int) (x5 : Bool) (a' : Option Addr) (m c' : Nat) (w : World) (h : FL w a n F) (hS : Small n F) (hv : okFs n F x1 x2 x3 x4 = false) :
    Calls Try.prog 24 #[.agg #[.slice a n c, .int .i64 x1, .int .i64 x2, .int .i64 x3, .int .i64 x4, .bool x5], .slice a' m c'] w fun e w' => e = .returned (.agg #[.slice none 0 0, .int .i64 0, .int .i64 0, .int .i64 0, .int .i64 0, .bool false]) ∧ Below w.heap.size w w' := by
  have hb0 : Below w.heap.size w ((w.alloc (.cells #[.slice a n c, .int .i64 x1, .int .i64 x2, .int .i64 x3, .int .i64 x4, .bool x5] 36)).alloc (.cells #[.slice none 0 0, .int .i64 0, .int .i64 0, .int .i64 0, .int .i64 0, .bool false] 36)) := bstep (bal _ _) (bal _ _)
  have hR := heap_alloc_new (w.alloc (.cells #[.slice a n c, .int .i64 x1, .int .i64 x2, .int .i64 x3, .int .i64 x4, .bool x5] 36)) (.cells #[.slice none 0 0, .int .i64 0, .int .i64 0, .int .i64 0, .int .i64 0, .bool false] 36)
  rw [World.size_alloc] at hR
  go_enter Try.func24, Try.ntmps24
  go_wp2_with (go_at_call 19; refine (iValid a n c F x1 x2 x3 x4 x5 _ (h.later hb0) hS).mono ?_; rw [hv]; rintro e w1 ⟨rfl, hb1⟩; have hR1 := rowL hR hb1; have gc0 : w1.cell? ⟨w.heap.size + 1, 0, none⟩ = some (.slice none 0 0) := (cell_of_row _ _ 0 _ _ _ hR1).trans rfl; have gf0 : w1.frozen? ⟨w.heap.size + 1, 0, none⟩ = false := frozen_of_row _ _ 0 _ _ hR1; have gc1 : w1.cell? ⟨w.heap.size + 1, 1, none⟩ = some (.int .i64 0) := (cell_of_row _ _ 1 _ _ _ hR1).trans rfl; have gf1 : w1.frozen? ⟨w.heap.size + 1, 1, none⟩ = false := frozen_of_row _ _ 1 _ _ hR1; have gc2 : w1.cell? ⟨w.heap.size + 1, 2, none⟩ = some (.int .i64 0) := (cell_of_row _ _ 2 _ _ _ hR1).trans rfl; have gf2 : w1.frozen? ⟨w.heap.size + 1, 2, none⟩ = false := frozen_of_row _ _ 2 _ _ hR1; have gc3 : w1.cell? ⟨w.heap.size + 1, 3, none⟩ = some (.int .i64 0) := (cell_of_row _ _ 3 _ _ _ hR1).trans rfl; have gf3 : w1.frozen? ⟨w.heap.size + 1, 3, none⟩ = false := frozen_of_row _ _ 3 _ _ hR1; have gc4 : w1.cell? ⟨w.heap.size + 1, 4, none⟩ = some (.int .i64 0) := (cell_of_row _ _ 4 _ _ _ hR1).trans rfl; have gf4 : w1.frozen? ⟨w.heap.size + 1, 4, none⟩ = false := frozen_of_row _ _ 4 _ _ hR1; have gc5 : w1.cell? ⟨w.heap.size + 1, 5, none⟩ = some (.bool false) := (cell_of_row _ _ 5 _ _ _ hR1).trans rfl; have gf5 : w1.frozen? ⟨w.heap.size + 1, 5, none⟩ = false := frozen_of_row _ _ 5 _ _ hR1)
  refine bodyPost_ret (v := .agg #[.slice none 0 0, .int .i64 0, .int .i64 0, .int .i64 0, .int .i64 0, .bool false]) (results_cell_row Try.results24 _ _ (w.heap.size + 1) 36 _ (0, 0) _ rfl (set6_row _ _ _ _ _ _ hR1) Try.underlying36 rfl (by kernel_rfl)) rfl ⟨rfl, set6_below _ _ _ _ _ _ (bstep hb0 hb1) (by omega)⟩
set_option maxRecDepth 20000 in
set_option maxHeartbeats 8000000 in
theorem iCrashYes (b off n c : Nat) (F : Nat → Fil) (x1 x2 x3 x4 : Int) (x5 : Bool) (a' : Option Addr) (m c' : Nat) (T : Nat → ByteArray) (w : World) (h : FL w (some ⟨b, off, none⟩) n F) (hS : Small n F) (hv : okFs n F x1 x2 x3 x4 = true) (hT : Sl w a' m T) (hTs : ∀ k, k < m → (T k).size ≤ 1048576) (hm : m ≤ 1048576) :
    Calls Try.prog 24 #[.agg #[.slice (some ⟨b, off, none⟩) n c, .int .i64 x1, .int .i64 x2, .int .i64 x3, .int .i64 x4, .bool x5], .slice a' m c'] w fun e w' => ∃ g cap, e = .returned (.agg #[.slice (some ⟨g, 0, none⟩) n cap, .int .i64 x1, .int .i64 x2, .int .i64 0, .int .i64 0, .bool false]) ∧ OwnF w' w.heap.size (.slice (some ⟨g, 0, none⟩) n cap) n (crF F m T) ∧ Below w.heap.size w w' := by
  have hn := hS.n
  have hb0 : Below w.heap.size w ((w.alloc (.cells #[.slice (some ⟨b, off, none⟩) n c, .int .i64 x1, .int .i64 x2, .int .i64 x3, .int .i64 x4, .bool x5] 36)).alloc (.cells #[.slice none 0 0, .int .i64 0, .int .i64 0, .int .i64 0, .int .i64 0, .bool false] 36)) := bstep (bal _ _) (bal _ _)
  have hR := heap_alloc_new (w.alloc (.cells #[.slice (some ⟨b, off, none⟩) n c, .int .i64 x1, .int .i64 x2, .int .i64 x3, .int .i64 x4, .bool x5] 36)) (.cells #[.slice none 0 0, .int .i64 0, .int .i64 0, .int .i64 0, .int .i64 0, .bool false] 36)
  rw [World.size_alloc] at hR
  have hX := rowL (heap_alloc_new w (.cells #[.slice (some ⟨b, off, none⟩) n c, .int .i64 x1, .int .i64 x2, .int .i64 x3, .int .i64 x4, .bool x5] 36)) (bal (w.alloc (.cells #[.slice (some ⟨b, off, none⟩) n c, .int .i64 x1, .int .i64 x2, .int .i64 x3, .int .i64 x4, .bool x5] 36)) (.cells #[.slice none 0 0, .int .i64 0, .int .i64 0, .int .i64 0, .int .i64 0, .bool false] 36))
  go_enter Try.func24, Try.ntmps24
  go_upto_region 4 with (first | (go_at_call 19; refine (iValid (some ⟨b, off, none⟩) n c F x1 x2 x3 x4 x5 _ (h.later hb0) hS).mono ?_; rw [hv]; rintro e w1 ⟨rfl, hb1⟩; have hX1 := rowL hX hb1; have uc0 : w1.cell? ⟨w.heap.size, 0, none⟩ = some (.slice (some ⟨b, off, none⟩) n c) := (cell_of_row _ _ 0 _ _ _ hX1).trans rfl; have uc1 : w1.cell? ⟨w.heap.size, 1, none⟩ = some (.int .i64 x1) := (cell_of_row _ _ 1 _ _ _ hX1).trans rfl; have uc2 : w1.cell? ⟨w.heap.size, 2, none⟩ = some (.int .i64 x2) := (cell_of_row _ _ 2 _ _ _ hX1).trans rfl; have uc3 : w1.cell? ⟨w.heap.size, 3, none⟩ = some (.int .i64 x3) := (cell_of_row _ _ 3 _ _ _ hX1).trans rfl; have uc4 : w1.cell? ⟨w.heap.size, 4, none⟩ = some (.int .i64 x4) := (cell_of_row _ _ 4 _ _ _ hX1).trans rfl; have uc5 : w1.cell? ⟨w.heap.size, 5, none⟩ = some (.bool x5) := (cell_of_row _ _ 5 _ _ _ hX1).trans rfl) | (go_at_call 52; refine (iMount b off n c F x1 x2 x3 x4 x5 _ (h.later (bstep hb0 hb1)) hn).mono ?_; rintro e w2 ⟨p, g, cap, rfl, hD2, hO2, hgp, hp, hb2⟩))
  have hR2 := rowL (rowL hR hb1) hb2
  have hc2 := bstep hb0 (bstep hb1 hb2)
  have hw1 : w.heap.size + 1 + 1 ≤ w1.heap.size := by have := hb1.size; simpa using this
  obtain ⟨cur0, hg0, hB0, hcap, hcm, hcs, hall0⟩ := hO2.cur
  have hO2' : Hid (OwnF w2 w1.heap.size (.slice (some ⟨g, 0, none⟩) n cap) n F) := hO2
  clear hO2 uc0 uc1 uc2 uc3 uc4 uc5
  have dc0 : w2.cell? ⟨p, 0, none⟩ = some (.int .i64 x2) := (cell_of_row _ _ 0 _ _ _ hD2).trans rfl
  have df0 : w2.frozen? ⟨p, 0, none⟩ = false := frozen_of_row _ _ 0 _ _ hD2
  have dc1 : w2.cell? ⟨p, 1, none⟩ = some (.int .i64 x3) := (cell_of_row _ _ 1 _ _ _ hD2).trans rfl
  have df1 : w2.frozen? ⟨p, 1, none⟩ = false := frozen_of_row _ _ 1 _ _ hD2
  have dc2 : w2.cell? ⟨p, 2, none⟩ = some (.int .i64 x4) := (cell_of_row _ _ 2 _ _ _ hD2).trans rfl
  have df2 : w2.frozen? ⟨p, 2, none⟩ = false := frozen_of_row _ _ 2 _ _ hD2
  have dc3 : w2.cell? ⟨p, 3, none⟩ = some (.bool x5) := (cell_of_row _ _ 3 _ _ _ hD2).trans rfl
  have df3 : w2.frozen? ⟨p, 3, none⟩ = false := frozen_of_row _ _ 3 _ _ hD2
  have hD3 : DkAt ((((w2.setCell ⟨p, 0, none⟩ (.int .i64 x2)).setCell ⟨p, 1, none⟩ (.int .i64 0)).setCell ⟨p, 2, none⟩ (.int .i64 0)).setCell ⟨p, 3, none⟩ (.bool false)) p (.slice (some ⟨g, 0, none⟩) n cap) x1 x2 0 0 false := heap_setCell_same _ _ 3 _ _ _ (heap_setCell_same _ _ 2 _ _ _ (heap_setCell_same _ _ 1 _ _ _ (heap_setCell_same _ _ 0 _ _ _ hD2)))
  have hg3 : ((((w2.setCell ⟨p, 0, none⟩ (.int .i64 x2)).setCell ⟨p, 1, none⟩ (.int .i64 0)).setCell ⟨p, 2, none⟩ (.int .i64 0)).setCell ⟨p, 3, none⟩ (.bool false)).heap[g]? = some (.cells cur0 69 (0, 0)) := rowO (rowO (rowO (rowO hg0 (by omega)) (by omega)) (by omega)) (by omega)
  have hR3 : ((((w2.setCell ⟨p, 0, none⟩ (.int .i64 x2)).setCell ⟨p, 1, none⟩ (.int .i64 0)).setCell ⟨p, 2, none⟩ (.int .i64 0)).setCell ⟨p, 3, none⟩ (.bool false)).heap[w.heap.size + 1]? = some (.cells #[.slice none 0 0, .int .i64 0, .int .i64 0, .int .i64 0, .int .i64 0, .bool false] 36 (0, 0)) := rowO (rowO (rowO (rowO hR2 (by omega)) (by omega)) (by omega)) (by omega)
  have hc3 : Below w.heap.size w ((((w2.setCell ⟨p, 0, none⟩ (.int .i64 x2)).setCell ⟨p, 1, none⟩ (.int .i64 0)).setCell ⟨p, 2, none⟩ (.int .i64 0)).setCell ⟨p, 3, none⟩ (.bool false)) := bset (bset (bset (bset hc2 (by omega)) (by omega)) (by omega)) (by omega)
  go_upto_region 5 with fail
  obtain ⟨W3, hW3⟩ : ∃ W3, ((((w2.setCell ⟨p, 0, none⟩ (.int .i64 x2)).setCell ⟨p, 1, none⟩ (.int .i64 0)).setCell ⟨p, 2, none⟩ (.int .i64 0)).setCell ⟨p, 3, none⟩ (.bool false)) = W3 := ⟨_, rfl⟩
  rw [hW3] at hD3 hg3 hR3 hc3 ⊢
  clear hW3 dc0 df0 dc1 df1 dc2 df2 dc3 df3
  have hd4 := hD3.box.c4
  go_wp2
  go_loopw [6, 7, 28] (fun _ _ i wr => ∃ (k : Nat) (cur : Array Value), k ≤ n ∧ i = .int .i64 k ∧ wr.heap[g]? = some (.cells cur 69 (0, 0)) ∧ cur.size = cap * 3 ∧ (∀ j, j < k → cur[j * 3]? = some (.string (crF F m T j).s) ∧ cur[j * 3 + 1]? = some (.string (crF F m T j).d) ∧ cur[j * 3 + 2]? = some (.int .i64 (crF F m T j).y)) ∧ (∀ j, k ≤ j → j < n → cur[j * 3]? = some (.string (F j).s) ∧ cur[j * 3 + 1]? = some (.string (F j).d) ∧ cur[j * 3 + 2]? = some (.int .i64 (F j).y)) ∧ DkAt wr p (.slice (some ⟨g, 0, none⟩) n cap) x1 x2 0 0 false ∧ wr.heap[w.heap.size + 1]? = some (.cells #[.slice none 0 0, .int .i64 0, .int .i64 0, .int .i64 0, .int .i64 0, .bool false] 36 (0, 0)) ∧ Below w.heap.size w wr) (fun _ _ i _ => n - (intOf i).toNat)
  case atStart => exact ⟨0, cur0, by omega, rfl, hg3, hcs, fun j hj => by omega, fun j _ hj => hall0 j hj, hD3, hR3, hc3⟩
  case round =>
    obtain ⟨k, cur, hk, rfl, hg, hsz, hpre, hpost, hD, hRr, hb⟩ := hrel
    have HG : Hid (wr.heap[g]? = some (.cells cur 69 (0, 0))) := hg
    have HPRE : Hid (∀ j, j < k → cur[j * 3]? = some (.string (crF F m T j).s) ∧ cur[j * 3 + 1]? = some (.string (crF F m T j).d) ∧ cur[j * 3 + 2]? = some (.int .i64 (crF F m T j).y)) := hpre
    have HPOST : Hid (∀ j, k ≤ j → j < n → cur[j * 3]? = some (.string (F j).s) ∧ cur[j * 3 + 1]? = some (.string (F j).d) ∧ cur[j * 3 + 2]? = some (.int .i64 (F j).y)) := hpost
    have HRr : Hid (wr.heap[w.heap.size + 1]? = some (.cells #[.slice none 0 0, .int .i64 0, .int .i64 0, .int .i64 0, .int .i64 0, .bool false] 36 (0, 0))) := hRr
    have HSZ : Hid (cur.size = cap * 3) := hsz
    clear hg hpre hpost hRr hsz hd4
    have hd4 := hD.box.c4
    by_cases hlt : k < n
    · obtain ⟨y0, y1⟩ := okFl_of hv k hlt
      have z2 := hS.d k hlt
      obtain ⟨q0, q1, q2⟩ := HPOST.out k (Nat.le_refl _) hlt
      have c1 : wr.cell? ⟨g, k * 3 + 1, none⟩ = some (.string (F k).d) := (cell_of_row wr _ _ _ _ _ HG.out).trans q1
      have c2 : wr.cell? ⟨g, k * 3 + 2, none⟩ = some (.int .i64 (F k).y) := (cell_of_row wr _ _ _ _ _ HG.out).trans q2
      have f1 : wr.frozen? ⟨g, k * 3 + 1, none⟩ = false := frozen_of_row wr _ _ _ _ HG.out
      have f2 : wr.frozen? ⟨g, k * 3 + 2, none⟩ = false := frozen_of_row wr _ _ _ _ HG.out
      have hkk : (k : Int) < n := by omega
      by_cases hkm : k < m
      · have hkm' : (k : Int) < m := by omega
        have htl : tlOf m T k = T k := by simp [tlOf, hkm]
        obtain ⟨bt, ot, rfl, ct⟩ := (hT.later hb).at k hkm
        have hcr := iCrash1 g (k * 3) (F k).d (T k) (F k).y wr c1 c2 f1 f2 y0 y1 z2 (hTs k hkm)
        have HCD : Hid ((crF F m T k).d = crD (F k).d (F k).y (T k)) := by show crD _ _ (tlOf m T k) = _; rw [htl]
        have HCY : Hid ((crF F m T k).y = ((crD (F k).d (F k).y (T k)).size : Int)) := by show ((crD _ _ (tlOf m T k)).size : Int) = _; rw [htl]
        clear htl
        obtain ⟨X, hX⟩ : ∃ X, crD (F k).d (F k).y (T k) = X := ⟨_, rfl⟩
        rw [hX] at hcr HCD HCY
        go_wp2_with (go_at_call 53; refine hcr.mono ?_; rintro e w4 ⟨⟨v, rfl⟩, W, hbW, hsW, rfl⟩)
        go_roundw
        case rel =>
          have hgW := rowL HG.out hbW
          refine ⟨k + 1, ((cur.setIfInBounds (k * 3 + 1) (.string X)).setIfInBounds (k * 3 + 2) (.int .i64 (X.size : Int))), by omega, by go_num, heap_setCell_same _ _ _ _ _ _ (heap_setCell_same _ _ _ _ _ _ hgW), by simpa using HSZ.out, fun j hj => ?_, fun j hj hjn => ?_, rowO (rowO (hD.later hbW) (by omega)) (by omega), rowO (rowO (rowL HRr.out hbW) (by omega)) (by omega), bset (bset (bstep hb hbW) (by omega)) (by omega)⟩
          · have hzz := HSZ.out
            by_cases e : j = k
            · subst e
              exact ⟨setA (setA q0 (by omega)) (by omega), by rw [HCD.out]; exact setA (setS (by omega)) (by omega), by rw [HCY.out]; exact setS (by simp only [Array.size_setIfInBounds]; omega)⟩
            · obtain ⟨r0, r1, r2⟩ := HPRE.out j (by omega)
              exact ⟨setA (setA r0 (by omega)) (by omega), setA (setA r1 (by omega)) (by omega), setA (setA r2 (by omega)) (by omega)⟩
          · obtain ⟨r0, r1, r2⟩ := HPOST.out j (by omega) hjn
            exact ⟨setA (setA r0 (by omega)) (by omega), setA (setA r1 (by omega)) (by omega), setA (setA r2 (by omega)) (by omega)⟩
        case measure => simp [intOf]; omega
      · have hkm' : ¬ (k : Int) < m := by omega
        have htl : tlOf m T k = ByteArray.empty := by simp [tlOf, hkm]
        have hcr := iCrash1 g (k * 3) (F k).d ⟨#[]⟩ (F k).y wr c1 c2 f1 f2 y0 y1 z2 (by decide)
        have HCD : Hid ((crF F m T k).d = crD (F k).d (F k).y ⟨#[]⟩) := by show crD _ _ (tlOf m T k) = _; rw [htl]; rfl
        have HCY : Hid ((crF F m T k).y = ((crD (F k).d (F k).y ⟨#[]⟩).size : Int)) := by show ((crD _ _ (tlOf m T k)).size : Int) = _; rw [htl]; rfl
        clear htl
        obtain ⟨X, hX⟩ : ∃ X, crD (F k).d (F k).y ⟨#[]⟩ = X := ⟨_, rfl⟩
        rw [hX] at hcr HCD HCY
        go_wp2_with (go_at_call 53; refine hcr.mono ?_; rintro e w4 ⟨⟨v, rfl⟩, W, hbW, hsW, rfl⟩)
        go_roundw
        case rel =>
          have hgW := rowL HG.out hbW
          refine ⟨k + 1, ((cur.setIfInBounds (k * 3 + 1) (.string X)).setIfInBounds (k * 3 + 2) (.int .i64 (X.size : Int))), by omega, by go_num, heap_setCell_same _ _ _ _ _ _ (heap_setCell_same _ _ _ _ _ _ hgW), by simpa using HSZ.out, fun j hj => ?_, fun j hj hjn => ?_, rowO (rowO (hD.later hbW) (by omega)) (by omega), rowO (rowO (rowL HRr.out hbW) (by omega)) (by omega), bset (bset (bstep hb hbW) (by omega)) (by omega)⟩
          · have hzz := HSZ.out
            by_cases e : j = k
            · subst e
              exact ⟨setA (setA q0 (by omega)) (by omega), by rw [HCD.out]; exact setA (setS (by omega)) (by omega), by rw [HCY.out]; exact setS (by simp only [Array.size_setIfInBounds]; omega)⟩
            · obtain ⟨r0, r1, r2⟩ := HPRE.out j (by omega)
              exact ⟨setA (setA r0 (by omega)) (by omega), setA (setA r1 (by omega)) (by omega), setA (setA r2 (by omega)) (by omega)⟩
          · obtain ⟨r0, r1, r2⟩ := HPOST.out j (by omega) hjn
            exact ⟨setA (setA r0 (by omega)) (by omega), setA (setA r1 (by omega)) (by omega), setA (setA r2 (by omega)) (by omega)⟩
        case measure => simp [intOf]; omega
    · obtain rfl : k = n := by omega
      go_wp2_with (go_at_call 54; refine (iState p _ (some ⟨g, 0, none⟩) k cap rfl x1 x2 0 0 false _ hD).mono ?_; rintro e w5 ⟨rfl, hb5⟩; have hR5 := rowL HRr.out hb5; have vc0 : w5.cell? ⟨w.heap.size + 1, 0, none⟩ = some (.slice none 0 0) := (cell_of_row _ _ 0 _ _ _ hR5).trans rfl; have vf0 : w5.frozen? ⟨w.heap.size + 1, 0, none⟩ = false := frozen_of_row _ _ 0 _ _ hR5; have vc1 : w5.cell? ⟨w.heap.size + 1, 1, none⟩ = some (.int .i64 0) := (cell_of_row _ _ 1 _ _ _ hR5).trans rfl; have vf1 : w5.frozen? ⟨w.heap.size + 1, 1, none⟩ = false := frozen_of_row _ _ 1 _ _ hR5; have vc2 : w5.cell? ⟨w.heap.size + 1, 2, none⟩ = some (.int .i64 0) := (cell_of_row _ _ 2 _ _ _ hR5).trans rfl; have vf2 : w5.frozen? ⟨w.heap.size + 1, 2, none⟩ = false := frozen_of_row _ _ 2 _ _ hR5; have vc3 : w5.cell? ⟨w.heap.size + 1, 3, none⟩ = some (.int .i64 0) := (cell_of_row _ _ 3 _ _ _ hR5).trans rfl; have vf3 : w5.frozen? ⟨w.heap.size + 1, 3, none⟩ = false := frozen_of_row _ _ 3 _ _ hR5; have vc4 : w5.cell? ⟨w.heap.size + 1, 4, none⟩ = some (.int .i64 0) := (cell_of_row _ _ 4 _ _ _ hR5).trans rfl; have vf4 : w5.frozen? ⟨w.heap.size + 1, 4, none⟩ = false := frozen_of_row _ _ 4 _ _ hR5; have vc5 : w5.cell? ⟨w.heap.size + 1, 5, none⟩ = some (.bool false) := (cell_of_row _ _ 5 _ _ _ hR5).trans rfl; have vf5 : w5.frozen? ⟨w.heap.size + 1, 5, none⟩ = false := frozen_of_row _ _ 5 _ _ hR5)
      refine bodyPost_ret (v := .agg #[.slice (some ⟨g, 0, none⟩) k cap, .int .i64 x1, .int .i64 x2, .int .i64 0, .int .i64 0, .bool false]) (results_cell_row Try.results24 _ _ (w.heap.size + 1) 36 _ (0, 0) _ rfl (set6_row _ _ _ _ _ _ hR5) Try.underlying36 rfl (by kernel_rfl)) rfl ⟨g, cap, rfl, ?_, set6_below _ _ _ _ _ _ (bstep hb hb5) (by omega)⟩
      exact OwnF.mk (set6_oth _ _ _ _ _ _ (rowL HG.out hb5) (by omega)) (by omega) hcap hcm HSZ.out (fun j hj => HPRE.out j hj)
end Go.Proofs.Ytdbcihebhgpblaa
