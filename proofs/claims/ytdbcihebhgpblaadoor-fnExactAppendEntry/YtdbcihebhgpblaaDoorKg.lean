/-
  The law on FsCrash.
-/
import Derived.Test.YtdbcihebhgpblaaDoorKe
namespace Go.Proofs.YtdbcihebhgpblaaDoor
open Go.RowKit
/-- The marks of files, from z on. -/
def MF (z : Nat) : Nat → Fil := fun j => ⟨mtx (z + 3 * j), mtx (z + 3 * j + 1), ((z + 3 * j + 2 : Nat) : Int)⟩
theorem grown_step {w wr W : World} {g o : Nat} {v : Value} (h : w.grownBy wr (some g)) (hb : Below wr.heap.size wr W) : w.grownBy (W.setCell ⟨g, o, none⟩ v) (some g) :=
  ⟨hb.os.trans h.os, hb.tape.trans h.tape, hb.output.trans h.output, by have := hb.size; have := h.size; simp; omega, fun i hi hne => (heap_setCell_other _ _ _ _ (by simpa using fun e => hne (by rw [e]))).trans ((hb.block i (Nat.lt_of_lt_of_le hi h.size)).trans (h.block i hi hne))⟩
theorem grown_refl (w : World) (r : Option Nat) : w.grownBy w r := ⟨rfl, rfl, rfl, Nat.le_refl _, fun _ _ _ => rfl⟩
set_option maxRecDepth 20000 in
set_option maxHeartbeats 4000000 in
theorem markFils_some (B g n cap z : Nat) (F : Nat → Fil) (w : World) (h : OwnF w B (.slice (some ⟨g, 0, none⟩) n cap) n F) (hn : n ≤ 2097152) (hz0 : 0 < z) (hz : z ≤ 1048577) :
    Calls Tryd.prog 37 #[.slice (some ⟨g, 0, none⟩) n cap, .int .i64 (z : Int)] w fun e w' => e = .returned (.int .i64 ((z + 3 * n : Nat) : Int)) ∧ OwnF w' B (.slice (some ⟨g, 0, none⟩) n cap) n (MF z) ∧ w.grownBy w' (some g) := by
  obtain ⟨cur0, hg0, hBg, hcap, hcm, hcs, _⟩ := h.cur
  clear h
  go_enter Tryd.func37, Tryd.ntmps37
  go_wp2
  go_loopw [1, 5] (fun k i wr => ∃ (j : Nat) (cur : Array Value), j ≤ n ∧ k = .int .i64 ((z + 3 * j : Nat) : Int) ∧ i = .int .i64 j ∧ wr.heap[g]? = some (.cells cur 92 (0, 0)) ∧ cur.size = cap * 3 ∧ (∀ q, q < j → cur[q * 3]? = some (.string (MF z q).s) ∧ cur[q * 3 + 1]? = some (.string (MF z q).d) ∧ cur[q * 3 + 2]? = some (.int .i64 (MF z q).y)) ∧ w.grownBy wr (some g)) (fun _ i _ => n - (intOf i).toNat)
  case atStart => exact ⟨0, cur0, by omega, rfl, rfl, hg0, hcs, fun q hq => by omega, grown_refl _ _⟩
  case round =>
    obtain ⟨j, cur, hj, rfl, rfl, hg, hsz, hall, hgr⟩ := hrel
    have HG : Hid (wr.heap[g]? = some (.cells cur 92 (0, 0))) := hg
    have HALL : Hid (∀ q, q < j → cur[q * 3]? = some (.string (MF z q).s) ∧ cur[q * 3 + 1]? = some (.string (MF z q).d) ∧ cur[q * 3 + 2]? = some (.int .i64 (MF z q).y)) := hall
    clear hg hall
    by_cases hlt : j < n
    · obtain ⟨y0, hy0⟩ : ∃ y, mtx (z + 3 * j) = y := ⟨_, rfl⟩
      obtain ⟨y1, hy1⟩ : ∃ y, mtx (z + 3 * j + 1) = y := ⟨_, rfl⟩
      have HY0 : Hid (mtx (z + 3 * j) = y0) := hy0
      have HY1 : Hid (mtx (z + 3 * j + 1) = y1) := hy1
      clear hy0 hy1
      obtain ⟨v0, hv0⟩ := there (A := cur) (k := j * 3) (by omega)
      obtain ⟨v1, hv1⟩ := there (A := cur) (k := j * 3 + 1) (by omega)
      obtain ⟨v2, hv2⟩ := there (A := cur) (k := j * 3 + 2) (by omega)
      have HV : Hid (cur[j * 3]? = some v0 ∧ cur[j * 3 + 1]? = some v1 ∧ cur[j * 3 + 2]? = some v2) := ⟨hv0, hv1, hv2⟩
      clear hv0 hv1 hv2
      go_upto_region 6 with (go_at_call 72; refine (markText_as (z + 3 * j) _ _ (by first | rfl | omega) (by omega) (by omega) y0 HY0.out).mono ?_; rintro e w2 ⟨rfl, hb2⟩; have HG2 : Hid (w2.heap[g]? = some (.cells cur 92 (0, 0))) := rowL HG.out hb2; have c0 : w2.cell? ⟨g, j * 3, none⟩ = some v0 := (cell_of_row _ _ _ _ _ _ HG2.out).trans HV.out.1; have f0 : w2.frozen? ⟨g, j * 3, none⟩ = false := frozen_of_row _ _ _ _ _ HG2.out)
      have HG3 : Hid ((w2.setCell ⟨g, j * 3, none⟩ (.string y0)).heap[g]? = some (.cells (cur.setIfInBounds (j * 3) (.string y0)) 92 (0, 0))) := heap_setCell_same _ _ _ _ _ _ HG2.out
      have hgr3 : w.grownBy (w2.setCell ⟨g, j * 3, none⟩ (.string y0)) (some g) := grown_step hgr hb2
      obtain ⟨W3, hW3⟩ : ∃ W3, w2.setCell ⟨g, j * 3, none⟩ (.string y0) = W3 := ⟨_, rfl⟩
      rw [hW3] at HG3 hgr3 ⊢
      clear hW3 c0 f0
      go_upto_region 8 with (go_at_call 72; refine (markText_as (z + 3 * j + 1) _ _ (by first | rfl | omega) (by omega) (by omega) y1 HY1.out).mono ?_; rintro e w4 ⟨rfl, hb4⟩; have HG4 : Hid (w4.heap[g]? = some (.cells (cur.setIfInBounds (j * 3) (.string y0)) 92 (0, 0))) := rowL HG3.out hb4; have c1 : w4.cell? ⟨g, j * 3 + 1, none⟩ = some v1 := (cell_of_row _ _ _ _ _ _ HG4.out).trans (setA HV.out.2.1 (by omega)); have f1 : w4.frozen? ⟨g, j * 3 + 1, none⟩ = false := frozen_of_row _ _ _ _ _ HG4.out)
      have HG5 : Hid ((w4.setCell ⟨g, j * 3 + 1, none⟩ (.string y1)).heap[g]? = some (.cells ((cur.setIfInBounds (j * 3) (.string y0)).setIfInBounds (j * 3 + 1) (.string y1)) 92 (0, 0))) := heap_setCell_same _ _ _ _ _ _ HG4.out
      have hgr5 : w.grownBy (w4.setCell ⟨g, j * 3 + 1, none⟩ (.string y1)) (some g) := grown_step hgr3 hb4
      obtain ⟨W5, hW5⟩ : ∃ W5, w4.setCell ⟨g, j * 3 + 1, none⟩ (.string y1) = W5 := ⟨_, rfl⟩
      rw [hW5] at HG5 hgr5 ⊢
      clear hW5 c1 f1
      have c2 : W5.cell? ⟨g, j * 3 + 2, none⟩ = some v2 := (cell_of_row _ _ _ _ _ _ HG5.out).trans (setA (setA HV.out.2.2 (by omega)) (by omega))
      have f2 : W5.frozen? ⟨g, j * 3 + 2, none⟩ = false := frozen_of_row _ _ _ _ _ HG5.out
      go_wp2
      go_roundw
      case rel =>
        refine ⟨j + 1, _, by omega, by go_num, by go_num, heap_setCell_same _ _ _ _ _ _ HG5.out, by simpa using hsz, fun q hq => ?_, grown_step hgr5 (Below.refl _ _)⟩
        by_cases e : q = j
        · subst e
          refine ⟨setA (setA (by rw [show (MF z q).s = y0 from HY0.out]; exact setS (by omega)) (by omega)) (by omega), setA (by rw [show (MF z q).d = y1 from HY1.out]; exact setS (by simp only [Array.size_setIfInBounds]; omega)) (by omega), ?_⟩
          rw [setS (by simp only [Array.size_setIfInBounds]; omega)]
          simp [MF]
          omega
        · obtain ⟨r0, r1, r2⟩ := HALL.out q (by omega)
          exact ⟨setA (setA (setA r0 (by omega)) (by omega)) (by omega), setA (setA (setA r1 (by omega)) (by omega)) (by omega), setA (setA (setA r2 (by omega)) (by omega)) (by omega)⟩
      case measure => simp [intOf]; omega
    · obtain rfl : j = n := by omega
      go_wp2
      go_ret
      exact ⟨rfl, OwnF.mk HG.out hBg hcap hcm hsz HALL.out, hgr⟩
set_option maxRecDepth 20000 in
set_option maxHeartbeats 4000000 in
theorem markFils_none (a : Option Addr) (c : Nat) (z : Nat) (w : World) : Calls Tryd.prog 37 #[.slice a 0 c, .int .i64 (z : Int)] w fun e w' => e = .returned (.int .i64 (z : Int)) ∧ w' = w := by
  go_enter Tryd.func37, Tryd.ntmps37
  go_wp2
  go_loop [1, 5] (fun k i => k = .int .i64 (z : Int) ∧ i = .int .i64 0) (fun _ _ => 0)
  case atStart => exact ⟨rfl, rfl⟩
  case round =>
    obtain ⟨rfl, rfl⟩ := hrel
    go_wp2
    go_ret
    exact ⟨rfl, rfl⟩
theorem markFils (B n cap z : Nat) (a : Option Addr) (F : Nat → Fil) (w : World) (h : OwnF w B (.slice a n cap) n F) (hn : n ≤ 2097152) (hz0 : 0 < z) (hz : z ≤ 1048577) :
    Calls Tryd.prog 37 #[.slice a n cap, .int .i64 (z : Int)] w fun e w' => e = .returned (.int .i64 ((z + 3 * n : Nat) : Int)) ∧ OwnF w' B (.slice a n cap) n (MF z) ∧ w.grownBy w' (Value.slice a n cap).ownBlock := by
  have h' := h
  rcases h.2 with ⟨e, rfl⟩ | ⟨g, cap', cur, e, h2⟩
  · simp only [Value.slice.injEq, true_and] at e
    obtain ⟨rfl, rfl⟩ := e
    refine (markFils_none none 0 z w).mono ?_
    rintro e w' ⟨rfl, rfl⟩
    exact ⟨rfl, ⟨rfl, Or.inl ⟨rfl, rfl⟩⟩, grown_refl _ _⟩
  · simp only [Value.slice.injEq, true_and] at e
    obtain ⟨rfl, rfl⟩ := e
    exact markFils_some B g n cap z F w h' hn hz0 hz
set_option maxRecDepth 20000 in
set_option maxHeartbeats 4000000 in
theorem heldFils (a : Option Addr) (n c z : Nat) (w : World) (h : FL w a n (MF z)) (hn : n ≤ 2097152) (hz0 : 0 < z) (hz : z ≤ 1048577) :
    Calls Tryd.prog 38 #[.slice a n c, .int .i64 (z : Int)] w fun e w' => e = .returned (.int .i64 ((z + 3 * n : Nat) : Int)) ∧ Below w.heap.size w w' := by
  have hb0 := Below.refl w.heap.size w
  go_enter Tryd.func38, Tryd.ntmps38
  go_wp2
  go_loopw [1, 5] (fun k i wr => ∃ j : Nat, j ≤ n ∧ k = .int .i64 ((z + 3 * j : Nat) : Int) ∧ i = .int .i64 j ∧ Below w.heap.size w wr) (fun _ i _ => n - (intOf i).toNat)
  case atStart => exact ⟨0, by omega, rfl, rfl, hb0⟩
  case round =>
    obtain ⟨j, hj, rfl, rfl, hb⟩ := hrel
    by_cases hlt : j < n
    · obtain ⟨b, off, rfl, c0, c1, c2⟩ := h.later hb j hlt
      have hjn : (j : Int) < n := by omega
      obtain ⟨y0, hy0⟩ : ∃ y, mtx (z + 3 * j) = y := ⟨_, rfl⟩
      obtain ⟨y1, hy1⟩ : ∃ y, mtx (z + 3 * j + 1) = y := ⟨_, rfl⟩
      rw [show (MF z j).s = y0 from hy0] at c0
      rw [show (MF z j).d = y1 from hy1] at c1
      rw [show (MF z j).y = ((z + 3 * j + 2 : Nat) : Int) from rfl] at c2
      have HY0 : Hid (mtx (z + 3 * j) = y0) := hy0
      have HY1 : Hid (mtx (z + 3 * j + 1) = y1) := hy1
      clear hy0 hy1
      have e0 := eqS_same y0
      have e1 := eqS_same y1
      go_wp2
      refine wp_region_held_drew (S := fun x => Below wr.heap.size wr x) (by kernel_rfl) (bdrew1 _) (fun hHeld => ?_)
      refine' takeF (i := 0) (oi := ({ dst := some 12, op := Op.move (Operand.tmp 0), type := 28, pos := "exact.go:971", after := #[], guard := none } : Oper)) rfl ⟨by rfl, fun x hSw => ?h1⟩ hHeld ?r1
      case h1 =>
        go_simp
        try with_reducible rfl
      try simp only [Act.put, List.setIfInBounds_toArray, List.set_cons_zero, List.set_cons_succ]
      refine' takeF (i := 1) (oi := ({ dst := some 13, op := Op.move (Operand.tmp 5), type := 3, pos := "exact.go:971", after := #[], guard := none } : Oper)) rfl ⟨by rfl, fun x hSw => ?h2⟩ hHeld ?r2
      case h2 =>
        go_simp
        try with_reducible rfl
      try simp only [Act.put, List.setIfInBounds_toArray, List.set_cons_zero, List.set_cons_succ]
      refine' takeF (i := 2) (oi := ({ dst := some 14, op := Op.indexAddr 28 (Operand.tmp 12) (Operand.tmp 13), type := 0, pos := "exact.go:971", after := #[{ on := 0, ground := Ground.data }, { on := 1, ground := Ground.data }], guard := none } : Oper)) rfl ⟨by rfl, fun x hSw => ?h3⟩ hHeld ?r3
      case h3 =>
        go_simp
        try with_reducible rfl
      try simp only [Act.put, List.setIfInBounds_toArray, List.set_cons_zero, List.set_cons_succ]
      refine' takeF (i := 3) (oi := ({ dst := some 15, op := Op.fieldAddr 92 (Operand.tmp 14) 0, type := 0, pos := "exact.go:971", after := #[{ on := 2, ground := Ground.data }], guard := none } : Oper)) rfl ⟨by rfl, fun x hSw => ?h4⟩ hHeld ?r4
      case h4 =>
        go_simp
        try with_reducible rfl
      try simp only [Act.put, List.setIfInBounds_toArray, List.set_cons_zero, List.set_cons_succ]
      refine' takeF (i := 4) (oi := ({ dst := some 16, op := Op.load 9 (Operand.tmp 15), type := 9, pos := "exact.go:971", after := #[{ on := 3, ground := Ground.data }], guard := none } : Oper)) rfl ⟨by rfl, fun x hSw => ?h5⟩ hHeld ?r5
      case h5 =>
        have k0 := keepB hSw c0; have k1 := keepB hSw c1; have k2 := keepB hSw c2
        go_simp
        try with_reducible rfl
      try simp only [Act.put, List.setIfInBounds_toArray, List.set_cons_zero, List.set_cons_succ]
      refine' takeF (i := 5) (oi := ({ dst := some 17, op := Op.move (Operand.tmp 1), type := 3, pos := "exact.go:971", after := #[], guard := none } : Oper)) rfl ⟨by rfl, fun x hSw => ?h6⟩ hHeld ?r6
      case h6 =>
        go_simp
        try with_reducible rfl
      try simp only [Act.put, List.setIfInBounds_toArray, List.set_cons_zero, List.set_cons_succ]
      refine wpAnyH_ready (rs := [6]) (by kernel_rfl) (by simp) ?_
      refine AllReadyH.cons (o := ({ dst := some 18, op := Op.call { callee := Callee.value (Operand.func 72), args := #[Operand.tmp 17], argTypes := #[3] }, type := 9, pos := "exact.go:971", after := #[{ on := 5, ground := Ground.data }], guard := none } : Oper)) rfl (fun K hK => ?_) AllReadyH.nil
      go_simp
      refine (markText_as (z + 3 * j) _ _ (by first | rfl | omega) (by omega) (by omega) y0 HY0.out).mono ?_
      rintro e w2 ⟨rfl, hb2⟩
      refine hK.out _ _ (bstep hHeld hb2) (fun hHeld => ?_)
      clear hK K
      try simp only [Act.put, List.setIfInBounds_toArray, List.set_cons_zero, List.set_cons_succ]
      refine' takeF (i := 7) (oi := ({ dst := some 19, op := Op.binOp BinOp.neq 9 (Operand.tmp 16) (Operand.tmp 18) 9, type := 4, pos := "exact.go:971", after := #[{ on := 4, ground := Ground.data }, { on := 6, ground := Ground.data }], guard := none } : Oper)) rfl ⟨by rfl, fun x hSw => ?h7⟩ hHeld ?r7
      case h7 =>
        go_simp
        try with_reducible rfl
      try simp only [Act.put, List.setIfInBounds_toArray, List.set_cons_zero, List.set_cons_succ]
      refine wpAnyH_done (by kernel_rfl) ?_ _
      have hH2 := hHeld
      go_wp2
      refine wp_region_held_drew (S := fun x => Below wr.heap.size wr x) (by kernel_rfl) (bstep hH2 (bdrew1 _)) (fun hHeld => ?_)
      refine' takeF (i := 0) (oi := ({ dst := some 22, op := Op.move (Operand.tmp 0), type := 28, pos := "exact.go:975", after := #[], guard := none } : Oper)) rfl ⟨by rfl, fun x hSw => ?h8⟩ hHeld ?r8
      case h8 =>
        go_simp
        try with_reducible rfl
      try simp only [Act.put, List.setIfInBounds_toArray, List.set_cons_zero, List.set_cons_succ]
      refine' takeF (i := 1) (oi := ({ dst := some 23, op := Op.move (Operand.tmp 5), type := 3, pos := "exact.go:975", after := #[], guard := none } : Oper)) rfl ⟨by rfl, fun x hSw => ?h9⟩ hHeld ?r9
      case h9 =>
        go_simp
        try with_reducible rfl
      try simp only [Act.put, List.setIfInBounds_toArray, List.set_cons_zero, List.set_cons_succ]
      refine' takeF (i := 2) (oi := ({ dst := some 24, op := Op.indexAddr 28 (Operand.tmp 22) (Operand.tmp 23), type := 0, pos := "exact.go:975", after := #[{ on := 0, ground := Ground.data }, { on := 1, ground := Ground.data }], guard := none } : Oper)) rfl ⟨by rfl, fun x hSw => ?h10⟩ hHeld ?r10
      case h10 =>
        go_simp
        try with_reducible rfl
      try simp only [Act.put, List.setIfInBounds_toArray, List.set_cons_zero, List.set_cons_succ]
      refine' takeF (i := 3) (oi := ({ dst := some 25, op := Op.fieldAddr 92 (Operand.tmp 24) 1, type := 0, pos := "exact.go:975", after := #[{ on := 2, ground := Ground.data }], guard := none } : Oper)) rfl ⟨by rfl, fun x hSw => ?h11⟩ hHeld ?r11
      case h11 =>
        go_simp
        try with_reducible rfl
      try simp only [Act.put, List.setIfInBounds_toArray, List.set_cons_zero, List.set_cons_succ]
      refine' takeF (i := 4) (oi := ({ dst := some 26, op := Op.load 9 (Operand.tmp 25), type := 9, pos := "exact.go:975", after := #[{ on := 3, ground := Ground.data }], guard := none } : Oper)) rfl ⟨by rfl, fun x hSw => ?h12⟩ hHeld ?r12
      case h12 =>
        have k0 := keepB hSw c0; have k1 := keepB hSw c1; have k2 := keepB hSw c2
        go_simp
        try with_reducible rfl
      try simp only [Act.put, List.setIfInBounds_toArray, List.set_cons_zero, List.set_cons_succ]
      refine' takeF (i := 5) (oi := ({ dst := some 27, op := Op.move (Operand.tmp 1), type := 3, pos := "exact.go:975", after := #[], guard := none } : Oper)) rfl ⟨by rfl, fun x hSw => ?h13⟩ hHeld ?r13
      case h13 =>
        go_simp
        try with_reducible rfl
      try simp only [Act.put, List.setIfInBounds_toArray, List.set_cons_zero, List.set_cons_succ]
      refine wpAnyH_ready (rs := [6]) (by kernel_rfl) (by simp) ?_
      refine AllReadyH.cons (o := ({ dst := some 28, op := Op.call { callee := Callee.value (Operand.func 72), args := #[Operand.tmp 27], argTypes := #[3] }, type := 9, pos := "exact.go:975", after := #[{ on := 5, ground := Ground.data }], guard := none } : Oper)) rfl (fun K hK => ?_) AllReadyH.nil
      go_simp
      refine (markText_as (z + 3 * j + 1) _ _ (by first | rfl | omega) (by omega) (by omega) y1 HY1.out).mono ?_
      rintro e w3 ⟨rfl, hb3⟩
      refine hK.out _ _ (bstep hHeld hb3) (fun hHeld => ?_)
      clear hK K
      try simp only [Act.put, List.setIfInBounds_toArray, List.set_cons_zero, List.set_cons_succ]
      refine' takeF (i := 7) (oi := ({ dst := some 29, op := Op.binOp BinOp.neq 9 (Operand.tmp 26) (Operand.tmp 28) 9, type := 4, pos := "exact.go:975", after := #[{ on := 4, ground := Ground.data }, { on := 6, ground := Ground.data }], guard := none } : Oper)) rfl ⟨by rfl, fun x hSw => ?h14⟩ hHeld ?r14
      case h14 =>
        go_simp
        try with_reducible rfl
      try simp only [Act.put, List.setIfInBounds_toArray, List.set_cons_zero, List.set_cons_succ]
      refine wpAnyH_done (by kernel_rfl) ?_ _
      have k2 := keepB hHeld c2
      go_wp2
      go_roundw
      case rel => exact ⟨j + 1, by omega, by go_num, by go_num, bstep hb hHeld⟩
      case measure => simp [intOf]; omega
    · obtain rfl : j = n := by omega
      go_wp2
      go_ret
      exact ⟨rfl, hb⟩
set_option maxRecDepth 20000 in
set_option maxHeartbeats 4000000 in
theorem markFs_any (B n cap z : Nat) (a : Option Addr) (F : Nat → Fil) (x1 x2 x3 x4 : Int) (x5 : Bool) (w : World) (h : OwnF w B (.slice a n cap) n F) (hn : n ≤ 2097152) (hz0 : 0 < z) (hz : z ≤ 1048577) :
    Calls Tryd.prog 12 #[.agg #[.slice a n cap, .int .i64 x1, .int .i64 x2, .int .i64 x3, .int .i64 x4, .bool x5], .int .i64 (z : Int)] w fun e w' => e = .returned (.int .i64 ((z + 3 * n : Nat) : Int)) ∧ OwnF w' B (.slice a n cap) n (MF z) ∧ w.grownBy w' (Value.slice a n cap).ownBlock := by
  have hb0 := bal w (.cells #[.slice a n cap, .int .i64 x1, .int .i64 x2, .int .i64 x3, .int .i64 x4, .bool x5] 30)
  go_enter Tryd.func12, Tryd.ntmps12
  go_wp2_with (go_at_call 37; refine (markFils B n cap z a F _ (h.later hb0) hn hz0 hz).mono ?_; rintro e w1 ⟨rfl, hO1, hg1⟩)
  go_ret
  exact ⟨rfl, hO1, ⟨hg1.os.trans hb0.os, hg1.tape.trans hb0.tape, hg1.output.trans hb0.output, Nat.le_trans hb0.size hg1.size, fun k hk hne => (hg1.block k (Nat.lt_of_lt_of_le hk hb0.size) hne).trans (hb0.block k hk)⟩⟩
set_option maxRecDepth 20000 in
set_option maxHeartbeats 4000000 in
theorem heldFs_any (n cap z : Nat) (a : Option Addr) (x1 x2 x3 x4 : Int) (x5 : Bool) (w : World) (h : FL w a n (MF z)) (hn : n ≤ 2097152) (hz0 : 0 < z) (hz : z ≤ 1048577) :
    Calls Tryd.prog 13 #[.agg #[.slice a n cap, .int .i64 x1, .int .i64 x2, .int .i64 x3, .int .i64 x4, .bool x5], .int .i64 (z : Int)] w fun e w' => e = .returned (.int .i64 ((z + 3 * n : Nat) : Int)) ∧ Below w.heap.size w w' := by
  have hb0 := bal w (.cells #[.slice a n cap, .int .i64 x1, .int .i64 x2, .int .i64 x3, .int .i64 x4, .bool x5] 30)
  go_enter Tryd.func13, Tryd.ntmps13
  go_wp2_with (go_at_call 38; refine (heldFils a n cap z _ (h.later hb0) hn hz0 hz).mono ?_; rintro e w1 ⟨rfl, hb1⟩)
  go_ret
  exact ⟨rfl, bstep hb0 hb1⟩
end Go.Proofs.YtdbcihebhgpblaaDoor
namespace Go.Proofs.YtdbcihebhgpblaaDoor
open Go.RowKit
/-- What an answer is made of. -/
def Ans (n : Nat) (F : Nat → Fil) (x1 x2 x3 x4 : Int) (rn : Nat) (r1 r2 : Int) : Prop := (okFs n F x1 x2 x3 x4 = true ∧ rn = n ∧ r1 = x1 ∧ r2 = x2) ∨ (okFs n F x1 x2 x3 x4 = false ∧ rn = 0 ∧ r1 = 0 ∧ r2 = 0)
theorem Ans.there (n : Nat) (F : Nat → Fil) (x1 x2 x3 x4 : Int) : ∃ rn r1 r2, Ans n F x1 x2 x3 x4 rn r1 r2 := by
  rcases h : okFs n F x1 x2 x3 x4
  · exact ⟨0, 0, 0, Or.inr ⟨h, rfl, rfl, rfl⟩⟩
  · exact ⟨n, x1, x2, Or.inl ⟨h, rfl, rfl, rfl⟩⟩
theorem sl_of {w : World} {B g n cap : Nat} {S : Nat → ByteArray} (h : w.ownsRow B 9 1 (.slice (some ⟨g, 0, none⟩) n cap) n (strs S n)) (hn : n ≤ 2097152) (hs : ∀ k, k < n → (S k).size ≤ 2097152) : Sl w (some ⟨g, 0, none⟩) n S :=
  ⟨by omega, fun k hk => ⟨by have := hs k hk; omega, g, 0, rfl, by rw [Nat.zero_add]; exact own_cell h k _ (strs_get _ _ _ hk)⟩⟩
theorem rowG {w w' : World} {q : Nat} {r : Option Nat} {o : Obj} (h : w.heap[q]? = some o) (hg : w.grownBy w' r) (hne : some q ≠ r) : w'.heap[q]? = some o := (hg.block q (Array.getElem?_eq_some_iff.1 h).1 hne).trans h
end Go.Proofs.YtdbcihebhgpblaaDoor
