/-
  Slices of strings marked, and the marks found again.
-/
import Derived.Test.YtlbackkjjhpljaaDoorGa
import Derived.Test.YtlbackkjjhpljaaDoorGb
namespace Go.Proofs.YtlbackkjjhpljaaDoor
open Go.RowKit
/-- The marks from 1 on. -/
def marks : Nat → ByteArray := fun j => mtx (1 + j)
set_option maxRecDepth 20000 in
theorem markText_as (i : Nat) (w : World) (z : Int) (hz : z = i) (h0 : 0 < i) (h1 : i < 10000000) (y : ByteArray) (hy : mtx i = y) :
    Calls Tryd.prog 63 #[.int .i64 z] w fun e w' => e = .returned (.string y) ∧ Below w.heap.size w w' := by
  subst hz
  exact markText_any i w h0 h1 y hy
set_option maxRecDepth 20000 in
theorem markStrs_zero (a : Option Addr) (c : Nat) (w : World) :
    Calls Tryd.prog 46 #[.slice a 0 c, .int .i64 1] w fun e w' => e = .returned (.int .i64 1) ∧ w' = w := by
  go_enter Tryd.func46, Tryd.ntmps46
  go_wp2
  go_loop [1, 5] (fun k i => k = .int .i64 1 ∧ i = .int .i64 0) (fun _ _ => 0)
  case atStart => exact ⟨rfl, rfl⟩
  case round =>
    obtain ⟨rfl, rfl⟩ := hrel
    go_wp2
    go_ret
    exact ⟨rfl, rfl⟩
set_option maxRecDepth 20000 in
set_option maxHeartbeats 2000000 in
theorem markStrs_row (B g n cap : Nat) (xs : List Value) (w : World) (h : w.ownsRow B 9 1 (.slice (some ⟨g, 0, none⟩) n cap) n xs) (hn : n ≤ 1048576) :
    Calls Tryd.prog 46 #[.slice (some ⟨g, 0, none⟩) n cap, .int .i64 1] w fun e w' => e = .returned (.int .i64 ((1 + n : Nat) : Int)) ∧ w'.ownsRow B 9 1 (.slice (some ⟨g, 0, none⟩) n cap) n (strs marks n) ∧ w.grownBy w' (some g) := by
  obtain ⟨cur0, hg0, hnc, hcm, hcs⟩ : ∃ cur, w.heap[g]? = some (.cells cur 9 (0, 0)) ∧ n ≤ cap ∧ cap ≤ maxLen ∧ cur.size = cap := by
    rcases h.2 with ⟨h0, _⟩ | ⟨g', cap', cur, hv, hb, hg, hn, hc, hs, ht⟩
    · simp at h0
    · simp at hv
      obtain ⟨rfl, rfl⟩ := hv
      exact ⟨cur, hg, hn, hc, by omega⟩
  have hBg := (own_cap h).2.1
  have HG0 : Hid (w.heap[g]? = some (.cells cur0 9 (0, 0))) := hg0
  clear h hg0
  go_enter Tryd.func46, Tryd.ntmps46
  go_wp2
  go_loopw [1, 5] (fun k i wr => ∃ (j : Nat) (cur : Array Value), j ≤ n ∧ k = .int .i64 ((1 + j : Nat) : Int) ∧ i = .int .i64 j ∧ wr.heap[g]? = some (.cells cur 9 (0, 0)) ∧ cur.size = cap ∧ (∀ q, q < j → cur[q]? = some (.string (marks q))) ∧ (∀ q, q < cap → ∃ s, cur[q]? = some s) ∧ w.grownBy wr (some g)) (fun _ i _ => n - (intOf i).toNat)
  case atStart => exact ⟨0, cur0, by omega, rfl, rfl, HG0.out, hcs, fun q hq => by omega, fun q hq => ⟨_, Array.getElem?_eq_getElem (by omega)⟩, ⟨rfl, rfl, rfl, Nat.le_refl _, fun _ _ _ => rfl⟩⟩
  case round =>
    obtain ⟨j, cur, hj, rfl, rfl, hg, hsz, hall, hany, hgr⟩ := hrel
    have HG : Hid (wr.heap[g]? = some (.cells cur 9 (0, 0))) := hg
    have HSZ : Hid (cur.size = cap) := hsz
    have HALL : Hid (∀ q, q < j → cur[q]? = some (.string (marks q))) := hall
    have HANY : Hid (∀ q, q < cap → ∃ s, cur[q]? = some s) := hany
    clear hg hsz hall hany
    by_cases hlt : j < n
    · obtain ⟨y, hy⟩ : ∃ y, mtx (1 + j) = y := ⟨_, rfl⟩
      have HY : Hid (mtx (1 + j) = y) := hy
      clear hy
      obtain ⟨s0, hs0⟩ := HANY.out j (by omega)
      have hc : wr.cell? ⟨g, j, none⟩ = some s0 := by rw [cell_of_row wr g j _ _ _ HG.out]; exact hs0
      have hf : wr.frozen? ⟨g, j, none⟩ = false := frozen_of_row wr g j _ _ HG.out
      clear hs0
      go_wp2_with (go_at_call 63; refine (markText_as (1 + j) _ _ (by first | rfl | omega) (by omega) (by omega) y HY.out).mono ?_; rintro e w2 ⟨rfl, hb2⟩; have hc2 := keep hb2 hc; have hf2 := ((bcell hb2).2 _ _ (World.block_lt_of_cell? _ _ hc)).trans hf)
      go_roundw
      case rel =>
        have hg2 : w2.heap[g]? = some (.cells cur 9 (0, 0)) := (hb2.block g (World.block_lt_of_cell? _ _ hc)).trans HG.out
        have R : ∃ (j' : Nat) (cur' : Array Value), j' ≤ n ∧ Value.int .i64 ((1 + j : Nat) + 1 : Int) = .int .i64 ((1 + j' : Nat) : Int) ∧ Value.int .i64 ((j : Int) + 1) = .int .i64 j' ∧ (w2.setCell ⟨g, j, none⟩ (.string y)).heap[g]? = some (.cells cur' 9 (0, 0)) ∧ cur'.size = cap ∧ (∀ q, q < j' → cur'[q]? = some (.string (marks q))) ∧ (∀ q, q < cap → ∃ s, cur'[q]? = some s) ∧ w.grownBy (w2.setCell ⟨g, j, none⟩ (.string y)) (some g) := by
          refine ⟨j + 1, cur.setIfInBounds j (.string y), by omega, by congr 1, by go_num, heap_setCell_same w2 g j _ _ _ hg2, by simp; exact HSZ.out, ?_, ?_, ?_⟩
          · intro q hq
            rw [Array.getElem?_setIfInBounds]
            by_cases e : j = q
            · subst e
              rw [if_pos rfl, if_pos (by have := HSZ.out; omega)]
              show _ = some (Value.string (mtx (1 + j)))
              rw [HY.out]
            · rw [if_neg e]; exact HALL.out q (by omega)
          · intro q hq
            rw [Array.getElem?_setIfInBounds]
            by_cases e : j = q
            · subst e; rw [if_pos rfl, if_pos (by have := HSZ.out; omega)]; exact ⟨_, rfl⟩
            · rw [if_neg e]; exact HANY.out q hq
          · exact ⟨hb2.os.trans hgr.os, hb2.tape.trans hgr.tape, hb2.output.trans hgr.output, by have := hb2.size; have := hgr.size; simp; omega, fun i hi hne => (heap_setCell_other _ _ _ _ (by simpa using fun e => hne (by rw [e]))).trans ((hb2.block i (Nat.lt_of_lt_of_le hi hgr.size)).trans (hgr.block i hi hne))⟩
        first | exact R | exact ⟨_, _, R, rfl⟩
      case measure => simp [intOf]; omega
    · obtain rfl : j = n := by omega
      go_wp2
      go_ret
      refine ⟨rfl, ⟨by rw [strs_len]; omega, .inr ⟨g, cap, cur, rfl, hBg, HG.out, hnc, hcm, by rw [HSZ.out]; omega, ?_⟩⟩, hgr⟩
      apply List.ext_getElem?
      intro q
      by_cases hq : q < j
      · rw [List.getElem?_take, if_pos (by omega), strs_get _ _ _ hq]
        simpa using HALL.out q hq
      · rw [List.getElem?_take, if_neg (by omega), List.getElem?_eq_none (by rw [strs_len]; omega)]
set_option maxRecDepth 20000 in
set_option maxHeartbeats 2000000 in
theorem heldStrs_any (a : Option Addr) (n c : Nat) (w : World) (h : Sl w a n marks) (hn : n ≤ 1048576) :
    Calls Tryd.prog 47 #[.slice a n c, .int .i64 1] w fun e w' => e = .returned (.int .i64 ((1 + n : Nat) : Int)) ∧ Below w.heap.size w w' := by
  go_enter Tryd.func47, Tryd.ntmps47
  go_wp2
  go_loopw [1, 5] (fun k i wr => ∃ j : Nat, j ≤ n ∧ k = .int .i64 ((1 + j : Nat) : Int) ∧ i = .int .i64 j ∧ Below w.heap.size w wr) (fun _ i _ => n - (intOf i).toNat)
  case atStart => exact ⟨0, by omega, rfl, rfl, Below.refl _ _⟩
  case round =>
    obtain ⟨j, hj, rfl, rfl, hb⟩ := hrel
    by_cases hlt : j < n
    · obtain ⟨P, off, rfl, hct0⟩ := (h.later hb).at j hlt
      obtain ⟨y, hy⟩ : ∃ y, mtx (1 + j) = y := ⟨_, rfl⟩
      have hct : wr.drew.cell? ⟨P, off + j, none⟩ = some (.string y) := by rw [← hy]; exact hct0
      have HY : Hid (mtx (1 + j) = y) := hy
      have hjn : (j : Int) < n := by omega
      clear hy hct0
      go_wp2
      refine wp_region_held_drew (S := fun w' => w'.cell? ⟨P, off + j, none⟩ = some (.string y)) (by kernel_rfl) hct (fun hHeld => ?_)
      refine wpAnyH_take (i := 0) (oi := ({ dst := some 12, op := Op.move (Operand.tmp 0), type := 26, pos := "exact.go:184", after := #[], guard := none } : Oper)) (v := .slice (some ⟨P, off, none⟩) n c) rfl (by kernel_rfl) (by kernel_rfl) (by kernel_rfl) (fun _ _ _ h => h) (Or.inl ⟨by rfl, fun w hSw => by go_simp⟩) hHeld ?_
      simp only [Act.put, List.setIfInBounds_toArray, List.set_cons_zero, List.set_cons_succ]
      refine wpAnyH_take (i := 1) (oi := ({ dst := some 13, op := Op.move (Operand.tmp 5), type := 3, pos := "exact.go:184", after := #[], guard := none } : Oper)) (v := .int .i64 (j : Int)) rfl (by kernel_rfl) (by kernel_rfl) (by kernel_rfl) (fun _ _ _ h => h) (Or.inl ⟨by rfl, fun w hSw => by go_simp⟩) hHeld ?_
      simp only [Act.put, List.setIfInBounds_toArray, List.set_cons_zero, List.set_cons_succ]
      refine wpAnyH_take (i := 2) (oi := ({ dst := some 14, op := Op.indexAddr 26 (Operand.tmp 12) (Operand.tmp 13), type := 0, pos := "exact.go:184", after := #[{ on := 0, ground := Ground.data }, { on := 1, ground := Ground.data }], guard := none } : Oper)) (v := .pointer (some ⟨P, off + j, none⟩)) rfl (by kernel_rfl) (by kernel_rfl) (by kernel_rfl) (fun _ _ _ h => h) (Or.inl ⟨by rfl, fun w hSw => by go_simp⟩) hHeld ?_
      simp only [Act.put, List.setIfInBounds_toArray, List.set_cons_zero, List.set_cons_succ]
      refine wpAnyH_take (i := 3) (oi := ({ dst := some 15, op := Op.load 9 (Operand.tmp 14), type := 9, pos := "exact.go:184", after := #[{ on := 2, ground := Ground.data }], guard := none } : Oper)) (v := .string y) rfl (by kernel_rfl) (by kernel_rfl) (by kernel_rfl) (fun _ _ _ h => h) (Or.inl ⟨by rfl, fun w hSw => by go_simp⟩) hHeld ?_
      simp only [Act.put, List.setIfInBounds_toArray, List.set_cons_zero, List.set_cons_succ]
      refine wpAnyH_take (i := 4) (oi := ({ dst := some 16, op := Op.move (Operand.tmp 1), type := 3, pos := "exact.go:184", after := #[], guard := none } : Oper)) (v := .int .i64 ((1 + j : Nat) : Int)) rfl (by kernel_rfl) (by kernel_rfl) (by kernel_rfl) (fun _ _ _ h => h) (Or.inl ⟨by rfl, fun w hSw => by go_simp⟩) hHeld ?_
      simp only [Act.put, List.setIfInBounds_toArray, List.set_cons_zero, List.set_cons_succ]
      refine wpAnyH_ready (rs := [5]) (by kernel_rfl) (by simp) ?_
      refine AllReadyH.cons (o := ({ dst := some 17, op := Op.call { callee := Callee.value (Operand.func 63), args := #[Operand.tmp 16], argTypes := #[3] }, type := 9, pos := "exact.go:184", after := #[{ on := 4, ground := Ground.data }], guard := none } : Oper)) rfl (fun K hK => ?_) AllReadyH.nil
      go_simp
      refine (markText_any (1 + j) _ (by omega) (by omega) y HY.out).mono ?_
      rintro e w2 ⟨rfl, hb2⟩
      refine hK.out _ _ (keep hb2 hHeld) (fun hHeld => ?_)
      clear hK K
      refine wpAnyH_take (i := 6) (oi := ({ dst := some 18, op := Op.binOp BinOp.neq 9 (Operand.tmp 15) (Operand.tmp 17) 9, type := 4, pos := "exact.go:184", after := #[{ on := 3, ground := Ground.data }, { on := 5, ground := Ground.data }], guard := none } : Oper)) (v := .bool false) rfl (by kernel_rfl) (by kernel_rfl) (by kernel_rfl) (fun _ _ _ h => h) (Or.inl ⟨by rfl, fun w hSw => by go_simp⟩) hHeld ?_
      simp only [Act.put, List.setIfInBounds_toArray, List.set_cons_zero, List.set_cons_succ]
      refine wpAnyH_done (by kernel_rfl) ?_ _
      go_wp2
      go_roundw
      case rel =>
        have R : ∃ j' : Nat, j' ≤ n ∧ Value.int .i64 ((1 + j : Nat) + 1 : Int) = .int .i64 ((1 + j' : Nat) : Int) ∧ Value.int .i64 ((j : Int) + 1) = .int .i64 j' ∧ Below w.heap.size w w2 := ⟨j + 1, by omega, by congr 1, by go_num, hb.drew.trans (hb2.mono hb.size)⟩
        first | exact R | exact ⟨_, _, R, rfl⟩
      case measure => simp [intOf]; omega
    · obtain rfl : j = n := by omega
      go_wp2
      go_ret
      exact ⟨rfl, hb⟩
end Go.Proofs.YtlbackkjjhpljaaDoor
