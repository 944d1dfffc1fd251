/-
  The program's round function over one block.
-/
import Derived.Test.YtjbbbfplephkpaaGreatDoorWb
import Derived.Laws.CopyOwn
import Derived.Deep.RegionHeld3
import Derived.Deep.DrawnRows
namespace Go.Proofs.YtjbbbfplephkpaaGreatDoor
open Go.RowKit
attribute [local go_sem ↓] Go.wp_at_zero Go.wp_at_succ
theorem wpList_store_row {P : Program} {ops : Array Oper} {rest : List Oper} {o : Oper} {a : Act} {w : World} {Q : Exit → Act → World → Prop} (hgd : o.guard = none) (ty : TypeId) (x y : Operand) (ho : o.op = .store ty x y)
    (g : Nat) (cells : Array Value) (hx : a.eval x = .pointer (some ⟨g, 0, none⟩)) (hy : a.eval y = .agg cells)
    (t : TypeId) (old : Array Value) (hg : w.heap[g]? = some (.cells old t (0, 0))) (hi : (P.info? ty).map (·.size) = some cells.size)
    (hold : old.size = cells.size) (h1 : cells.all (·.oneCell') = true)
    (h : wpList P ops Q rest (a.put o.dst undef) (w.setRow g cells)) : wpList P ops Q (o :: rest) a w :=
  wpList_plain hgd fun _ hK => wp_store_row ty x y ho g cells hx hy t old hg hi hold h1 (hK _ _ h)
theorem bdrew {B : Nat} {a w : World} (h : Below B a w) (q : Nat) : Below B a (w.drewN q) := h.trans ⟨rfl, rfl, rfl, Nat.le_refl _, fun _ _ => rfl⟩

def wArr (s : ByteArray) (k : Nat) : Array Value := Array.ofFn (n := 64) fun i => if i.val < k then .int .u32 (wd s i.val : Nat) else .int .u32 0
theorem wArr_size (s : ByteArray) (k : Nat) : (wArr s k).size = 64 := by simp [wArr]
theorem wArr_get (s : ByteArray) (k i : Nat) (h : i < 64) : (wArr s k)[i]? = some (if i < k then .int .u32 (wd s i : Nat) else .int .u32 0) := by
  simp [wArr, h]
theorem wArr_set (s : ByteArray) (k : Nat) : (wArr s k).setIfInBounds k (.int .u32 (wd s k : Nat)) = wArr s (k + 1) := by
  apply Array.ext_getElem?
  intro i
  by_cases hi : i < 64
  · rw [wArr_get _ _ _ hi, Array.getElem?_setIfInBounds, wArr_size]
    by_cases e : k = i
    · subst e; simp [hi]
    · rw [if_neg e, wArr_get _ _ _ hi]
      by_cases h1 : i < k
      · rw [if_pos h1, if_pos (by omega)]
      · rw [if_neg h1, if_neg (by omega)]
  · rw [Array.getElem?_eq_none (by simp [wArr_size]; omega), Array.getElem?_eq_none (by simp [wArr_size]; omega)]
theorem wArr_one (s : ByteArray) (k : Nat) : (wArr s k).all (·.oneCell') = true := by
  rw [Array.all_eq_true]
  intro i hi
  simp only [wArr, Array.getElem_ofFn]
  split <;> rfl
def zeros64 : Array Value := Array.ofFn (n := 64) fun _ => .int .u32 0
theorem wArr_zero (s : ByteArray) : wArr s 0 = zeros64 := by
  unfold wArr zeros64; simp
set_option maxRecDepth 20000 in
theorem Tryz.info113 : (Tryz.prog.info? 113).map (fun i => (i.zero, i.size)) = some (some (.agg zeros64), 64) := by kernel_rfl
set_option maxHeartbeats 1000000 in
set_option maxRecDepth 20000 in
theorem words_any (s : ByteArray) (w : World) (hs : s.size = 64) :
    Calls Tryz.prog 73 #[.string s] w fun e w' => e = .returned (.agg (wArr s 64)) ∧ Below w.heap.size w w' := by
  obtain ⟨hz, hi⟩ := zero_of_info Tryz.info113
  have HI : Hid ((Tryz.prog.info? 113).map (·.size) = some 64) := hi
  clear hi
  have HS : Hid (s.size = 64) := hs
  clear hs
  rw [← wArr_zero s] at hz
  go_enter Tryz.func73, Tryz.ntmps73
  go_wp2
  go_loopw [6] (fun i wr => ∃ k : Nat, k ≤ 16 ∧ i = .int .i64 k ∧ wr.heap[w.heap.size]? = some (.cells (wArr s 0) 113 (0, 0)) ∧ wr.heap[w.heap.size + 1]? = some (.cells (wArr s k) 113 (0, 0)) ∧ Below w.heap.size w wr) (fun i _ => 16 - (intOf i).toNat)
  case atStart => exact ⟨0, by omega, rfl, heap_alloc2_old _ _ _, heap_alloc2_new _ _ _, ((Below.refl _ _).alloc (Nat.le_refl _) _).alloc (by simp) _⟩
  case round =>
    obtain ⟨k, hk, rfl, h0, h1, hb⟩ := hrel
    have H0 : Hid (wr.heap[w.heap.size]? = some (.cells (wArr s 0) 113 (0, 0))) := h0
    have H1 : Hid (wr.heap[w.heap.size + 1]? = some (.cells (wArr s k) 113 (0, 0))) := h1
    clear h0 h1 hz
    by_cases hlt : k < 16
    · have hc : wr.cell? ⟨w.heap.size + 1, k, none⟩ = some (.int .u32 0) := by rw [cell_of_row wr _ k _ _ _ H1.out, wArr_get _ _ _ (by omega)]; simp
      have hf : wr.frozen? ⟨w.heap.size + 1, k, none⟩ = false := frozen_of_row wr _ k _ _ H1.out
      clear HI
      have HW : Hid (wd s k = be s (4 * k) 4) := wd_low s k hlt
      go_wp2_with (go_at_call 108; refine (word_any s (4 * k) _ (by have := HS.out; omega) (by have := HS.out; omega)).mono ?_; rintro e w' ⟨rfl, q, rfl⟩)
      go_roundw
      case rel =>
        refine ⟨k + 1, by omega, by go_num, (heap_setCell_other _ _ _ _ (by simp)).trans H0.out, ?_, (bdrew hb q).setCell (by simp) _⟩
        rw [← HW.out, heap_setCell_same (wr.drewN q) _ _ _ _ _ H1.out, wArr_set]
      case measure => simp [intOf]; omega
    · obtain rfl : k = 16 := by omega
      go_wp2
      have H0' := H0.out
      have H1' := H1.out
      clear H0 H1
      obtain ⟨wo, rfl⟩ : ∃ wo : World, wo = wr := ⟨_, rfl⟩
      go_loopw [5] (fun i wq => ∃ k : Nat, 16 ≤ k ∧ k ≤ 64 ∧ i = .int .i64 k ∧ wq.heap[w.heap.size]? = some (.cells (wArr s 0) 113 (0, 0)) ∧ wq.heap[w.heap.size + 1]? = some (.cells (wArr s k) 113 (0, 0)) ∧ Below w.heap.size w wq) (fun i _ => 64 - (intOf i).toNat)
      case atStart => exact ⟨16, by omega, by omega, rfl, H0', H1', hb⟩
      case round =>
        clear H0' H1' hb hk hlt
        obtain ⟨t, hk', hk, rfl, h0, h1, hb⟩ := hrel
        have H0 : Hid (wr.heap[w.heap.size]? = some (.cells (wArr s 0) 113 (0, 0))) := h0
        have H1 : Hid (wr.heap[w.heap.size + 1]? = some (.cells (wArr s t) 113 (0, 0))) := h1
        clear h0 h1
        by_cases hlt : t < 64
        · have cell : ∀ i, i < t → wr.cell? ⟨w.heap.size + 1, i, none⟩ = some (.int .u32 (wd s i : Nat)) := by
            intro i hi
            rw [cell_of_row wr _ _ _ _ _ H1.out, wArr_get _ _ _ (by omega), if_pos hi]
          have hc : wr.cell? ⟨w.heap.size + 1, t, none⟩ = some (.int .u32 0) := by rw [cell_of_row wr _ _ _ _ _ H1.out, wArr_get _ _ _ (by omega)]; simp
          have hf : wr.frozen? ⟨w.heap.size + 1, t, none⟩ = false := frozen_of_row wr _ _ _ _ H1.out
          have HW : Hid (wd s t = add (add (add (wd s (t - 16)) (s0 (wd s (t - 15)))) (wd s (t - 7))) (s1 (wd s (t - 2)))) := wd_high s t hk'
          obtain ⟨j0, e0⟩ : ∃ j, t - 16 = j := ⟨_, rfl⟩
          obtain ⟨j1, e1⟩ : ∃ j, t - 15 = j := ⟨_, rfl⟩
          obtain ⟨j9, e9⟩ : ∃ j, t - 7 = j := ⟨_, rfl⟩
          obtain ⟨j14, e14⟩ : ∃ j, t - 2 = j := ⟨_, rfl⟩
          rw [e0, e1, e9, e14] at HW
          have g0 : IntKind.i64.wrap ((t : Int) - 16) = (j0 : Int) := by rw [IntKind.wrap_i64]; omega
          have g1 : IntKind.i64.wrap ((t : Int) - 15) = (j1 : Int) := by rw [IntKind.wrap_i64]; omega
          have g9 : IntKind.i64.wrap ((t : Int) - 7) = (j9 : Int) := by rw [IntKind.wrap_i64]; omega
          have g14 : IntKind.i64.wrap ((t : Int) - 2) = (j14 : Int) := by rw [IntKind.wrap_i64]; omega
          have c0 := cell j0 (by omega)
          have c1 := cell j1 (by omega)
          have c9 := cell j9 (by omega)
          have c14 := cell j14 (by omega)
          have q0 : (j0 : Int) < 64 := by omega
          have q1 : (j1 : Int) < 64 := by omega
          have q9 : (j9 : Int) < 64 := by omega
          have q14 : (j14 : Int) < 64 := by omega
          have qt : (t : Int) < 64 := by omega
          have n0 : ¬ j0 = t := by omega
          have n1 : ¬ j1 = t := by omega
          have n9 : ¬ j9 = t := by omega
          have n14 : ¬ j14 = t := by omega
          clear e0 e1 e9 e14 cell
          have l0 := wd_lt s j0
          have l1 := wd_lt s j1
          have l9 := wd_lt s j9
          have l14 := wd_lt s j14
          obtain ⟨a0, e0⟩ : ∃ a, wd s j0 = a := ⟨_, rfl⟩
          obtain ⟨a1, e1⟩ : ∃ a, wd s j1 = a := ⟨_, rfl⟩
          obtain ⟨a9, e9⟩ : ∃ a, wd s j9 = a := ⟨_, rfl⟩
          obtain ⟨a14, e14⟩ : ∃ a, wd s j14 = a := ⟨_, rfl⟩
          rw [e0] at c0 l0; rw [e1] at c1 l1; rw [e9] at c9 l9; rw [e14] at c14 l14
          rw [e0, e1, e9, e14] at HW
          clear e0 e1 e9 e14
          have b1 : IntKind.u32.wrap ((a0 : Int) + ((s0 a1 : Nat) : Int)) = ((add a0 (s0 a1) : Nat) : Int) := by rw [IntKind.wrap_u32, w_add]
          have b2 : IntKind.u32.wrap (((add a0 (s0 a1) : Nat) : Int) + (a9 : Int)) = ((add (add a0 (s0 a1)) a9 : Nat) : Int) := by rw [IntKind.wrap_u32, w_add]
          have b3 : IntKind.u32.wrap (((add (add a0 (s0 a1)) a9 : Nat) : Int) + ((s1 a14 : Nat) : Int)) = ((add (add (add a0 (s0 a1)) a9) (s1 a14) : Nat) : Int) := by rw [IntKind.wrap_u32, w_add]
          have far : ∀ (i : Nat) (v u : Value), ¬ i = t → wr.cell? ⟨w.heap.size + 1, i, none⟩ = some u → (wr.setCell ⟨w.heap.size + 1, t, none⟩ v).cell? ⟨w.heap.size + 1, i, none⟩ = some u := by
            intro i v u hn hu
            rw [World.cell?_setCell_other]
            · exact hu
            · intro e; injection e with e1 e2; exact hn e2.symm
          have f0 := fun v => far j0 v _ n0 c0
          have f1 := fun v => far j1 v _ n1 c1
          have f9 := fun v => far j9 v _ n9 c9
          have f14 := fun v => far j14 v _ n14 c14
          clear far
          go_wp2
          go_region_held3 (fun w' => w'.cell? ⟨w.heap.size + 1, j0, none⟩ = some (.int .u32 a0) ∧ w'.cell? ⟨w.heap.size + 1, j1, none⟩ = some (.int .u32 a1) ∧ w'.cell? ⟨w.heap.size + 1, j9, none⟩ = some (.int .u32 a9) ∧ w'.cell? ⟨w.heap.size + 1, j14, none⟩ = some (.int .u32 a14)) (go_keep) (first | (go_at_call 109; refine (s0_any a1 _ l1).mono ?_; rintro e w' ⟨rfl, rfl⟩) | (go_at_call 110; refine (s1_any a14 _ l14).mono ?_; rintro e w' ⟨rfl, rfl⟩))
          clear f0 f1 f9 f14
          go_wp2
          go_roundw
          case rel =>
            have R : ∃ k : Nat, 16 ≤ k ∧ k ≤ 64 ∧ Value.int .i64 ((t : Int) + 1) = .int .i64 k ∧ (wr.setCell ⟨w.heap.size + 1, t, none⟩ (.int .u32 (add (add (add a0 (s0 a1)) a9) (s1 a14) : Nat))).drew.heap[w.heap.size]? = some (.cells (wArr s 0) 113 (0, 0)) ∧ (wr.setCell ⟨w.heap.size + 1, t, none⟩ (.int .u32 (add (add (add a0 (s0 a1)) a9) (s1 a14) : Nat))).drew.heap[w.heap.size + 1]? = some (.cells (wArr s k) 113 (0, 0)) ∧ Below w.heap.size w (wr.setCell ⟨w.heap.size + 1, t, none⟩ (.int .u32 (add (add (add a0 (s0 a1)) a9) (s1 a14) : Nat))).drew := by
              refine ⟨t + 1, by omega, by omega, by go_num, (heap_setCell_other _ _ _ _ (by simp)).trans H0.out, ?_, (hb.setCell (by simp) _).drew⟩
              rw [← HW.out]
              exact (heap_setCell_same wr _ _ _ _ _ H1.out).trans (by rw [wArr_set])
            exact ⟨_, _, _, _, _, _, _, _, _, _, _, _, _, _, _, _, _, _, _, _, _, _, _, _, _, _, _, _, R, rfl⟩
          case measure => simp [intOf]; omega
        · obtain rfl : t = 64 := by omega
          go_wp2_with (first | (refine wpList_load_row rfl 113 (.tmp 3) rfl _ rfl 113 _ _ (.array 64 87) H1.out Tryz.underlying113 rfl (by rw [wArr_size]; exact HI.out) ?_) | (refine wpList_store_row rfl 113 (.tmp 2) (.tmp 43) rfl _ _ rfl rfl 113 _ H0.out (by rw [wArr_size]; exact HI.out) (by rw [wArr_size, wArr_size]) (wArr_one _ _) ?_))
          exact bodyPost_ret (v := .agg (wArr s 64)) (results_cell_row Tryz.results73 _ _ w.heap.size 113 (wArr s 64) (0, 0) (.array 64 87) rfl (setRow_heap _ _ _ _ _ _ H0.out) Tryz.underlying113 rfl (by rw [wArr_size]; exact HI.out)) rfl ⟨rfl, below_setRow hb (Nat.le_refl _) _⟩
end Go.Proofs.YtjbbbfplephkpaaGreatDoor
namespace Go.Proofs.YtjbbbfplephkpaaGreatDoor
open Go.RowKit
/-- The package's table of keys lies in block 0. -/
def KeysAt (w : World) : Prop := ∀ i, i < 64 → w.cell? ⟨0, i, none⟩ = some (.int .u32 (key i : Nat))
theorem KeysAt.lt {w : World} (h : KeysAt w) : 0 < w.heap.size := block_lt_of_cell (h 0 (by omega))
theorem KeysAt.below {B : Nat} {w w' : World} (h : KeysAt w) (hb : Below B w w') (hB : 0 < B) : KeysAt w' :=
  fun i hi => (hb.cell (p := ⟨0, i, none⟩) hB).trans (h i hi)
def zeros8 : Array Value := Array.ofFn (n := 8) fun _ => .int .u32 0
set_option maxRecDepth 20000 in
theorem Tryz.info91 : (Tryz.prog.info? 91).map (fun i => (i.zero, i.size)) = some (some (.agg zeros8), 8) := by kernel_rfl
theorem zeros8_size : zeros8.size = 8 := rfl
theorem w_not' (a : Nat) (ha : a < 4294967296) : bits .xor .u32 (if IntKind.u32.signed = true then -1 else IntKind.u32.max) (a : Int) = ((no a : Nat) : Int) := w_not a ha
theorem wr_add (a b : Nat) : IntKind.u32.wrap ((a : Int) + (b : Int)) = ((add a b : Nat) : Int) := by rw [IntKind.wrap_u32, w_add]
attribute [local go_sem ↓] Go.wp_at_zero Go.wp_at_succ
theorem heap_three (w : World) (A B C : Obj) : (((w.alloc A).alloc B).alloc C).heap[w.heap.size]? = some A ∧ (((w.alloc A).alloc B).alloc C).heap[w.heap.size + 1]? = some B ∧ (((w.alloc A).alloc B).alloc C).heap[w.heap.size + 2]? = some C := by
  have e1 : (w.alloc A).heap.size = w.heap.size + 1 := by simp
  have e2 : ((w.alloc A).alloc B).heap.size = w.heap.size + 2 := by simp
  refine ⟨?_, ?_, ?_⟩
  · rw [_root_.Go.heap_alloc_old _ _ (by omega), heap_alloc2_old]
  · rw [_root_.Go.heap_alloc_old _ _ (by omega), heap_alloc2_new]
  · have := heap_alloc_new ((w.alloc A).alloc B) C
    rwa [e2] at this
set_option maxHeartbeats 2000000 in
set_option maxRecDepth 20000 in
theorem block_any (s : St) (blk : ByteArray) (w : World) (hs : s.ok) (hk : KeysAt w) :
    Calls Tryz.prog 72 #[.agg s.vals, .agg (wArr blk 64)] w fun e w' => e = .returned (.agg (comp s blk).vals) ∧ Below w.heap.size w w' := by
  obtain ⟨hz, hi⟩ := zero_of_info Tryz.info91
  have HI : Hid ((Tryz.prog.info? 91).map (·.size) = some 8) := hi
  clear hi
  have HK : Hid (KeysAt w) := hk
  clear hk
  go_enter Tryz.func72, Tryz.ntmps72
  go_wp2
  clear hz
  obtain ⟨W, hW⟩ : ∃ W, W = ((w.alloc (.cells s.vals 91)).alloc (.cells (wArr blk 64) 113)).alloc (.cells zeros8 91) := ⟨_, rfl⟩
  rw [← hW]
  obtain ⟨b0, b1, b2⟩ := heap_three w (.cells s.vals 91) (.cells (wArr blk 64) 113) (.cells zeros8 91)
  have hb : Below w.heap.size w W := by rw [hW]; exact (((Below.refl _ _).alloc (Nat.le_refl _) _).alloc (by simp) _).alloc (by simp; omega) _
  rw [← hW] at b0 b1 b2
  clear hW
  have v0 : W.cell? ⟨w.heap.size, 0, none⟩ = some (.int .u32 (s.a : Nat)) := (cell_of_row W _ 0 _ _ _ b0).trans (vals_get s 0 (by omega))
  have v1 : W.cell? ⟨w.heap.size, 1, none⟩ = some (.int .u32 (s.b : Nat)) := (cell_of_row W _ 1 _ _ _ b0).trans (vals_get s 1 (by omega))
  have v2 : W.cell? ⟨w.heap.size, 2, none⟩ = some (.int .u32 (s.c : Nat)) := (cell_of_row W _ 2 _ _ _ b0).trans (vals_get s 2 (by omega))
  have v3 : W.cell? ⟨w.heap.size, 3, none⟩ = some (.int .u32 (s.d : Nat)) := (cell_of_row W _ 3 _ _ _ b0).trans (vals_get s 3 (by omega))
  have v4 : W.cell? ⟨w.heap.size, 4, none⟩ = some (.int .u32 (s.e : Nat)) := (cell_of_row W _ 4 _ _ _ b0).trans (vals_get s 4 (by omega))
  have v5 : W.cell? ⟨w.heap.size, 5, none⟩ = some (.int .u32 (s.f : Nat)) := (cell_of_row W _ 5 _ _ _ b0).trans (vals_get s 5 (by omega))
  have v6 : W.cell? ⟨w.heap.size, 6, none⟩ = some (.int .u32 (s.g : Nat)) := (cell_of_row W _ 6 _ _ _ b0).trans (vals_get s 6 (by omega))
  have v7 : W.cell? ⟨w.heap.size, 7, none⟩ = some (.int .u32 (s.h : Nat)) := (cell_of_row W _ 7 _ _ _ b0).trans (vals_get s 7 (by omega))
  have B0 : Hid (W.heap[w.heap.size]? = some (.cells s.vals 91 (0, 0))) := b0
  have B1 : Hid (W.heap[w.heap.size + 1]? = some (.cells (wArr blk 64) 113 (0, 0))) := b1
  have B2 : Hid (W.heap[w.heap.size + 2]? = some (.cells zeros8 91 (0, 0))) := b2
  clear b0 b1 b2
  go_quiet (fail)
  obtain ⟨n1, rfl⟩ : ∃ n1, n1 = nq := ⟨_, rfl⟩
  go_wp2
  go_quiet (fail)
  go_wp2
  go_loopw [5, 6, 7, 8, 9, 10, 11, 12, 32] (fun a b c d e f g h i wr => ∃ k : Nat, k ≤ 64 ∧ i = .int .i64 k ∧ (∃ q, wr = W.drewN q) ∧ a = .int .u32 ((rds s blk k).a : Nat) ∧ b = .int .u32 ((rds s blk k).b : Nat) ∧ c = .int .u32 ((rds s blk k).c : Nat) ∧ d = .int .u32 ((rds s blk k).d : Nat) ∧ e = .int .u32 ((rds s blk k).e : Nat) ∧ f = .int .u32 ((rds s blk k).f : Nat) ∧ g = .int .u32 ((rds s blk k).g : Nat) ∧ h = .int .u32 ((rds s blk k).h : Nat)) (fun _ _ _ _ _ _ _ _ i _ => 64 - (intOf i).toNat)
  case atStart => exact ⟨0, by omega, rfl, ⟨n1 + nq, by rw [World.drewN_drewN]⟩, rfl, rfl, rfl, rfl, rfl, rfl, rfl, rfl⟩
  case round =>
    obtain ⟨k, hk, rfl, ⟨q, rfl⟩, rfl, rfl, rfl, rfl, rfl, rfl, rfl, rfl⟩ := hrel
    obtain ⟨l0, l1, l2, l3, l4, l5, l6, l7⟩ := rds_ok s blk k hs
    by_cases hlt : k < 64
    · have HR : Hid (rds s blk (k + 1) = rnd (rds s blk k) (key k) (wd blk k)) := rfl
      have ck : W.cell? ⟨0, k, none⟩ = some (.int .u32 (key k : Nat)) := (hb.cell (p := ⟨0, k, none⟩) HK.out.lt).trans (HK.out k hlt)
      have cw : W.cell? ⟨w.heap.size + 1, k, none⟩ = some (.int .u32 (wd blk k : Nat)) := (cell_of_row W _ k _ _ _ B1.out).trans (by rw [wArr_get _ _ _ hlt, if_pos hlt])
      have lk := key_lt k
      have lw := wd_lt blk k
      obtain ⟨K, eK⟩ : ∃ x, key k = x := ⟨_, rfl⟩
      obtain ⟨X, eX⟩ : ∃ x, wd blk k = x := ⟨_, rfl⟩
      rw [eK] at ck lk HR
      rw [eX] at cw lw HR
      clear eK eX v0 v1 v2 v3 v4 v5 v6 v7
      obtain ⟨r, hr⟩ : ∃ r, rds s blk k = r := ⟨_, rfl⟩
      rw [hr] at HR l0 l1 l2 l3 l4 l5 l6 l7 ⊢
      clear hr
      obtain ⟨a, b, c, d, e, f, g, h⟩ := r
      simp only at l0 l1 l2 l3 l4 l5 l6 l7 ⊢
      have p0 : (k : Int) < 64 := by omega
      obtain ⟨V, hV⟩ : ∃ V, V = W.drewN q := ⟨_, rfl⟩
      rw [← hV]
      replace ck : V.cell? ⟨0, k, none⟩ = some (.int .u32 (K : Nat)) := by rw [hV]; exact ck
      replace cw : V.cell? ⟨w.heap.size + 1, k, none⟩ = some (.int .u32 (X : Nat)) := by rw [hV]; exact cw
      have HV : Hid (V = W.drewN q) := hV
      clear hV
      have x1 := wr_add h (S1 e)
      have x2 := w_and e f l4 l5
      have x3 := w_not' e l4
      have x4 := w_and (no e) g (no_lt e l4) l6
      have x5 := w_xor (an e f) (an (no e) g) (an_lt _ _ l5) (an_lt _ _ l6)
      have x6 := wr_add (add h (S1 e)) (xo (an e f) (an (no e) g))
      have x7 := wr_add (add (add h (S1 e)) (xo (an e f) (an (no e) g))) K
      have x8 := wr_add (add (add (add h (S1 e)) (xo (an e f) (an (no e) g))) K) X
      go_wp2
      go_quiet ((go_at_call 106; exact Calls.quiet_of_same (S1_any _ _ (by assumption))))
      have HT : Hid (add (add (add (add h (S1 e)) (xo (an e f) (an (no e) g))) K) X = t1 ⟨a, b, c, d, e, f, g, h⟩ K X) := rfl
      obtain ⟨T1, eT⟩ : ∃ x, add (add (add (add h (S1 e)) (xo (an e f) (an (no e) g))) K) X = x := ⟨_, rfl⟩
      rw [eT] at HT ⊢
      clear eT x1 x2 x3 x4 x5 x6 x7 x8
      have y1 := w_and a b l0 l1
      have y2 := w_and a c l0 l2
      have y3 := w_and b c l1 l2
      have y4 := w_xor (an a b) (an a c) (an_lt _ _ l1) (an_lt _ _ l2)
      have y5 := w_xor (xo (an a b) (an a c)) (an b c) (xo_lt _ _ (an_lt _ _ l1) (an_lt _ _ l2)) (an_lt _ _ l2)
      have y6 := w_add (S0 a) (xo (xo (an a b) (an a c)) (an b c))
      have y7 := w_add d T1
      have y8 := w_add T1 (add (S0 a) (xo (xo (an a b) (an a c)) (an b c)))
      go_wp2_with (go_at_call 107; refine (S0_any _ _ (by assumption)).mono ?_; rintro e w' ⟨rfl, rfl⟩)
      go_roundw
      case rel =>
        refine ⟨k + 1, by omega, by go_num, ⟨q + nq, by rw [HV.out, World.drewN_drewN]⟩, ?_⟩
        rw [HR.out]
        refine ⟨?_, rfl, rfl, rfl, ?_, rfl, rfl, rfl⟩
        · rw [w_add, HT.out]; rfl
        · rw [w_add, HT.out]; rfl
      case measure => simp [intOf]; omega
    · obtain rfl : k = 64 := by omega
      have HC : Hid (comp s blk = ⟨add s.a (rds s blk 64).a, add s.b (rds s blk 64).b, add s.c (rds s blk 64).c, add s.d (rds s blk 64).d, add s.e (rds s blk 64).e, add s.f (rds s blk 64).f, add s.g (rds s blk 64).g, add s.h (rds s blk 64).h⟩) := rfl
      obtain ⟨r, hr⟩ : ∃ r, rds s blk 64 = r := ⟨_, rfl⟩
      rw [hr] at HC l0 l1 l2 l3 l4 l5 l6 l7 ⊢
      clear hr
      have HB : Hid (Below w.heap.size w (W.drewN q)) := bdrew hb q
      clear hb
      have z0 := w_add s.a r.a
      have z1 := w_add s.b r.b
      have z2 := w_add s.c r.c
      have z3 := w_add s.d r.d
      have z4 := w_add s.e r.e
      have z5 := w_add s.f r.f
      have z6 := w_add s.g r.g
      have z7 := w_add s.h r.h
      have B3 : Hid ((W.drewN q).heap[w.heap.size + 1 + 1]? = some (.cells zeros8 91 (0, 0))) := B2.out
      go_wp2_with (refine wpList_store_row rfl 91 (.tmp 4) (.tmp 115) rfl (w.heap.size + 1 + 1) (St.vals ⟨add s.a r.a, add s.b r.b, add s.c r.c, add s.d r.d, add s.e r.e, add s.f r.f, add s.g r.g, add s.h r.h⟩) rfl (by unfold St.vals; rfl) 91 _ B3.out (by rw [vals_size]; exact HI.out) (by rw [vals_size, zeros8_size]) (vals_one _) ?_)
      rw [HC.out]
      exact bodyPost_ret (v := .agg (St.vals ⟨add s.a r.a, add s.b r.b, add s.c r.c, add s.d r.d, add s.e r.e, add s.f r.f, add s.g r.g, add s.h r.h⟩)) (results_cell_row Tryz.results72 _ _ (w.heap.size + 1 + 1) 91 _ (0, 0) (.array 8 87) rfl (setRow_heap _ _ _ _ _ _ B3.out) Tryz.underlying91 rfl (by rw [vals_size]; exact HI.out)) rfl ⟨rfl, below_setRow HB.out (by omega) _⟩
end Go.Proofs.YtjbbbfplephkpaaGreatDoor
