/-
  The words of a block: the program's array.
-/
import Derived.Test.YtlbackkjjhpljaaGreatDoorWb
import Derived.Laws.CopyOwn
import Derived.Deep.RegionHeld3
import Derived.Deep.DrawnRows
namespace Go.Proofs.YtlbackkjjhpljaaGreatDoor
open Go.RowKit
attribute [local go_sem ↓] Go.wp_at_zero Go.wp_at_succ
theorem wpList_store_row {P : Program} {ops : Array Oper} {rest : List Oper} {o : Oper} {a : Act} {w : World} {Q : Exit → Act → World → Prop} (hgd : o.guard = none) (ty : TypeId) (x y : Operand) (ho : o.op = .store ty x y)
    (g : Nat) (cells : Array Value) (hx : a.eval x = .pointer (some ⟨g, 0, none⟩)) (hy : a.eval y = .agg cells)
    (t : TypeId) (old : Array Value) (hg : w.heap[g]? = some (.cells old t (0, 0))) (hi : (P.info? ty).map (·.size) = some cells.size)
    (hold : old.size = cells.size) (h1 : cells.all (·.oneCell') = true)
    (h : wpList P ops Q rest (a.put o.dst undef) (w.setRow g cells)) : wpList P ops Q (o :: rest) a w :=
  wpList_plain hgd fun _ hK => wp_store_row ty x y ho g cells hx hy t old hg hi hold h1 (hK _ _ h)
theorem bdrew {B : Nat} {a w : World} (h : Below B a w) (q : Nat) : Below B a (w.drewN q) := h.trans ⟨rfl, rfl, rfl, Nat.le_refl _, fun _ _ => rfl⟩

def wArr (s : ByteArray) (k : Nat) : Array Value := Array.ofFn (n := 64) fun i => if i.val < k then .int .u32 (wd s i.val : Nat) else .int .u32 0
theorem wArr_size (s : ByteArray) (k : Nat) : (wArr s k).size = 64 := by simp [wArr]
theorem wArr_get (s : ByteArray) (k i : Nat) (h : i < 64) : (wArr s k)[i]? = some (if i < k then .int .u32 (wd s i : Nat) else .int .u32 0) := by
  simp [wArr, h]
theorem wArr_set (s : ByteArray) (k : Nat) : (wArr s k).setIfInBounds k (.int .u32 (wd s k : Nat)) = wArr s (k + 1) := by
  apply Array.ext_getElem?
  intro i
  by_cases hi : i < 64
  · rw [wArr_get _ _ _ hi, Array.getElem?_setIfInBounds, wArr_size]
    by_cases e : k = i
    · subst e; simp [hi]
    · rw [if_neg e, wArr_get _ _ _ hi]
      by_cases h1 : i < k
      · rw [if_pos h1, if_pos (by omega)]
      · rw [if_neg h1, if_neg (by omega)]
  · rw [Array.getElem?_eq_none (by simp [wArr_size]; omega), Array.getElem?_eq_none (by simp [wArr_size]; omega)]
theorem wArr_one (s : ByteArray) (k : Nat) : (wArr s k).all (·.oneCell') = true := by
  rw [Array.all_eq_true]
  intro i hi
  simp only [wArr, Array.getElem_ofFn]
  split <;> rfl
def zeros64 : Array Value := Array.ofFn (n := 64) fun _ => .int .u32 0
theorem wArr_zero (s : ByteArray) : wArr s 0 = zeros64 := by
  unfold wArr zeros64; simp
set_option maxRecDepth 20000 in
theorem Tryz.info167 : (Tryz.prog.info? 167).map (fun i => (i.zero, i.size)) = some (some (.agg zeros64), 64) := by kernel_rfl
set_option maxHeartbeats 1000000 in
set_option maxRecDepth 20000 in
theorem words_any (s : ByteArray) (w : World) (hs : s.size = 64) :
    Calls Tryz.prog 111 #[.string s] w fun e w' => e = .returned (.agg (wArr s 64)) ∧ Below w.heap.size w w' := by
  obtain ⟨hz, hi⟩ := zero_of_info Tryz.info167
  have HI : Hid ((Tryz.prog.info? 167).map (·.size) = some 64) := hi
  clear hi
  have HS : Hid (s.size = 64) := hs
  clear hs
  rw [← wArr_zero s] at hz
  go_enter Tryz.func111, Tryz.ntmps111
  go_wp2
  go_loopw [6] (fun i wr => ∃ k : Nat, k ≤ 16 ∧ i = .int .i64 k ∧ wr.heap[w.heap.size]? = some (.cells (wArr s 0) 167 (0, 0)) ∧ wr.heap[w.heap.size + 1]? = some (.cells (wArr s k) 167 (0, 0)) ∧ Below w.heap.size w wr) (fun i _ => 16 - (intOf i).toNat)
  case atStart => exact ⟨0, by omega, rfl, heap_alloc2_old _ _ _, heap_alloc2_new _ _ _, ((Below.refl _ _).alloc (Nat.le_refl _) _).alloc (by simp) _⟩
  case round =>
    obtain ⟨k, hk, rfl, h0, h1, hb⟩ := hrel
    have H0 : Hid (wr.heap[w.heap.size]? = some (.cells (wArr s 0) 167 (0, 0))) := h0
    have H1 : Hid (wr.heap[w.heap.size + 1]? = some (.cells (wArr s k) 167 (0, 0))) := h1
    clear h0 h1 hz
    by_cases hlt : k < 16
    · have hc : wr.cell? ⟨w.heap.size + 1, k, none⟩ = some (.int .u32 0) := by rw [cell_of_row wr _ k _ _ _ H1.out, wArr_get _ _ _ (by omega)]; simp
      have hf : wr.frozen? ⟨w.heap.size + 1, k, none⟩ = false := frozen_of_row wr _ k _ _ H1.out
      clear HI
      have HW : Hid (wd s k = be s (4 * k) 4) := wd_low s k hlt
      go_wp2_with (go_at_call 136; refine (word_any s (4 * k) _ (by have := HS.out; omega) (by have := HS.out; omega)).mono ?_; rintro e w' ⟨rfl, q, rfl⟩)
      go_roundw
      case rel =>
        refine ⟨k + 1, by omega, by go_num, (heap_setCell_other _ _ _ _ (by simp)).trans H0.out, ?_, (bdrew hb q).setCell (by simp) _⟩
        rw [← HW.out, heap_setCell_same (wr.drewN q) _ _ _ _ _ H1.out, wArr_set]
      case measure => simp [intOf]; omega
    · obtain rfl : k = 16 := by omega
      go_wp2
      have H0' := H0.out
      have H1' := H1.out
      clear H0 H1
      obtain ⟨wo, rfl⟩ : ∃ wo : World, wo = wr := ⟨_, rfl⟩
      go_loopw [5] (fun i wq => ∃ k : Nat, 16 ≤ k ∧ k ≤ 64 ∧ i = .int .i64 k ∧ wq.heap[w.heap.size]? = some (.cells (wArr s 0) 167 (0, 0)) ∧ wq.heap[w.heap.size + 1]? = some (.cells (wArr s k) 167 (0, 0)) ∧ Below w.heap.size w wq) (fun i _ => 64 - (intOf i).toNat)
      case atStart => exact ⟨16, by omega, by omega, rfl, H0', H1', hb⟩
      case round =>
        clear H0' H1' hb hk hlt
        obtain ⟨t, hk', hk, rfl, h0, h1, hb⟩ := hrel
        have H0 : Hid (wr.heap[w.heap.size]? = some (.cells (wArr s 0) 167 (0, 0))) := h0
        have H1 : Hid (wr.heap[w.heap.size + 1]? = some (.cells (wArr s t) 167 (0, 0))) := h1
        clear h0 h1
        by_cases hlt : t < 64
        · have cell : ∀ i, i < t → wr.cell? ⟨w.heap.size + 1, i, none⟩ = some (.int .u32 (wd s i : Nat)) := by
            intro i hi
            rw [cell_of_row wr _ _ _ _ _ H1.out, wArr_get _ _ _ (by omega), if_pos hi]
          have hc : wr.cell? ⟨w.heap.size + 1, t, none⟩ = some (.int .u32 0) := by rw [cell_of_row wr _ _ _ _ _ H1.out, wArr_get _ _ _ (by omega)]; simp
          have hf : wr.frozen? ⟨w.heap.size + 1, t, none⟩ = false := frozen_of_row wr _ _ _ _ H1.out
          have HW : Hid (wd s t = add (add (add (wd s (t - 16)) (s0 (wd s (t - 15)))) (wd s (t - 7))) (s1 (wd s (t - 2)))) := wd_high s t hk'
          obtain ⟨j0, e0⟩ : ∃ j, t - 16 = j := ⟨_, rfl⟩
          obtain ⟨j1, e1⟩ : ∃ j, t - 15 = j := ⟨_, rfl⟩
          obtain ⟨j9, e9⟩ : ∃ j, t - 7 = j := ⟨_, rfl⟩
          obtain ⟨j14, e14⟩ : ∃ j, t - 2 = j := ⟨_, rfl⟩
          rw [e0, e1, e9, e14] at HW
          have g0 : IntKind.i64.wrap ((t : Int) - 16) = (j0 : Int) := by rw [IntKind.wrap_i64]; omega
          have g1 : IntKind.i64.wrap ((t : Int) - 15) = (j1 : Int) := by rw [IntKind.wrap_i64]; omega
          have g9 : IntKind.i64.wrap ((t : Int) - 7) = (j9 : Int) := by rw [IntKind.wrap_i64]; omega
          have g14 : IntKind.i64.wrap ((t : Int) - 2) = (j14 : Int) := by rw [IntKind.wrap_i64]; omega
          have c0 := cell j0 (by omega)
          have c1 := cell j1 (by omega)
          have c9 := cell j9 (by omega)
          have c14 := cell j14 (by omega)
          have q0 : (j0 : Int) < 64 := by omega
          have q1 : (j1 : Int) < 64 := by omega
          have q9 : (j9 : Int) < 64 := by omega
          have q14 : (j14 : Int) < 64 := by omega
          have qt : (t : Int) < 64 := by omega
          have n0 : ¬ j0 = t := by omega
          have n1 : ¬ j1 = t := by omega
          have n9 : ¬ j9 = t := by omega
          have n14 : ¬ j14 = t := by omega
          clear e0 e1 e9 e14 cell
          have l0 := wd_lt s j0
          have l1 := wd_lt s j1
          have l9 := wd_lt s j9
          have l14 := wd_lt s j14
          obtain ⟨a0, e0⟩ : ∃ a, wd s j0 = a := ⟨_, rfl⟩
          obtain ⟨a1, e1⟩ : ∃ a, wd s j1 = a := ⟨_, rfl⟩
          obtain ⟨a9, e9⟩ : ∃ a, wd s j9 = a := ⟨_, rfl⟩
          obtain ⟨a14, e14⟩ : ∃ a, wd s j14 = a := ⟨_, rfl⟩
          rw [e0] at c0 l0; rw [e1] at c1 l1; rw [e9] at c9 l9; rw [e14] at c14 l14
          rw [e0, e1, e9, e14] at HW
          clear e0 e1 e9 e14
          have b1 : IntKind.u32.wrap ((a0 : Int) + ((s0 a1 : Nat) : Int)) = ((add a0 (s0 a1) : Nat) : Int) := by rw [IntKind.wrap_u32, w_add]
          have b2 : IntKind.u32.wrap (((add a0 (s0 a1) : Nat) : Int) + (a9 : Int)) = ((add (add a0 (s0 a1)) a9 : Nat) : Int) := by rw [IntKind.wrap_u32, w_add]
          have b3 : IntKind.u32.wrap (((add (add a0 (s0 a1)) a9 : Nat) : Int) + ((s1 a14 : Nat) : Int)) = ((add (add (add a0 (s0 a1)) a9) (s1 a14) : Nat) : Int) := by rw [IntKind.wrap_u32, w_add]
          have far : ∀ (i : Nat) (v u : Value), ¬ i = t → wr.cell? ⟨w.heap.size + 1, i, none⟩ = some u → (wr.setCell ⟨w.heap.size + 1, t, none⟩ v).cell? ⟨w.heap.size + 1, i, none⟩ = some u := by
            intro i v u hn hu
            rw [World.cell?_setCell_other]
            · exact hu
            · intro e; injection e with e1 e2; exact hn e2.symm
          have f0 := fun v => far j0 v _ n0 c0
          have f1 := fun v => far j1 v _ n1 c1
          have f9 := fun v => far j9 v _ n9 c9
          have f14 := fun v => far j14 v _ n14 c14
          clear far
          go_wp2
          go_region_held3 (fun w' => w'.cell? ⟨w.heap.size + 1, j0, none⟩ = some (.int .u32 a0) ∧ w'.cell? ⟨w.heap.size + 1, j1, none⟩ = some (.int .u32 a1) ∧ w'.cell? ⟨w.heap.size + 1, j9, none⟩ = some (.int .u32 a9) ∧ w'.cell? ⟨w.heap.size + 1, j14, none⟩ = some (.int .u32 a14)) (go_keep) (first | (go_at_call 137; refine (s0_any a1 _ l1).mono ?_; rintro e w' ⟨rfl, rfl⟩) | (go_at_call 138; refine (s1_any a14 _ l14).mono ?_; rintro e w' ⟨rfl, rfl⟩))
          clear f0 f1 f9 f14
          go_wp2
          go_roundw
          case rel =>
            have R : ∃ k : Nat, 16 ≤ k ∧ k ≤ 64 ∧ Value.int .i64 ((t : Int) + 1) = .int .i64 k ∧ (wr.setCell ⟨w.heap.size + 1, t, none⟩ (.int .u32 (add (add (add a0 (s0 a1)) a9) (s1 a14) : Nat))).drew.heap[w.heap.size]? = some (.cells (wArr s 0) 167 (0, 0)) ∧ (wr.setCell ⟨w.heap.size + 1, t, none⟩ (.int .u32 (add (add (add a0 (s0 a1)) a9) (s1 a14) : Nat))).drew.heap[w.heap.size + 1]? = some (.cells (wArr s k) 167 (0, 0)) ∧ Below w.heap.size w (wr.setCell ⟨w.heap.size + 1, t, none⟩ (.int .u32 (add (add (add a0 (s0 a1)) a9) (s1 a14) : Nat))).drew := by
              refine ⟨t + 1, by omega, by omega, by go_num, (heap_setCell_other _ _ _ _ (by simp)).trans H0.out, ?_, (hb.setCell (by simp) _).drew⟩
              rw [← HW.out]
              exact (heap_setCell_same wr _ _ _ _ _ H1.out).trans (by rw [wArr_set])
            exact ⟨_, _, _, _, _, _, _, _, _, _, _, _, _, _, _, _, _, _, _, _, _, _, _, _, _, _, _, _, R, rfl⟩
          case measure => simp [intOf]; omega
        · obtain rfl : t = 64 := by omega
          go_wp2_with (first | (refine wpList_load_row rfl 167 (.tmp 3) rfl _ rfl 167 _ _ (.array 64 127) H1.out Tryz.underlying167 rfl (by rw [wArr_size]; exact HI.out) ?_) | (refine wpList_store_row rfl 167 (.tmp 2) (.tmp 43) rfl _ _ rfl rfl 167 _ H0.out (by rw [wArr_size]; exact HI.out) (by rw [wArr_size, wArr_size]) (wArr_one _ _) ?_))
          exact bodyPost_ret (v := .agg (wArr s 64)) (results_cell_row Tryz.results111 _ _ w.heap.size 167 (wArr s 64) (0, 0) (.array 64 127) rfl (setRow_heap _ _ _ _ _ _ H0.out) Tryz.underlying167 rfl (by rw [wArr_size]; exact HI.out)) rfl ⟨rfl, below_setRow hb (Nat.le_refl _) _⟩
end Go.Proofs.YtlbackkjjhpljaaGreatDoor
