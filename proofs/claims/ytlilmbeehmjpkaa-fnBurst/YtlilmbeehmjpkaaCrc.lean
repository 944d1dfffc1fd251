import Derived.Test.YtlilmbeehmjpkaaRows
import Derived.WalkKit
import Derived.ProofKit
import Derived.Deep.WholeRow
import Derived.Laws.CopyOwn
import Derived.Test.YtlilmbeehmjpkaaMath
namespace Go.Proofs.Ytlilmbeehmjpkaa
open Go.RowKit

set_option maxHeartbeats 400000 in
theorem shifts_any (c : Nat) (w : World) (hc : c < 4294967296) :
    Calls Try.prog 33 #[.int .u32 c] w fun e w' => e = .returned (.int .u32 (shN 8 c : Nat)) ∧ w' = w := by
  go_enter Try.func33, Try.ntmps33
  go_wp2
  go_loop [0, 4] (fun x i => ∃ k : Nat, k ≤ 8 ∧ i = .int .i64 k ∧ x = .int .u32 (shN k c : Nat)) (fun _ i => 8 - (intOf i).toNat)
  case atStart => exact ⟨0, by omega, rfl, rfl⟩
  case round =>
    obtain ⟨k, hk, rfl, rfl⟩ := hrel
    have hn := shN_lt k c hc
    obtain ⟨n, hnn⟩ : ∃ n, n = shN k c := ⟨_, rfl⟩
    have hs : shN (k + 1) c = sh n := by rw [hnn]; rfl
    have HS : Hid (shN (k + 1) c = sh n) := hs
    rw [← hnn] at hn
    by_cases hlt : k < 8
    · rw [← hnn]
      clear hs hnn
      have ha := and1_u32 n hn
      by_cases ho : n % 2 = 1
      · have ha' : bits .and .u32 (n : Int) 1 = 1 := by rw [ha, ho]; rfl
        have hx : bits .xor .u32 ((n : Int) / 2) 3988292384 = ((n / 2 ^^^ 3988292384 : Nat) : Int) := by
          have := xor_u32 (n / 2) 3988292384 (by omega) (by omega)
          rw [← this]; simp
        have HX : Hid (sh n = n / 2 ^^^ 3988292384) := by show sh n = _; unfold sh; rw [if_pos ho]
        clear ha
        go_wp2
        go_round
        case rel => exact ⟨k + 1, by omega, by go_num, by rw [HS.out, HX.out]⟩
        case measure => simp [intOf]; omega
      · have ha' : bits .and .u32 (n : Int) 1 = 0 := by rw [ha]; omega
        have HX : Hid (sh n = n / 2) := by show sh n = _; unfold sh; rw [if_neg ho]
        clear ha
        go_wp2
        go_round
        case rel => exact ⟨k + 1, by omega, by go_num, by rw [HS.out, HX.out]; simp⟩
        case measure => simp [intOf]; omega
    · obtain rfl : k = 8 := by omega
      clear hs hnn HS
      go_wp2
      go_ret
      exact ⟨rfl, rfl⟩
def tab (k : Nat) : Array Value := Array.ofFn (n := 256) fun i => if i.val < k then .int .u32 (shN 8 i.val : Nat) else .int .u32 0
set_option maxRecDepth 100000 in
theorem info26 : (Try.prog.info? 56).map (fun i => (i.zero, i.size)) = some (some (.agg (tab 0)), 256) := by kernel_rfl
theorem tab_size (k : Nat) : (tab k).size = 256 := by simp [tab]
theorem tab_get (k i : Nat) (h : i < 256) : (tab k)[i]? = some (if i < k then .int .u32 (shN 8 i : Nat) else .int .u32 0) := by
  simp [tab, h]
theorem tab_set (k : Nat) : (tab k).setIfInBounds k (.int .u32 (shN 8 k : Nat)) = tab (k + 1) := by
  apply Array.ext_getElem?
  intro i
  by_cases hi : i < 256
  · rw [tab_get _ _ hi, Array.getElem?_setIfInBounds, tab_size]
    by_cases e : k = i
    · subst e; simp [hi]
    · rw [if_neg e, tab_get _ _ hi]
      by_cases h1 : i < k
      · rw [if_pos h1, if_pos (by omega)]
      · rw [if_neg h1, if_neg (by omega)]
  · rw [Array.getElem?_eq_none (by simp [tab_size]; omega), Array.getElem?_eq_none (by simp [tab_size]; omega)]
theorem tab_one (k : Nat) : (tab k).all (·.oneCell') = true := by
  rw [Array.all_eq_true]
  intro i hi
  simp only [tab, Array.getElem_ofFn]
  split <;> rfl
theorem wpList_store_row {P : Program} {ops : Array Oper} {rest : List Oper} {o : Oper} {a : Act} {w : World} {Q : Exit → Act → World → Prop} (hgd : o.guard = none) (ty : TypeId) (x y : Operand) (ho : o.op = .store ty x y)
    (g : Nat) (cells : Array Value) (hx : a.eval x = .pointer (some ⟨g, 0, none⟩)) (hy : a.eval y = .agg cells)
    (t : TypeId) (old : Array Value) (hg : w.heap[g]? = some (.cells old t (0, 0))) (hi : (P.info? ty).map (·.size) = some cells.size)
    (hold : old.size = cells.size) (h1 : cells.all (·.oneCell') = true)
    (h : wpList P ops Q rest (a.put o.dst undef) (w.setRow g cells)) : wpList P ops Q (o :: rest) a w :=
  wpList_plain hgd fun _ hK => wp_store_row ty x y ho g cells hx hy t old hg hi hold h1 (hK _ _ h)
set_option maxHeartbeats 400000 in
set_option maxRecDepth 20000 in
theorem table_any (w : World) :
    Calls Try.prog 18 #[] w fun e w' => e = .returned (.agg (tab 256)) ∧ Below w.heap.size w w' := by
  obtain ⟨hz, hi⟩ := zero_of_info info26
  have HI : Hid ((Try.prog.info? 56).map (·.size) = some 256) := hi
  clear hi
  go_enter Try.func18, Try.ntmps18
  go_wp2
  go_loopw [3] (fun i wr => ∃ k : Nat, k ≤ 256 ∧ i = .int .i64 k ∧ wr.heap[w.heap.size]? = some (.cells (tab 0) 56 (0, 0)) ∧ wr.heap[w.heap.size + 1]? = some (.cells (tab k) 56 (0, 0)) ∧ Below w.heap.size w wr) (fun i _ => 256 - (intOf i).toNat)
  case atStart => exact ⟨0, by omega, rfl, heap_alloc2_old _ _ _, heap_alloc2_new _ _ _, ((Below.refl _ _).alloc (Nat.le_refl _) _).alloc (by simp) _⟩
  case round =>
    obtain ⟨k, hk, rfl, h0, h1, hb⟩ := hrel
    have H0 : Hid (wr.heap[w.heap.size]? = some (.cells (tab 0) 56 (0, 0))) := h0
    have H1 : Hid (wr.heap[w.heap.size + 1]? = some (.cells (tab k) 56 (0, 0))) := h1
    clear h0 h1 hz
    by_cases hlt : k < 256
    · have hc : wr.cell? ⟨w.heap.size + 1, k, none⟩ = some (.int .u32 0) := by rw [cell_of_row wr _ k _ _ _ H1.out, tab_get k k hlt]; simp
      have hf : wr.frozen? ⟨w.heap.size + 1, k, none⟩ = false := frozen_of_row wr _ k _ _ H1.out
      clear HI
      go_wp2_with (go_at_call 33; refine (shifts_any k _ (by omega)).mono ?_; rintro e w' ⟨rfl, rfl⟩)
      go_roundw
      case rel => exact ⟨k + 1, by omega, by go_num, (heap_setCell_other _ _ _ _ (by simp)).trans H0.out, by rw [heap_setCell_same _ _ _ _ _ _ H1.out, tab_set], hb.setCell (by simp) _⟩
      case measure => simp [intOf]; omega
    · obtain rfl : k = 256 := by omega
      go_wp2_with (first | (refine wpList_load_row rfl 56 (.tmp 1) rfl _ rfl 56 _ _ (.array 256 54) H1.out Try.underlying56 rfl (by rw [tab_size]; exact HI.out) ?_) | (refine wpList_store_row rfl 56 (.tmp 0) (.tmp 12) rfl _ _ rfl rfl 56 _ H0.out (by rw [tab_size]; exact HI.out) (by rw [tab_size, tab_size]) (tab_one _) ?_))
      exact bodyPost_ret (v := .agg (tab 256)) (results_cell_row Try.results18 _ _ w.heap.size 56 (tab 256) (0, 0) (.array 256 54) rfl (setRow_heap _ _ _ _ _ _ H0.out) Try.underlying56 rfl (by rw [tab_size]; exact HI.out)) rfl ⟨rfl, below_setRow hb (Nat.le_refl _) _⟩
end Go.Proofs.Ytlilmbeehmjpkaa
