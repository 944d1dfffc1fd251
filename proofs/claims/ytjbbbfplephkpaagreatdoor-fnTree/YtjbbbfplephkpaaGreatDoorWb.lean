/-
  Numbers as bytes, high byte first.
-/
import Derived.Test.YtjbbbfplephkpaaGreatDoorWa
import Derived.Deep.AppendLies
import Derived.Laws.IdiomStrings
import Derived.Deep.WholeRow
namespace Go.Proofs.YtjbbbfplephkpaaGreatDoor
open Go.RowKit
def num (n v : Nat) : List UInt8 := (List.range n).map fun j => UInt8.ofNat (v / 256 ^ (n - 1 - j))
def cells8 (l : List UInt8) : List Value := l.map fun b => .int .u8 (b.toNat : Int)
theorem num_len (n v : Nat) : (num n v).length = n := by simp [num]
theorem num_get (n v k : Nat) (h : k < n) : (num n v)[k]? = some (UInt8.ofNat (v / 256 ^ (n - 1 - k))) := by simp [num, h]
theorem cells8_snoc (n v k : Nat) (h : k < n) : cells8 ((num n v).take k) ++ [.int .u8 (((v / 256 ^ (n - 1 - k)) % 256 : Nat) : Int)] = cells8 ((num n v).take (k + 1)) := by
  have hl : k < (num n v).length := by rw [num_len]; exact h
  rw [List.take_succ_eq_append_getElem hl]
  have e : (num n v)[k] = UInt8.ofNat (v / 256 ^ (n - 1 - k)) := by
    have := num_get n v k h
    rw [List.getElem?_eq_getElem hl] at this
    exact Option.some.inj this
  rw [e]
  simp [cells8]
set_option maxRecDepth 20000 in
theorem Tryz.info5 : (Tryz.prog.info? 5).map (fun i => (i.zero, i.size, i.bytes)) = some (some (.int .u8 0), 1, 1) := by kernel_rfl
set_option maxRecDepth 20000 in
theorem Tryz.info87 : (Tryz.prog.info? 87).map (fun i => (i.zero, i.size, i.bytes)) = some (some (.int .u32 0), 1, 4) := by kernel_rfl
theorem grow_le {w : World} {B : Nat} {e : TypeId} {size g n cap : Nat} {xs : List Value} (h : w.ownsRow B e size (.slice (some ⟨g, 0, none⟩) n cap) n xs) : B ≤ g :=
  (h.lt g rfl).1
theorem ones (v : Value) (h : v.oneCell' = true) : ∀ u ∈ [v], u.oneCell' = true := by
  intro u hu; simp at hu; subst hu; exact h
set_option maxRecDepth 20000 in
theorem conv_any (w : World) (B g cap : Nat) (l : List UInt8) (h : w.ownsRow B 5 1 (.slice (some ⟨g, 0, none⟩) l.length cap) l.length (cells8 l)) :
    (convert 22 9 (.slice (some ⟨g, 0, none⟩) l.length cap)).run Tryz.prog w = .ok (.string ⟨l.toArray⟩) w := by
  refine run_convert_bytes_back w 22 9 5 ⟨g, 0, none⟩ cap l Tryz.underlying22 Tryz.underlying5 Tryz.underlying9 ?_
  intro j hj
  have hadd : (⟨g, 0, none⟩ : Addr).add j = ⟨g, j, none⟩ := by unfold Addr.add; split <;> simp_all
  rw [hadd, h.cellAt j (by omega)]
  simp [cells8, hj]
set_option maxRecDepth 20000 in
set_option maxHeartbeats 1000000 in
theorem num_any (n v : Nat) (w : World) (hn : n ≤ 8) (hv : v < 4294967296) :
    Calls Tryz.prog 43 #[.int .i64 n, .int .i64 v] w fun e w' => e = .returned (.string ⟨(num n v).toArray⟩) ∧ Below w.heap.size w w' := by
  obtain ⟨i0, hi, hz0, hz1, hz2⟩ := info_parts Tryz.info5
  have HI : Hid (Tryz.prog.info? 5 = some i0) := hi
  clear hi
  go_enter Tryz.func43, Tryz.ntmps43
  go_wp2
  go_loopw [5, 6] (fun o i wr => ∃ k g cap : Nat, k ≤ n ∧ i = .int .i64 ((n : Int) - 1 - k) ∧ o = .slice (some ⟨g, 0, none⟩) k cap ∧ w.heap.size ≤ g ∧ wr.ownsRow w.heap.size 5 1 (.slice (some ⟨g, 0, none⟩) k cap) k (cells8 ((num n v).take k)) ∧ Below w.heap.size w wr) (fun _ i _ => (intOf i + 1).toNat)
  case atStart => exact ⟨0, w.heap.size, 0, by omega, by simp, rfl, Nat.le_refl _, World.ownsRow_lit w #[] 0 (Nat.le_refl _) (by simp [maxLen]) rfl, (Below.refl _ _).alloc (Nat.le_refl _) _⟩
  case round =>
    obtain ⟨k, g, cap, hk, rfl, rfl, hg, hown, hb⟩ := hrel
    by_cases hlt : k < n
    · go_wp2
      go_loop [7, 8] (fun x q => ∃ j : Nat, j + k + 1 ≤ n ∧ q = .int .i64 j ∧ x = .int .i64 (v / 256 ^ j : Nat)) (fun _ q => n - (intOf q).toNat)
      case atStart => exact ⟨0, by omega, rfl, by simp⟩
      case round =>
        obtain ⟨j, hj, rfl, rfl⟩ := hrel
        have HP : Hid (v / 256 ^ (j + 1) = v / 256 ^ j / 256) := by show _ = _; rw [Nat.pow_succ, Nat.div_div_eq_div_mul]
        have hvj : v / 256 ^ j < 4294967296 := Nat.lt_of_le_of_lt (Nat.div_le_self _ _) hv
        by_cases hjl : j + k + 1 < n
        · obtain ⟨x, hx⟩ : ∃ x, v / 256 ^ j = x := ⟨_, rfl⟩
          rw [hx] at HP hvj ⊢
          clear hx
          go_wp2
          go_round
          case rel => exact ⟨j + 1, by omega, by go_num, by rw [HP.out]; go_num⟩
          case measure => simp [intOf]; omega
        · have ej : j = n - 1 - k := by omega
          have HS := cells8_snoc n v k hlt
          rw [← ej] at HS
          have HSS : Hid (cells8 ((num n v).take k) ++ [.int .u8 (((v / 256 ^ j) % 256 : Nat) : Int)] = cells8 ((num n v).take (k + 1))) := HS
          clear HS ej HP
          obtain ⟨x, hx⟩ : ∃ x, v / 256 ^ j = x := ⟨_, rfl⟩
          rw [hx] at HSS hvj ⊢
          clear hx
          have hsz := hb.size
          go_wp2_with (at_builtin; refine wpList_append_lies _ rfl _ _ _ rfl w.heap.size 5 i0 (.int .u8 0) 1 1 Tryz.underlying22 HI.out hz0 hz1 hz2 rfl (by omega) _ k _ rfl (hown.alloc _) ⟨wr.heap.size, 0, none⟩ 1 1 [.int .u8 ((x : Int) % 256)] rfl rfl (World.news_of_block (heap_alloc_new wr _)) (ones _ rfl) (by omega) (by unfold maxLen; omega) (by omega) (by simp; omega) _ rfl ?_; intro g1 cap1 w1 hown1 hgrow hat hlt1)
          go_roundw
          case rel => exact ⟨k + 1, g1, cap1, by omega, by go_num, rfl, grow_le hown1, by rw [← HSS.out]; simpa using hown1, (hb.alloc (by omega) _).grown hgrow (by simp; omega) (fun q hq => by have e : g = q := Option.some.inj hq; omega)⟩
          case measure => simp [intOf]; omega
    · obtain rfl : k = n := by omega
      have hc := conv_any wr w.heap.size g cap (num k v) (by rw [num_len]; simpa [List.take_of_length_le, num_len] using hown)
      rw [num_len] at hc
      go_wp2
      go_ret
      exact ⟨rfl, hb⟩

def half (l : List UInt8) (k : Nat) : List Value := cells8 (l.take k) ++ List.replicate (l.length - k) (Value.int .u8 0)
theorem half_len (l : List UInt8) (k : Nat) (h : k ≤ l.length) : (half l k).length = l.length := by
  simp [half, cells8]; omega
theorem half_get (l : List UInt8) (k i : Nat) (h : k ≤ l.length) (hi : i < l.length) : (half l k)[i]? = some (if i < k then Value.int .u8 ((l.getD i 0).toNat : Int) else Value.int .u8 0) := by
  unfold half
  by_cases hik : i < k
  · rw [List.getElem?_append_left (by simp [cells8]; omega), if_pos hik]
    simp [cells8, hik, hi]
  · rw [List.getElem?_append_right (by simp [cells8]; omega), if_neg hik, List.getElem?_replicate, if_pos]
    simp [cells8]; omega
theorem half_set (l : List UInt8) (k : Nat) (x : Int) (h : k < l.length) (hx : x = ((l.getD k 0).toNat : Int)) : (half l k).set k (.int .u8 x) = half l (k + 1) := by
  subst hx
  apply List.ext_getElem?
  intro i
  by_cases hi : i < l.length
  · rw [List.getElem?_set, half_len _ _ (by omega), half_get _ _ _ (by omega) hi, half_get _ _ _ (by omega) hi]
    by_cases e : k = i
    · subst e; simp [h]
    · rw [if_neg e]
      by_cases h1 : i < k
      · rw [if_pos h1, if_pos (by omega)]
      · rw [if_neg h1, if_neg (by omega)]
  · rw [List.getElem?_eq_none (by rw [List.length_set, half_len _ _ (by omega)]; omega), List.getElem?_eq_none (by rw [half_len _ _ (by omega)]; omega)]
theorem half_zero (l : List UInt8) : half l 0 = List.replicate l.length (Value.int .u8 0) := by simp [half, cells8]
theorem half_all (l : List UInt8) : half l l.length = cells8 l := by simp [half]
theorem num_at (n v k : Nat) (h : k < n) : ((num n v).getD k 0).toNat = v / 256 ^ (n - 1 - k) % 256 := by
  rw [List.getD_eq_getElem?_getD, num_get n v k h]; simp
set_option maxRecDepth 20000 in
set_option maxHeartbeats 1000000 in
theorem high_any (v : Nat) (w : World) :
    Calls Tryz.prog 75 #[.int .u64 v, .int .i64 8] w fun e w' => e = .returned (.string ⟨(num 8 v).toArray⟩) ∧ Below w.heap.size w w' := by
  obtain ⟨i0, hi, hz0, hz1, hz2⟩ := info_parts Tryz.info5
  have HI : Hid (Tryz.prog.info? 5 = some i0) := hi
  clear hi
  go_enter Tryz.func75, Tryz.ntmps75
  go_wp2_with (refine wpList_make_full _ rfl (.tmp 7) (.tmp 7) 22 rfl w.heap.size 5 i0 (.int .u8 0) 1 Tryz.underlying22 HI.out hz0 hz1 .i64 .i64 8 8 8 rfl rfl rfl rfl (by rw [hz2]; omega) (by simp [maxLen]) (Nat.le_refl _) ?_; intro w1 hown1 hgrow1)
  go_loopw [11] (fun i wr => ∃ k : Nat, k ≤ 8 ∧ i = .int .i64 k ∧ wr.ownsRow w.heap.size 5 1 (.slice (some ⟨w.heap.size, 0, none⟩) 8 8) 8 (half (num 8 v) k) ∧ Below w.heap.size w wr) (fun i _ => 8 - (intOf i).toNat)
  case atStart =>
    refine ⟨0, by omega, rfl, ?_, (Below.refl _ _).grown hgrow1 (Nat.le_refl _) (fun q hq => by cases hq)⟩
    rw [half_zero, num_len]
    simpa [toList_madeCells_one, Value.cells] using hown1
  case round =>
    obtain ⟨k, hk, rfl, hown, hb⟩ := hrel
    by_cases hlt : k < 8
    · have hc : wr.cell? ⟨w.heap.size, k, none⟩ = some (.int .u8 0) := by
        rw [hown.cellAt k (by omega), half_get _ _ _ (by rw [num_len]; omega) (by rw [num_len]; omega), if_neg (by omega)]
      have hf := hown.frozenAt k
      have HX : Hid ((v : Int) / 2 ^ (8 * (7 - k)) % 256 = (((num 8 v).getD k 0).toNat : Int)) := by
        show _ = _
        rw [num_at 8 v k hlt, w_div, Int.natCast_emod, Nat.pow_mul]
        rfl
      go_wp2
      go_roundw
      case rel =>
        refine ⟨k + 1, by omega, by go_num, ?_, hb.setCell (Nat.le_refl _) _⟩
        have := (hown.stored k (.int .u8 ((v : Int) / 2 ^ (8 * (7 - k)) % 256))).1
        rw [half_set _ _ _ (by rw [num_len]; omega) HX.out] at this
        exact this
      case measure => simp [intOf]; omega
    · obtain rfl : k = 8 := by omega
      have hc := conv_any wr w.heap.size w.heap.size 8 (num 8 v) (by rw [num_len, ← half_all, num_len]; exact hown)
      rw [num_len] at hc
      go_wp2
      go_ret
      exact ⟨rfl, hb⟩

/-! The state as text. -/
def St.vals (s : St) : Array Value := #[.int .u32 s.a, .int .u32 s.b, .int .u32 s.c, .int .u32 s.d, .int .u32 s.e, .int .u32 s.f, .int .u32 s.g, .int .u32 s.h]
theorem vals_get (s : St) (k : Nat) (h : k < 8) : s.vals[k]? = some (.int .u32 (s.list.getD k 0 : Nat)) := by
  match k, h with
  | 0, _ => rfl
  | 1, _ => rfl
  | 2, _ => rfl
  | 3, _ => rfl
  | 4, _ => rfl
  | 5, _ => rfl
  | 6, _ => rfl
  | 7, _ => rfl
theorem list_lt (s : St) (k : Nat) (h : s.ok) : s.list.getD k 0 < 4294967296 := by
  obtain ⟨h1, h2, h3, h4, h5, h6, h7, h8⟩ := h
  match k with
  | 0 => exact h1
  | 1 => exact h2
  | 2 => exact h3
  | 3 => exact h4
  | 4 => exact h5
  | 5 => exact h6
  | 6 => exact h7
  | 7 => exact h8
  | k + 8 => simp [St.list]
theorem vals_size (s : St) : s.vals.size = 8 := rfl
theorem vals_one (s : St) : s.vals.all (·.oneCell') = true := by
  rw [Array.all_eq_true]
  intro i hi
  have := vals_get s i (by rw [vals_size] at hi; exact hi)
  rw [Array.getElem?_eq_getElem hi] at this
  rw [Option.some.inj this]; rfl
def outL (s : St) : List UInt8 := (List.range 32).map fun k => UInt8.ofNat (s.list.getD (k / 4) 0 / 256 ^ (3 - k % 4))
theorem outL_len (s : St) : (outL s).length = 32 := by simp [outL]
theorem outL_at (s : St) (k : Nat) (h : k < 32) : ((outL s).getD k 0).toNat = s.list.getD (k / 4) 0 / 256 ^ (3 - k % 4) % 256 := by
  rw [List.getD_eq_getElem?_getD]
  simp [outL, h]
theorem outL_eq (s : St) : outL s = s.list.flatMap (num 4) := rfl
def zeros32 : Array Value := Array.ofFn (n := 32) fun _ => .int .u8 0
set_option maxRecDepth 20000 in
theorem Tryz.info44 : (Tryz.prog.info? 44).map (fun i => (i.zero, i.size)) = some (some (.agg zeros32), 32) := by kernel_rfl
theorem zeros_half (s : St) : (half (outL s) 0).toArray = zeros32 := by
  rw [half_zero, outL_len]; rfl
theorem byte_at (x k : Nat) : (x : Int) / 2 ^ (24 - 8 * (k % 4)) % 256 = ((x / 256 ^ (3 - k % 4) % 256 : Nat) : Int) := by
  rw [w_div, Int.natCast_emod, show 24 - 8 * (k % 4) = 8 * (3 - k % 4) by omega, Nat.pow_mul]
  rfl
set_option maxRecDepth 20000 in
theorem conv_row (w : World) (g t : Nat) (l : List UInt8) (n : Nat) (hn : l.length = n) (h : w.heap[g]? = some (.cells (cells8 l).toArray t (0, 0))) :
    (convert 22 9 (.slice (some ⟨g, 0, none⟩) n n)).run Tryz.prog w = .ok (.string ⟨l.toArray⟩) w := by
  subst hn
  refine run_convert_bytes_back w 22 9 5 ⟨g, 0, none⟩ _ l Tryz.underlying22 Tryz.underlying5 Tryz.underlying9 ?_
  intro j hj
  have hadd : (⟨g, 0, none⟩ : Addr).add j = ⟨g, j, none⟩ := by unfold Addr.add; split <;> simp_all
  rw [hadd, cell_of_row w g j _ t _ h]
  simp [cells8, hj]
set_option maxRecDepth 20000 in
set_option maxHeartbeats 1000000 in
theorem text_any (s : St) (w : World) (hs : s.ok) :
    Calls Tryz.prog 55 #[.agg s.vals] w fun e w' => e = .returned (.string ⟨(outL s).toArray⟩) ∧ Below w.heap.size w w' := by
  obtain ⟨hz, hi⟩ := zero_of_info Tryz.info44
  clear hi
  go_enter Tryz.func55, Tryz.ntmps55
  go_wp2
  go_loopw [5] (fun i wr => ∃ k : Nat, k ≤ 32 ∧ i = .int .i64 k ∧ wr.heap[w.heap.size]? = some (.cells s.vals 91 (0, 0)) ∧ wr.heap[w.heap.size + 1]? = some (.cells (half (outL s) k).toArray 44 (0, 0)) ∧ Below w.heap.size w wr) (fun i _ => 32 - (intOf i).toNat)
  case atStart => exact ⟨0, by omega, rfl, heap_alloc2_old _ _ _, by rw [heap_alloc2_new, zeros_half], ((Below.refl _ _).alloc (Nat.le_refl _) _).alloc (by simp) _⟩
  case round =>
    obtain ⟨k, hk, rfl, h0, h1, hb⟩ := hrel
    clear hz
    have H0 : Hid (wr.heap[w.heap.size]? = some (.cells s.vals 91 (0, 0))) := h0
    have H1 : Hid (wr.heap[w.heap.size + 1]? = some (.cells (half (outL s) k).toArray 44 (0, 0))) := h1
    clear h0 h1
    by_cases hlt : k < 32
    · have hc : wr.cell? ⟨w.heap.size + 1, k, none⟩ = some (.int .u8 0) := by
        rw [cell_of_row wr _ k _ _ _ H1.out]
        simp only [List.getElem?_toArray]
        rw [half_get _ _ _ (by rw [outL_len]; omega) (by rw [outL_len]; omega), if_neg (by omega)]
      have hf : wr.frozen? ⟨w.heap.size + 1, k, none⟩ = false := frozen_of_row wr _ k _ _ H1.out
      have hc0 : wr.cell? ⟨w.heap.size, k / 4, none⟩ = some (.int .u32 (s.list.getD (k / 4) 0 : Nat)) := by
        rw [cell_of_row wr _ _ _ _ _ H0.out, vals_get s (k / 4) (by omega)]
      have hl := list_lt s (k / 4) hs
      have HO : Hid (((outL s).getD k 0).toNat = s.list.getD (k / 4) 0 / 256 ^ (3 - k % 4) % 256) := outL_at s k hlt
      obtain ⟨x, hx⟩ : ∃ x, s.list.getD (k / 4) 0 = x := ⟨_, rfl⟩
      rw [hx] at hc0 hl HO
      clear hx
      go_wp2
      go_roundw
      case rel =>
        refine ⟨k + 1, by omega, by go_num, (heap_setCell_other _ _ _ _ (by simp)).trans H0.out, ?_, hb.setCell (by simp) _⟩
        rw [heap_setCell_same _ _ _ _ _ _ H1.out, List.setIfInBounds_toArray, half_set _ _ _ (by rw [outL_len]; omega) (by rw [byte_at, HO.out])]
      case measure => simp [intOf]; omega
    · obtain rfl : k = 32 := by omega
      have hcv := conv_row wr (w.heap.size + 1) 44 (outL s) 32 (outL_len s) (by rw [← half_all, outL_len]; exact H1.out)
      go_wp2
      go_ret
      exact ⟨rfl, hb⟩
end Go.Proofs.YtjbbbfplephkpaaGreatDoor
