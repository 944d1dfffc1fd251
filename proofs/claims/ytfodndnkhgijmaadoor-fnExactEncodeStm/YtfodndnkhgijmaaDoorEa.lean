/-
  Numbers as bytes, the high ones first: both sides.
-/
import Derived.Test.YtfodndnkhgijmaaDoorNq
import Derived.Deep.AppendLies
namespace Go.Proofs.YtfodndnkhgijmaaDoor
open Go.RowKit Go.Maps Go.WideMaps
/-- A text of these bytes. -/
def bs (L : List UInt8) : ByteArray := ⟨L.toArray⟩
def byt (v : Int) (i : Nat) : UInt8 := UInt8.ofNat ((v / 256 ^ i) % 256).toNat
def numI (n : Nat) (v : Int) : List UInt8 := (List.range n).map fun j => byt v (n - 1 - j)
def cells8 (l : List UInt8) : List Value := l.map fun b => .int .u8 (b.toNat : Int)
theorem numI_len (n : Nat) (v : Int) : (numI n v).length = n := by simp [numI]
theorem numI_get (n : Nat) (v : Int) (k : Nat) (h : k < n) : (numI n v)[k]? = some (byt v (n - 1 - k)) := by simp [numI, h]
theorem byt_nat (v : Int) (i : Nat) : ((byt v i).toNat : Int) = (v / 256 ^ i) % 256 := by
  unfold byt
  have h0 := Int.emod_nonneg (v / 256 ^ i) (show (256 : Int) ≠ 0 by omega)
  have h1 := Int.emod_lt_of_pos (v / 256 ^ i) (show (0 : Int) < 256 by omega)
  rw [UInt8.toNat_ofNat']
  omega
theorem cells8_snocI (n : Nat) (v : Int) (k : Nat) (h : k < n) : cells8 ((numI n v).take k) ++ [.int .u8 ((v / 256 ^ (n - 1 - k)) % 256)] = cells8 ((numI n v).take (k + 1)) := by
  rw [List.take_add_one, numI_get n v k h]
  simp [cells8, byt_nat]
theorem Tryd.infoB : (Tryd.prog.info? 5).map (fun i => (i.zero, i.size, i.bytes)) = some (some (.int .u8 0), 1, 1) := by kernel_rfl
set_option maxRecDepth 20000 in
set_option maxHeartbeats 1000000 in
theorem conv_any (w : World) (B g cap : Nat) (l : List UInt8) (h : w.ownsRow B 5 1 (.slice (some ⟨g, 0, none⟩) l.length cap) l.length (cells8 l)) :
    (convert 144 9 (.slice (some ⟨g, 0, none⟩) l.length cap)).run Tryd.prog w = .ok (.string ⟨l.toArray⟩) w := by
  refine run_convert_bytes_back w 144 9 5 ⟨g, 0, none⟩ cap l Tryd.underlying144 Tryd.underlying5 Tryd.underlying9 ?_
  intro j hj
  have hadd : (⟨g, 0, none⟩ : Addr).add j = ⟨g, j, none⟩ := by unfold Addr.add; split <;> simp_all
  rw [hadd, h.cellAt j (by omega)]
  simp [cells8, hj]
theorem div_step (v : Int) (j : Nat) : v / 256 ^ (j + 1) = v / 256 ^ j / 256 := by
  rw [Int.pow_succ, Int.ediv_ediv_of_nonneg (Int.pow_nonneg (by omega))]
set_option maxRecDepth 20000 in
set_option maxHeartbeats 2000000 in
theorem sNum (n : Nat) (v : Int) (w : World) (hn : n ≤ 8) :
    Calls Tryd.prog 53 #[.int .i64 n, .int .i64 v] w fun e w' => e = .returned (.string (bs (numI n v))) ∧ Below w.heap.size w w' := by
  obtain ⟨i0, hi, hz0, hz1, hz2⟩ := info_parts Tryd.infoB
  have HI : Hid (Tryd.prog.info? 5 = some i0) := hi
  clear hi
  go_enter Tryd.func53, Tryd.ntmps53
  go_wp2
  go_loopw [5, 6] (fun o i wr => ∃ k g cap : Nat, k ≤ n ∧ i = .int .i64 ((n : Int) - 1 - k) ∧ o = .slice (some ⟨g, 0, none⟩) k cap ∧ w.heap.size ≤ g ∧ wr.ownsRow w.heap.size 5 1 (.slice (some ⟨g, 0, none⟩) k cap) k (cells8 ((numI n v).take k)) ∧ Below w.heap.size w wr) (fun _ i _ => (intOf i + 1).toNat)
  case atStart => exact ⟨0, w.heap.size, 0, by omega, by simp, rfl, Nat.le_refl _, World.ownsRow_lit w #[] 0 (Nat.le_refl _) (by simp [maxLen]) rfl, (Below.refl _ _).alloc (Nat.le_refl _) _⟩
  case round =>
    obtain ⟨k, g, cap, hk, rfl, rfl, hg, hown, hb⟩ := hrel
    by_cases hlt : k < n
    · go_wp2
      go_loop [7, 8] (fun x q => ∃ j : Nat, j + k + 1 ≤ n ∧ q = .int .i64 j ∧ x = .int .i64 (v / 256 ^ j)) (fun _ q => n - (intOf q).toNat)
      case atStart => exact ⟨0, by omega, rfl, by simp⟩
      case round =>
        obtain ⟨j, hj, rfl, rfl⟩ := hrel
        have HP : Hid (v / 256 ^ (j + 1) = v / 256 ^ j / 256) := div_step v j
        by_cases hjl : j + k + 1 < n
        · obtain ⟨x, hx⟩ : ∃ x, v / 256 ^ j = x := ⟨_, rfl⟩
          rw [hx] at HP ⊢
          clear hx
          go_wp2
          go_round
          case rel => exact ⟨j + 1, by omega, by go_num, by rw [HP.out]⟩
          case measure => simp [intOf]; omega
        · have ej : j = n - 1 - k := by omega
          have HS := cells8_snocI n v k hlt
          rw [← ej] at HS
          have HSS : Hid (cells8 ((numI n v).take k) ++ [.int .u8 ((v / 256 ^ j) % 256)] = cells8 ((numI n v).take (k + 1))) := HS
          clear HS ej HP
          obtain ⟨x, hx⟩ : ∃ x, v / 256 ^ j = x := ⟨_, rfl⟩
          rw [hx] at HSS ⊢
          clear hx
          have hsz := hb.size
          go_wp2_with (at_builtin; refine wpList_append_lies _ rfl _ _ _ rfl w.heap.size 5 i0 (.int .u8 0) 1 1 Tryd.underlying144 HI.out hz0 hz1 hz2 rfl (by omega) _ k _ rfl (hown.alloc _) ⟨wr.heap.size, 0, none⟩ 1 1 [.int .u8 (x % 256)] rfl rfl (World.news_of_block (heap_alloc_new wr _)) (ones _ rfl) (by omega) (by unfold maxLen; omega) (by omega) (by simp; omega) _ rfl ?_; intro g1 cap1 w1 hown1 hgrow hat hlt1)
          go_roundw
          case rel => exact ⟨k + 1, g1, cap1, by omega, by go_num, rfl, grow_le hown1, by rw [← HSS.out]; simpa using hown1, (hb.alloc (by omega) _).grown hgrow (by simp; omega) (fun q hq => by have e : g = q := Option.some.inj hq; omega)⟩
          case measure => simp [intOf]; omega
    · obtain rfl : k = n := by omega
      have hc := conv_any wr w.heap.size g cap (numI k v) (by rw [numI_len]; simpa [List.take_of_length_le, numI_len] using hown)
      rw [numI_len] at hc
      go_wp2
      go_ret
      exact ⟨rfl, hb⟩
theorem sNum1 (v : Int) (w : World) : Calls Tryd.prog 53 #[.int .i64 1, .int .i64 v] w fun e w' => e = .returned (.string (bs (numI 1 v))) ∧ Below w.heap.size w w' := sNum 1 v w (by omega)
theorem sNum2 (v : Int) (w : World) : Calls Tryd.prog 53 #[.int .i64 2, .int .i64 v] w fun e w' => e = .returned (.string (bs (numI 2 v))) ∧ Below w.heap.size w w' := sNum 2 v w (by omega)
theorem sNum8 (v : Int) (w : World) : Calls Tryd.prog 53 #[.int .i64 8, .int .i64 v] w fun e w' => e = .returned (.string (bs (numI 8 v))) ∧ Below w.heap.size w w' := sNum 8 v w (by omega)
def half (l : List UInt8) (k : Nat) : List Value := cells8 (l.take k) ++ List.replicate (l.length - k) (Value.int .u8 0)
theorem half_len (l : List UInt8) (k : Nat) (h : k ≤ l.length) : (half l k).length = l.length := by
  simp [half, cells8]; omega
theorem half_get (l : List UInt8) (k i : Nat) (h : k ≤ l.length) (hi : i < l.length) : (half l k)[i]? = some (if i < k then Value.int .u8 ((l.getD i 0).toNat : Int) else Value.int .u8 0) := by
  unfold half
  by_cases hik : i < k
  · rw [List.getElem?_append_left (by simp [cells8]; omega), if_pos hik]
    simp [cells8, hik, hi]
  · rw [List.getElem?_append_right (by simp [cells8]; omega), if_neg hik, List.getElem?_replicate, if_pos]
    simp [cells8]; omega
theorem half_set (l : List UInt8) (k : Nat) (x : Int) (h : k < l.length) (hx : x = ((l.getD k 0).toNat : Int)) : (half l k).set k (.int .u8 x) = half l (k + 1) := by
  subst hx
  apply List.ext_getElem?
  intro i
  by_cases hi : i < l.length
  · rw [List.getElem?_set, half_len _ _ (by omega), half_get _ _ _ (by omega) hi, half_get _ _ _ (by omega) hi]
    by_cases e : k = i
    · subst e; simp [h]
    · rw [if_neg e]
      by_cases h1 : i < k
      · rw [if_pos h1, if_pos (by omega)]
      · rw [if_neg h1, if_neg (by omega)]
  · rw [List.getElem?_eq_none (by rw [List.length_set, half_len _ _ (by omega)]; omega), List.getElem?_eq_none (by rw [half_len _ _ (by omega)]; omega)]
theorem half_zero (l : List UInt8) : half l 0 = List.replicate l.length (Value.int .u8 0) := by simp [half, cells8]
theorem half_all (l : List UInt8) : half l l.length = cells8 l := by simp [half]
theorem numI_at (n : Nat) (v : Int) (k : Nat) (h : k < n) : (((numI n v).getD k 0).toNat : Int) = v / 256 ^ (n - 1 - k) % 256 := by
  rw [List.getD_eq_getElem?_getD, numI_get n v k h]
  exact byt_nat v _
set_option maxRecDepth 20000 in
set_option maxHeartbeats 2000000 in
theorem high8 (v : Nat) (w : World) :
    Calls Tryd.prog 57 #[.int .u64 v, .int .i64 8] w fun e w' => e = .returned (.string (bs (numI 8 v))) ∧ Below w.heap.size w w' := by
  obtain ⟨i0, hi, hz0, hz1, hz2⟩ := info_parts Tryd.infoB
  have HI : Hid (Tryd.prog.info? 5 = some i0) := hi
  clear hi
  go_enter Tryd.func57, Tryd.ntmps57
  go_wp2_with (refine wpList_make_full _ rfl (.tmp 7) (.tmp 7) 144 rfl w.heap.size 5 i0 (.int .u8 0) 1 Tryd.underlying144 HI.out hz0 hz1 .i64 .i64 8 8 8 rfl rfl rfl rfl (by rw [hz2]; omega) (by simp [maxLen]) (Nat.le_refl _) ?_; intro w1 hown1 hgrow1)
  go_loopw [11] (fun i wr => ∃ k : Nat, k ≤ 8 ∧ i = .int .i64 k ∧ wr.ownsRow w.heap.size 5 1 (.slice (some ⟨w.heap.size, 0, none⟩) 8 8) 8 (half (numI 8 v) k) ∧ Below w.heap.size w wr) (fun i _ => 8 - (intOf i).toNat)
  case atStart =>
    refine ⟨0, by omega, rfl, ?_, (Below.refl _ _).grown hgrow1 (Nat.le_refl _) (fun q hq => by cases hq)⟩
    rw [half_zero, numI_len]
    simpa [toList_madeCells_one, Value.cells] using hown1
  case round =>
    obtain ⟨k, hk, rfl, hown, hb⟩ := hrel
    by_cases hlt : k < 8
    · have hc : wr.cell? ⟨w.heap.size, k, none⟩ = some (.int .u8 0) := by
        rw [hown.cellAt k (by omega), half_get _ _ _ (by rw [numI_len]; omega) (by rw [numI_len]; omega), if_neg (by omega)]
      have hf := hown.frozenAt k
      have HX : Hid ((v : Int) / 2 ^ (8 * (7 - k)) % 256 = (((numI 8 v).getD k 0).toNat : Int)) := by
        show _ = _
        rw [numI_at 8 v k hlt, Int.pow_mul]
        rfl
      go_wp2
      go_roundw
      case rel =>
        refine ⟨k + 1, by omega, by go_num, ?_, hb.setCell (Nat.le_refl _) _⟩
        have := (hown.stored k (.int .u8 ((v : Int) / 2 ^ (8 * (7 - k)) % 256))).1
        rw [half_set _ _ _ (by rw [numI_len]; omega) HX.out] at this
        exact this
      case measure => simp [intOf]; omega
    · obtain rfl : k = 8 := by omega
      have hc := conv_any wr w.heap.size w.heap.size 8 (numI 8 v) (by rw [numI_len, ← half_all, numI_len]; exact hown)
      rw [numI_len] at hc
      go_wp2
      go_ret
      exact ⟨rfl, hb⟩
set_option maxRecDepth 20000 in
set_option maxHeartbeats 2000000 in
theorem high2 (v : Nat) (w : World) :
    Calls Tryd.prog 57 #[.int .u64 v, .int .i64 2] w fun e w' => e = .returned (.string (bs (numI 2 v))) ∧ Below w.heap.size w w' := by
  obtain ⟨i0, hi, hz0, hz1, hz2⟩ := info_parts Tryd.infoB
  have HI : Hid (Tryd.prog.info? 5 = some i0) := hi
  clear hi
  go_enter Tryd.func57, Tryd.ntmps57
  go_wp2_with (refine wpList_make_full _ rfl (.tmp 7) (.tmp 7) 144 rfl w.heap.size 5 i0 (.int .u8 0) 1 Tryd.underlying144 HI.out hz0 hz1 .i64 .i64 2 2 2 rfl rfl rfl rfl (by rw [hz2]; omega) (by simp [maxLen]) (Nat.le_refl _) ?_; intro w1 hown1 hgrow1)
  go_loopw [11] (fun i wr => ∃ k : Nat, k ≤ 2 ∧ i = .int .i64 k ∧ wr.ownsRow w.heap.size 5 1 (.slice (some ⟨w.heap.size, 0, none⟩) 2 2) 2 (half (numI 2 v) k) ∧ Below w.heap.size w wr) (fun i _ => 2 - (intOf i).toNat)
  case atStart =>
    refine ⟨0, by omega, rfl, ?_, (Below.refl _ _).grown hgrow1 (Nat.le_refl _) (fun q hq => by cases hq)⟩
    rw [half_zero, numI_len]
    simpa [toList_madeCells_one, Value.cells] using hown1
  case round =>
    obtain ⟨k, hk, rfl, hown, hb⟩ := hrel
    by_cases hlt : k < 2
    · have hc : wr.cell? ⟨w.heap.size, k, none⟩ = some (.int .u8 0) := by
        rw [hown.cellAt k (by omega), half_get _ _ _ (by rw [numI_len]; omega) (by rw [numI_len]; omega), if_neg (by omega)]
      have hf := hown.frozenAt k
      have HX : Hid ((v : Int) / 2 ^ (8 * (1 - k)) % 256 = (((numI 2 v).getD k 0).toNat : Int)) := by
        show _ = _
        rw [numI_at 2 v k hlt, Int.pow_mul]
        rfl
      go_wp2
      go_roundw
      case rel =>
        refine ⟨k + 1, by omega, by go_num, ?_, hb.setCell (Nat.le_refl _) _⟩
        have := (hown.stored k (.int .u8 ((v : Int) / 2 ^ (8 * (1 - k)) % 256))).1
        rw [half_set _ _ _ (by rw [numI_len]; omega) HX.out] at this
        exact this
      case measure => simp [intOf]; omega
    · obtain rfl : k = 2 := by omega
      have hc := conv_any wr w.heap.size w.heap.size 2 (numI 2 v) (by rw [numI_len, ← half_all, numI_len]; exact hown)
      rw [numI_len] at hc
      go_wp2
      go_ret
      exact ⟨rfl, hb⟩
set_option maxRecDepth 20000 in
set_option maxHeartbeats 2000000 in
theorem high1 (v : Nat) (w : World) :
    Calls Tryd.prog 57 #[.int .u64 v, .int .i64 1] w fun e w' => e = .returned (.string (bs (numI 1 v))) ∧ Below w.heap.size w w' := by
  obtain ⟨i0, hi, hz0, hz1, hz2⟩ := info_parts Tryd.infoB
  have HI : Hid (Tryd.prog.info? 5 = some i0) := hi
  clear hi
  go_enter Tryd.func57, Tryd.ntmps57
  go_wp2_with (refine wpList_make_full _ rfl (.tmp 7) (.tmp 7) 144 rfl w.heap.size 5 i0 (.int .u8 0) 1 Tryd.underlying144 HI.out hz0 hz1 .i64 .i64 1 1 1 rfl rfl rfl rfl (by rw [hz2]; omega) (by simp [maxLen]) (Nat.le_refl _) ?_; intro w1 hown1 hgrow1)
  go_loopw [11] (fun i wr => ∃ k : Nat, k ≤ 1 ∧ i = .int .i64 k ∧ wr.ownsRow w.heap.size 5 1 (.slice (some ⟨w.heap.size, 0, none⟩) 1 1) 1 (half (numI 1 v) k) ∧ Below w.heap.size w wr) (fun i _ => 1 - (intOf i).toNat)
  case atStart =>
    refine ⟨0, by omega, rfl, ?_, (Below.refl _ _).grown hgrow1 (Nat.le_refl _) (fun q hq => by cases hq)⟩
    rw [half_zero, numI_len]
    simpa [toList_madeCells_one, Value.cells] using hown1
  case round =>
    obtain ⟨k, hk, rfl, hown, hb⟩ := hrel
    by_cases hlt : k < 1
    · obtain rfl : k = 0 := by omega
      have hc : wr.cell? ⟨w.heap.size, 0, none⟩ = some (.int .u8 0) := by
        rw [hown.cellAt 0 (by omega), half_get _ _ _ (by rw [numI_len]; omega) (by rw [numI_len]; omega), if_neg (by omega)]
      have hf := hown.frozenAt 0
      have HX : Hid ((v : Int) % 256 = (((numI 1 v).getD 0 0).toNat : Int)) := by
        show _ = _
        rw [numI_at 1 v 0 (by omega)]
        simp
      go_wp2
      go_roundw
      case rel =>
        refine ⟨1, by omega, by go_num, ?_, hb.setCell (Nat.le_refl _) _⟩
        have := (hown.stored 0 (.int .u8 ((v : Int) % 256))).1
        rw [half_set _ _ _ (by rw [numI_len]; omega) HX.out] at this
        exact this
      case measure => simp [intOf]
    · obtain rfl : k = 1 := by omega
      have hc := conv_any wr w.heap.size w.heap.size 1 (numI 1 v) (by rw [numI_len, ← half_all, numI_len]; exact hown)
      rw [numI_len] at hc
      go_wp2
      go_ret
      exact ⟨rfl, hb⟩
end Go.Proofs.YtfodndnkhgijmaaDoor
