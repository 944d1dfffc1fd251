/-
  Statements as bytes: the program's lists, put together by a strings.Builder.
-/
import Derived.Test.YtfodndnkhgijmaaDoorEc
import Derived.Test.YtfodndnkhgijmaaDoorSh
namespace Go.Proofs.YtfodndnkhgijmaaDoor
open Go.RowKit
/-- A builder in block b that holds the bytes of L. -/
def Bd (w : World) (B b : Nat) (L : List UInt8) : Prop := Lib.IsBuilder 148 5 B b (Lib.byteCells L) w
theorem Bd.later {w w' : World} {B b : Nat} {L : List UInt8} (h : Bd w B b L) (hb : Below w.heap.size w w') : Bd w' B b L := by
  have one : ∀ p, Lib.BuilderAt 148 5 B b p (Lib.byteCells L) w → Lib.BuilderAt 148 5 B b p (Lib.byteCells L) w' := fun p ⟨h1, v, h2, h3, h4⟩ =>
    ⟨h1, v, (hb.block b (Array.getElem?_eq_some_iff.1 h2).1).trans h2, own_below h3 hb, h4⟩
  exact h.elim (fun x => .inl (one _ x)) (fun x => .inr (one _ x))
theorem Bd.new (w : World) : Bd (w.alloc (.cells #[.pointer none, .slice none 0 0] 148)) w.heap.size w.heap.size [] :=
  .inl ⟨Nat.le_refl _, .slice none 0 0, heap_alloc_new w _, World.ownsRow_nil _ _ _ _, by simp [Value.ownBlock]⟩
theorem Bd.write (w : World) (B b : Nat) (L : List UInt8) (s : ByteArray) (h : Bd w B b L) (hl : L.length + s.size ≤ 140737488355328) (hB : B ≤ w.heap.size) :
    Calls Tryd.prog 101 #[.pointer (some ⟨b, 0, none⟩), .string s] w fun e w' => e = .returned (.tuple #[.int .i64 s.size, .nilIface]) ∧ Bd w' B b (L ++ s.data.toList) ∧ Below B w w' := by
  refine (Tryd.Builder_WriteString B b (Lib.byteCells L) s w h (by simpa [Lib.byteCells] using hl) hB).mono fun e w' ⟨h1, h2, h3⟩ => ⟨h1, .inr ?_, h3⟩
  have e : Lib.byteCells L ++ Lib.strCells s = Lib.byteCells (L ++ s.data.toList) := by simp [Lib.byteCells, Lib.strCells]
  rw [← e]
  exact h2
theorem Bd.str (w : World) (B b : Nat) (L : List UInt8) (h : Bd w B b L) (hB : B ≤ w.heap.size) :
    Calls Tryd.prog 102 #[.pointer (some ⟨b, 0, none⟩)] w fun e w' => e = .returned (.string (bs L)) ∧ Below B w w' := Tryd.Builder_String_any B b L w h hB
theorem colB_len {c : Clm} (h : c.s.size ≤ 1048576) : (colB c).length ≤ 1048600 := by simp [colB, s8_len, numI_len]; omega
theorem valB_len {i : Itm} (h : i.s.size ≤ 1048576) : (valB i).length ≤ 1048600 := by
  unfold valB
  rw [List.length_append, numI_len]
  split <;> simp [numI_len, s16_len] <;> omega
theorem itmB_len2 {i : Itm} (h : i.s.size ≤ 1048576) : (itmB i).length ≤ 1048600 := by
  unfold itmB
  rw [List.length_append, numI_len]
  (repeat' split) <;> simp [numI_len, s8_len, s16_len] <;> omega
set_option maxRecDepth 20000 in
set_option maxHeartbeats 4000000 in
theorem iColsB (a : Option Addr) (n c : Nat) (C : Nat → Clm) (w : World) (h : CL w a n C) (hn : n ≤ 1048576) :
    Calls Tryd.prog 59 #[.slice a n c, .int .i64 1, .func (.func 60) #[] #[]] w fun e w' => e = .returned (.string (bs (numI 1 n ++ listB (fun j => colB (C j)) n))) ∧ Below w.heap.size w w' := by
  have z0 : (bs (numI 1 (n : Int))).size ≤ 1 := by rw [bs_size, numI_len]; omega
  have hB0 := Bd.new w
  have hb0 := bal w (.cells #[.pointer none, .slice none 0 0] 148)
  have hz0 : (w.alloc (.cells #[.pointer none, .slice none 0 0] 148)).heap.size = w.heap.size + 1 := by simp
  go_enter Tryd.func59, Tryd.ntmps59
  go_wp2_with (first | (go_at_call 57; refine (high1 n _).mono ?_; rintro e w1 ⟨rfl, hb1⟩; have hB1 := hB0.later hb1; have s1 := hb1.size) | (go_at_call 101; refine (Bd.write _ _ _ _ _ hB1 (by simp; omega) (by omega)).mono ?_; rintro e w2 ⟨rfl, hB2, hb2⟩; rw [bs_data, List.nil_append] at hB2; have s2 := hb2.size; replace hb2 := (hb0.trans (hb1.mono hb0.size)).trans hb2))
  go_loopw [18] (fun i wr => ∃ k : Nat, k ≤ n ∧ i = .int .i64 k ∧ Bd wr w.heap.size w.heap.size (numI 1 n ++ listB (fun j => colB (C j)) k) ∧ Below w.heap.size w wr) (fun i _ => n - (intOf i).toNat)
  case atStart => exact ⟨0, by omega, rfl, by rw [listB, List.append_nil]; exact hB2, hb2⟩
  case round =>
    obtain ⟨k, hk, rfl, hBk, hb⟩ := hrel
    have sr := hb.size
    by_cases hlt : k < n
    · have HL : Hid (listB (fun j => colB (C j)) (k + 1) = listB (fun j => colB (C j)) k ++ colB (C k)) := rfl
      obtain ⟨b', off, rfl, d0, d1, hs⟩ := h.later hb k hlt
      have zc : (bs (colB (C k))).size ≤ 1048600 := by rw [bs_size]; exact colB_len hs
      have hlen : (numI 1 n ++ listB (fun j => colB (C j)) k).length ≤ 8 + k * 1048600 := by
        have := listB_len (B := fun j => colB (C j)) (c := 1048600) (n := k) (fun j hj => colB_len (h j (by omega)).choose_spec.choose_spec.2.2.2)
        rw [List.length_append, numI_len]
        omega
      have hmul : k * 1048600 ≤ 1048576 * 1048600 := Nat.mul_le_mul_right _ (by omega)
      go_wp2_with (first | (go_at_call 60; refine (iColB (C k) _ hs).mono ?_; rintro e w3 ⟨rfl, hb3⟩; have hB3 := (hBk.later (bal wr _)).later hb3; replace hb3 := bj hb hb3; have sz3 := hb3.size) | (go_at_call 101; refine (Bd.write _ _ _ _ _ hB3 (by omega) (by omega)).mono ?_; rintro e w4 ⟨rfl, hB4, hb4⟩; rw [bs_data] at hB4; replace hb4 := hb3.trans hb4))
      go_roundw
      case rel => exact ⟨k + 1, by omega, by go_num, by rw [HL.out, ← List.append_assoc]; exact hB4, hb4⟩
      case measure => simp [intOf]; omega
    · obtain rfl : k = n := by omega
      go_wp2_with (go_at_call 102; refine (Bd.str _ _ _ _ hBk (by omega)).mono ?_; rintro e w5 ⟨rfl, hb5⟩; replace hb5 := hb.trans hb5)
      go_ret
      exact ⟨rfl, hb5⟩
set_option maxRecDepth 20000 in
set_option maxHeartbeats 4000000 in
theorem iValsB (a : Option Addr) (n c : Nat) (I : Nat → Itm) (w : World) (h : IL w a n I) (hn : n ≤ 1048576) :
    Calls Tryd.prog 61 #[.slice a n c, .int .i64 1, .func (.func 62) #[] #[]] w fun e w' => e = .returned (.string (bs (numI 1 n ++ listB (fun j => valB (I j)) n))) ∧ Below w.heap.size w w' := by
  have z0 : (bs (numI 1 (n : Int))).size ≤ 1 := by rw [bs_size, numI_len]; omega
  have hB0 := Bd.new w
  have hb0 := bal w (.cells #[.pointer none, .slice none 0 0] 148)
  have hz0 : (w.alloc (.cells #[.pointer none, .slice none 0 0] 148)).heap.size = w.heap.size + 1 := by simp
  go_enter Tryd.func61, Tryd.ntmps61
  go_wp2_with (first | (go_at_call 57; refine (high1 n _).mono ?_; rintro e w1 ⟨rfl, hb1⟩; have hB1 := hB0.later hb1; have s1 := hb1.size) | (go_at_call 101; refine (Bd.write _ _ _ _ _ hB1 (by simp; omega) (by omega)).mono ?_; rintro e w2 ⟨rfl, hB2, hb2⟩; rw [bs_data, List.nil_append] at hB2; have s2 := hb2.size; replace hb2 := (hb0.trans (hb1.mono hb0.size)).trans hb2))
  go_loopw [18] (fun i wr => ∃ k : Nat, k ≤ n ∧ i = .int .i64 k ∧ Bd wr w.heap.size w.heap.size (numI 1 n ++ listB (fun j => valB (I j)) k) ∧ Below w.heap.size w wr) (fun i _ => n - (intOf i).toNat)
  case atStart => exact ⟨0, by omega, rfl, by rw [listB, List.append_nil]; exact hB2, hb2⟩
  case round =>
    obtain ⟨k, hk, rfl, hBk, hb⟩ := hrel
    have sr := hb.size
    by_cases hlt : k < n
    · have HL : Hid (listB (fun j => valB (I j)) (k + 1) = listB (fun j => valB (I j)) k ++ valB (I k)) := rfl
      obtain ⟨b', off, rfl, d0, d1, d2, hs⟩ := h.later hb k hlt
      have zc : (bs (valB (I k))).size ≤ 1048600 := by rw [bs_size]; exact valB_len hs
      have hlen : (numI 1 n ++ listB (fun j => valB (I j)) k).length ≤ 8 + k * 1048600 := by
        have := listB_len (B := fun j => valB (I j)) (c := 1048600) (n := k) (fun j hj => valB_len (h j (by omega)).choose_spec.choose_spec.2.2.2.2)
        rw [List.length_append, numI_len]
        omega
      have hmul : k * 1048600 ≤ 1048576 * 1048600 := Nat.mul_le_mul_right _ (by omega)
      go_wp2_with (first | (go_at_call 62; refine (iValB (I k) _ hs).mono ?_; rintro e w3 ⟨rfl, hb3⟩; have hB3 := (hBk.later (bal wr _)).later hb3; replace hb3 := bj hb hb3; have sz3 := hb3.size) | (go_at_call 101; refine (Bd.write _ _ _ _ _ hB3 (by omega) (by omega)).mono ?_; rintro e w4 ⟨rfl, hB4, hb4⟩; rw [bs_data] at hB4; replace hb4 := hb3.trans hb4))
      go_roundw
      case rel => exact ⟨k + 1, by omega, by go_num, by rw [HL.out, ← List.append_assoc]; exact hB4, hb4⟩
      case measure => simp [intOf]; omega
    · obtain rfl : k = n := by omega
      go_wp2_with (go_at_call 102; refine (Bd.str _ _ _ _ hBk (by omega)).mono ?_; rintro e w5 ⟨rfl, hb5⟩; replace hb5 := hb.trans hb5)
      go_ret
      exact ⟨rfl, hb5⟩
set_option maxRecDepth 20000 in
set_option maxHeartbeats 4000000 in
theorem iItmsB (a : Option Addr) (n c : Nat) (I : Nat → Itm) (w : World) (h : IL w a n I) (hn : n ≤ 1048576) :
    Calls Tryd.prog 103 #[.slice a n c, .int .i64 2, .func (.func 104) #[] #[]] w fun e w' => e = .returned (.string (bs (numI 2 n ++ listB (fun j => itmB (I j)) n))) ∧ Below w.heap.size w w' := by
  have z0 : (bs (numI 2 (n : Int))).size ≤ 2 := by rw [bs_size, numI_len]; omega
  have hB0 := Bd.new w
  have hb0 := bal w (.cells #[.pointer none, .slice none 0 0] 148)
  have hz0 : (w.alloc (.cells #[.pointer none, .slice none 0 0] 148)).heap.size = w.heap.size + 1 := by simp
  go_enter Tryd.func103, Tryd.ntmps103
  go_wp2_with (first | (go_at_call 57; refine (high2 n _).mono ?_; rintro e w1 ⟨rfl, hb1⟩; have hB1 := hB0.later hb1; have s1 := hb1.size) | (go_at_call 101; refine (Bd.write _ _ _ _ _ hB1 (by simp; omega) (by omega)).mono ?_; rintro e w2 ⟨rfl, hB2, hb2⟩; rw [bs_data, List.nil_append] at hB2; have s2 := hb2.size; replace hb2 := (hb0.trans (hb1.mono hb0.size)).trans hb2))
  go_loopw [18] (fun i wr => ∃ k : Nat, k ≤ n ∧ i = .int .i64 k ∧ Bd wr w.heap.size w.heap.size (numI 2 n ++ listB (fun j => itmB (I j)) k) ∧ Below w.heap.size w wr) (fun i _ => n - (intOf i).toNat)
  case atStart => exact ⟨0, by omega, rfl, by rw [listB, List.append_nil]; exact hB2, hb2⟩
  case round =>
    obtain ⟨k, hk, rfl, hBk, hb⟩ := hrel
    have sr := hb.size
    by_cases hlt : k < n
    · have HL : Hid (listB (fun j => itmB (I j)) (k + 1) = listB (fun j => itmB (I j)) k ++ itmB (I k)) := rfl
      obtain ⟨b', off, rfl, d0, d1, d2, hs⟩ := h.later hb k hlt
      have zc : (bs (itmB (I k))).size ≤ 1048600 := by rw [bs_size]; exact itmB_len2 hs
      have hlen : (numI 2 n ++ listB (fun j => itmB (I j)) k).length ≤ 8 + k * 1048600 := by
        have := listB_len (B := fun j => itmB (I j)) (c := 1048600) (n := k) (fun j hj => itmB_len2 (h j (by omega)).choose_spec.choose_spec.2.2.2.2)
        rw [List.length_append, numI_len]
        omega
      have hmul : k * 1048600 ≤ 1048576 * 1048600 := Nat.mul_le_mul_right _ (by omega)
      go_wp2_with (first | (go_at_call 104; refine (iItmB (I k) _ hs).mono ?_; rintro e w3 ⟨rfl, hb3⟩; have hB3 := (hBk.later (bal wr _)).later hb3; replace hb3 := bj hb hb3; have sz3 := hb3.size) | (go_at_call 101; refine (Bd.write _ _ _ _ _ hB3 (by omega) (by omega)).mono ?_; rintro e w4 ⟨rfl, hB4, hb4⟩; rw [bs_data] at hB4; replace hb4 := hb3.trans hb4))
      go_roundw
      case rel => exact ⟨k + 1, by omega, by go_num, by rw [HL.out, ← List.append_assoc]; exact hB4, hb4⟩
      case measure => simp [intOf]; omega
    · obtain rfl : k = n := by omega
      go_wp2_with (go_at_call 102; refine (Bd.str _ _ _ _ hBk (by omega)).mono ?_; rintro e w5 ⟨rfl, hb5⟩; replace hb5 := hb.trans hb5)
      go_ret
      exact ⟨rfl, hb5⟩
set_option maxRecDepth 20000 in
set_option maxHeartbeats 1000000 in
theorem iExpB (a : Option Addr) (n c : Nat) (I : Nat → Itm) (w : World) (h : IL w a n I) (hn : n ≤ 1048576) : Calls Tryd.prog 63 #[.slice a n c] w fun e w' => e = .returned (.string (bs (expB I n))) ∧ Below w.heap.size w w' := by
  go_enter Tryd.func63, Tryd.ntmps63
  go_wp2_with (go_at_call 103; refine (iItmsB a n c I _ h hn).mono ?_; rintro e w1 ⟨rfl, hb1⟩)
  go_ret
  exact ⟨rfl, hb1⟩
set_option maxRecDepth 20000 in
set_option maxHeartbeats 4000000 in
theorem iOutsB (a : Option Addr) (n c : Nat) (m : Nat → Nat) (O : Nat → Nat → Itm) (w : World) (h : OL w a n m O) (hm : ∀ j, j < n → m j ≤ 100) (ht : ∀ j, j < n → ∀ q, q < m j → (O j q).s.size ≤ 200) (hn : n ≤ 1048576) :
    Calls Tryd.prog 64 #[.slice a n c, .int .i64 1, .func (.func 63) #[] #[]] w fun e w' => e = .returned (.string (bs (numI 1 n ++ listB (fun j => expB (O j) (m j)) n))) ∧ Below w.heap.size w w' := by
  have z0 : (bs (numI 1 (n : Int))).size ≤ 1 := by rw [bs_size, numI_len]; omega
  have hB0 := Bd.new w
  have hb0 := bal w (.cells #[.pointer none, .slice none 0 0] 148)
  have hz0 : (w.alloc (.cells #[.pointer none, .slice none 0 0] 148)).heap.size = w.heap.size + 1 := by simp
  go_enter Tryd.func64, Tryd.ntmps64
  go_wp2_with (first | (go_at_call 57; refine (high1 n _).mono ?_; rintro e w1 ⟨rfl, hb1⟩; have hB1 := hB0.later hb1; have s1 := hb1.size) | (go_at_call 101; refine (Bd.write _ _ _ _ _ hB1 (by simp; omega) (by omega)).mono ?_; rintro e w2 ⟨rfl, hB2, hb2⟩; rw [bs_data, List.nil_append] at hB2; have s2 := hb2.size; replace hb2 := (hb0.trans (hb1.mono hb0.size)).trans hb2))
  go_loopw [18] (fun i wr => ∃ k : Nat, k ≤ n ∧ i = .int .i64 k ∧ Bd wr w.heap.size w.heap.size (numI 1 n ++ listB (fun j => expB (O j) (m j)) k) ∧ Below w.heap.size w wr) (fun i _ => n - (intOf i).toNat)
  case atStart => exact ⟨0, by omega, rfl, by rw [listB, List.append_nil]; exact hB2, hb2⟩
  case round =>
    obtain ⟨k, hk, rfl, hBk, hb⟩ := hrel
    have sr := hb.size
    by_cases hlt : k < n
    · have HL : Hid (listB (fun j => expB (O j) (m j)) (k + 1) = listB (fun j => expB (O j) (m j)) k ++ expB (O k) (m k)) := rfl
      obtain ⟨b', off, i, c', rfl, d0, di, dm⟩ := h.later hb k hlt
      have zc : (bs (expB (O k) (m k))).size ≤ 30002 := by rw [bs_size]; exact expB_len (hm k hlt) (ht k hlt)
      have hlen : (numI 1 n ++ listB (fun j => expB (O j) (m j)) k).length ≤ 8 + k * 30002 := by
        have := listB_len (B := fun j => expB (O j) (m j)) (c := 30002) (n := k) (fun j hj => expB_len (hm j (by omega)) (ht j (by omega)))
        rw [List.length_append, numI_len]
        omega
      have hmul : k * 30002 ≤ 1048576 * 30002 := Nat.mul_le_mul_right _ (by omega)
      go_wp2_with (first | (go_at_call 63; refine (iExpB i _ c' _ _ di dm).mono ?_; rintro e w3 ⟨rfl, hb3⟩; have hB3 := hBk.later hb3; replace hb3 := bstep hb hb3; have sz3 := hb3.size) | (go_at_call 101; refine (Bd.write _ _ _ _ _ hB3 (by omega) (by omega)).mono ?_; rintro e w4 ⟨rfl, hB4, hb4⟩; rw [bs_data] at hB4; replace hb4 := hb3.trans hb4))
      go_roundw
      case rel => exact ⟨k + 1, by omega, by go_num, by rw [HL.out, ← List.append_assoc]; exact hB4, hb4⟩
      case measure => simp [intOf]; omega
    · obtain rfl : k = n := by omega
      go_wp2_with (go_at_call 102; refine (Bd.str _ _ _ _ hBk (by omega)).mono ?_; rintro e w5 ⟨rfl, hb5⟩; replace hb5 := hb.trans hb5)
      go_ret
      exact ⟨rfl, hb5⟩
end Go.Proofs.YtfodndnkhgijmaaDoor
