/-
  Statements read: numbers and texts, the program's way.
-/
import Derived.Test.YtnbgdfhfmbgbhaaGreatDoorNt
import Derived.Laws.IdiomStrings
import Derived.Laws.BitsLemmas
namespace Go.Proofs.YtnbgdfhfmbgbhaaGreatDoor
open Go.RowKit Go.Maps Go.WideMaps
theorem gtrans {a b c : World} {r : Option Nat} (h : a.grownBy b r) (k : b.grownBy c r) : a.grownBy c r :=
  ⟨k.os.trans h.os, k.tape.trans h.tape, k.output.trans h.output, Nat.le_trans h.size k.size, fun i hi hn => (k.block i (Nat.lt_of_lt_of_le hi h.size) hn).trans (h.block i hi hn)⟩
theorem gset (w : World) (B i : Nat) (v : Value) : w.grownBy (w.setCell ⟨B, i, none⟩ v) (some B) :=
  have hb : Below B w (w.setCell ⟨B, i, none⟩ v) := (Below.refl B w).setCell (Nat.le_refl B) v
  ⟨hb.os, hb.tape, hb.output, hb.size, fun k _ hn => heap_setCell_other _ _ _ _ (fun e => hn (by rw [e]))⟩
theorem gbelow {w w' : World} (h : Below w.heap.size w w') (r : Option Nat) : w.grownBy w' r := ⟨h.os, h.tape, h.output, h.size, fun k hk _ => h.block k hk⟩
theorem grefl (w : World) (r : Option Nat) : w.grownBy w r := gbelow (Below.refl _ _) r
/-- The reader lies in block B. -/
def RD (w : World) (B : Nat) (rest : ByteArray) (sh : Bool) : Prop := w.heap[B]? = some (.cells #[.string rest, .bool sh] 57 (0, 0))
theorem RD.lt {w : World} {B : Nat} {rest : ByteArray} {sh : Bool} (h : RD w B rest sh) : B < w.heap.size := (Array.getElem?_eq_some_iff.1 h).1
theorem RD.later {w w' : World} {B : Nat} {rest : ByteArray} {sh : Bool} (h : RD w B rest sh) (hb : Below w.heap.size w w') : RD w' B rest sh := (hb.block B h.lt).trans h
/-- What is taken, and what is left. -/
def tkR (r : ByteArray) (n : Nat) : ByteArray := if r.size < n then ⟨#[]⟩ else r.extract 0 n
def drR (r : ByteArray) (n : Nat) : ByteArray := if r.size < n then ⟨#[]⟩ else r.extract n r.size
theorem tkR_size (r : ByteArray) (n : Nat) : (tkR r n).size ≤ n := by
  unfold tkR
  split
  · exact Nat.zero_le _
  · rw [ByteArray.size_extract]; omega
theorem drR_size (r : ByteArray) (n : Nat) : (drR r n).size ≤ r.size := by
  unfold drR
  split
  · exact Nat.zero_le _
  · rw [ByteArray.size_extract]; omega
set_option maxRecDepth 20000 in
set_option maxHeartbeats 4000000 in
theorem iTake (B : Nat) (r : ByteArray) (sh : Bool) (n : Nat) (w : World) (h : RD w B r sh) (hn : n ≤ 1048576) :
    Calls Tryz.prog 109 #[.pointer (some ⟨B, 0, none⟩), .int .i64 n] w fun e w' => e = .returned (.string (tkR r n)) ∧ RD w' B (drR r n) (sh || decide (r.size < n)) ∧ w.grownBy w' (some B) := by
  have h' := h
  unfold RD at h'
  have c0 : w.cell? ⟨B, 0, none⟩ = some (.string r) := (cell_of_row _ _ 0 _ _ _ h').trans rfl
  have c1 : w.cell? ⟨B, 1, none⟩ = some (.bool sh) := (cell_of_row _ _ 1 _ _ _ h').trans rfl
  have f0 : w.frozen? ⟨B, 0, none⟩ = false := frozen_of_row _ _ 0 _ _ h'
  have f1 : w.frozen? ⟨B, 1, none⟩ = false := frozen_of_row _ _ 1 _ _ h'
  have HH : Hid (w.heap[B]? = some (.cells #[.string r, .bool sh] 57 (0, 0))) := h'
  clear h' h
  by_cases hl : r.size < n
  · have hl' : (r.size : Int) < (n : Int) := by omega
    have HT : Hid (tkR r n = ⟨#[]⟩) := by show _ = _; unfold tkR; rw [if_pos hl]
    have HD : Hid (drR r n = ⟨#[]⟩) := by show _ = _; unfold drR; rw [if_pos hl]
    go_enter Tryz.func109, Tryz.ntmps109
    go_wp2
    go_ret
    refine ⟨by rw [HT.out]; rfl, ?_, gtrans (gset _ _ _ _) (gset _ _ _ _)⟩
    rw [HD.out, decide_eq_true hl, Bool.or_true]
    exact heap_setCell_same _ _ 1 _ _ _ (heap_setCell_same _ _ 0 _ _ _ HH.out)
  · have hl' : ¬ (r.size : Int) < (n : Int) := by omega
    have i1 : (0 : Int) ≤ (n : Int) := by omega
    have i2 : (n : Int) ≤ (r.size : Int) := by omega
    have HT : Hid (tkR r n = r.extract 0 n) := by show _ = _; unfold tkR; rw [if_neg hl]
    have HD : Hid (drR r n = r.extract n r.size) := by show _ = _; unfold drR; rw [if_neg hl]
    go_enter Tryz.func109, Tryz.ntmps109
    go_wp2
    go_ret
    refine ⟨by rw [HT.out]; rfl, ?_, gset _ _ _ _⟩
    rw [HD.out]
    exact heap_setCell_same _ _ 0 _ _ _ HH.out
end Go.Proofs.YtnbgdfhfmbgbhaaGreatDoor
namespace Go.Proofs.YtnbgdfhfmbgbhaaGreatDoor
open Go.RowKit Go.Maps Go.WideMaps
def at8 (s : ByteArray) (j : Nat) : Nat := if h : j < s.size then s[j].toNat else 0
/-- The number that j bytes are, the highest first. -/
def beN (s : ByteArray) : Nat → Nat
  | 0 => 0
  | j + 1 => beN s j * 256 + at8 s j
theorem at8_lt (s : ByteArray) (j : Nat) : at8 s j < 256 := by
  unfold at8
  split
  · exact UInt8.toNat_lt _
  · omega
theorem beN_lt (s : ByteArray) : ∀ j, beN s j < 256 ^ j
  | 0 => by simp [beN]
  | j + 1 => by
    have h1 := beN_lt s j
    have h2 := at8_lt s j
    rw [beN, Nat.pow_succ]
    omega
theorem or_sum64 (x y : Int) (hx₀ : 0 ≤ x) (hx : x % 2 ^ 8 = 0) (hx₁ : x < 2 ^ 64) (hy₀ : 0 ≤ y) (hy : y < 2 ^ 8) : bits .or .u64 x y = x + y :=
  bits_join .u64 64 (by decide) (fun n h0 h1 => by rw [IntKind.wrap_u64]; omega) 8 x y hx₀ hx hx₁ hy₀ hy (by omega)
theorem Nj_bdrew (w : World) : Below w.heap.size w w.drew := ⟨rfl, rfl, rfl, Nat.le_refl _, fun _ _ => rfl⟩
theorem conv_fn (s : ByteArray) : ∃ f : World → Nat × World, ∀ v : World, (convert 9 127 (.string s)).run Tryz.prog v = .ok (.slice (some ⟨v.heap.size, 0, none⟩) s.size (f v).1) (f v).2 ∧ Below v.heap.size v (f v).2 ∧ ∀ j, j < s.size → (f v).2.cell? ⟨v.heap.size, j, none⟩ = some (.int .u8 (at8 s j : Nat)) :=
  ⟨fun v => (grownCap v s.size 0 5, v.drew.alloc (.cells (bytesRow s (grownCap v s.size 0 5)) 5 ((bytesRow s (grownCap v s.size 0 5)).size, (bytesRow s (grownCap v s.size 0 5)).size + 1))), fun v => ⟨run_bytes_of_string v 9 127 5 s Tryz.underlying9 Tryz.underlying127 Tryz.underlying5, bstep (Nj_bdrew v) (bal _ _), fun j hj => by
    have := (cell_of_row _ _ j _ _ _ (heap_alloc_new v.drew (.cells (bytesRow s (grownCap v s.size 0 5)) 5 ((bytesRow s (grownCap v s.size 0 5)).size, (bytesRow s (grownCap v s.size 0 5)).size + 1)))).trans (bytesRow_at s (grownCap v s.size 0 5) j hj)
    rw [show at8 s j = s.data[j].toNat by unfold at8; rw [dif_pos hj]; rfl]
    exact this⟩⟩
set_option maxRecDepth 20000 in
set_option maxHeartbeats 4000000 in
theorem iNum (B : Nat) (r : ByteArray) (sh : Bool) (k : Nat) (w : World) (h : RD w B r sh) (hk : k ≤ 8) :
    Calls Tryz.prog 59 #[.pointer (some ⟨B, 0, none⟩), .int .i64 k] w fun e w' => e = .returned (.int .i64 (wrap64 (beN (tkR r k) (tkR r k).size : Nat))) ∧ RD w' B (drR r k) (sh || decide (r.size < k)) ∧ w.grownBy w' (some B) := by
  have hz := tkR_size r k
  have hT := iTake B r sh k w h (by omega)
  obtain ⟨s, hs⟩ : ∃ s, tkR r k = s := ⟨_, rfl⟩
  rw [hs] at hz hT ⊢
  clear hs
  obtain ⟨f, hf⟩ := conv_fn s
  have HF : Hid (∀ v : World, Below v.heap.size v (f v).2 ∧ ∀ j, j < s.size → (f v).2.cell? ⟨v.heap.size, j, none⟩ = some (.int .u8 (at8 s j : Nat))) := fun v => (hf v).2
  have hcv := fun v => (hf v).1
  clear hf
  go_enter Tryz.func59, Tryz.ntmps59
  go_wp2_with (go_at_call 109; refine hT.mono ?_; rintro e w1 ⟨rfl, hR1, hg1⟩)
  clear hcv
  obtain ⟨hb2, hc⟩ := HF.out w1
  have HC : Hid (∀ j, j < s.size → (f w1).2.cell? ⟨w1.heap.size, j, none⟩ = some (.int .u8 (at8 s j : Nat))) := hc
  clear hc HF
  go_loop [5, 7, 13] (fun x _ i => ∃ j : Nat, j ≤ s.size ∧ i = .int .i64 j ∧ x = .int .u64 (beN s j : Nat)) (fun _ _ i => s.size - (intOf i).toNat)
  case atStart => exact ⟨0, by omega, rfl, rfl⟩
  case round =>
    obtain ⟨j, hj, rfl, rfl⟩ := hrel
    by_cases hlt : j < s.size
    · have hc := HC.out j hlt
      have h1 := beN_lt s j
      have h2 := at8_lt s j
      have h3 : 256 ^ j ≤ 256 ^ 7 := Nat.pow_le_pow_right (by omega) (by omega)
      have h4 : (256 : Nat) ^ 7 = 72057594037927936 := by decide
      have HB : Hid (beN s (j + 1) = beN s j * 256 + at8 s j) := rfl
      obtain ⟨x, hx⟩ : ∃ x, beN s j = x := ⟨_, rfl⟩
      obtain ⟨y, hy⟩ : ∃ y, at8 s j = y := ⟨_, rfl⟩
      rw [hx] at h1 HB ⊢
      rw [hy] at h2 hc HB
      have o1 : bits .or .u64 ((x : Int) * 256) (y : Int) = (x : Int) * 256 + y := or_sum64 _ _ (by omega) (by omega) (by omega) (by omega) (by omega)
      have o2 : IntKind.u64.wrap ((x : Int) * 256) = (x : Int) * 256 := by rw [IntKind.wrap_u64]; omega
      have o3 : IntKind.u64.wrap (y : Int) = (y : Int) := by rw [IntKind.wrap_u64]; omega
      clear hx hy h3 h4
      go_wp2
      go_round
      case rel => exact ⟨j + 1, by omega, by go_num, by rw [HB.out]; go_num⟩
      case measure => simp [intOf]; omega
    · obtain rfl : j = s.size := by omega
      go_wp2
      go_ret
      exact ⟨rfl, hR1.later hb2, gtrans hg1 (gbelow hb2 _)⟩
theorem be2 {s : ByteArray} (h : s.size ≤ 2) : beN s s.size ≤ 65535 := by
  have h1 := beN_lt s s.size
  have h2 : 256 ^ s.size ≤ 256 ^ 2 := Nat.pow_le_pow_right (by omega) h
  have h3 : (256 : Nat) ^ 2 = 65536 := by decide
  omega
/-- The number that the next k bytes are. -/
def nmR (r : ByteArray) (k : Nat) : Nat := beN (tkR r k) (tkR r k).size
set_option maxRecDepth 20000 in
set_option maxHeartbeats 2000000 in
theorem iSized (B : Nat) (r : ByteArray) (sh : Bool) (k : Nat) (w : World) (h : RD w B r sh) (hk : k ≤ 2) :
    Calls Tryz.prog 60 #[.pointer (some ⟨B, 0, none⟩), .int .i64 k] w fun e w' => e = .returned (.string (tkR (drR r k) (nmR r k))) ∧ RD w' B (drR (drR r k) (nmR r k)) (sh || decide (r.size < k) || decide ((drR r k).size < nmR r k)) ∧ w.grownBy w' (some B) := by
  have hN := iNum B r sh k w h (by omega)
  have hz : nmR r k ≤ 65535 := be2 (Nat.le_trans (tkR_size r k) hk)
  have hw : wrap64 (nmR r k : Nat) = ((nmR r k : Nat) : Int) := by unfold wrap64; omega
  change Calls Tryz.prog 59 #[.pointer (some ⟨B, 0, none⟩), .int .i64 k] w fun e w' => e = .returned (.int .i64 (wrap64 (nmR r k : Nat))) ∧ RD w' B (drR r k) (sh || decide (r.size < k)) ∧ w.grownBy w' (some B) at hN
  rw [hw] at hN
  obtain ⟨n, hn⟩ : ∃ n, nmR r k = n := ⟨_, rfl⟩
  rw [hn] at hN hz ⊢
  clear hn hw
  go_enter Tryz.func60, Tryz.ntmps60
  go_wp2_with (first | (go_at_call 59; refine hN.mono ?_; rintro e w1 ⟨rfl, hR1, hg1⟩) | (go_at_call 109; refine (iTake B _ _ n _ hR1 (by omega)).mono ?_; rintro e w2 ⟨rfl, hR2, hg2⟩))
  go_ret
  exact ⟨rfl, hR2, gtrans hg1 hg2⟩
end Go.Proofs.YtnbgdfhfmbgbhaaGreatDoor
