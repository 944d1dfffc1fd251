/-
  Frame: both sides, the law.
-/
import Derived.Laws.BitsLemmas
import Derived.Test.YtngppfjphbodcaaGreatDoorProg
import Derived.WalkKit
import Derived.ProofKit
import Derived.Deep.WholeRow
import Derived.Laws.CopyOwn
import Derived.Test.YtngppfjphbodcaaGreatDoorFc
namespace Go.Proofs.YtngppfjphbodcaaGreatDoor

theorem xor_u32 (a b : Nat) (ha : a < 4294967296) (hb : b < 4294967296) :
    bits .xor .u32 (a : Int) (b : Int) = ((a ^^^ b : Nat) : Int) := by
  have hx : a ^^^ b < 2 ^ 32 := Nat.xor_lt_two_pow (by omega) (by omega)
  have h1 : (BitVec.ofInt 32 (a : Int)).toNat = a := by
    rw [BitVec.ofInt_natCast, BitVec.toNat_ofNat]; exact Nat.mod_eq_of_lt (by omega)
  have h2 : (BitVec.ofInt 32 (b : Int)).toNat = b := by
    rw [BitVec.ofInt_natCast, BitVec.toNat_ofNat]; exact Nat.mod_eq_of_lt (by omega)
  show IntKind.u32.wrap ((BitVec.ofInt 32 (a : Int) ^^^ BitVec.ofInt 32 (b : Int)).toNat : Int) = _
  rw [BitVec.toNat_xor, h1, h2, IntKind.wrap_u32]
  omega
theorem xor_u8 (a b : Nat) (ha : a < 256) (hb : b < 256) :
    bits .xor .u8 (a : Int) (b : Int) = ((a ^^^ b : Nat) : Int) := by
  have hx : a ^^^ b < 2 ^ 8 := Nat.xor_lt_two_pow (by omega) (by omega)
  have h1 : (BitVec.ofInt 8 (a : Int)).toNat = a := by
    rw [BitVec.ofInt_natCast, BitVec.toNat_ofNat]; exact Nat.mod_eq_of_lt (by omega)
  have h2 : (BitVec.ofInt 8 (b : Int)).toNat = b := by
    rw [BitVec.ofInt_natCast, BitVec.toNat_ofNat]; exact Nat.mod_eq_of_lt (by omega)
  show IntKind.u8.wrap ((BitVec.ofInt 8 (a : Int) ^^^ BitVec.ofInt 8 (b : Int)).toNat : Int) = _
  rw [BitVec.toNat_xor, h1, h2, IntKind.wrap_u8]
  omega
theorem xor_i64 (a b : Nat) (ha : a < 4294967296) (hb : b < 4294967296) :
    bits .xor .i64 (a : Int) (b : Int) = ((a ^^^ b : Nat) : Int) := by
  have hx : a ^^^ b < 2 ^ 32 := Nat.xor_lt_two_pow (by omega) (by omega)
  have h1 : (BitVec.ofInt 64 (a : Int)).toNat = a := by
    rw [BitVec.ofInt_natCast, BitVec.toNat_ofNat]; exact Nat.mod_eq_of_lt (by omega)
  have h2 : (BitVec.ofInt 64 (b : Int)).toNat = b := by
    rw [BitVec.ofInt_natCast, BitVec.toNat_ofNat]; exact Nat.mod_eq_of_lt (by omega)
  show IntKind.i64.wrap ((BitVec.ofInt 64 (a : Int) ^^^ BitVec.ofInt 64 (b : Int)).toNat : Int) = _
  rw [BitVec.toNat_xor, h1, h2, IntKind.wrap_i64]
  omega
theorem and1_u32 (a : Nat) (ha : a < 4294967296) : bits .and .u32 (a : Int) 1 = ((a % 2 : Nat) : Int) := by
  have h := bits_mask .u32 32 (by decide) (fun n h0 h1 => by rw [IntKind.wrap_u32]; omega) 1 (by omega) (a : Int) (by omega) (by omega)
  have e : (2 : Int) ^ 1 - 1 = 1 := rfl
  rw [e] at h
  rw [h]; omega

theorem xor_ones (c : Nat) (h : c < 4294967296) : 4294967295 ^^^ c = 4294967295 - c := by
  have e : (BitVec.allOnes 32 ^^^ BitVec.ofNat 32 c).toNat = (~~~ (BitVec.ofNat 32 c)).toNat := by rw [BitVec.allOnes_xor]
  rw [BitVec.toNat_xor, BitVec.toNat_not, BitVec.toNat_allOnes, BitVec.toNat_ofNat, Nat.mod_eq_of_lt (by omega)] at e
  omega
theorem not_u32 (c : Nat) (h : c < 4294967296) : bits .xor .u32 IntKind.u32.max (c : Int) = ((4294967295 - c : Nat) : Int) := by
  have e : IntKind.u32.max = ((4294967295 : Nat) : Int) := by decide
  rw [e, xor_u32 _ _ (by omega) h, xor_ones c h]
theorem ret_int {k : IntKind} {a b : Int} (h : a = b) : Ending.returned (.int k a) = .returned (.int k b) := by rw [h]

/-- One bit is shifted out. -/
def sh (c : Nat) : Nat := if c % 2 = 1 then (c / 2) ^^^ 3988292384 else c / 2
def shN : Nat → Nat → Nat
  | 0, c => c
  | k + 1, c => sh (shN k c)
theorem xor_lt (a b : Nat) (ha : a < 4294967296) (hb : b < 4294967296) : a ^^^ b < 4294967296 :=
  Nat.xor_lt_two_pow (n := 32) (by omega) (by omega)
theorem sh_lt (c : Nat) (h : c < 4294967296) : sh c < 4294967296 := by
  unfold sh; split
  · exact xor_lt _ _ (by omega) (by omega)
  · omega
theorem shN_lt (k c : Nat) (h : c < 4294967296) : shN k c < 4294967296 := by
  induction k with
  | zero => exact h
  | succ k ih => exact sh_lt _ ih
theorem xor_div2 (a b : Nat) : (a ^^^ b) / 2 = a / 2 ^^^ b / 2 := by
  have := Nat.xor_div_two_pow (a := a) (b := b) (n := 1)
  simpa using this
theorem xor_mod2 (a b : Nat) : (a ^^^ b) % 2 = (a + b) % 2 := by
  have := Nat.xor_mod_two_pow (a := a) (b := b) (n := 1)
  rw [Nat.pow_one] at this
  rw [this, Nat.add_mod]
  rcases Nat.mod_two_eq_zero_or_one a with h | h <;> rcases Nat.mod_two_eq_zero_or_one b with h' | h' <;> rw [h, h'] <;> rfl
theorem sh_xor (a b : Nat) : sh (a ^^^ b) = sh a ^^^ sh b := by
  unfold sh
  have h := xor_mod2 a b
  rw [xor_div2]
  by_cases ha : a % 2 = 1
  · by_cases hb : b % 2 = 1
    · rw [if_neg (by omega), if_pos ha, if_pos hb]
      rw [Nat.xor_comm (b / 2), Nat.xor_assoc, ← Nat.xor_assoc 3988292384, Nat.xor_self, Nat.zero_xor]
    · rw [if_pos (by omega), if_pos ha, if_neg hb]
      rw [Nat.xor_assoc, Nat.xor_assoc, Nat.xor_comm (b / 2)]
  · by_cases hb : b % 2 = 1
    · rw [if_pos (by omega), if_neg ha, if_pos hb, Nat.xor_assoc]
    · rw [if_neg (by omega), if_neg ha, if_neg hb]
theorem shN_xor (k a b : Nat) : shN k (a ^^^ b) = shN k a ^^^ shN k b := by
  induction k with
  | zero => rfl
  | succ k ih => simp only [shN]; rw [ih, sh_xor]
theorem shN_high (k y : Nat) : shN k (2 ^ k * y) = y := by
  have e : ∀ k j y : Nat, shN k (2 ^ (k + j) * y) = 2 ^ j * y := by
    intro k
    induction k with
    | zero => intro j y; simp [shN]
    | succ k ih =>
      intro j y
      have h := ih (j + 1) y
      have ee : k + 1 + j = k + (j + 1) := by omega
      rw [ee]
      simp only [shN]
      rw [h]
      unfold sh
      have e2 : 2 ^ (j + 1) * y = 2 * (2 ^ j * y) := by rw [Nat.pow_succ, Nat.mul_comm (2 ^ j) 2, Nat.mul_assoc]
      rw [e2, if_neg (by omega)]
      omega
  have := e k 0 y
  simpa using this
theorem split256 (x : Nat) : x = (x % 256) ^^^ (2 ^ 8 * (x / 256)) := by
  have h := Nat.two_pow_add_eq_or_of_lt (i := 8) (b := x % 256) (by omega) (x / 256)
  have hx : (2 ^ 8 * (x / 256)) ^^^ (x % 256) = (2 ^ 8 * (x / 256)) ||| (x % 256) := by
    apply Nat.eq_of_testBit_eq
    intro i
    rw [Nat.testBit_xor, Nat.testBit_or]
    by_cases hi : i < 8
    · have : (2 ^ 8 * (x / 256)).testBit i = false := by
        rw [Nat.testBit_two_pow_mul]; simp; omega
      rw [this]; simp
    · have : (x % 256).testBit i = false := Nat.testBit_lt_two_pow (Nat.lt_of_lt_of_le (by omega : x % 256 < 2 ^ 8) (Nat.pow_le_pow_right (by omega) (by omega)))
      rw [this]; simp
  rw [Nat.xor_comm, hx, ← h]
  omega
theorem sh8_split (x : Nat) : shN 8 x = shN 8 (x % 256) ^^^ x / 256 := by
  conv => lhs; rw [split256 x]
  rw [shN_xor, shN_high]

/-- One round of the specification's inner loop: the register and what comes in. -/
def sp : Nat → Nat → Nat → Nat × Nat
  | 0, r, b => (r, b)
  | k + 1, r, b => (if ((sp k r b).1 + (sp k r b).2) % 2 = 1 then (sp k r b).1 / 2 ^^^ 3988292384 else (sp k r b).1 / 2, (sp k r b).2 / 2)
theorem sp_sh (k r b : Nat) : (sp k r b).1 ^^^ (sp k r b).2 = shN k (r ^^^ b) := by
  induction k with
  | zero => rfl
  | succ k ih =>
    simp only [sp, shN]
    rw [← ih]
    unfold sh
    rw [xor_mod2, xor_div2]
    split
    · rw [Nat.xor_assoc, Nat.xor_comm 3988292384, ← Nat.xor_assoc]
    · rfl
theorem sp_in (k r b : Nat) : (sp k r b).2 = b / 2 ^ k := by
  induction k with
  | zero => simp [sp]
  | succ k ih => simp only [sp]; rw [ih, Nat.pow_succ, Nat.div_div_eq_div_mul]
theorem sp_lt (k r b : Nat) (h : r < 4294967296) : (sp k r b).1 < 4294967296 := by
  induction k with
  | zero => exact h
  | succ k ih =>
    simp only [sp]; split
    · exact xor_lt _ _ (by omega) (by omega)
    · omega
theorem sp8 (r b : Nat) (hb : b < 256) : (sp 8 r b).1 = shN 8 (r ^^^ b) := by
  have h := sp_sh 8 r b
  have hi := sp_in 8 r b
  have : (sp 8 r b).2 = 0 := by rw [hi]; omega
  rw [this, Nat.xor_zero] at h
  exact h
theorem sp_in_lt (k r b : Nat) (hb : b < 256) : (sp k r b).2 < 256 := by
  rw [sp_in]; exact Nat.lt_of_le_of_lt (Nat.div_le_self _ _) hb

/-- The register behind a list of bytes. -/
def crc (l : List UInt8) : Nat := l.foldl (fun r c => shN 8 (r ^^^ c.toNat)) 4294967295
theorem crc_snoc (l : List UInt8) (c : UInt8) : crc (l ++ [c]) = shN 8 (crc l ^^^ c.toNat) := by
  simp [crc, List.foldl_append]
theorem crc_lt (l : List UInt8) : crc l < 4294967296 := by
  unfold crc
  have : ∀ (l : List UInt8) (r : Nat), r < 4294967296 → l.foldl (fun r c => shN 8 (r ^^^ c.toNat)) r < 4294967296 := by
    intro l
    induction l with
    | nil => intro r h; exact h
    | cons c l ih => intro r h; exact ih _ (shN_lt _ _ (xor_lt _ _ h (by have := c.toNat_lt; omega)))
  exact this l _ (by omega)
/-- What the table's look gives. -/
theorem look (r b : Nat) (hb : b < 256) : shN 8 ((r % 256) ^^^ b) ^^^ r / 256 = shN 8 (r ^^^ b) := by
  rw [sh8_split (r ^^^ b)]
  have h1 : (r ^^^ b) % 256 = (r % 256) ^^^ b := by
    have := Nat.xor_mod_two_pow (a := r) (b := b) (n := 8)
    have e : (2 : Nat) ^ 8 = 256 := rfl
    rw [e] at this
    rw [this, Nat.mod_eq_of_lt hb]
  have h2 : (r ^^^ b) / 256 = r / 256 := by
    have := Nat.xor_div_two_pow (a := r) (b := b) (n := 8)
    have e : (2 : Nat) ^ 8 = 256 := rfl
    rw [e] at this
    rw [this, Nat.div_eq_of_lt hb, Nat.xor_zero]
  rw [h1, h2]
theorem take_snoc (s : ByteArray) (k : Nat) (h : k < s.size) : s.data.toList.take (k + 1) = s.data.toList.take k ++ [s[k]] := by
  rw [List.take_succ_eq_append_getElem (by simpa using h)]; rfl
theorem crc_take (s : ByteArray) (k : Nat) (h : k < s.size) : crc (s.data.toList.take (k + 1)) = shN 8 (crc (s.data.toList.take k) ^^^ s[k].toNat) := by
  rw [take_snoc s k h, crc_snoc]
end Go.Proofs.YtngppfjphbodcaaGreatDoor
namespace Go.Proofs.YtngppfjphbodcaaGreatDoor
open Go.RowKit

set_option maxHeartbeats 400000 in
theorem shifts_any (c : Nat) (w : World) (hc : c < 4294967296) :
    Calls Tryz.prog 81 #[.int .u32 c] w fun e w' => e = .returned (.int .u32 (shN 8 c : Nat)) ∧ w' = w := by
  go_enter Tryz.func81, Tryz.ntmps81
  go_wp2
  go_loop [0, 4] (fun x i => ∃ k : Nat, k ≤ 8 ∧ i = .int .i64 k ∧ x = .int .u32 (shN k c : Nat)) (fun _ i => 8 - (intOf i).toNat)
  case atStart => exact ⟨0, by omega, rfl, rfl⟩
  case round =>
    obtain ⟨k, hk, rfl, rfl⟩ := hrel
    have hn := shN_lt k c hc
    obtain ⟨n, hnn⟩ : ∃ n, n = shN k c := ⟨_, rfl⟩
    have hs : shN (k + 1) c = sh n := by rw [hnn]; rfl
    have HS : Hid (shN (k + 1) c = sh n) := hs
    rw [← hnn] at hn
    by_cases hlt : k < 8
    · rw [← hnn]
      clear hs hnn
      have ha := and1_u32 n hn
      by_cases ho : n % 2 = 1
      · have ha' : bits .and .u32 (n : Int) 1 = 1 := by rw [ha, ho]; rfl
        have hx : bits .xor .u32 ((n : Int) / 2) 3988292384 = ((n / 2 ^^^ 3988292384 : Nat) : Int) := by
          have := xor_u32 (n / 2) 3988292384 (by omega) (by omega)
          rw [← this]; simp
        have HX : Hid (sh n = n / 2 ^^^ 3988292384) := by show sh n = _; unfold sh; rw [if_pos ho]
        clear ha
        go_wp2
        go_round
        case rel => exact ⟨k + 1, by omega, by go_num, by rw [HS.out, HX.out]⟩
        case measure => simp [intOf]; omega
      · have ha' : bits .and .u32 (n : Int) 1 = 0 := by rw [ha]; omega
        have HX : Hid (sh n = n / 2) := by show sh n = _; unfold sh; rw [if_neg ho]
        clear ha
        go_wp2
        go_round
        case rel => exact ⟨k + 1, by omega, by go_num, by rw [HS.out, HX.out]; simp⟩
        case measure => simp [intOf]; omega
    · obtain rfl : k = 8 := by omega
      clear hs hnn HS
      go_wp2
      go_ret
      exact ⟨rfl, rfl⟩
def tab (k : Nat) : Array Value := Array.ofFn (n := 256) fun i => if i.val < k then .int .u32 (shN 8 i.val : Nat) else .int .u32 0
set_option maxRecDepth 100000 in
theorem info26 : (Tryz.prog.info? 103).map (fun i => (i.zero, i.size)) = some (some (.agg (tab 0)), 256) := by kernel_rfl
theorem tab_size (k : Nat) : (tab k).size = 256 := by simp [tab]
theorem tab_get (k i : Nat) (h : i < 256) : (tab k)[i]? = some (if i < k then .int .u32 (shN 8 i : Nat) else .int .u32 0) := by
  simp [tab, h]
theorem tab_set (k : Nat) : (tab k).setIfInBounds k (.int .u32 (shN 8 k : Nat)) = tab (k + 1) := by
  apply Array.ext_getElem?
  intro i
  by_cases hi : i < 256
  · rw [tab_get _ _ hi, Array.getElem?_setIfInBounds, tab_size]
    by_cases e : k = i
    · subst e; simp [hi]
    · rw [if_neg e, tab_get _ _ hi]
      by_cases h1 : i < k
      · rw [if_pos h1, if_pos (by omega)]
      · rw [if_neg h1, if_neg (by omega)]
  · rw [Array.getElem?_eq_none (by simp [tab_size]; omega), Array.getElem?_eq_none (by simp [tab_size]; omega)]
theorem tab_one (k : Nat) : (tab k).all (·.oneCell') = true := by
  rw [Array.all_eq_true]
  intro i hi
  simp only [tab, Array.getElem_ofFn]
  split <;> rfl
theorem wpList_store_row {P : Program} {ops : Array Oper} {rest : List Oper} {o : Oper} {a : Act} {w : World} {Q : Exit → Act → World → Prop} (hgd : o.guard = none) (ty : TypeId) (x y : Operand) (ho : o.op = .store ty x y)
    (g : Nat) (cells : Array Value) (hx : a.eval x = .pointer (some ⟨g, 0, none⟩)) (hy : a.eval y = .agg cells)
    (t : TypeId) (old : Array Value) (hg : w.heap[g]? = some (.cells old t (0, 0))) (hi : (P.info? ty).map (·.size) = some cells.size)
    (hold : old.size = cells.size) (h1 : cells.all (·.oneCell') = true)
    (h : wpList P ops Q rest (a.put o.dst undef) (w.setRow g cells)) : wpList P ops Q (o :: rest) a w :=
  wpList_plain hgd fun _ hK => wp_store_row ty x y ho g cells hx hy t old hg hi hold h1 (hK _ _ h)
set_option maxHeartbeats 400000 in
set_option maxRecDepth 20000 in
theorem table_any (w : World) :
    Calls Tryz.prog 70 #[] w fun e w' => e = .returned (.agg (tab 256)) ∧ Below w.heap.size w w' := by
  obtain ⟨hz, hi⟩ := zero_of_info info26
  have HI : Hid ((Tryz.prog.info? 103).map (·.size) = some 256) := hi
  clear hi
  go_enter Tryz.func70, Tryz.ntmps70
  go_wp2
  go_loopw [3] (fun i wr => ∃ k : Nat, k ≤ 256 ∧ i = .int .i64 k ∧ wr.heap[w.heap.size]? = some (.cells (tab 0) 103 (0, 0)) ∧ wr.heap[w.heap.size + 1]? = some (.cells (tab k) 103 (0, 0)) ∧ Below w.heap.size w wr) (fun i _ => 256 - (intOf i).toNat)
  case atStart => exact ⟨0, by omega, rfl, heap_alloc2_old _ _ _, heap_alloc2_new _ _ _, ((Below.refl _ _).alloc (Nat.le_refl _) _).alloc (by simp) _⟩
  case round =>
    obtain ⟨k, hk, rfl, h0, h1, hb⟩ := hrel
    have H0 : Hid (wr.heap[w.heap.size]? = some (.cells (tab 0) 103 (0, 0))) := h0
    have H1 : Hid (wr.heap[w.heap.size + 1]? = some (.cells (tab k) 103 (0, 0))) := h1
    clear h0 h1 hz
    by_cases hlt : k < 256
    · have hc : wr.cell? ⟨w.heap.size + 1, k, none⟩ = some (.int .u32 0) := by rw [cell_of_row wr _ k _ _ _ H1.out, tab_get k k hlt]; simp
      have hf : wr.frozen? ⟨w.heap.size + 1, k, none⟩ = false := frozen_of_row wr _ k _ _ H1.out
      clear HI
      go_wp2_with (go_at_call 81; refine (shifts_any k _ (by omega)).mono ?_; rintro e w' ⟨rfl, rfl⟩)
      go_roundw
      case rel => exact ⟨k + 1, by omega, by go_num, (heap_setCell_other _ _ _ _ (by simp)).trans H0.out, by rw [heap_setCell_same _ _ _ _ _ _ H1.out, tab_set], hb.setCell (by simp) _⟩
      case measure => simp [intOf]; omega
    · obtain rfl : k = 256 := by omega
      go_wp2_with (first | (refine wpList_load_row rfl 103 (.tmp 1) rfl _ rfl 103 _ _ (.array 256 101) H1.out Tryz.underlying103 rfl (by rw [tab_size]; exact HI.out) ?_) | (refine wpList_store_row rfl 103 (.tmp 0) (.tmp 12) rfl _ _ rfl rfl 103 _ H0.out (by rw [tab_size]; exact HI.out) (by rw [tab_size, tab_size]) (tab_one _) ?_))
      exact bodyPost_ret (v := .agg (tab 256)) (results_cell_row Tryz.results70 _ _ w.heap.size 103 (tab 256) (0, 0) (.array 256 101) rfl (setRow_heap _ _ _ _ _ _ H0.out) Tryz.underlying103 rfl (by rw [tab_size]; exact HI.out)) rfl ⟨rfl, below_setRow hb (Nat.le_refl _) _⟩
set_option maxHeartbeats 400000 in
set_option maxRecDepth 20000 in
theorem sum_any (s : ByteArray) (w : World) (hs : s.size ≤ 1048576) :
    Calls Tryz.prog 83 #[.agg (tab 256), .string s] w fun e w' => e = .returned (.int .u32 (4294967295 - crc s.data.toList : Nat)) ∧ Below w.heap.size w w' := by
  go_enter Tryz.func83, Tryz.ntmps83
  go_wp2
  go_loop [5, 9] (fun c i => ∃ k : Nat, k ≤ s.size ∧ i = .int .i64 k ∧ c = .int .u32 (crc (s.data.toList.take k) : Nat)) (fun _ i => s.size - (intOf i).toNat)
  case atStart => exact ⟨0, by omega, rfl, rfl⟩
  case round =>
    obtain ⟨k, hk, rfl, rfl⟩ := hrel
    have hn := crc_lt (s.data.toList.take k)
    by_cases hlt : k < s.size
    · have HS : Hid (crc (s.data.toList.take (k + 1)) = shN 8 (crc (s.data.toList.take k) ^^^ s[k].toNat)) := crc_take s k hlt
      obtain ⟨n, hnn⟩ : ∃ n, n = crc (s.data.toList.take k) := ⟨_, rfl⟩
      rw [← hnn] at hn HS ⊢
      clear hnn
      have hb := s[k].toNat_lt
      obtain ⟨j, hj⟩ : ∃ j, j = (n % 256) ^^^ s[k].toNat := ⟨_, rfl⟩
      have hjl : j < 256 := by rw [hj]; exact Nat.xor_lt_two_pow (n := 8) (by omega) (by omega)
      have hx8 : bits .xor .u8 ((n : Int) % 256) (s[k].toNat : Int) = (j : Int) := by
        rw [hj, ← xor_u8 _ _ (by omega) (by omega)]; simp
      have HL : Hid (shN 8 j ^^^ n / 256 = shN 8 (n ^^^ s[k].toNat)) := by rw [hj]; exact look n s[k].toNat (by omega)
      have htab : (tab 256)[j]? = some (.int .u32 (shN 8 j : Nat)) := by rw [tab_get _ _ hjl, if_pos hjl]
      have hx32 : bits .xor .u32 ((shN 8 j : Nat) : Int) ((n : Int) / 256) = ((shN 8 j ^^^ n / 256 : Nat) : Int) := by
        rw [← xor_u32 _ _ (shN_lt _ _ (by omega)) (by omega)]; simp
      clear hj hb
      go_wp2
      go_round
      case rel => exact ⟨k + 1, by omega, by go_num, by rw [HS.out, ← HL.out]⟩
      case measure => simp [intOf]; omega
    · obtain rfl : k = s.size := by omega
      go_wp2
      go_ret
      have e : s.data.toList.take s.size = s.data.toList := List.take_of_length_le (by simp)
      refine ⟨ret_int ?_, (Below.refl _ _).alloc (Nat.le_refl _) _⟩
      rw [e, not_u32 _ (crc_lt _)]
set_option maxHeartbeats 400000 in
theorem spec_any (s : ByteArray) (w : World) (hs : s.size ≤ 1048576) :
    Calls Tryz.prog 61 #[.string s] w fun e w' => e = .returned (.int .i64 (4294967295 - crc s.data.toList : Nat)) ∧ w' = w := by
  go_enter Tryz.func61, Tryz.ntmps61
  go_wp2
  go_loop [3, 4] (fun r i => ∃ k : Nat, k ≤ s.size ∧ i = .int .i64 k ∧ r = .int .i64 (crc (s.data.toList.take k) : Nat)) (fun _ i => s.size - (intOf i).toNat)
  case atStart => exact ⟨0, by omega, rfl, rfl⟩
  case round =>
    obtain ⟨k, hk, rfl, rfl⟩ := hrel
    have hn := crc_lt (s.data.toList.take k)
    by_cases hlt : k < s.size
    · have HS : Hid (crc (s.data.toList.take (k + 1)) = shN 8 (crc (s.data.toList.take k) ^^^ s[k].toNat)) := crc_take s k hlt
      obtain ⟨n, hnn⟩ : ∃ n, n = crc (s.data.toList.take k) := ⟨_, rfl⟩
      rw [← hnn] at hn HS ⊢
      clear hnn
      obtain ⟨c, hc⟩ : ∃ c, s[k].toNat = c := ⟨_, rfl⟩
      have hcl : c < 256 := by rw [← hc]; exact s[k].toNat_lt
      rw [hc] at HS
      go_wp2
      go_loop [3, 5, 6] (fun r b i => ∃ q : Nat, q ≤ 8 ∧ i = .int .i64 q ∧ r = .int .i64 ((sp q n c).1 : Nat) ∧ b = .int .i64 ((sp q n c).2 : Nat)) (fun _ _ i => 8 - (intOf i).toNat)
      case atStart => exact ⟨0, by omega, rfl, rfl, rfl⟩
      case round =>
        obtain ⟨q, hq, rfl, rfl, rfl⟩ := hrel
        have h1 := sp_lt q n c hn
        have h2 := sp_in_lt q n c hcl
        by_cases hql : q < 8
        · have HN : Hid (sp (q + 1) n c = (if ((sp q n c).1 + (sp q n c).2) % 2 = 1 then (sp q n c).1 / 2 ^^^ 3988292384 else (sp q n c).1 / 2, (sp q n c).2 / 2)) := rfl
          obtain ⟨a, ha⟩ : ∃ a, (sp q n c).1 = a := ⟨_, rfl⟩
          obtain ⟨b, hb⟩ : ∃ b, (sp q n c).2 = b := ⟨_, rfl⟩
          rw [ha, hb] at HN ⊢
          rw [ha] at h1
          rw [hb] at h2
          clear ha hb
          have hx : bits .xor .i64 ((a : Int) / 2) 3988292384 = ((a / 2 ^^^ 3988292384 : Nat) : Int) := by
            rw [← xor_i64 _ _ (by omega) (by omega)]; simp
          by_cases ho : (a + b) % 2 = 1
          · go_wp2
            go_round
            case rel => exact ⟨q + 1, by omega, by go_num, by rw [HN.out, if_pos ho], by rw [HN.out]; go_num⟩
            case measure => simp [intOf]; omega
          · go_wp2
            go_round
            case rel => exact ⟨q + 1, by omega, by go_num, by rw [HN.out, if_neg ho]; go_num, by rw [HN.out]; go_num⟩
            case measure => simp [intOf]; omega
        · obtain rfl : q = 8 := by omega
          have H8 : Hid ((sp 8 n c).1 = shN 8 (n ^^^ c)) := sp8 n _ hcl
          obtain ⟨a, ha⟩ : ∃ a, (sp 8 n c).1 = a := ⟨_, rfl⟩
          rw [ha] at H8 h1 ⊢
          clear ha
          go_wp2
          go_round
          case rel => exact ⟨k + 1, by omega, by go_num, by rw [HS.out, H8.out]⟩
          case measure => simp [intOf]; omega
    · obtain rfl : k = s.size := by omega
      have e : s.data.toList.take s.size = s.data.toList := List.take_of_length_le (by simp)
      rw [e] at hn ⊢
      clear e
      go_wp2
      go_ret
      refine ⟨ret_int ?_, rfl⟩
      omega
/-- A text of these bytes. -/
def bs (L : List UInt8) : ByteArray := ⟨L.toArray⟩
def byt (v : Int) (i : Nat) : UInt8 := UInt8.ofNat ((v / 256 ^ i) % 256).toNat
def numI (n : Nat) (v : Int) : List UInt8 := (List.range n).map fun j => byt v (n - 1 - j)
def cells8 (l : List UInt8) : List Value := l.map fun b => .int .u8 (b.toNat : Int)
theorem numI_len (n : Nat) (v : Int) : (numI n v).length = n := by simp [numI]
theorem numI_get (n : Nat) (v : Int) (k : Nat) (h : k < n) : (numI n v)[k]? = some (byt v (n - 1 - k)) := by simp [numI, h]
theorem byt_nat (v : Int) (i : Nat) : ((byt v i).toNat : Int) = (v / 256 ^ i) % 256 := by
  unfold byt
  have h0 := Int.emod_nonneg (v / 256 ^ i) (show (256 : Int) ≠ 0 by omega)
  have h1 := Int.emod_lt_of_pos (v / 256 ^ i) (show (0 : Int) < 256 by omega)
  rw [UInt8.toNat_ofNat']
  omega
theorem cells8_snocI (n : Nat) (v : Int) (k : Nat) (h : k < n) : cells8 ((numI n v).take k) ++ [.int .u8 ((v / 256 ^ (n - 1 - k)) % 256)] = cells8 ((numI n v).take (k + 1)) := by
  rw [List.take_add_one, numI_get n v k h]
  simp [cells8, byt_nat]
theorem Tryz.infoB : (Tryz.prog.info? 5).map (fun i => (i.zero, i.size, i.bytes)) = some (some (.int .u8 0), 1, 1) := by kernel_rfl
set_option maxRecDepth 20000 in
set_option maxHeartbeats 1000000 in
theorem conv_any (w : World) (B g cap : Nat) (l : List UInt8) (h : w.ownsRow B 5 1 (.slice (some ⟨g, 0, none⟩) l.length cap) l.length (cells8 l)) :
    (convert 69 9 (.slice (some ⟨g, 0, none⟩) l.length cap)).run Tryz.prog w = .ok (.string ⟨l.toArray⟩) w := by
  refine run_convert_bytes_back w 69 9 5 ⟨g, 0, none⟩ cap l Tryz.underlying69 Tryz.underlying5 Tryz.underlying9 ?_
  intro j hj
  have hadd : (⟨g, 0, none⟩ : Addr).add j = ⟨g, j, none⟩ := by unfold Addr.add; split <;> simp_all
  rw [hadd, h.cellAt j (by omega)]
  simp [cells8, hj]
theorem div_step (v : Int) (j : Nat) : v / 256 ^ (j + 1) = v / 256 ^ j / 256 := by
  rw [Int.pow_succ, Int.ediv_ediv_of_nonneg (Int.pow_nonneg (by omega))]
set_option maxRecDepth 20000 in
set_option maxHeartbeats 2000000 in
theorem sNum (n : Nat) (v : Int) (w : World) (hn : n ≤ 8) :
    Calls Tryz.prog 60 #[.int .i64 n, .int .i64 v] w fun e w' => e = .returned (.string (bs (numI n v))) ∧ Below w.heap.size w w' := by
  obtain ⟨i0, hi, hz0, hz1, hz2⟩ := info_parts Tryz.infoB
  have HI : Hid (Tryz.prog.info? 5 = some i0) := hi
  clear hi
  go_enter Tryz.func60, Tryz.ntmps60
  go_wp2
  go_loopw [5, 6] (fun o i wr => ∃ k g cap : Nat, k ≤ n ∧ i = .int .i64 ((n : Int) - 1 - k) ∧ o = .slice (some ⟨g, 0, none⟩) k cap ∧ w.heap.size ≤ g ∧ wr.ownsRow w.heap.size 5 1 (.slice (some ⟨g, 0, none⟩) k cap) k (cells8 ((numI n v).take k)) ∧ Below w.heap.size w wr) (fun _ i _ => (intOf i + 1).toNat)
  case atStart => exact ⟨0, w.heap.size, 0, by omega, by simp, rfl, Nat.le_refl _, World.ownsRow_lit w #[] 0 (Nat.le_refl _) (by simp [maxLen]) rfl, (Below.refl _ _).alloc (Nat.le_refl _) _⟩
  case round =>
    obtain ⟨k, g, cap, hk, rfl, rfl, hg, hown, hb⟩ := hrel
    by_cases hlt : k < n
    · go_wp2
      go_loop [7, 8] (fun x q => ∃ j : Nat, j + k + 1 ≤ n ∧ q = .int .i64 j ∧ x = .int .i64 (v / 256 ^ j)) (fun _ q => n - (intOf q).toNat)
      case atStart => exact ⟨0, by omega, rfl, by simp⟩
      case round =>
        obtain ⟨j, hj, rfl, rfl⟩ := hrel
        have HP : Hid (v / 256 ^ (j + 1) = v / 256 ^ j / 256) := div_step v j
        by_cases hjl : j + k + 1 < n
        · obtain ⟨x, hx⟩ : ∃ x, v / 256 ^ j = x := ⟨_, rfl⟩
          rw [hx] at HP ⊢
          clear hx
          go_wp2
          go_round
          case rel => exact ⟨j + 1, by omega, by go_num, by rw [HP.out]⟩
          case measure => simp [intOf]; omega
        · have ej : j = n - 1 - k := by omega
          have HS := cells8_snocI n v k hlt
          rw [← ej] at HS
          have HSS : Hid (cells8 ((numI n v).take k) ++ [.int .u8 ((v / 256 ^ j) % 256)] = cells8 ((numI n v).take (k + 1))) := HS
          clear HS ej HP
          obtain ⟨x, hx⟩ : ∃ x, v / 256 ^ j = x := ⟨_, rfl⟩
          rw [hx] at HSS ⊢
          clear hx
          have hsz := hb.size
          go_wp2_with (at_builtin; refine wpList_append_lies _ rfl _ _ _ rfl w.heap.size 5 i0 (.int .u8 0) 1 1 Tryz.underlying69 HI.out hz0 hz1 hz2 rfl (by omega) _ k _ rfl (hown.alloc _) ⟨wr.heap.size, 0, none⟩ 1 1 [.int .u8 (x % 256)] rfl rfl (World.news_of_block (heap_alloc_new wr _)) (ones _ rfl) (by omega) (by unfold maxLen; omega) (by omega) (by simp; omega) _ rfl ?_; intro g1 cap1 w1 hown1 hgrow hat hlt1)
          go_roundw
          case rel => exact ⟨k + 1, g1, cap1, by omega, by go_num, rfl, grow_le hown1, by rw [← HSS.out]; simpa using hown1, (hb.alloc (by omega) _).grown hgrow (by simp; omega) (fun q hq => by have e : g = q := Option.some.inj hq; omega)⟩
          case measure => simp [intOf]; omega
    · obtain rfl : k = n := by omega
      have hc := conv_any wr w.heap.size g cap (numI k v) (by rw [numI_len]; simpa [List.take_of_length_le, numI_len] using hown)
      rw [numI_len] at hc
      go_wp2
      go_ret
      exact ⟨rfl, hb⟩
def half (l : List UInt8) (k : Nat) : List Value := cells8 (l.take k) ++ List.replicate (l.length - k) (Value.int .u8 0)
theorem half_len (l : List UInt8) (k : Nat) (h : k ≤ l.length) : (half l k).length = l.length := by
  simp [half, cells8]; omega
theorem half_get (l : List UInt8) (k i : Nat) (h : k ≤ l.length) (hi : i < l.length) : (half l k)[i]? = some (if i < k then Value.int .u8 ((l.getD i 0).toNat : Int) else Value.int .u8 0) := by
  unfold half
  by_cases hik : i < k
  · rw [List.getElem?_append_left (by simp [cells8]; omega), if_pos hik]
    simp [cells8, hik, hi]
  · rw [List.getElem?_append_right (by simp [cells8]; omega), if_neg hik, List.getElem?_replicate, if_pos]
    simp [cells8]; omega
theorem half_set (l : List UInt8) (k : Nat) (x : Int) (h : k < l.length) (hx : x = ((l.getD k 0).toNat : Int)) : (half l k).set k (.int .u8 x) = half l (k + 1) := by
  subst hx
  apply List.ext_getElem?
  intro i
  by_cases hi : i < l.length
  · rw [List.getElem?_set, half_len _ _ (by omega), half_get _ _ _ (by omega) hi, half_get _ _ _ (by omega) hi]
    by_cases e : k = i
    · subst e; simp [h]
    · rw [if_neg e]
      by_cases h1 : i < k
      · rw [if_pos h1, if_pos (by omega)]
      · rw [if_neg h1, if_neg (by omega)]
  · rw [List.getElem?_eq_none (by rw [List.length_set, half_len _ _ (by omega)]; omega), List.getElem?_eq_none (by rw [half_len _ _ (by omega)]; omega)]
theorem half_zero (l : List UInt8) : half l 0 = List.replicate l.length (Value.int .u8 0) := by simp [half, cells8]
theorem half_all (l : List UInt8) : half l l.length = cells8 l := by simp [half]
theorem numI_at (n : Nat) (v : Int) (k : Nat) (h : k < n) : (((numI n v).getD k 0).toNat : Int) = v / 256 ^ (n - 1 - k) % 256 := by
  rw [List.getD_eq_getElem?_getD, numI_get n v k h]
  exact byt_nat v _
theorem sNum4 (v : Int) (w : World) : Calls Tryz.prog 60 #[.int .i64 4, .int .i64 v] w fun e w' => e = .returned (.string (bs (numI 4 v))) ∧ Below w.heap.size w w' := sNum 4 v w (by omega)
/-- What is summed up: THE checksum of a text. -/
def crcOf (s : ByteArray) : Nat := 4294967295 - crc s.data.toList
/-- THE frame. -/
def frm (s : ByteArray) : ByteArray := if btw s.size 1 60000 then bs (numI 4 s.size) ++ bs (numI 4 (crcOf s)) ++ s else ByteArray.empty
theorem frm_no {s : ByteArray} (h : btw s.size 1 60000 = false) : frm s = ByteArray.empty := by unfold frm; rw [h]; rfl
theorem frm_yes {s : ByteArray} (h : btw s.size 1 60000 = true) : frm s = bs (numI 4 s.size) ++ bs (numI 4 (crcOf s)) ++ s := by unfold frm; rw [h]; rfl
theorem bs_size (l : List UInt8) : (bs l).size = l.length := by simp [bs, ByteArray.size]
theorem crcOf_lt (s : ByteArray) : crcOf s < 4294967296 := by unfold crcOf; omega
theorem crc_spec (s : ByteArray) (w : World) (hs : s.size ≤ 1048576) : Calls Tryz.prog 61 #[.string s] w fun e w' => e = .returned (.int .i64 (crcOf s : Nat)) ∧ w' = w := spec_any s w hs
set_option maxRecDepth 20000 in
set_option maxHeartbeats 2000000 in
theorem sFrame (s : ByteArray) (w : World) (hs : s.size ≤ 1048576) : Calls Tryz.prog 50 #[.string s] w fun e w' => e = .returned (.string (frm s)) ∧ Below w.heap.size w w' := by
  rcases hb : btw s.size 1 60000
  · rw [frm_no hb]
    go_enter Tryz.func50, Tryz.ntmps50
    go_wp2_with (go_at_call 33; refine (sBetween _ 1 60000 _).mono ?_; rw [hb]; rintro e w1 ⟨rfl, rfl⟩)
    go_ret
    exact ⟨rfl, Below.refl _ _⟩
  · have HF : Hid (frm s = bs (numI 4 s.size) ++ bs (numI 4 (crcOf s)) ++ s) := frm_yes hb
    obtain ⟨y, hy⟩ : ∃ y, frm s = y := ⟨_, rfl⟩
    rw [hy] at HF ⊢
    clear hy
    have hc := crcOf_lt s
    have z1 : ¬ 9223372036854775807 < (bs (numI 4 s.size)).size + (bs (numI 4 (crcOf s))).size := by rw [bs_size, bs_size, numI_len, numI_len]; omega
    have z2 : ¬ 9223372036854775807 < (bs (numI 4 s.size) ++ bs (numI 4 (crcOf s))).size + s.size := by rw [ByteArray.size_append, bs_size, bs_size, numI_len, numI_len]; omega
    have hb0 := Below.refl w.heap.size w
    go_enter Tryz.func50, Tryz.ntmps50
    go_wp2_with (first | (go_at_call 33; refine (sBetween _ 1 60000 _).mono ?_; rw [hb]; rintro e w1 ⟨rfl, rfl⟩) | (go_at_call 61; refine (crc_spec s _ hs).mono ?_; rintro e w1 ⟨rfl, rfl⟩) | (go_at_call 60; refine (sNum4 _ _).mono ?_; rintro e w2 ⟨rfl, hb2⟩; replace hb0 := bstep hb0 hb2))
    go_ret
    exact ⟨by rw [HF.out]; rfl, hb0⟩
end Go.Proofs.YtngppfjphbodcaaGreatDoor
