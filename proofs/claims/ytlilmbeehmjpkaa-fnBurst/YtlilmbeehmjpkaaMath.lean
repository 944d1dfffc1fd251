/-
  Plain mathematics of CRC-32: a register shifted eight times, bit by bit, and one look in a table.
-/
import Derived.Laws.BitsLemmas
namespace Go.Proofs.Ytlilmbeehmjpkaa

theorem xor_u32 (a b : Nat) (ha : a < 4294967296) (hb : b < 4294967296) :
    bits .xor .u32 (a : Int) (b : Int) = ((a ^^^ b : Nat) : Int) := by
  have hx : a ^^^ b < 2 ^ 32 := Nat.xor_lt_two_pow (by omega) (by omega)
  have h1 : (BitVec.ofInt 32 (a : Int)).toNat = a := by
    rw [BitVec.ofInt_natCast, BitVec.toNat_ofNat]; exact Nat.mod_eq_of_lt (by omega)
  have h2 : (BitVec.ofInt 32 (b : Int)).toNat = b := by
    rw [BitVec.ofInt_natCast, BitVec.toNat_ofNat]; exact Nat.mod_eq_of_lt (by omega)
  show IntKind.u32.wrap ((BitVec.ofInt 32 (a : Int) ^^^ BitVec.ofInt 32 (b : Int)).toNat : Int) = _
  rw [BitVec.toNat_xor, h1, h2, IntKind.wrap_u32]
  omega
theorem xor_u8 (a b : Nat) (ha : a < 256) (hb : b < 256) :
    bits .xor .u8 (a : Int) (b : Int) = ((a ^^^ b : Nat) : Int) := by
  have hx : a ^^^ b < 2 ^ 8 := Nat.xor_lt_two_pow (by omega) (by omega)
  have h1 : (BitVec.ofInt 8 (a : Int)).toNat = a := by
    rw [BitVec.ofInt_natCast, BitVec.toNat_ofNat]; exact Nat.mod_eq_of_lt (by omega)
  have h2 : (BitVec.ofInt 8 (b : Int)).toNat = b := by
    rw [BitVec.ofInt_natCast, BitVec.toNat_ofNat]; exact Nat.mod_eq_of_lt (by omega)
  show IntKind.u8.wrap ((BitVec.ofInt 8 (a : Int) ^^^ BitVec.ofInt 8 (b : Int)).toNat : Int) = _
  rw [BitVec.toNat_xor, h1, h2, IntKind.wrap_u8]
  omega
theorem xor_i64 (a b : Nat) (ha : a < 4294967296) (hb : b < 4294967296) :
    bits .xor .i64 (a : Int) (b : Int) = ((a ^^^ b : Nat) : Int) := by
  have hx : a ^^^ b < 2 ^ 32 := Nat.xor_lt_two_pow (by omega) (by omega)
  have h1 : (BitVec.ofInt 64 (a : Int)).toNat = a := by
    rw [BitVec.ofInt_natCast, BitVec.toNat_ofNat]; exact Nat.mod_eq_of_lt (by omega)
  have h2 : (BitVec.ofInt 64 (b : Int)).toNat = b := by
    rw [BitVec.ofInt_natCast, BitVec.toNat_ofNat]; exact Nat.mod_eq_of_lt (by omega)
  show IntKind.i64.wrap ((BitVec.ofInt 64 (a : Int) ^^^ BitVec.ofInt 64 (b : Int)).toNat : Int) = _
  rw [BitVec.toNat_xor, h1, h2, IntKind.wrap_i64]
  omega
theorem and1_u32 (a : Nat) (ha : a < 4294967296) : bits .and .u32 (a : Int) 1 = ((a % 2 : Nat) : Int) := by
  have h := bits_mask .u32 32 (by decide) (fun n h0 h1 => by rw [IntKind.wrap_u32]; omega) 1 (by omega) (a : Int) (by omega) (by omega)
  have e : (2 : Int) ^ 1 - 1 = 1 := rfl
  rw [e] at h
  rw [h]; omega

theorem xor_ones (c : Nat) (h : c < 4294967296) : 4294967295 ^^^ c = 4294967295 - c := by
  have e : (BitVec.allOnes 32 ^^^ BitVec.ofNat 32 c).toNat = (~~~ (BitVec.ofNat 32 c)).toNat := by rw [BitVec.allOnes_xor]
  rw [BitVec.toNat_xor, BitVec.toNat_not, BitVec.toNat_allOnes, BitVec.toNat_ofNat, Nat.mod_eq_of_lt (by omega)] at e
  omega
theorem not_u32 (c : Nat) (h : c < 4294967296) : bits .xor .u32 IntKind.u32.max (c : Int) = ((4294967295 - c : Nat) : Int) := by
  have e : IntKind.u32.max = ((4294967295 : Nat) : Int) := by decide
  rw [e, xor_u32 _ _ (by omega) h, xor_ones c h]
theorem ret_int {k : IntKind} {a b : Int} (h : a = b) : Ending.returned (.int k a) = .returned (.int k b) := by rw [h]

/-- One bit is shifted out. -/
def sh (c : Nat) : Nat := if c % 2 = 1 then (c / 2) ^^^ 3988292384 else c / 2
def shN : Nat → Nat → Nat
  | 0, c => c
  | k + 1, c => sh (shN k c)
theorem xor_lt (a b : Nat) (ha : a < 4294967296) (hb : b < 4294967296) : a ^^^ b < 4294967296 :=
  Nat.xor_lt_two_pow (n := 32) (by omega) (by omega)
theorem sh_lt (c : Nat) (h : c < 4294967296) : sh c < 4294967296 := by
  unfold sh; split
  · exact xor_lt _ _ (by omega) (by omega)
  · omega
theorem shN_lt (k c : Nat) (h : c < 4294967296) : shN k c < 4294967296 := by
  induction k with
  | zero => exact h
  | succ k ih => exact sh_lt _ ih
theorem xor_div2 (a b : Nat) : (a ^^^ b) / 2 = a / 2 ^^^ b / 2 := by
  have := Nat.xor_div_two_pow (a := a) (b := b) (n := 1)
  simpa using this
theorem xor_mod2 (a b : Nat) : (a ^^^ b) % 2 = (a + b) % 2 := by
  have := Nat.xor_mod_two_pow (a := a) (b := b) (n := 1)
  rw [Nat.pow_one] at this
  rw [this, Nat.add_mod]
  rcases Nat.mod_two_eq_zero_or_one a with h | h <;> rcases Nat.mod_two_eq_zero_or_one b with h' | h' <;> rw [h, h'] <;> rfl
theorem sh_xor (a b : Nat) : sh (a ^^^ b) = sh a ^^^ sh b := by
  unfold sh
  have h := xor_mod2 a b
  rw [xor_div2]
  by_cases ha : a % 2 = 1
  · by_cases hb : b % 2 = 1
    · rw [if_neg (by omega), if_pos ha, if_pos hb]
      rw [Nat.xor_comm (b / 2), Nat.xor_assoc, ← Nat.xor_assoc 3988292384, Nat.xor_self, Nat.zero_xor]
    · rw [if_pos (by omega), if_pos ha, if_neg hb]
      rw [Nat.xor_assoc, Nat.xor_assoc, Nat.xor_comm (b / 2)]
  · by_cases hb : b % 2 = 1
    · rw [if_pos (by omega), if_neg ha, if_pos hb, Nat.xor_assoc]
    · rw [if_neg (by omega), if_neg ha, if_neg hb]
theorem shN_xor (k a b : Nat) : shN k (a ^^^ b) = shN k a ^^^ shN k b := by
  induction k with
  | zero => rfl
  | succ k ih => simp only [shN]; rw [ih, sh_xor]
theorem shN_high (k y : Nat) : shN k (2 ^ k * y) = y := by
  have e : ∀ k j y : Nat, shN k (2 ^ (k + j) * y) = 2 ^ j * y := by
    intro k
    induction k with
    | zero => intro j y; simp [shN]
    | succ k ih =>
      intro j y
      have h := ih (j + 1) y
      have ee : k + 1 + j = k + (j + 1) := by omega
      rw [ee]
      simp only [shN]
      rw [h]
      unfold sh
      have e2 : 2 ^ (j + 1) * y = 2 * (2 ^ j * y) := by rw [Nat.pow_succ, Nat.mul_comm (2 ^ j) 2, Nat.mul_assoc]
      rw [e2, if_neg (by omega)]
      omega
  have := e k 0 y
  simpa using this
theorem split256 (x : Nat) : x = (x % 256) ^^^ (2 ^ 8 * (x / 256)) := by
  have h := Nat.two_pow_add_eq_or_of_lt (i := 8) (b := x % 256) (by omega) (x / 256)
  have hx : (2 ^ 8 * (x / 256)) ^^^ (x % 256) = (2 ^ 8 * (x / 256)) ||| (x % 256) := by
    apply Nat.eq_of_testBit_eq
    intro i
    rw [Nat.testBit_xor, Nat.testBit_or]
    by_cases hi : i < 8
    · have : (2 ^ 8 * (x / 256)).testBit i = false := by
        rw [Nat.testBit_two_pow_mul]; simp; omega
      rw [this]; simp
    · have : (x % 256).testBit i = false := Nat.testBit_lt_two_pow (Nat.lt_of_lt_of_le (by omega : x % 256 < 2 ^ 8) (Nat.pow_le_pow_right (by omega) (by omega)))
      rw [this]; simp
  rw [Nat.xor_comm, hx, ← h]
  omega
theorem sh8_split (x : Nat) : shN 8 x = shN 8 (x % 256) ^^^ x / 256 := by
  conv => lhs; rw [split256 x]
  rw [shN_xor, shN_high]

/-- One round of the specification's inner loop: the register and what comes in. -/
def sp : Nat → Nat → Nat → Nat × Nat
  | 0, r, b => (r, b)
  | k + 1, r, b => (if ((sp k r b).1 + (sp k r b).2) % 2 = 1 then (sp k r b).1 / 2 ^^^ 3988292384 else (sp k r b).1 / 2, (sp k r b).2 / 2)
theorem sp_sh (k r b : Nat) : (sp k r b).1 ^^^ (sp k r b).2 = shN k (r ^^^ b) := by
  induction k with
  | zero => rfl
  | succ k ih =>
    simp only [sp, shN]
    rw [← ih]
    unfold sh
    rw [xor_mod2, xor_div2]
    split
    · rw [Nat.xor_assoc, Nat.xor_comm 3988292384, ← Nat.xor_assoc]
    · rfl
theorem sp_in (k r b : Nat) : (sp k r b).2 = b / 2 ^ k := by
  induction k with
  | zero => simp [sp]
  | succ k ih => simp only [sp]; rw [ih, Nat.pow_succ, Nat.div_div_eq_div_mul]
theorem sp_lt (k r b : Nat) (h : r < 4294967296) : (sp k r b).1 < 4294967296 := by
  induction k with
  | zero => exact h
  | succ k ih =>
    simp only [sp]; split
    · exact xor_lt _ _ (by omega) (by omega)
    · omega
theorem sp8 (r b : Nat) (hb : b < 256) : (sp 8 r b).1 = shN 8 (r ^^^ b) := by
  have h := sp_sh 8 r b
  have hi := sp_in 8 r b
  have : (sp 8 r b).2 = 0 := by rw [hi]; omega
  rw [this, Nat.xor_zero] at h
  exact h
theorem sp_in_lt (k r b : Nat) (hb : b < 256) : (sp k r b).2 < 256 := by
  rw [sp_in]; exact Nat.lt_of_le_of_lt (Nat.div_le_self _ _) hb

/-- The register behind a list of bytes. -/
def crc (l : List UInt8) : Nat := l.foldl (fun r c => shN 8 (r ^^^ c.toNat)) 4294967295
theorem crc_snoc (l : List UInt8) (c : UInt8) : crc (l ++ [c]) = shN 8 (crc l ^^^ c.toNat) := by
  simp [crc, List.foldl_append]
theorem crc_lt (l : List UInt8) : crc l < 4294967296 := by
  unfold crc
  have : ∀ (l : List UInt8) (r : Nat), r < 4294967296 → l.foldl (fun r c => shN 8 (r ^^^ c.toNat)) r < 4294967296 := by
    intro l
    induction l with
    | nil => intro r h; exact h
    | cons c l ih => intro r h; exact ih _ (shN_lt _ _ (xor_lt _ _ h (by have := c.toNat_lt; omega)))
  exact this l _ (by omega)
/-- What the table's look gives. -/
theorem look (r b : Nat) (hb : b < 256) : shN 8 ((r % 256) ^^^ b) ^^^ r / 256 = shN 8 (r ^^^ b) := by
  rw [sh8_split (r ^^^ b)]
  have h1 : (r ^^^ b) % 256 = (r % 256) ^^^ b := by
    have := Nat.xor_mod_two_pow (a := r) (b := b) (n := 8)
    have e : (2 : Nat) ^ 8 = 256 := rfl
    rw [e] at this
    rw [this, Nat.mod_eq_of_lt hb]
  have h2 : (r ^^^ b) / 256 = r / 256 := by
    have := Nat.xor_div_two_pow (a := r) (b := b) (n := 8)
    have e : (2 : Nat) ^ 8 = 256 := rfl
    rw [e] at this
    rw [this, Nat.div_eq_of_lt hb, Nat.xor_zero]
  rw [h1, h2]
theorem take_snoc (s : ByteArray) (k : Nat) (h : k < s.size) : s.data.toList.take (k + 1) = s.data.toList.take k ++ [s[k]] := by
  rw [List.take_succ_eq_append_getElem (by simpa using h)]; rfl
theorem crc_take (s : ByteArray) (k : Nat) (h : k < s.size) : crc (s.data.toList.take (k + 1)) = shN 8 (crc (s.data.toList.take k) ^^^ s[k].toNat) := by
  rw [take_snoc s k h, crc_snoc]
end Go.Proofs.Ytlilmbeehmjpkaa
