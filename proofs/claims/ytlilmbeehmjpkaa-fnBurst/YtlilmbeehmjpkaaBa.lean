/-
  A burst of up to 32 bits changes the sum.
-/
import Derived.Test.YtlilmbeehmjpkaaMath
namespace Go.Proofs.Ytlilmbeehmjpkaa
/-- Bytes as one number, the first lowest. -/
def num : List UInt8 → Nat
  | [] => 0
  | c :: t => c.toNat ^^^ (2 ^ 8 * num t)
theorem shN_add (b : Nat) : ∀ a x : Nat, shN (b + a) x = shN a (shN b x)
  | 0, _ => rfl
  | a + 1, x => by
    show sh (shN (b + a) x) = sh (shN a (shN b x))
    rw [shN_add b a x]
theorem crc_num : ∀ (l : List UInt8) (r : Nat), l.foldl (fun r c => shN 8 (r ^^^ c.toNat)) r = shN (8 * l.length) (r ^^^ num l)
  | [], r => by simp [num, shN]
  | c :: t, r => by
    rw [List.foldl_cons, crc_num t]
    rw [show 8 * (c :: t).length = 8 + 8 * t.length from by simp; omega, shN_add 8]
    rw [num, ← Nat.xor_assoc, shN_xor 8 (r ^^^ c.toNat), shN_high]
theorem sh_zero {c : Nat} (h : c < 4294967296) (hz : sh c = 0) : c = 0 := by
  unfold sh at hz
  split at hz
  · have e : c / 2 = 3988292384 := by
      have := congrArg (fun z => z ^^^ 3988292384) hz
      simpa [Nat.xor_assoc] using this
    omega
  · omega
theorem shN_zero {c : Nat} (h : c < 4294967296) : ∀ {k : Nat}, shN k c = 0 → c = 0
  | 0, hz => hz
  | k + 1, hz => shN_zero h (sh_zero (shN_lt k c h) hz)
/-- Bytes of one length whose numbers differ by a burst have different registers. -/
theorem crc_burst {l l' : List UInt8} {f X : Nat} (hl : l'.length = l.length) (hn : num l' = num l ^^^ (2 ^ f * X)) (hf : f ≤ 8 * l.length) (h0 : X ≠ 0) (hX : X < 4294967296) : crc l' ≠ crc l := by
  intro h
  unfold crc at h
  rw [crc_num, crc_num, hl, hn, ← Nat.xor_assoc, shN_xor _ (4294967295 ^^^ num l)] at h
  have h2 : shN (8 * l.length) (2 ^ f * X) = 0 := by
    have := congrArg (fun z => shN (8 * l.length) (4294967295 ^^^ num l) ^^^ z) h
    simpa [← Nat.xor_assoc] using this
  rw [show 8 * l.length = f + (8 * l.length - f) from by omega, shN_add, shN_high] at h2
  exact h0 (shN_zero hX h2)
theorem xor_mul (k a b : Nat) : 2 ^ k * (a ^^^ b) = 2 ^ k * a ^^^ 2 ^ k * b := by
  have := Nat.shiftLeft_xor_distrib (a := a) (b := b) (i := k)
  simp only [Nat.shiftLeft_eq] at this
  simpa [Nat.mul_comm] using this
/-- One byte is changed. -/
theorem num_set : ∀ (l : List UInt8) (i : Nat) (b : UInt8), i < l.length → num (l.set i (l.getD i 0 ^^^ b)) = num l ^^^ (2 ^ (8 * i) * b.toNat)
  | [], i, b, h => by simp at h
  | c :: t, 0, b, _ => by
    simp only [List.set_cons_zero, num, List.getD_cons_zero]
    rw [UInt8.toNat_xor]
    simp only [Nat.mul_zero, Nat.pow_zero, Nat.one_mul]
    rw [Nat.xor_assoc, Nat.xor_comm b.toNat, ← Nat.xor_assoc]
  | c :: t, i + 1, b, h => by
    simp only [List.set_cons_succ, num, List.getD_cons_succ]
    rw [num_set t i b (by simpa using h), xor_mul, ← Nat.mul_assoc, ← Nat.pow_add, Nat.xor_assoc]
    rw [show 8 * (i + 1) = 8 + 8 * i from by omega]
/-- A burst so far: k bits looked at, X of them changed. -/
theorem burst_step {l l' : List UInt8} {f k X : Nat} (hl : l'.length = l.length) (hn : num l' = num l ^^^ (2 ^ f * X)) (hX : X < 2 ^ k) (hk : f + k < 8 * l.length) :
    num (l'.set ((f + k) / 8) (l'.getD ((f + k) / 8) 0 ^^^ UInt8.ofNat (2 ^ ((f + k) % 8)))) = num l ^^^ (2 ^ f * (X + 2 ^ k)) := by
  have hb : (UInt8.ofNat (2 ^ ((f + k) % 8))).toNat = 2 ^ ((f + k) % 8) := by
    have : 2 ^ ((f + k) % 8) < 2 ^ 8 := Nat.pow_lt_pow_right (by omega) (by omega)
    simp only [UInt8.toNat_ofNat']
    exact Nat.mod_eq_of_lt this
  rw [num_set _ _ _ (by omega), hn, hb, ← Nat.pow_add, show 8 * ((f + k) / 8) + (f + k) % 8 = f + k from by omega, Nat.xor_assoc]
  congr 1
  rw [Nat.pow_add, ← xor_mul]
  congr 1
  have h2 := Nat.two_pow_add_eq_or_of_lt (i := k) (b := X) hX 1
  rw [Nat.mul_one] at h2
  rw [Nat.add_comm, h2]
  apply Nat.eq_of_testBit_eq
  intro i
  rw [Nat.testBit_xor, Nat.testBit_or, Nat.testBit_two_pow]
  by_cases e : k = i
  · subst e
    rw [Nat.testBit_lt_two_pow hX]
    simp
  · simp [e]
end Go.Proofs.Ytlilmbeehmjpkaa
