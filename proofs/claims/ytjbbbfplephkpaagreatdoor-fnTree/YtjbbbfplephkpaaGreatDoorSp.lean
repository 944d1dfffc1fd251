/-
  The split of a list: the program's way.
-/
import Derived.Test.YtjbbbfplephkpaaGreatDoorSq
import Derived.Lib.BitFns
import Derived.Lib.Walk
namespace Go.Proofs.YtjbbbfplephkpaaGreatDoor
open Go.RowKit
set_option maxRecDepth 100000 in
theorem tab_is : (⟨(([0, 1, 2, 2, 3, 3, 3, 3, 4, 4, 4, 4, 4, 4, 4, 4, 5, 5, 5, 5, 5, 5, 5, 5, 5, 5, 5, 5, 5, 5, 5, 5, 6, 6, 6, 6, 6, 6, 6, 6, 6, 6, 6, 6, 6, 6, 6, 6, 6, 6, 6, 6, 6, 6, 6, 6, 6, 6, 6, 6, 6, 6, 6, 6].append [7, 7, 7, 7, 7, 7, 7, 7, 7, 7, 7, 7, 7, 7, 7, 7, 7, 7, 7, 7, 7, 7, 7, 7, 7, 7, 7, 7, 7, 7, 7, 7, 7, 7, 7, 7, 7, 7, 7, 7, 7, 7, 7, 7, 7, 7, 7, 7, 7, 7, 7, 7, 7, 7, 7, 7, 7, 7, 7, 7, 7, 7, 7, 7]).append ([8, 8, 8, 8, 8, 8, 8, 8, 8, 8, 8, 8, 8, 8, 8, 8, 8, 8, 8, 8, 8, 8, 8, 8, 8, 8, 8, 8, 8, 8, 8, 8, 8, 8, 8, 8, 8, 8, 8, 8, 8, 8, 8, 8, 8, 8, 8, 8, 8, 8, 8, 8, 8, 8, 8, 8, 8, 8, 8, 8, 8, 8, 8, 8].append [8, 8, 8, 8, 8, 8, 8, 8, 8, 8, 8, 8, 8, 8, 8, 8, 8, 8, 8, 8, 8, 8, 8, 8, 8, 8, 8, 8, 8, 8, 8, 8, 8, 8, 8, 8, 8, 8, 8, 8, 8, 8, 8, 8, 8, 8, 8, 8, 8, 8, 8, 8, 8, 8, 8, 8, 8, 8, 8, 8, 8, 8, 8, 8])).toArray⟩ : ByteArray) = Lib.len8tab := by kernel_rfl
theorem tab_at (y : Int) (h : y.toNat < Lib.len8tab.size) (h0 : 0 ≤ y) (h1 : y ≤ 255) : ((Lib.len8tab[y.toNat]'h).toNat : Int) = (Lib.bitLen y.toNat : Nat) := by
  rw [← Lib.len8_of y h0 h1]
  unfold Lib.len8
  rw [getElem?_pos Lib.len8tab y.toNat h]
  rfl
theorem tab_end (k : Nat) (y : Int) (a : Int) (b : Nat) (hk : k ≤ 24) (ha : a = (Lib.bitLen y.toNat : Nat)) (h : 0 ≤ y ∧ y ≤ 255) (hb : b = k + Lib.bitLen y.toNat) : wrap64 ((k : Int) + wrap64 a) = (b : Int) := by
  have l := Lib.bitLen_le8' y h.1 h.2
  subst ha hb
  unfold wrap64
  omega
theorem tab_end0 (y : Int) (a : Int) (ha : a = (Lib.bitLen y.toNat : Nat)) (h : 0 ≤ y ∧ y ≤ 255) : wrap64 (wrap64 a) = (Lib.bitLen y.toNat : Nat) := by
  have l := Lib.bitLen_le8' y h.1 h.2
  subst ha
  unfold wrap64
  omega
theorem tab_up (k p : Nat) (x y : Int) (hp : p = 2 ^ k) (h0 : 0 ≤ x) (h1 : x < 4294967296) (h2 : (p : Int) ≤ x) (hy : y = x / p) : Lib.bitLen x.toNat = k + Lib.bitLen y.toNat := by
  have e : y.toNat = x.toNat / p := by
    subst hy
    obtain ⟨z, rfl⟩ := Int.eq_ofNat_of_zero_le h0
    rfl
  rw [e, hp]
  exact Lib.bitLen_shift k x.toNat (by omega) (by omega)
set_option maxRecDepth 100000 in
set_option maxHeartbeats 4000000 in
theorem len64_int (x : Int) (w : World) (h0 : 0 ≤ x) (h1 : x < 4294967296) :
    Calls Tryz.prog 119 #[.int .u64 x] w fun e w' => e = .returned (.int .i64 (Lib.bitLen x.toNat : Nat)) ∧ w' = w := by
  go_enter Tryz.func119, Tryz.ntmps119
  rw [tab_is]
  go_wp2
  all_goals first
    | (go_ret; refine ⟨congrArg Ending.returned (congrArg (Value.int IntKind.i64) ?_), rfl⟩)
    | (exfalso; have hs := Lib.len8tab_size; omega)
  all_goals first
    | exact tab_end 24 _ _ _ (by decide) (tab_at _ _ (by omega) (by omega)) (by omega) (tab_up 24 16777216 x _ rfl h0 h1 (by omega) (by omega))
    | exact tab_end 16 _ _ _ (by decide) (tab_at _ _ (by omega) (by omega)) (by omega) (tab_up 16 65536 x _ rfl h0 h1 (by omega) (by omega))
    | exact tab_end 8 _ _ _ (by decide) (tab_at _ _ (by omega) (by omega)) (by omega) (tab_up 8 256 x _ rfl h0 h1 (by omega) (by omega))
    | exact tab_end0 _ _ (tab_at _ _ (by omega) (by omega)) (by omega)
set_option maxRecDepth 20000 in
theorem len64_any (z : Nat) (w : World) (h : z < 4294967296) :
    Calls Tryz.prog 119 #[.int .u64 z] w fun e w' => e = .returned (.int .i64 (Lib.bitLen z : Nat)) ∧ w' = w := len64_int z w (by omega) (by omega)
set_option maxRecDepth 20000 in
theorem len_any (z : Nat) (w : World) (h : z < 4294967296) :
    Calls Tryz.prog 80 #[.int .u64 z] w fun e w' => e = .returned (.int .i64 (Lib.bitLen z : Nat)) ∧ w' = w := by
  go_enter Tryz.func80, Tryz.ntmps80
  go_wp2_with (go_at_call 119; refine (len64_any z _ h).mono ?_; rintro e w' ⟨rfl, rfl⟩)
  go_ret
  exact ⟨rfl, rfl⟩
set_option maxRecDepth 20000 in
theorem len_as (z : Nat) (x : Int) (b : Nat) (w : World) (hx : x = z) (h : z < 4294967296) (hb : Lib.bitLen z = b) :
    Calls Tryz.prog 80 #[.int .u64 x] w fun e w' => e = .returned (.int .i64 (b : Int)) ∧ w' = w := by
  subst hx hb
  exact len_any z w h
theorem sp_pow (f : Nat) : ∀ (n k b : Nat), k * 2 ^ b < n → n ≤ k * 2 ^ (b + 1) → b < f → sp f n k = k * 2 ^ b := by
  induction f with
  | zero => intro n k b _ _ h; omega
  | succ f ih =>
    intro n k b h1 h2 h3
    rw [sp]
    cases b with
    | zero => rw [if_neg (by simp at h2; omega)]; simp
    | succ b =>
      have hp : 2 ^ (b + 1) = 2 * 2 ^ b := by rw [Nat.pow_succ, Nat.mul_comm]
      have hq : 2 ^ (b + 1 + 1) = 2 * 2 ^ (b + 1) := by rw [Nat.pow_succ, Nat.mul_comm]
      have e1 : 2 * k * 2 ^ b = k * 2 ^ (b + 1) := by rw [hp, Nat.mul_comm 2 k, Nat.mul_assoc]
      have e2 : 2 * k * 2 ^ (b + 1) = k * 2 ^ (b + 1 + 1) := by rw [hq, Nat.mul_comm 2 k, Nat.mul_assoc]
      have hz : 0 < 2 ^ b := Nat.two_pow_pos b
      have h5 : 2 * k ≤ 2 * k * 2 ^ b := Nat.le_mul_of_pos_right _ hz
      rw [if_pos (by omega), ih n (2 * k) b (by omega) (by omega) (by omega), e1]
theorem bitLen_zero : Lib.bitLen 0 = 0 := by decide
theorem bitLen_in : ∀ (k z : Nat), k ≤ 64 → 0 < z → z < 2 ^ k → ∃ b, b < k ∧ Lib.bitLen z = b + 1 ∧ 2 ^ b ≤ z ∧ z < 2 ^ (b + 1) := by
  intro k
  induction k with
  | zero => intro z _ h0 h1; simp at h1; omega
  | succ k ih =>
    intro z hk h0 h1
    have h64 : z < 2 ^ 64 := Nat.lt_of_lt_of_le h1 (Nat.pow_le_pow_right (by decide) hk)
    have e := Lib.bitLen_half z (by omega) h64
    rcases Nat.lt_or_ge z 2 with h | h
    · obtain rfl : z = 1 := by omega
      exact ⟨0, by omega, by decide, by decide, by decide⟩
    · obtain ⟨b, h2, h3, h4, h5⟩ := ih (z / 2) (by omega) (by omega) (by rw [Nat.pow_succ] at h1; omega)
      refine ⟨b + 1, by omega, by omega, ?_, ?_⟩
      · rw [Nat.pow_succ]; omega
      · rw [Nat.pow_succ]; omega
/-- The split is the power of 2 one bit shorter than n - 1. -/
theorem spl_len (n : Nat) (h : 2 ≤ n) (h2 : n ≤ 4294967296) : ∃ b, b < 32 ∧ Lib.bitLen (n - 1) = b + 1 ∧ spl n = 2 ^ b := by
  obtain ⟨b, h3, h4, h5, h6⟩ := bitLen_in 32 (n - 1) (by omega) (by omega) (by omega)
  refine ⟨b, h3, h4, ?_⟩
  have := sp_pow 40 n 1 b (by omega) (by omega) (by omega)
  rw [Nat.one_mul] at this
  exact this
theorem shl_one (b : Nat) (h : b < 32) : wrap64 (2 ^ b) = ((2 ^ b : Nat) : Int) := by
  have h1 : 2 ^ b ≤ 2 ^ 32 := Nat.pow_le_pow_right (by decide) (by omega)
  have e : (2 : Int) ^ b = ((2 ^ b : Nat) : Int) := by simp
  rw [e]
  obtain ⟨c, hc⟩ : ∃ c, 2 ^ b = c := ⟨_, rfl⟩
  rw [hc] at h1 ⊢
  unfold wrap64
  omega
set_option maxRecDepth 20000 in
set_option maxHeartbeats 1000000 in
theorem splitOf_any (n : Nat) (w : World) (h : 2 ≤ n) (h2 : n ≤ 4294967296) :
    Calls Tryz.prog 59 #[.int .i64 n] w fun e w' => e = .returned (.int .i64 (spl n : Nat)) ∧ w' = w := by
  obtain ⟨b, hb, hl, hs⟩ := spl_len n h h2
  have HS : Hid (spl n = 2 ^ b) := hs
  have HL : Hid (Lib.bitLen (n - 1) = b + 1) := hl
  clear hs hl
  have hx : ((n : Int) - 1) = ((n - 1 : Nat) : Int) := by omega
  go_enter Tryz.func59, Tryz.ntmps59
  go_wp2_with (go_at_call 80; refine (len_as (n - 1) _ (b + 1) _ (by omega) (by omega) HL.out).mono ?_; rintro e w' ⟨rfl, rfl⟩)
  go_ret
  exact ⟨ret_int (by rw [HS.out]; exact shl_one b hb), rfl⟩
end Go.Proofs.YtjbbbfplephkpaaGreatDoor
