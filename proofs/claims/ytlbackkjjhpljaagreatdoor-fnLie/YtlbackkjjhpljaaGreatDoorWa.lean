/-
  The small functions on words: turns, the four sums, four bytes as a word.
-/
import Derived.Test.YtlbackkjjhpljaaGreatDoorProg
import Derived.KernelRfl
import Derived.Test.YtlbackkjjhpljaaGreatDoorShelf
import Derived.WalkKit
import Derived.ProofKit
import Derived.Deep.QuietTactic
import Derived.BigQuiet
namespace Go.Proofs.YtlbackkjjhpljaaGreatDoor
open Go.RowKit
set_option maxRecDepth 20000 in
set_option maxHeartbeats 400000 in
theorem turn_any (x : Nat) (i : Int) (w : World) (hx : x < 4294967296) (hn : 1 ≤ i) (hn' : i ≤ 31) :
    Calls Tryz.prog 109 #[.int .u32 x, .int .i64 i] w fun e w' => e = .returned (.int .u32 (rot x i.toNat : Nat)) ∧ ∃ q, w' = w.drewN q := by
  obtain ⟨n, rfl⟩ := Int.eq_ofNat_of_zero_le (by omega : 0 ≤ i)
  replace hn : 1 ≤ n := by omega
  replace hn' : n ≤ 31 := by omega
  go_enter Tryz.func109, Tryz.ntmps109
  go_wp2
  go_quiet (fail)
  go_wp2
  go_ret
  exact ⟨ret_int (w_rot x n hx), _, rfl⟩
set_option maxRecDepth 20000 in
set_option maxHeartbeats 400000 in
theorem rot39 (x n : Nat) (w : World) (hx : x < 4294967296) (hn : 1 ≤ n) (hn' : n ≤ 31) :
    Calls Tryz.prog 156 #[.int .u32 x, .int .i64 (-(n : Int))] w fun e w' => e = .returned (.int .u32 (rot x n : Nat)) ∧ w' = w := by
  obtain ⟨m, hm⟩ : ∃ m, m + n = 32 := ⟨32 - n, by omega⟩
  have h1 := w_neg n m hn hn' hm
  have h2 := w_rot' x n m hx hm
  go_enter Tryz.func156, Tryz.ntmps156
  go_wp2
  go_ret
  exact ⟨ret_int (by simp), rfl⟩
set_option maxRecDepth 20000 in
set_option maxHeartbeats 400000 in
theorem turnR_any (x : Nat) (i : Int) (w : World) (hx : x < 4294967296) (hn : 1 ≤ i) (hn' : i ≤ 31) :
    Calls Tryz.prog 150 #[.int .u32 x, .int .i64 i] w fun e w' => e = .returned (.int .u32 (rot x i.toNat : Nat)) ∧ w' = w := by
  obtain ⟨n, rfl⟩ := Int.eq_ofNat_of_zero_le (by omega : 0 ≤ i)
  replace hn : 1 ≤ n := by omega
  replace hn' : n ≤ 31 := by omega
  go_enter Tryz.func150, Tryz.ntmps150
  go_wp2_with (go_at_call 156; refine (rot39 x n _ hx hn hn').mono ?_; rintro e w1 ⟨rfl, rfl⟩)
  go_ret
  exact ⟨rfl, rfl⟩
set_option maxRecDepth 20000 in
set_option maxHeartbeats 400000 in
theorem S1_any (x : Nat) (w : World) (hx : x < 4294967296) :
    Calls Tryz.prog 134 #[.int .u32 x] w fun e w' => e = .returned (.int .u32 (S1 x : Nat)) ∧ w' = w := by
  have h1 := w_xor (rot x 6) (rot x 11) (rot_lt _ _ hx) (rot_lt _ _ hx)
  have h2 := w_xor (xo (rot x 6) (rot x 11)) (rot x 25) (xo_lt _ _ (rot_lt _ _ hx) (rot_lt _ _ hx)) (rot_lt _ _ hx)
  go_enter Tryz.func134, Tryz.ntmps134
  go_wp2_with (go_at_call 150; refine (turnR_any x _ _ hx (by decide) (by decide)).mono ?_; rintro e w1 ⟨rfl, rfl⟩)
  go_ret
  exact ⟨rfl, rfl⟩
set_option maxRecDepth 20000 in
set_option maxHeartbeats 400000 in
theorem S0_any (x : Nat) (w : World) (hx : x < 4294967296) :
    Calls Tryz.prog 135 #[.int .u32 x] w fun e w' => e = .returned (.int .u32 (S0 x : Nat)) ∧ w' = w := by
  have h1 := w_xor (rot x 2) (rot x 13) (rot_lt _ _ hx) (rot_lt _ _ hx)
  have h2 := w_xor (xo (rot x 2) (rot x 13)) (rot x 22) (xo_lt _ _ (rot_lt _ _ hx) (rot_lt _ _ hx)) (rot_lt _ _ hx)
  go_enter Tryz.func135, Tryz.ntmps135
  go_wp2_with (go_at_call 150; refine (turnR_any x _ _ hx (by decide) (by decide)).mono ?_; rintro e w1 ⟨rfl, rfl⟩)
  go_ret
  exact ⟨rfl, rfl⟩
set_option maxRecDepth 20000 in
set_option maxHeartbeats 400000 in
theorem s0_any (x : Nat) (w : World) (hx : x < 4294967296) :
    Calls Tryz.prog 137 #[.int .u32 x] w fun e w' => e = .returned (.int .u32 (s0 x : Nat)) ∧ w' = w := by
  have h1 := w_xor (rot x 7) (rot x 18) (rot_lt _ _ hx) (rot_lt _ _ hx)
  have h2 : bits .xor .u32 ((xo (rot x 7) (rot x 18) : Nat) : Int) ((x : Int) / 8) = ((s0 x : Nat) : Int) := by
    rw [show (x : Int) / 8 = ((x / 8 : Nat) : Int) by omega]
    exact w_xor _ _ (xo_lt _ _ (rot_lt _ _ hx) (rot_lt _ _ hx)) (div_lt32 _ _ hx)
  go_enter Tryz.func137, Tryz.ntmps137
  go_wp2_with (go_at_call 150; refine (turnR_any x _ _ hx (by decide) (by decide)).mono ?_; rintro e w1 ⟨rfl, rfl⟩)
  go_ret
  exact ⟨rfl, rfl⟩
set_option maxRecDepth 20000 in
set_option maxHeartbeats 400000 in
theorem s1_any (x : Nat) (w : World) (hx : x < 4294967296) :
    Calls Tryz.prog 138 #[.int .u32 x] w fun e w' => e = .returned (.int .u32 (s1 x : Nat)) ∧ w' = w := by
  have h1 := w_xor (rot x 17) (rot x 19) (rot_lt _ _ hx) (rot_lt _ _ hx)
  have h2 : bits .xor .u32 ((xo (rot x 17) (rot x 19) : Nat) : Int) ((x : Int) / 1024) = ((s1 x : Nat) : Int) := by
    rw [show (x : Int) / 1024 = ((x / 1024 : Nat) : Int) by omega]
    exact w_xor _ _ (xo_lt _ _ (rot_lt _ _ hx) (rot_lt _ _ hx)) (div_lt32 _ _ hx)
  go_enter Tryz.func138, Tryz.ntmps138
  go_wp2_with (go_at_call 150; refine (turnR_any x _ _ hx (by decide) (by decide)).mono ?_; rintro e w1 ⟨rfl, rfl⟩)
  go_ret
  exact ⟨rfl, rfl⟩
set_option maxRecDepth 20000 in
set_option maxHeartbeats 400000 in
theorem get_any (s : ByteArray) (p : Nat) (w : World) (hp : p + 4 ≤ s.size) (hs : s.size ≤ 1048576) :
    Calls Tryz.prog 133 #[.string s, .int .i64 p, .int .i64 4] w fun e w' => e = .returned (.int .i64 (be s p 4 : Nat)) ∧ w' = w := by
  go_enter Tryz.func133, Tryz.ntmps133
  go_wp2
  go_loop [7, 8] (fun v i => ∃ k : Nat, k ≤ 4 ∧ i = .int .i64 k ∧ v = .int .i64 (be s p k : Nat)) (fun _ i => 4 - (intOf i).toNat)
  case atStart => exact ⟨0, by omega, rfl, rfl⟩
  case round =>
    obtain ⟨k, hk, rfl, rfl⟩ := hrel
    by_cases hlt : k < 4
    · have h1 := be_lt s p k
      have h2 : 256 ^ k ≤ 256 ^ 3 := Nat.pow_le_pow_right (by omega) (by omega)
      have h3 : be s p k < 16777216 := by omega
      clear h1 h2
      have HB : Hid (be s p (k + 1) = be s p k * 256 + byteAt s (p + k)) := rfl
      have hb := byteAt_get s (p + k) (by omega)
      have hbl := byteAt_lt s (p + k)
      go_wp2
      go_round
      case rel => exact ⟨k + 1, by omega, by go_num, by rw [HB.out]; go_num⟩
      case measure => simp [intOf]; omega
    · obtain rfl : k = 4 := by omega
      go_wp2
      go_ret
      exact ⟨rfl, rfl⟩
theorem or_sum (i : Nat) (x y : Int) (hx₀ : 0 ≤ x) (hx : x % 2 ^ i = 0) (hx₁ : x < 2 ^ 32) (hy₀ : 0 ≤ y) (hy : y < 2 ^ i) (hy₁ : y < 2 ^ 32) : bits .or .u32 x y = x + y :=
  bits_join .u32 32 (by decide) (fun n h0 h1 => by rw [IntKind.wrap_u32]; omega) i x y hx₀ hx hx₁ hy₀ hy hy₁
set_option maxRecDepth 20000 in
set_option maxHeartbeats 400000 in
theorem word_any (s : ByteArray) (p : Nat) (w : World) (hp : p + 4 ≤ s.size) (hs : s.size ≤ 1048576) :
    Calls Tryz.prog 136 #[.string s, .int .i64 p] w fun e w' => e = .returned (.int .u32 (be s p 4 : Nat)) ∧ ∃ q, w' = w.drewN q := by
  have b0 := byteAt_get s p (by omega)
  have b1 := byteAt_get s (p + 1) (by omega)
  have b2 := byteAt_get s (p + 2) (by omega)
  have b3 := byteAt_get s (p + 3) (by omega)
  have HB : Hid (be s p 4 = ((byteAt s p * 256 + byteAt s (p + 1)) * 256 + byteAt s (p + 2)) * 256 + byteAt s (p + 3)) := by
    show be s p 4 = _; simp [be]
  have l0 := byteAt_lt s p
  have l1 := byteAt_lt s (p + 1)
  have l2 := byteAt_lt s (p + 2)
  have l3 := byteAt_lt s (p + 3)
  obtain ⟨B0, e0⟩ : ∃ n, byteAt s p = n := ⟨_, rfl⟩
  obtain ⟨B1, e1⟩ : ∃ n, byteAt s (p + 1) = n := ⟨_, rfl⟩
  obtain ⟨B2, e2⟩ : ∃ n, byteAt s (p + 2) = n := ⟨_, rfl⟩
  obtain ⟨B3, e3⟩ : ∃ n, byteAt s (p + 3) = n := ⟨_, rfl⟩
  rw [e0] at b0 l0; rw [e1] at b1 l1; rw [e2] at b2 l2; rw [e3] at b3 l3
  rw [e0, e1, e2, e3] at HB
  clear e0 e1 e2 e3
  have i0 : (p : Int) < (s.size : Int) := by omega
  have i1 : (p : Int) + 1 < (s.size : Int) := by omega
  have i2 : (p : Int) + 2 < (s.size : Int) := by omega
  have i3 : (p : Int) + 3 < (s.size : Int) := by omega
  have n1 : (0 : Int) ≤ (p : Int) + 1 := by omega
  have n2 : (0 : Int) ≤ (p : Int) + 2 := by omega
  have n3 : (0 : Int) ≤ (p : Int) + 3 := by omega
  have q1 : ((p : Int) + 1).toNat = p + 1 := by omega
  have q2 : ((p : Int) + 2).toNat = p + 2 := by omega
  have q3 : ((p : Int) + 3).toNat = p + 3 := by omega
  have v1 : IntKind.i64.wrap ((p : Int) + 1) = (p : Int) + 1 := by rw [IntKind.wrap_i64]; omega
  have v2 : IntKind.i64.wrap ((p : Int) + 2) = (p : Int) + 2 := by rw [IntKind.wrap_i64]; omega
  have v3 : IntKind.i64.wrap ((p : Int) + 3) = (p : Int) + 3 := by rw [IntKind.wrap_i64]; omega
  have u0 : IntKind.u32.wrap (B0 : Int) = (B0 : Int) := by rw [IntKind.wrap_u32]; omega
  have u1 : IntKind.u32.wrap (B1 : Int) = (B1 : Int) := by rw [IntKind.wrap_u32]; omega
  have u2 : IntKind.u32.wrap (B2 : Int) = (B2 : Int) := by rw [IntKind.wrap_u32]; omega
  have u3 : IntKind.u32.wrap (B3 : Int) = (B3 : Int) := by rw [IntKind.wrap_u32]; omega
  have m0 : IntKind.u32.wrap ((B0 : Int) * 16777216) = (B0 : Int) * 16777216 := by rw [IntKind.wrap_u32]; omega
  have m1 : IntKind.u32.wrap ((B1 : Int) * 65536) = (B1 : Int) * 65536 := by rw [IntKind.wrap_u32]; omega
  have m2 : IntKind.u32.wrap ((B2 : Int) * 256) = (B2 : Int) * 256 := by rw [IntKind.wrap_u32]; omega
  have o1 : bits .or .u32 ((B0 : Int) * 16777216) ((B1 : Int) * 65536) = (B0 : Int) * 16777216 + (B1 : Int) * 65536 := or_sum 24 _ _ (by omega) (by omega) (by omega) (by omega) (by omega) (by omega)
  have o2 : bits .or .u32 ((B0 : Int) * 16777216 + (B1 : Int) * 65536) ((B2 : Int) * 256) = (B0 : Int) * 16777216 + (B1 : Int) * 65536 + (B2 : Int) * 256 := or_sum 16 _ _ (by omega) (by omega) (by omega) (by omega) (by omega) (by omega)
  have o3 : bits .or .u32 ((B0 : Int) * 16777216 + (B1 : Int) * 65536 + (B2 : Int) * 256) (B3 : Int) = (B0 : Int) * 16777216 + (B1 : Int) * 65536 + (B2 : Int) * 256 + (B3 : Int) := or_sum 8 _ _ (by omega) (by omega) (by omega) (by omega) (by omega) (by omega)
  go_enter Tryz.func136, Tryz.ntmps136
  go_wp2
  go_quiet (fail)
  go_wp2
  go_ret
  refine ⟨ret_int ?_, _, rfl⟩
  rw [HB.out]
  omega
end Go.Proofs.YtlbackkjjhpljaaGreatDoor
