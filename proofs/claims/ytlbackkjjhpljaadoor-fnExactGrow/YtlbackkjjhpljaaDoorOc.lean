/-
  How many bits of a number are 1: the library's reckoning, and one bit after another.
-/
import Derived.Test.YtlbackkjjhpljaaDoorSl
import Derived.Laws.BitsAllLaws
namespace Go.Proofs.YtlbackkjjhpljaaDoor
open Go.RowKit
def pc : Nat → Nat → Nat
  | 0, _ => 0
  | f + 1, n => n % 2 + pc f (n / 2)
theorem pc_more (f n : Nat) (h : n < 2 ^ f) : pc (f + 1) n = pc f n := by
  induction f generalizing n with
  | zero => have : n = 0 := by simpa using h
            subst this; rfl
  | succ f ih =>
    have h' : n / 2 < 2 ^ f := by rw [Nat.pow_succ] at h; omega
    have := ih (n / 2) h'
    show n % 2 + pc (f + 1) (n / 2) = n % 2 + pc f (n / 2)
    rw [this]
/-- The bits of n that are 1, for n below 2048. -/
def on (n : Nat) : Nat := pc 12 n
theorem on_step (n : Nat) (h : n < 2048) : on n = n % 2 + on (n / 2) := by
  unfold on
  rw [pc_more 11 (n / 2) (by omega)]
  rfl
theorem on_zero : on 0 = 0 := by decide
theorem on_le (n : Nat) : on n ≤ 12 := by
  unfold on
  simp only [pc]
  omega
def oc (z : Nat) : Nat :=
  let a := (z / 2 &&& 6148914691236517205) + (z &&& 6148914691236517205)
  let b := (a / 4 &&& 3689348814741910323) + (a &&& 3689348814741910323)
  let c := (b / 16 + b) &&& 1085102592571150095
  let d := c + c / 256
  let e := d + d / 65536
  let f := e + e / 4294967296
  f &&& 127
theorem oc_on : ∀ z, z < 2048 → oc z = on z := by decide +kernel
theorem oc_fits : ∀ z, z < 2048 → (z / 2 &&& 6148914691236517205) + (z &&& 6148914691236517205) < 4294967296 := fun z h => by
  have h1 : z / 2 &&& 6148914691236517205 ≤ z / 2 := Nat.and_le_left
  have h2 : z &&& 6148914691236517205 ≤ z := Nat.and_le_left
  omega
theorem and64 (a m n : Nat) (x y : Int) (ha : a < 18446744073709551616) (hm : m < 18446744073709551616) (hx : x = a) (hy : y = m) (h : a &&& m = n) : bits .and .u64 x y = (n : Int) := by
  subst hx hy h
  exact u64_and_nat a m ha hm
set_option maxRecDepth 20000 in
set_option maxHeartbeats 1000000 in
theorem oc64_any (z : Nat) (w : World) (hz : z < 2048) :
    Calls Tryd.prog 72 #[.int .u64 z] w fun e w' => e = .returned (.int .i64 (on z : Nat)) ∧ w' = w := by
  have Hoc : Hid (oc z = on z) := oc_on z hz
  have l1 : z / 2 &&& 6148914691236517205 ≤ z / 2 := Nat.and_le_left
  have l2 : z &&& 6148914691236517205 ≤ z := Nat.and_le_left
  obtain ⟨n1, e1⟩ : ∃ n, z / 2 &&& 6148914691236517205 = n := ⟨_, rfl⟩
  obtain ⟨n2, e2⟩ : ∃ n, z &&& 6148914691236517205 = n := ⟨_, rfl⟩
  rw [e1] at l1
  rw [e2] at l2
  obtain ⟨m1, f1⟩ : ∃ m, n1 + n2 = m := ⟨_, rfl⟩
  have l3 : m1 / 4 &&& 3689348814741910323 ≤ m1 / 4 := Nat.and_le_left
  have l4 : m1 &&& 3689348814741910323 ≤ m1 := Nat.and_le_left
  obtain ⟨n3, e3⟩ : ∃ n, m1 / 4 &&& 3689348814741910323 = n := ⟨_, rfl⟩
  obtain ⟨n4, e4⟩ : ∃ n, m1 &&& 3689348814741910323 = n := ⟨_, rfl⟩
  rw [e3] at l3
  rw [e4] at l4
  obtain ⟨m2, f2⟩ : ∃ m, n3 + n4 = m := ⟨_, rfl⟩
  have l5 : (m2 / 16 + m2) &&& 1085102592571150095 ≤ m2 / 16 + m2 := Nat.and_le_left
  obtain ⟨m3, e5⟩ : ∃ n, (m2 / 16 + m2) &&& 1085102592571150095 = n := ⟨_, rfl⟩
  rw [e5] at l5
  obtain ⟨m4, f4⟩ : ∃ m, m3 + m3 / 256 = m := ⟨_, rfl⟩
  obtain ⟨m5, f5⟩ : ∃ m, m4 + m4 / 65536 = m := ⟨_, rfl⟩
  obtain ⟨m6, f6⟩ : ∃ m, m5 + m5 / 4294967296 = m := ⟨_, rfl⟩
  have F : Hid (m6 &&& 127 = on z) := by
    show m6 &&& 127 = on z
    rw [← Hoc.out]
    unfold oc
    simp only [e1, e2, f1, e3, e4, f2, e5, f4, f5, f6]
  have a1 := and64 (z / 2) 6148914691236517205 n1 ((z : Int) / 2) 6148914691236517205 (by omega) (by decide) (by omega) rfl e1
  have a2 := and64 z 6148914691236517205 n2 (z : Int) 6148914691236517205 (by omega) (by decide) rfl rfl e2
  have a3 := and64 (m1 / 4) 3689348814741910323 n3 ((m1 : Int) / 4) 3689348814741910323 (by omega) (by decide) (by omega) rfl e3
  have a4 := and64 m1 3689348814741910323 n4 (m1 : Int) 3689348814741910323 (by omega) (by decide) rfl rfl e4
  have a5 := and64 (m2 / 16 + m2) 1085102592571150095 m3 ((m2 : Int) / 16 + m2) 1085102592571150095 (by omega) (by decide) (by omega) rfl e5
  have g1 : ((n1 : Int) + n2) = (m1 : Int) := by omega
  have g2 : ((n3 : Int) + n4) = (m2 : Int) := by omega
  have g4 : ((m3 : Int) + m3 / 256) = (m4 : Int) := by omega
  have g5 : ((m4 : Int) + m4 / 65536) = (m5 : Int) := by omega
  have g6 : ((m5 : Int) + m5 / 4294967296) = (m6 : Int) := by omega
  clear e1 e2 e3 e4 e5 Hoc
  have b1 : m1 ≤ 4096 := by omega
  have b2 : m2 ≤ 8192 := by omega
  have b3 : m3 ≤ 16384 := by omega
  have b4 : m4 ≤ 32768 := by omega
  have b5 : m5 ≤ 65536 := by omega
  have b6 : m6 ≤ 131072 := by omega
  clear f1 f2 f4 f5 f6
  have a6 : bits .and .i64 (m6 : Int) 127 = (m6 : Int) % 128 := by
    have := bits_mask .i64 32 (by decide) (fun n h0 h1 => by rw [IntKind.wrap_i64]; omega) 7 (by omega) (m6 : Int) (by omega) (by omega)
    simpa using this
  go_enter Tryd.func72, Tryd.ntmps72
  go_wp2
  go_ret
  exact ⟨ret_int (by rw [← F.out, Nat.and_two_pow_sub_one_eq_mod m6 7]; omega), rfl⟩
set_option maxRecDepth 20000 in
theorem ocn_any (z : Nat) (w : World) (hz : z < 2048) :
    Calls Tryd.prog 55 #[.int .u64 z] w fun e w' => e = .returned (.int .i64 (on z : Nat)) ∧ w' = w := by
  go_enter Tryd.func55, Tryd.ntmps55
  go_wp2_with (go_at_call 72; refine (oc64_any z _ hz).mono ?_; rintro e w' ⟨rfl, rfl⟩)
  go_ret
  exact ⟨rfl, rfl⟩
end Go.Proofs.YtlbackkjjhpljaaDoor
