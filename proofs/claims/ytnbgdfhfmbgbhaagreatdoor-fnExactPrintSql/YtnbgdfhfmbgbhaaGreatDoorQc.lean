/-
  Lists with commas.
-/
import Derived.Test.YtnbgdfhfmbgbhaaGreatDoorQb
import Derived.Lib.Join
namespace Go.Proofs.YtnbgdfhfmbgbhaaGreatDoor
open Go.RowKit Go.Maps Go.WideMaps
/-- n texts lie there. -/
def TS (w : World) (a : Option Addr) (n : Nat) (T : Nat → ByteArray) : Prop := ∀ k, k < n → ∃ b off, a = some ⟨b, off, none⟩ ∧ w.cell? ⟨b, off + k, none⟩ = some (.string (T k))
theorem TS.later {w w' : World} {a : Option Addr} {n : Nat} {T : Nat → ByteArray} (h : TS w a n T) (hb : Below w.heap.size w w') : TS w' a n T := fun k hk => by
  obtain ⟨b, off, e, h0⟩ := h k hk
  exact ⟨b, off, e, keepB hb h0⟩
/-- The first k texts with commas between them. -/
def cm (T : Nat → ByteArray) : Nat → ByteArray
  | 0 => ⟨#[]⟩
  | k + 1 => (if k = 0 then ⟨#[]⟩ else cm T k ++ ⟨#[44, 32]⟩) ++ T k
theorem cm_one (T : Nat → ByteArray) : cm T 1 = ⟨#[]⟩ ++ T 0 := rfl
theorem cm_next (T : Nat → ByteArray) {k : Nat} (hk : ¬ k = 0) : cm T (k + 1) = cm T k ++ ⟨#[44, 32]⟩ ++ T k := by rw [cm, if_neg hk]
theorem cm_size {T : Nat → ByteArray} {n M : Nat} (h : ∀ k, k < n → (T k).size ≤ M) : ∀ k, k ≤ n → (cm T k).size ≤ k * (M + 2)
  | 0, _ => Nat.zero_le _
  | k + 1, hk => by
    have h1 := h k (by omega)
    have h2 := cm_size h k (by omega)
    have e2 : (⟨#[44, 32]⟩ : ByteArray).size = 2 := rfl
    have e0 : (⟨#[]⟩ : ByteArray).size = 0 := rfl
    rw [Nat.succ_mul]
    by_cases e : k = 0
    · subst e
      rw [cm_one, ByteArray.size_append]
      omega
    · rw [cm_next T e, ByteArray.size_append, ByteArray.size_append]
      omega
theorem cm_join (T : Nat → ByteArray) (n : Nat) : cm T n = ⟨(Lib.join ((List.range n).map fun k => (T k).data.toList) [44, 32]).toArray⟩ := by
  induction n with
  | zero => rfl
  | succ n ih =>
    rw [List.range_succ, List.map_append]
    by_cases e : n = 0
    · subst e
      rw [cm_one]
      apply bytes_inj2
      simp [Lib.join_one, ByteArray.toList_eq]
    · rw [cm_next T e, ih]
      obtain ⟨m, rfl⟩ : ∃ m, n = m + 1 := ⟨n - 1, by omega⟩
      rw [List.range_succ_eq_map]
      apply bytes_inj2
      simp [Lib.join_cons, ByteArray.toList_eq, Lib.joinTail]
set_option maxRecDepth 20000 in
set_option maxHeartbeats 4000000 in
theorem sCommas (a : Option Addr) (n c : Nat) (T : Nat → ByteArray) (w : World) (h : TS w a n T) (hn : n ≤ 1000) (hT : ∀ k, k < n → (T k).size ≤ 1000000) : Calls Tryz.prog 38 #[.slice a n c] w fun e w' => e = .returned (.string (cm T n)) ∧ w' = w := by
  have HZ : Hid (∀ k, k ≤ n → (cm T k).size ≤ 2000000000) := fun k hk => by
    have h1 := cm_size hT k hk
    have h2 : k * (1000000 + 2) ≤ 1000 * (1000000 + 2) := Nat.mul_le_mul_right _ (by omega)
    omega
  have HT : Hid (∀ k, k < n → (T k).size ≤ 1000000) := hT
  clear hT
  go_enter Tryz.func38, Tryz.ntmps38
  go_wp2
  go_loop [3, 4, 5, 8] (fun o _ _ i => ∃ k : Nat, k ≤ n ∧ i = .int .i64 k ∧ o = .string (cm T k)) (fun _ _ _ i => n - (intOf i).toNat)
  case atStart => exact ⟨0, by omega, rfl, rfl⟩
  case round =>
    obtain ⟨k, hk, rfl, rfl⟩ := hrel
    have hz := HZ.out k hk
    by_cases hlt : k < n
    · obtain ⟨b, off, rfl, d0⟩ := h k hlt
      have ht := HT.out k hlt
      by_cases e : k = 0
      · subst e
        rw [Nat.add_zero] at d0
        have HQ : Hid (cm T 1 = ⟨#[]⟩ ++ T 0) := cm_one T
        go_wp2
        go_round
        case rel => exact ⟨0 + 1, by omega, by go_num, by rw [HQ.out]; rfl⟩
        case measure => simp [intOf]; omega
      · have HQ : Hid (cm T (k + 1) = cm T k ++ ⟨#[44, 32]⟩ ++ T k) := cm_next T e
        have i0 : (0 : Int) < (k : Int) := by omega
        go_wp2
        go_round
        case rel => exact ⟨k + 1, by omega, by go_num, by rw [HQ.out]⟩
        case measure => simp [intOf]; omega
    · obtain rfl : k = n := by omega
      go_wp2
      go_ret
      exact ⟨rfl, rfl⟩
end Go.Proofs.YtnbgdfhfmbgbhaaGreatDoor
