import Derived.Test.YtlilmbeehmjpkaaCrc
namespace Go.Proofs.Ytlilmbeehmjpkaa
open Go.RowKit
set_option maxHeartbeats 400000 in
set_option maxRecDepth 20000 in
theorem sum_any (s : ByteArray) (w : World) (hs : s.size ≤ 1048576) :
    Calls Try.prog 19 #[.agg (tab 256), .string s] w fun e w' => e = .returned (.int .u32 (4294967295 - crc s.data.toList : Nat)) ∧ Below w.heap.size w w' := by
  go_enter Try.func19, Try.ntmps19
  go_wp2
  go_loop [5, 9] (fun c i => ∃ k : Nat, k ≤ s.size ∧ i = .int .i64 k ∧ c = .int .u32 (crc (s.data.toList.take k) : Nat)) (fun _ i => s.size - (intOf i).toNat)
  case atStart => exact ⟨0, by omega, rfl, rfl⟩
  case round =>
    obtain ⟨k, hk, rfl, rfl⟩ := hrel
    have hn := crc_lt (s.data.toList.take k)
    by_cases hlt : k < s.size
    · have HS : Hid (crc (s.data.toList.take (k + 1)) = shN 8 (crc (s.data.toList.take k) ^^^ s[k].toNat)) := crc_take s k hlt
      obtain ⟨n, hnn⟩ : ∃ n, n = crc (s.data.toList.take k) := ⟨_, rfl⟩
      rw [← hnn] at hn HS ⊢
      clear hnn
      have hb := s[k].toNat_lt
      obtain ⟨j, hj⟩ : ∃ j, j = (n % 256) ^^^ s[k].toNat := ⟨_, rfl⟩
      have hjl : j < 256 := by rw [hj]; exact Nat.xor_lt_two_pow (n := 8) (by omega) (by omega)
      have hx8 : bits .xor .u8 ((n : Int) % 256) (s[k].toNat : Int) = (j : Int) := by
        rw [hj, ← xor_u8 _ _ (by omega) (by omega)]; simp
      have HL : Hid (shN 8 j ^^^ n / 256 = shN 8 (n ^^^ s[k].toNat)) := by rw [hj]; exact look n s[k].toNat (by omega)
      have htab : (tab 256)[j]? = some (.int .u32 (shN 8 j : Nat)) := by rw [tab_get _ _ hjl, if_pos hjl]
      have hx32 : bits .xor .u32 ((shN 8 j : Nat) : Int) ((n : Int) / 256) = ((shN 8 j ^^^ n / 256 : Nat) : Int) := by
        rw [← xor_u32 _ _ (shN_lt _ _ (by omega)) (by omega)]; simp
      clear hj hb
      go_wp2
      go_round
      case rel => exact ⟨k + 1, by omega, by go_num, by rw [HS.out, ← HL.out]⟩
      case measure => simp [intOf]; omega
    · obtain rfl : k = s.size := by omega
      go_wp2
      go_ret
      have e : s.data.toList.take s.size = s.data.toList := List.take_of_length_le (by simp)
      refine ⟨ret_int ?_, (Below.refl _ _).alloc (Nat.le_refl _) _⟩
      rw [e, not_u32 _ (crc_lt _)]
set_option maxHeartbeats 400000 in
set_option maxRecDepth 20000 in
theorem impl_any (s : ByteArray) (w : World) (hs : s.size ≤ 1048576) :
    Calls Try.prog 12 #[.string s] w fun e w' => e = .returned (.int .i64 (4294967295 - crc s.data.toList : Nat)) ∧ Below w.heap.size w w' := by
  go_enter Try.func12, Try.ntmps12
  go_wp2_with (first | (go_at_call 18; refine (table_any _).mono ?_; rintro e w1 ⟨rfl, hb1⟩) | (go_at_call 19; refine (sum_any _ _ (by assumption)).mono ?_; rintro e w2 ⟨rfl, hb2⟩))
  go_ret
  exact ⟨rfl, hb1.trans (hb2.mono hb1.size)⟩
end Go.Proofs.Ytlilmbeehmjpkaa
