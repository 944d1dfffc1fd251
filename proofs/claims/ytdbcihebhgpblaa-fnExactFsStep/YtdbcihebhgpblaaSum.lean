import Derived.Test.YtdbcihebhgpblaaCrc
namespace Go.Proofs.Ytdbcihebhgpblaa
open Go.RowKit
set_option maxHeartbeats 400000 in
set_option maxRecDepth 20000 in
theorem sum_any (s : ByteArray) (w : World) (hs : s.size ≤ 1048576) :
    Calls Try.prog 63 #[.agg (tab 256), .string s] w fun e w' => e = .returned (.int .u32 (4294967295 - crc s.data.toList : Nat)) ∧ Below w.heap.size w w' := by
  go_enter Try.func63, Try.ntmps63
  go_wp2
  go_loop [5, 9] (fun c i => ∃ k : Nat, k ≤ s.size ∧ i = .int .i64 k ∧ c = .int .u32 (crc (s.data.toList.take k) : Nat)) (fun _ i => s.size - (intOf i).toNat)
  case atStart => exact ⟨0, by omega, rfl, rfl⟩
  case round =>
    obtain ⟨k, hk, rfl, rfl⟩ := hrel
    have hn := crc_lt (s.data.toList.take k)
    by_cases hlt : k < s.size
    · have HS : Hid (crc (s.data.toList.take (k + 1)) = shN 8 (crc (s.data.toList.take k) ^^^ s[k].toNat)) := crc_take s k hlt
      obtain ⟨n, hnn⟩ : ∃ n, n = crc (s.data.toList.take k) := ⟨_, rfl⟩
      rw [← hnn] at hn HS ⊢
      clear hnn
      have hb := s[k].toNat_lt
      obtain ⟨j, hj⟩ : ∃ j, j = (n % 256) ^^^ s[k].toNat := ⟨_, rfl⟩
      have hjl : j < 256 := by rw [hj]; exact Nat.xor_lt_two_pow (n := 8) (by omega) (by omega)
      have hx8 : bits .xor .u8 ((n : Int) % 256) (s[k].toNat : Int) = (j : Int) := by
        rw [hj, ← xor_u8 _ _ (by omega) (by omega)]; simp
      have HL : Hid (shN 8 j ^^^ n / 256 = shN 8 (n ^^^ s[k].toNat)) := by rw [hj]; exact look n s[k].toNat (by omega)
      have htab : (tab 256)[j]? = some (.int .u32 (shN 8 j : Nat)) := by rw [tab_get _ _ hjl, if_pos hjl]
      have hx32 : bits .xor .u32 ((shN 8 j : Nat) : Int) ((n : Int) / 256) = ((shN 8 j ^^^ n / 256 : Nat) : Int) := by
        rw [← xor_u32 _ _ (shN_lt _ _ (by omega)) (by omega)]; simp
      clear hj hb
      go_wp2
      go_round
      case rel => exact ⟨k + 1, by omega, by go_num, by rw [HS.out, ← HL.out]⟩
      case measure => simp [intOf]; omega
    · obtain rfl : k = s.size := by omega
      go_wp2
      go_ret
      have e : s.data.toList.take s.size = s.data.toList := List.take_of_length_le (by simp)
      refine ⟨ret_int ?_, (Below.refl _ _).alloc (Nat.le_refl _) _⟩
      rw [e, not_u32 _ (crc_lt _)]
set_option maxHeartbeats 400000 in
set_option maxRecDepth 20000 in
theorem impl_any (s : ByteArray) (w : World) (hs : s.size ≤ 1048576) :
    Calls Try.prog 38 #[.string s] w fun e w' => e = .returned (.int .i64 (4294967295 - crc s.data.toList : Nat)) ∧ Below w.heap.size w w' := by
  go_enter Try.func38, Try.ntmps38
  go_wp2_with (first | (go_at_call 62; refine (table_any _).mono ?_; rintro e w1 ⟨rfl, hb1⟩) | (go_at_call 63; refine (sum_any _ _ (by assumption)).mono ?_; rintro e w2 ⟨rfl, hb2⟩))
  go_ret
  exact ⟨rfl, hb1.trans (hb2.mono hb1.size)⟩
set_option maxHeartbeats 400000 in
theorem spec_any (s : ByteArray) (w : World) (hs : s.size ≤ 1048576) :
    Calls Try.prog 36 #[.string s] w fun e w' => e = .returned (.int .i64 (4294967295 - crc s.data.toList : Nat)) ∧ w' = w := by
  go_enter Try.func36, Try.ntmps36
  go_wp2
  go_loop [3, 4] (fun r i => ∃ k : Nat, k ≤ s.size ∧ i = .int .i64 k ∧ r = .int .i64 (crc (s.data.toList.take k) : Nat)) (fun _ i => s.size - (intOf i).toNat)
  case atStart => exact ⟨0, by omega, rfl, rfl⟩
  case round =>
    obtain ⟨k, hk, rfl, rfl⟩ := hrel
    have hn := crc_lt (s.data.toList.take k)
    by_cases hlt : k < s.size
    · have HS : Hid (crc (s.data.toList.take (k + 1)) = shN 8 (crc (s.data.toList.take k) ^^^ s[k].toNat)) := crc_take s k hlt
      obtain ⟨n, hnn⟩ : ∃ n, n = crc (s.data.toList.take k) := ⟨_, rfl⟩
      rw [← hnn] at hn HS ⊢
      clear hnn
      obtain ⟨c, hc⟩ : ∃ c, s[k].toNat = c := ⟨_, rfl⟩
      have hcl : c < 256 := by rw [← hc]; exact s[k].toNat_lt
      rw [hc] at HS
      go_wp2
      go_loop [3, 5, 6] (fun r b i => ∃ q : Nat, q ≤ 8 ∧ i = .int .i64 q ∧ r = .int .i64 ((sp q n c).1 : Nat) ∧ b = .int .i64 ((sp q n c).2 : Nat)) (fun _ _ i => 8 - (intOf i).toNat)
      case atStart => exact ⟨0, by omega, rfl, rfl, rfl⟩
      case round =>
        obtain ⟨q, hq, rfl, rfl, rfl⟩ := hrel
        have h1 := sp_lt q n c hn
        have h2 := sp_in_lt q n c hcl
        by_cases hql : q < 8
        · have HN : Hid (sp (q + 1) n c = (if ((sp q n c).1 + (sp q n c).2) % 2 = 1 then (sp q n c).1 / 2 ^^^ 3988292384 else (sp q n c).1 / 2, (sp q n c).2 / 2)) := rfl
          obtain ⟨a, ha⟩ : ∃ a, (sp q n c).1 = a := ⟨_, rfl⟩
          obtain ⟨b, hb⟩ : ∃ b, (sp q n c).2 = b := ⟨_, rfl⟩
          rw [ha, hb] at HN ⊢
          rw [ha] at h1
          rw [hb] at h2
          clear ha hb
          have hx : bits .xor .i64 ((a : Int) / 2) 3988292384 = ((a / 2 ^^^ 3988292384 : Nat) : Int) := by
            rw [← xor_i64 _ _ (by omega) (by omega)]; simp
          by_cases ho : (a + b) % 2 = 1
          · go_wp2
            go_round
            case rel => exact ⟨q + 1, by omega, by go_num, by rw [HN.out, if_pos ho], by rw [HN.out]; go_num⟩
            case measure => simp [intOf]; omega
          · go_wp2
            go_round
            case rel => exact ⟨q + 1, by omega, by go_num, by rw [HN.out, if_neg ho]; go_num, by rw [HN.out]; go_num⟩
            case measure => simp [intOf]; omega
        · obtain rfl : q = 8 := by omega
          have H8 : Hid ((sp 8 n c).1 = shN 8 (n ^^^ c)) := sp8 n _ hcl
          obtain ⟨a, ha⟩ : ∃ a, (sp 8 n c).1 = a := ⟨_, rfl⟩
          rw [ha] at H8 h1 ⊢
          clear ha
          go_wp2
          go_round
          case rel => exact ⟨k + 1, by omega, by go_num, by rw [HS.out, H8.out]⟩
          case measure => simp [intOf]; omega
    · obtain rfl : k = s.size := by omega
      have e : s.data.toList.take s.size = s.data.toList := List.take_of_length_le (by simp)
      rw [e] at hn ⊢
      clear e
      go_wp2
      go_ret
      refine ⟨ret_int ?_, rfl⟩
      omega
end Go.Proofs.Ytdbcihebhgpblaa
