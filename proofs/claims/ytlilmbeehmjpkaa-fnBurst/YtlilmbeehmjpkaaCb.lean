/-
  What the specification draws: a number, a text, a list of texts.
-/
import Derived.Test.YtlilmbeehmjpkaaCa
namespace Go.Proofs.Ytlilmbeehmjpkaa
open Go.RowKit
set_option maxRecDepth 20000 in
set_option maxHeartbeats 4000000 in
theorem pick_any (g B : Nat) (ca : Option Addr) (cn cc z s : Nat) (w : World) (h : Cu w g B ca cn cc z s) (hz : z ≤ 1099511627776) (n : Int) (hn : n ≤ 256) :
    Calls Try.prog 16 #[.pointer (some ⟨g, 0, none⟩), .int .i64 n] w fun e w' => ∃ (r : Int) (z' s' : Nat), e = .returned (.int .i64 r) ∧ 0 ≤ r ∧ (r = 0 ∨ r < n) ∧ r ≤ 255 ∧ z' ≤ z + 1 ∧ Cu w' g B ca cn cc z' s' ∧ w.grownBy w' (some g) := by
  by_cases h1 : n ≤ 1
  · go_enter Try.func16, Try.ntmps16
    go_wp2
    go_ret
    exact ⟨0, z, s, rfl, by omega, Or.inl rfl, by omega, by omega, h, ⟨rfl, rfl, rfl, Nat.le_refl _, fun _ _ _ => rfl⟩⟩
  · have hne : ¬ n = 0 := by omega
    go_enter Try.func16, Try.ntmps16
    go_wp2_with (go_at_call 29; refine (byte_any g B ca cn cc z s _ h hz).mono ?_; rintro e w1 ⟨r, s1, rfl, hr0, hr1, hC1, hG1⟩)
    go_ret
    have e1 : r.tmod n = r % n := Int.tmod_eq_emod_of_nonneg hr0
    have e2 := Int.emod_nonneg r hne
    have e3 := Int.emod_lt_of_pos r (by omega : 0 < n)
    first
      | exact ⟨r.tmod n, z + 1, s1, rfl, by omega, Or.inr (by omega), by omega, by omega, hC1, hG1⟩
      | exact ⟨r % n, z + 1, s1, rfl, by omega, Or.inr (by omega), by omega, by omega, hC1, hG1⟩
theorem cells8_put (L : List UInt8) (r : Int) (h0 : 0 ≤ r) (h1 : r ≤ 255) : cells8 L ++ [Value.int .u8 r] = cells8 (L ++ [UInt8.ofNat r.toNat]) := by
  simp [cells8]
  omega
set_option maxRecDepth 20000 in
set_option maxHeartbeats 4000000 in
theorem drawBytes_any (g B : Nat) (ca : Option Addr) (cn cc z s : Nat) (w : World) (h : Cu w g B ca cn cc z s) (hz : z ≤ 1000000000000) (hB : B ≤ w.heap.size) (most : Nat) (hm : most ≤ 40) :
    Calls Try.prog 10 #[.pointer (some ⟨g, 0, none⟩), .int .i64 most] w fun e w' => ∃ (T : ByteArray) (z' s' : Nat), e = .returned (.string T) ∧ T.size ≤ most ∧ z' ≤ z + 1 + most ∧ Cu w' g B ca cn cc z' s' ∧ w.grownBy w' (some g) := by
  obtain ⟨i0, hi, hz0, hz1, hz2⟩ := info_parts Try.infoB
  have HI : Hid (Try.prog.info? 5 = some i0) := hi
  clear hi
  have hlt := h.lt
  have h0 := h.gr (galloc w (.cells #[] 5) none) (fun _ h => by cases h) hB
  go_enter Try.func10, Try.ntmps10
  go_wp2_with (go_at_call 16; refine (pick_any g B ca cn cc z s _ h0 (by omega) _ (by omega)).mono ?_; rintro e w1 ⟨r, z1, s1, rfl, hr0, hr1, -, hz1', hC1, hG1⟩)
  obtain ⟨n, rfl⟩ : ∃ n : Nat, r = n := ⟨r.toNat, by omega⟩
  have hnm : n ≤ most := by omega
  have hq1 : w1.heap.size ≥ w.heap.size + 1 := by have := hG1.size; simpa using this
  have hG0 : w.grownBy w1 (some g) := gtrans (galloc w _ _) hG1
  have hO1 : w1.ownsRow w.heap.size 5 1 (.slice (some ⟨w.heap.size, 0, none⟩) 0 0) 0 [] := own_gr (World.ownsRow_lit w #[] 0 (Nat.le_refl _) (by simp [maxLen]) rfl) hG1 (by omega)
  go_loopw [5, 7] (fun o i wr => ∃ (k : Nat) (L : List UInt8) (gz cap zz ss : Nat), k ≤ n ∧ i = .int .i64 k ∧ o = .slice (some ⟨gz, 0, none⟩) k cap ∧ L.length = k ∧ wr.ownsRow w.heap.size 5 1 (.slice (some ⟨gz, 0, none⟩) k cap) k (cells8 L) ∧ Cu wr g B ca cn cc zz ss ∧ zz ≤ z + 1 + k ∧ w.grownBy wr (some g)) (fun _ i _ => n - (intOf i).toNat)
  case atStart => exact ⟨0, [], w.heap.size, 0, z1, s1, by omega, rfl, rfl, rfl, hO1, hC1, by omega, hG0⟩
  case round =>
    obtain ⟨k, L, gz, cap, zz, ss, hk, rfl, rfl, hL, hO, hC, hzz, hG⟩ := hrel
    have HL : Hid (L.length = k) := hL
    have hgz := grow_le hO
    have hwr := hG.size
    by_cases hlt2 : k < n
    · clear hL
      go_wp2_with (first | (go_at_call 16; refine (pick_any g B ca cn cc zz ss _ hC (by omega) _ (by omega)).mono ?_; rintro e w2 ⟨y, z2, s2, rfl, hy0, hy1, hy2, hz2', hC2, hG2⟩; have hO2 := own_gr hO hG2 (by omega); have hs2 := hG2.size; have hC3 := hC2.gr (galloc w2 (.cells #[.int .u8 y] 5) none) (fun _ h => by cases h) (by omega); have ey : y % 256 = y := by omega) | (at_builtin; refine wpList_append_lies _ rfl _ _ _ rfl w.heap.size 5 i0 (.int .u8 0) 1 1 Try.underlying22 HI.out hz0 hz1 hz2 rfl (by omega) _ k _ rfl (hO2.alloc _) ⟨w2.heap.size, 0, none⟩ 1 1 [.int .u8 y] rfl rfl (World.news_of_block (heap_alloc_new w2 _)) (ones _ rfl) (by omega) (by unfold maxLen; omega) (by omega) (by simp; omega) _ rfl ?_; intro g1 cap1 w3 hown1 hgrow hat hlt1))
      go_roundw
      case rel => exact ⟨k + 1, L ++ [UInt8.ofNat y.toNat], g1, cap1, z2, s2, by omega, by go_num, rfl, by simp [HL.out], by rw [← cells8_put L y hy0 hy2]; simpa using hown1, hC3.gr hgrow (fun q hq => by have e : gz = q := Option.some.inj hq; omega) (by simp; omega), by omega, gjoin (gtrans (gtrans hG hG2) (galloc w2 _ _)) hgrow (fun q hq => by have e : gz = q := Option.some.inj hq; omega)⟩
      case measure => simp [intOf]; omega
    · obtain rfl : k = n := by omega
      have hc := conv_any wr w.heap.size gz cap L (by rw [HL.out]; exact hO)
      rw [HL.out] at hc
      clear hL
      go_wp2
      go_ret
      exact ⟨_, zz, ss, rfl, by show L.toArray.size ≤ most; simp [HL.out]; omega, by omega, hC, hG⟩
theorem all_put {n : Nat} {L : List ByteArray} {T : ByteArray} (h : ∀ U ∈ L, U.size ≤ n) (hT : T.size ≤ n) : ∀ U ∈ L ++ [T], U.size ≤ n := by
  intro U hU
  rcases List.mem_append.1 hU with h1 | h1
  · exact h U h1
  · rw [List.mem_singleton.1 h1]
    exact hT
theorem strs_put (L : List ByteArray) (T : ByteArray) : L.map Value.string ++ [Value.string T] = (L ++ [T]).map Value.string := by simp
end Go.Proofs.Ytlilmbeehmjpkaa
