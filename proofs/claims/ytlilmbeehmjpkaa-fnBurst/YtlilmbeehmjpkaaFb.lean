/-
  Numbers as bytes, the high ones first; frames.
-/
import Derived.Test.YtlilmbeehmjpkaaEa
import Derived.Test.YtlilmbeehmjpkaaFa
import Derived.Test.YtlilmbeehmjpkaaSum
namespace Go.Proofs.Ytlilmbeehmjpkaa
open Go.RowKit
set_option maxRecDepth 20000 in
set_option maxHeartbeats 2000000 in
theorem high4 (v : Nat) (w : World) :
    Calls Try.prog 11 #[.int .u64 v, .int .i64 4] w fun e w' => e = .returned (.string (bs (numI 4 v))) ∧ Below w.heap.size w w' := by
  obtain ⟨i0, hi, hz0, hz1, hz2⟩ := info_parts Try.infoB
  have HI : Hid (Try.prog.info? 5 = some i0) := hi
  clear hi
  go_enter Try.func11, Try.ntmps11
  go_wp2_with (refine wpList_make_full _ rfl (.tmp 7) (.tmp 7) 22 rfl w.heap.size 5 i0 (.int .u8 0) 1 Try.underlying22 HI.out hz0 hz1 .i64 .i64 4 4 4 rfl rfl rfl rfl (by rw [hz2]; omega) (by simp [maxLen]) (Nat.le_refl _) ?_; intro w1 hown1 hgrow1)
  go_loopw [11] (fun i wr => ∃ k : Nat, k ≤ 4 ∧ i = .int .i64 k ∧ wr.ownsRow w.heap.size 5 1 (.slice (some ⟨w.heap.size, 0, none⟩) 4 4) 4 (half (numI 4 v) k) ∧ Below w.heap.size w wr) (fun i _ => 4 - (intOf i).toNat)
  case atStart =>
    refine ⟨0, by omega, rfl, ?_, (Below.refl _ _).grown hgrow1 (Nat.le_refl _) (fun q hq => by cases hq)⟩
    rw [half_zero, numI_len]
    simpa [toList_madeCells_one, Value.cells] using hown1
  case round =>
    obtain ⟨k, hk, rfl, hown, hb⟩ := hrel
    by_cases hlt : k < 4
    · have hc : wr.cell? ⟨w.heap.size, k, none⟩ = some (.int .u8 0) := by
        rw [hown.cellAt k (by omega), half_get _ _ _ (by rw [numI_len]; omega) (by rw [numI_len]; omega), if_neg (by omega)]
      have hf := hown.frozenAt k
      have HX : Hid ((v : Int) / 2 ^ (8 * (3 - k)) % 256 = (((numI 4 v).getD k 0).toNat : Int)) := by
        show _ = _
        rw [numI_at 4 v k hlt, Int.pow_mul]
        rfl
      go_wp2
      go_roundw
      case rel =>
        refine ⟨k + 1, by omega, by go_num, ?_, hb.setCell (Nat.le_refl _) _⟩
        have := (hown.stored k (.int .u8 ((v : Int) / 2 ^ (8 * (3 - k)) % 256))).1
        rw [half_set _ _ _ (by rw [numI_len]; omega) HX.out] at this
        exact this
      case measure => simp [intOf]; omega
    · obtain rfl : k = 4 := by omega
      have hc := conv_any wr w.heap.size w.heap.size 4 (numI 4 v) (by rw [numI_len, ← half_all, numI_len]; exact hown)
      rw [numI_len] at hc
      go_wp2
      go_ret
      exact ⟨rfl, hb⟩
theorem sNum4 (v : Int) (w : World) : Calls Try.prog 25 #[.int .i64 4, .int .i64 v] w fun e w' => e = .returned (.string (bs (numI 4 v))) ∧ Below w.heap.size w w' := sNum 4 v w (by omega)
/-- What is summed up: THE checksum of a text. -/
def crcOf (s : ByteArray) : Nat := 4294967295 - crc s.data.toList
/-- THE frame. -/
def frm (s : ByteArray) : ByteArray := if btw s.size 1 60000 then bs (numI 4 s.size) ++ bs (numI 4 (crcOf s)) ++ s else ByteArray.empty
end Go.Proofs.Ytlilmbeehmjpkaa
