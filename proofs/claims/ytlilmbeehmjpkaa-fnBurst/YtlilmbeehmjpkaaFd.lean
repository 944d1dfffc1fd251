/-
  Frame: both sides, the law.
-/
import Derived.Test.YtlilmbeehmjpkaaEb
import Derived.Test.YtlilmbeehmjpkaaFb
namespace Go.Proofs.Ytlilmbeehmjpkaa
open Go.RowKit
theorem frm_no {s : ByteArray} (h : btw s.size 1 60000 = false) : frm s = ByteArray.empty := by unfold frm; rw [h]; rfl
theorem frm_yes {s : ByteArray} (h : btw s.size 1 60000 = true) : frm s = bs (numI 4 s.size) ++ bs (numI 4 (crcOf s)) ++ s := by unfold frm; rw [h]; rfl
theorem crcOf_lt (s : ByteArray) : crcOf s < 4294967296 := by unfold crcOf; omega
theorem crc_impl (s : ByteArray) (w : World) (hs : s.size ≤ 1048576) : Calls Try.prog 12 #[.string s] w fun e w' => e = .returned (.int .i64 (crcOf s : Nat)) ∧ Below w.heap.size w w' := impl_any s w hs
set_option maxRecDepth 20000 in
set_option maxHeartbeats 2000000 in
theorem iFrame (s : ByteArray) (w : World) (hs : s.size ≤ 1048576) : Calls Try.prog 6 #[.string s] w fun e w' => e = .returned (.string (frm s)) ∧ Below w.heap.size w w' := by
  rcases hb : btw s.size 1 60000
  · rw [frm_no hb]
    have hb' : s.size < 1 ∨ 60000 < s.size := by simp [btw] at hb; omega
    go_enter Try.func6, Try.ntmps6
    go_wp2
    all_goals
      go_ret
      exact ⟨rfl, Below.refl _ _⟩
  · have hb' : 1 ≤ s.size ∧ s.size ≤ 60000 := by simp [btw] at hb; omega
    have HF : Hid (frm s = bs (numI 4 s.size) ++ bs (numI 4 (crcOf s)) ++ s) := frm_yes hb
    obtain ⟨y, hy⟩ : ∃ y, frm s = y := ⟨_, rfl⟩
    rw [hy] at HF ⊢
    clear hy
    have hc := crcOf_lt s
    have z1 : ¬ 9223372036854775807 < (bs (numI 4 s.size)).size + (bs (numI 4 (crcOf s))).size := by rw [bs_size, bs_size, numI_len, numI_len]; omega
    have z2 : ¬ 9223372036854775807 < (bs (numI 4 s.size) ++ bs (numI 4 (crcOf s))).size + s.size := by rw [ByteArray.size_append, bs_size, bs_size, numI_len, numI_len]; omega
    have hb0 := Below.refl w.heap.size w
    go_enter Try.func6, Try.ntmps6
    go_wp2_with (first | (go_at_call 12; refine (crc_impl s _ hs).mono ?_; rintro e w2 ⟨rfl, hb2⟩; replace hb0 := bstep hb0 hb2) | (go_at_call 11; refine (high4 _ _).mono ?_; rintro e w1 ⟨rfl, hb1⟩; replace hb0 := bstep hb0 hb1))
    go_ret
    exact ⟨by rw [HF.out]; rfl, hb0⟩
end Go.Proofs.Ytlilmbeehmjpkaa
