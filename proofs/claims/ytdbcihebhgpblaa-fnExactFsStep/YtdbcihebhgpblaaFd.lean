/-
  Frame: both sides, the law.
-/
import Derived.Test.YtdbcihebhgpblaaFb
namespace Go.Proofs.Ytdbcihebhgpblaa
open Go.RowKit
theorem frm_no {s : ByteArray} (h : btw s.size 1 60000 = false) : frm s = ByteArray.empty := by unfold frm; rw [h]; rfl
theorem frm_yes {s : ByteArray} (h : btw s.size 1 60000 = true) : frm s = bs (numI 4 s.size) ++ bs (numI 4 (crcOf s)) ++ s := by unfold frm; rw [h]; rfl
theorem bs_size (l : List UInt8) : (bs l).size = l.length := by simp [bs, ByteArray.size]
theorem crcOf_lt (s : ByteArray) : crcOf s < 4294967296 := by unfold crcOf; omega
theorem crc_spec (s : ByteArray) (w : World) (hs : s.size ≤ 1048576) : Calls Try.prog 36 #[.string s] w fun e w' => e = .returned (.int .i64 (crcOf s : Nat)) ∧ w' = w := spec_any s w hs
theorem crc_impl (s : ByteArray) (w : World) (hs : s.size ≤ 1048576) : Calls Try.prog 38 #[.string s] w fun e w' => e = .returned (.int .i64 (crcOf s : Nat)) ∧ Below w.heap.size w w' := impl_any s w hs
set_option maxRecDepth 20000 in
set_option maxHeartbeats 2000000 in
theorem sFrame (s : ByteArray) (w : World) (hs : s.size ≤ 1048576) : Calls Try.prog 9 #[.string s] w fun e w' => e = .returned (.string (frm s)) ∧ Below w.heap.size w w' := by
  rcases hb : btw s.size 1 60000
  · rw [frm_no hb]
    go_enter Try.func9, Try.ntmps9
    go_wp2_with (go_at_call 34; refine (sBetween _ 1 60000 _).mono ?_; rw [hb]; rintro e w1 ⟨rfl, rfl⟩)
    go_ret
    exact ⟨rfl, Below.refl _ _⟩
  · have HF : Hid (frm s = bs (numI 4 s.size) ++ bs (numI 4 (crcOf s)) ++ s) := frm_yes hb
    obtain ⟨y, hy⟩ : ∃ y, frm s = y := ⟨_, rfl⟩
    rw [hy] at HF ⊢
    clear hy
    have hc := crcOf_lt s
    have z1 : ¬ 9223372036854775807 < (bs (numI 4 s.size)).size + (bs (numI 4 (crcOf s))).size := by rw [bs_size, bs_size, numI_len, numI_len]; omega
    have z2 : ¬ 9223372036854775807 < (bs (numI 4 s.size) ++ bs (numI 4 (crcOf s))).size + s.size := by rw [ByteArray.size_append, bs_size, bs_size, numI_len, numI_len]; omega
    have hb0 := Below.refl w.heap.size w
    go_enter Try.func9, Try.ntmps9
    go_wp2_with (first | (go_at_call 34; refine (sBetween _ 1 60000 _).mono ?_; rw [hb]; rintro e w1 ⟨rfl, rfl⟩) | (go_at_call 36; refine (crc_spec s _ hs).mono ?_; rintro e w1 ⟨rfl, rfl⟩) | (go_at_call 35; refine (sNum4 _ _).mono ?_; rintro e w2 ⟨rfl, hb2⟩; replace hb0 := bstep hb0 hb2))
    go_ret
    exact ⟨by rw [HF.out]; rfl, hb0⟩
set_option maxRecDepth 20000 in
set_option maxHeartbeats 2000000 in
theorem iFrame (s : ByteArray) (w : World) (hs : s.size ≤ 1048576) : Calls Try.prog 10 #[.string s] w fun e w' => e = .returned (.string (frm s)) ∧ Below w.heap.size w w' := by
  rcases hb : btw s.size 1 60000
  · rw [frm_no hb]
    have hb' : s.size < 1 ∨ 60000 < s.size := by simp [btw] at hb; omega
    go_enter Try.func10, Try.ntmps10
    go_wp2
    all_goals
      go_ret
      exact ⟨rfl, Below.refl _ _⟩
  · have hb' : 1 ≤ s.size ∧ s.size ≤ 60000 := by simp [btw] at hb; omega
    have HF : Hid (frm s = bs (numI 4 s.size) ++ bs (numI 4 (crcOf s)) ++ s) := frm_yes hb
    obtain ⟨y, hy⟩ : ∃ y, frm s = y := ⟨_, rfl⟩
    rw [hy] at HF ⊢
    clear hy
    have hc := crcOf_lt s
    have z1 : ¬ 9223372036854775807 < (bs (numI 4 s.size)).size + (bs (numI 4 (crcOf s))).size := by rw [bs_size, bs_size, numI_len, numI_len]; omega
    have z2 : ¬ 9223372036854775807 < (bs (numI 4 s.size) ++ bs (numI 4 (crcOf s))).size + s.size := by rw [ByteArray.size_append, bs_size, bs_size, numI_len, numI_len]; omega
    have hb0 := Below.refl w.heap.size w
    go_enter Try.func10, Try.ntmps10
    go_wp2_with (first | (go_at_call 38; refine (crc_impl s _ hs).mono ?_; rintro e w2 ⟨rfl, hb2⟩; replace hb0 := bstep hb0 hb2) | (go_at_call 37; refine (high4 _ _).mono ?_; rintro e w1 ⟨rfl, hb1⟩; replace hb0 := bstep hb0 hb1))
    go_ret
    exact ⟨by rw [HF.out]; rfl, hb0⟩
set_option maxRecDepth 20000 in
set_option maxHeartbeats 2000000 in
theorem law_frame (a0 : ByteArray) (_w0 : a0.size ≤ maxLen) (w : World) :
    Calls Try.prog 3 #[.string a0] w fun e w' => e = .returned (.bool true) ∧ Below w.heap.size w w' := by
  by_cases hs : a0.size ≤ 1048576
  · have hq := eqS_same (frm a0)
    go_enter Try.func3, Try.ntmps3
    go_wp2_with (first | (go_at_call 9; refine (sFrame _ _ hs).mono ?_; rintro e w1 ⟨rfl, hb1⟩) | (go_at_call 10; refine (iFrame _ _ hs).mono ?_; rintro e w2 ⟨rfl, hb2⟩))
    go_ret
    exact ⟨rfl, bstep hb1 hb2⟩
  · have hs' : (1048576 : Int) < (a0.size : Int) := by omega
    go_enter Try.func3, Try.ntmps3
    go_wp2
    go_ret
    exact ⟨rfl, Below.refl _ _⟩
end Go.Proofs.Ytdbcihebhgpblaa
