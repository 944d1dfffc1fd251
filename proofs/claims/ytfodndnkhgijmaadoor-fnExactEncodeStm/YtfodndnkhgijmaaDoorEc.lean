/-
  Statements as bytes: the program's parts.
-/
import Derived.Test.YtfodndnkhgijmaaDoorEb
namespace Go.Proofs.YtfodndnkhgijmaaDoor
open Go.RowKit
theorem byt_mod (x : Int) (i : Nat) (h : i < 8) : byt (x % 18446744073709551616) i = byt x i := by
  unfold byt
  have h8 : i = 0 ∨ i = 1 ∨ i = 2 ∨ i = 3 ∨ i = 4 ∨ i = 5 ∨ i = 6 ∨ i = 7 := by omega
  rcases h8 with rfl | rfl | rfl | rfl | rfl | rfl | rfl | rfl <;> (simp only [Int.reducePow]; congr 2; omega)
theorem numI_mod (n : Nat) (x : Int) (h : n ≤ 8) : numI n (x % 18446744073709551616) = numI n x := by
  unfold numI
  apply List.map_congr_left
  intro j hj
  exact byt_mod x _ (by have := List.mem_range.1 hj; omega)
theorem iHigh1 (x : Int) (w : World) : Calls Tryd.prog 57 #[.int .u64 (x % 18446744073709551616), .int .i64 1] w fun e w' => e = .returned (.string (bs (numI 1 x))) ∧ Below w.heap.size w w' := by
  have h := high1 (x % 18446744073709551616).toNat w
  rw [Int.toNat_of_nonneg (Int.emod_nonneg _ (by omega)), numI_mod 1 x (by omega)] at h
  exact h
theorem iHigh2 (x : Int) (w : World) : Calls Tryd.prog 57 #[.int .u64 (x % 18446744073709551616), .int .i64 2] w fun e w' => e = .returned (.string (bs (numI 2 x))) ∧ Below w.heap.size w w' := by
  have h := high2 (x % 18446744073709551616).toNat w
  rw [Int.toNat_of_nonneg (Int.emod_nonneg _ (by omega)), numI_mod 2 x (by omega)] at h
  exact h
theorem iHigh8 (x : Int) (w : World) : Calls Tryd.prog 57 #[.int .u64 (x % 18446744073709551616), .int .i64 8] w fun e w' => e = .returned (.string (bs (numI 8 x))) ∧ Below w.heap.size w w' := by
  have h := high8 (x % 18446744073709551616).toNat w
  rw [Int.toNat_of_nonneg (Int.emod_nonneg _ (by omega)), numI_mod 8 x (by omega)] at h
  exact h
set_option maxRecDepth 20000 in
set_option maxHeartbeats 1000000 in
theorem iSized1 (s : ByteArray) (w : World) (hs : s.size ≤ 1048576) : Calls Tryd.prog 58 #[.string s, .int .i64 1] w fun e w' => e = .returned (.string (bs (s8 s))) ∧ Below w.heap.size w w' := by
  have hz : (bs (numI 1 (s.size : Int))).size ≤ 1 := by rw [bs_size, numI_len]; omega
  go_enter Tryd.func58, Tryd.ntmps58
  go_wp2_with (go_at_call 57; refine (high1 s.size _).mono ?_; rintro e w1 ⟨rfl, hb1⟩)
  go_ret
  exact ⟨congrArg (fun x => Ending.returned (.string x)) (bs_apps _ _), hb1⟩
set_option maxRecDepth 20000 in
set_option maxHeartbeats 1000000 in
theorem iSized2 (s : ByteArray) (w : World) (hs : s.size ≤ 1048576) : Calls Tryd.prog 58 #[.string s, .int .i64 2] w fun e w' => e = .returned (.string (bs (s16 s))) ∧ Below w.heap.size w w' := by
  have hz : (bs (numI 2 (s.size : Int))).size ≤ 2 := by rw [bs_size, numI_len]; omega
  go_enter Tryd.func58, Tryd.ntmps58
  go_wp2_with (go_at_call 57; refine (high2 s.size _).mono ?_; rintro e w1 ⟨rfl, hb1⟩)
  go_ret
  exact ⟨congrArg (fun x => Ending.returned (.string x)) (bs_apps _ _), hb1⟩
def colB (c : Clm) : List UInt8 := s8 c.s ++ numI 1 c.t
def valB (i : Itm) : List UInt8 := numI 1 i.o ++ (if i.o = 1 then numI 8 i.m else s16 i.s)
set_option maxRecDepth 20000 in
set_option maxHeartbeats 2000000 in
theorem iColB (c : Clm) (w : World) (hs : c.s.size ≤ 1048576) : Calls Tryd.prog 60 #[.agg #[.string c.s, .int .i64 c.t]] w fun e w' => e = .returned (.string (bs (colB c))) ∧ Below w.heap.size w w' := by
  have z0 : (bs (s8 c.s)).size ≤ 1048577 := by rw [bs_size, s8_len]; omega
  have z1 : (bs (numI 1 c.t)).size ≤ 1 := by rw [bs_size, numI_len]; omega
  go_enter Tryd.func60, Tryd.ntmps60
  go_wp2
  go_region_with (first | (go_at_call 58; refine (iSized1 c.s _ hs).mono ?_; rintro e wS ⟨rfl, hbS⟩; obtain ⟨y0, y1⟩ := kept2 (undrew hbS)) | (go_at_call 57; refine (iHigh1 c.t _).mono ?_; rintro e wH ⟨rfl, hbH⟩))
  all_goals
    go_wp2
    go_ret
    exact ⟨congrArg (fun x => Ending.returned (.string x)) (bs_app _ _), bal2 (bstep (undrew hbS) hbH)⟩
theorem s8_small {s : ByteArray} (h : s.size ≤ 1048576) : (bs (s8 s)).size ≤ 1048577 := by rw [bs_size, s8_len]; omega
set_option maxRecDepth 20000 in
set_option maxHeartbeats 2000000 in
theorem iValB (i : Itm) (w : World) (hs : i.s.size ≤ 1048576) : Calls Tryd.prog 62 #[.agg #[.int .i64 i.o, .int .i64 i.m, .string i.s]] w fun e w' => e = .returned (.string (bs (valB i))) ∧ Below w.heap.size w w' := by
  have z1 : (bs (numI 1 i.o)).size ≤ 1 := by rw [bs_size, numI_len]; omega
  have z8 : (bs (numI 8 i.m)).size ≤ 8 := by rw [bs_size, numI_len]; omega
  have zs : (bs (s16 i.s)).size ≤ 1048578 := by rw [bs_size, s16_len]; omega
  have hone : True := trivial
  by_cases h1 : i.o = 1
  · have h1' : (i.o == 1) = true := by simp [h1]
    have HQ : Hid (valB i = numI 1 i.o ++ numI 8 i.m) := by simp [Hid, valB, h1]
    clear h1
    go_enter Tryd.func62, Tryd.ntmps62
    go_wp2_with (first | (go_at_call 57; have _h := hone; refine (iHigh1 _ _).mono ?_; rintro e w1 ⟨rfl, hb1⟩; obtain ⟨d0, d1, d2⟩ := kept3 hb1; replace hb1 := bal2 hb1; clear hone) | (go_at_call 57; refine (iHigh8 _ _).mono ?_; rintro e w2 ⟨rfl, hb2⟩; replace hb2 := bstep hb1 hb2))
    go_ret
    exact ⟨congrArg (fun x => Ending.returned (.string x)) ((bs_app _ _).trans (by rw [HQ.out])), hb2⟩
  · have h1' : (i.o == 1) = false := by simp [h1]
    have HQ : Hid (valB i = numI 1 i.o ++ s16 i.s) := by simp [Hid, valB, h1]
    clear h1
    go_enter Tryd.func62, Tryd.ntmps62
    go_wp2_with (first | (go_at_call 57; refine (iHigh1 _ _).mono ?_; rintro e w1 ⟨rfl, hb1⟩; obtain ⟨d0, d1, d2⟩ := kept3 hb1; replace hb1 := bal2 hb1) | (go_at_call 58; refine (iSized2 i.s _ hs).mono ?_; rintro e w2 ⟨rfl, hb2⟩; replace hb2 := bstep hb1 hb2))
    go_ret
    exact ⟨congrArg (fun x => Ending.returned (.string x)) ((bs_app _ _).trans (by rw [HQ.out])), hb2⟩
set_option maxRecDepth 20000 in
set_option maxHeartbeats 2000000 in
theorem iItmB (i : Itm) (w : World) (hs : i.s.size ≤ 1048576) : Calls Tryd.prog 104 #[.agg #[.int .i64 i.o, .int .i64 i.m, .string i.s]] w fun e w' => e = .returned (.string (bs (itmB i))) ∧ Below w.heap.size w w' := by
  have z1 : (bs (numI 1 i.o)).size ≤ 1 := by rw [bs_size, numI_len]; omega
  have z8 : (bs (numI 8 i.m)).size ≤ 8 := by rw [bs_size, numI_len]; omega
  have zs : (bs (s16 i.s)).size ≤ 1048578 := by rw [bs_size, s16_len]; omega
  have zt : (bs (s8 i.s)).size ≤ 1048577 := by rw [bs_size, s8_len]; omega
  have hone : True := trivial
  by_cases h1 : i.o = 1
  · have h1' : (i.o == 1) = true := by simp [h1]
    have HQ : Hid (itmB i = numI 1 i.o ++ numI 8 i.m) := by simp [Hid, itmB, h1]
    clear h1
    go_enter Tryd.func104, Tryd.ntmps104
    go_wp2_with (first | (go_at_call 57; have _h := hone; refine (iHigh1 _ _).mono ?_; rintro e w1 ⟨rfl, hb1⟩; obtain ⟨d0, d1, d2⟩ := kept3 hb1; replace hb1 := bal2 hb1; clear hone) | (go_at_call 57; refine (iHigh8 _ _).mono ?_; rintro e w2 ⟨rfl, hb2⟩; replace hb2 := bstep hb1 hb2))
    go_ret
    exact ⟨congrArg (fun x => Ending.returned (.string x)) ((bs_app _ _).trans (by rw [HQ.out])), hb2⟩
  have h1' : (i.o == 1) = false := by simp [h1]
  by_cases h2 : i.o = 2
  · have h2' : (i.o == 2) = true := by simp [h2]
    have HQ : Hid (itmB i = numI 1 i.o ++ s16 i.s) := by simp [Hid, itmB, h2]
    clear h2
    go_enter Tryd.func104, Tryd.ntmps104
    go_wp2_with (first | (go_at_call 57; have _h := hone; refine (iHigh1 _ _).mono ?_; rintro e w1 ⟨rfl, hb1⟩; obtain ⟨d0, d1, d2⟩ := kept3 hb1; replace hb1 := bal2 hb1; clear hone) | (go_at_call 58; refine (iSized2 i.s _ hs).mono ?_; rintro e w2 ⟨rfl, hb2⟩; replace hb2 := bstep hb1 hb2))
    go_ret
    exact ⟨congrArg (fun x => Ending.returned (.string x)) ((bs_app _ _).trans (by rw [HQ.out])), hb2⟩
  have h2' : (i.o == 2) = false := by simp [h2]
  by_cases h3 : i.o = 3
  · have h3' : (i.o == 3) = true := by simp [h3]
    have HQ : Hid (itmB i = numI 1 i.o ++ s8 i.s) := by simp [Hid, itmB, h3]
    clear h3
    go_enter Tryd.func104, Tryd.ntmps104
    go_wp2_with (first | (go_at_call 57; have _h := hone; refine (iHigh1 _ _).mono ?_; rintro e w1 ⟨rfl, hb1⟩; obtain ⟨d0, d1, d2⟩ := kept3 hb1; replace hb1 := bal2 hb1; clear hone) | (go_at_call 58; refine (iSized1 i.s _ hs).mono ?_; rintro e w2 ⟨rfl, hb2⟩; replace hb2 := bstep hb1 hb2))
    go_ret
    exact ⟨congrArg (fun x => Ending.returned (.string x)) ((bs_app _ _).trans (by rw [HQ.out])), hb2⟩
  have h3' : (i.o == 3) = false := by simp [h3]
  have HQ : Hid (itmB i = numI 1 i.o) := by simp [Hid, itmB, h1, h2, h3]
  clear h1 h2 h3
  go_enter Tryd.func104, Tryd.ntmps104
  go_wp2_with (go_at_call 57; have _h := hone; refine (iHigh1 _ _).mono ?_; rintro e w1 ⟨rfl, hb1⟩; obtain ⟨d0, d1, d2⟩ := kept3 hb1; replace hb1 := bal2 hb1; clear hone)
  go_ret
  exact ⟨congrArg (fun x => Ending.returned (.string (bs x))) HQ.out.symm, hb1⟩
end Go.Proofs.YtfodndnkhgijmaaDoor
