/-
  The walks of the two laws.
-/
import Derived.Test.YtcgjoldmghhajaaDoorWj
namespace Go.Proofs.YtcgjoldmghhajaaDoor
open Go.RowKit
theorem sha_size (l : List UInt8) (S : ByteArray) (h : (⟨(shaL l).toArray⟩ : ByteArray) = S) : S.size = 32 := by
  rw [← h]
  show (shaL l).toArray.size = 32
  rw [List.size_toArray, sha_len]
theorem implSha_as (x : ByteArray) (w : World) (hk : KeysAt w) (hx : x.size ≤ 1048576) (S : ByteArray) (h : (⟨(shaL x.data.toList).toArray⟩ : ByteArray) = S) :
    Calls Tryd.prog 6 #[.string x] w fun e w' => e = .returned (.string S) ∧ Below w.heap.size w w' := by
  have := implSha_any x w hk hx
  rw [h] at this
  exact this
theorem specSha_as (x : ByteArray) (w : World) (hx : x.size ≤ 1048576) (S : ByteArray) (h : (⟨(shaL x.data.toList).toArray⟩ : ByteArray) = S) :
    Calls Tryd.prog 5 #[.string x] w fun e w' => e = .returned (.string S) ∧ Below w.heap.size w w' := by
  have := specSha_any x w hx
  rw [h] at this
  exact this
set_option maxHeartbeats 400000 in
theorem lawSha_any (a0 : ByteArray) (w : World) (hk : KeysAt w) :
    Calls Tryd.prog 3 #[.string a0] w fun e w' => e = .returned (.bool true) ∧ Below w.heap.size w w' := by
  have HK : Hid (KeysAt w) := hk
  clear hk
  by_cases hs : a0.size ≤ 1048576
  · obtain ⟨S, hS⟩ : ∃ S, (⟨(shaL a0.data.toList).toArray⟩ : ByteArray) = S := ⟨_, rfl⟩
    have HS : Hid ((⟨(shaL a0.data.toList).toArray⟩ : ByteArray) = S) := hS
    clear hS
    go_enter Tryd.func3, Tryd.ntmps3
    go_wp2_with (first | (go_at_call 5; refine (specSha_as _ _ hs S HS.out).mono ?_; rintro e w1 ⟨rfl, hb1⟩) | (go_at_call 6; refine (implSha_as _ _ (HK.out.below hb1 HK.out.lt) hs S HS.out).mono ?_; rintro e w2 ⟨rfl, hb2⟩))
    go_ret
    exact ⟨rfl, hb1.trans (hb2.mono hb1.size)⟩
  · have hs' : (1048576 : Int) < (a0.size : Int) := by omega
    go_enter Tryd.func3, Tryd.ntmps3
    go_wp2
    go_ret
    exact ⟨rfl, Below.refl _ _⟩
/-- What Digest answers. -/
def dig (k : Int) (S : ByteArray) : ByteArray := if k = 0 then S else if k = 1 then S.extract 0 1 else ⟨#[]⟩
set_option maxHeartbeats 400000 in
theorem specDig_any (k : Int) (x : ByteArray) (w : World) (hx : x.size ≤ 1048576) (S : ByteArray) (h : (⟨(shaL x.data.toList).toArray⟩ : ByteArray) = S) :
    Calls Tryd.prog 7 #[.int .i64 k, .string x] w fun e w' => e = .returned (.string (dig k S)) ∧ Below w.heap.size w w' := by
  have HS : Hid ((⟨(shaL x.data.toList).toArray⟩ : ByteArray) = S) := h
  have hz := sha_size _ S h
  clear h
  by_cases h0 : k = 0
  · subst h0
    have e : dig 0 S = S := by simp [dig]
    rw [e]; clear e
    go_enter Tryd.func7, Tryd.ntmps7
    go_wp2_with (go_at_call 5; refine (specSha_as _ _ hx S HS.out).mono ?_; rintro e w1 ⟨rfl, hb1⟩)
    go_ret
    exact ⟨rfl, hb1⟩
  · by_cases h1 : k = 1
    · subst h1
      have e : dig 1 S = S.extract 0 1 := by simp [dig]
      rw [e]; clear e
      go_enter Tryd.func7, Tryd.ntmps7
      go_wp2_with (go_at_call 5; refine (specSha_as _ _ hx S HS.out).mono ?_; rintro e w1 ⟨rfl, hb1⟩)
      go_ret
      exact ⟨rfl, hb1⟩
    · have e : dig k S = ⟨#[]⟩ := by simp [dig, h0, h1]
      rw [e]; clear e
      go_enter Tryd.func7, Tryd.ntmps7
      go_wp2
      go_ret
      exact ⟨rfl, Below.refl _ _⟩
set_option maxHeartbeats 400000 in
theorem implDig_any (k : Int) (x : ByteArray) (w : World) (hk : KeysAt w) (hx : x.size ≤ 1048576) (S : ByteArray) (h : (⟨(shaL x.data.toList).toArray⟩ : ByteArray) = S) :
    Calls Tryd.prog 8 #[.int .i64 k, .string x] w fun e w' => e = .returned (.string (dig k S)) ∧ Below w.heap.size w w' := by
  have HS : Hid ((⟨(shaL x.data.toList).toArray⟩ : ByteArray) = S) := h
  have HK : Hid (KeysAt w) := hk
  have hz := sha_size _ S h
  clear h hk
  by_cases h0 : k = 0
  · subst h0
    have e : dig 0 S = S := by simp [dig]
    rw [e]; clear e
    go_enter Tryd.func8, Tryd.ntmps8
    go_wp2_with (go_at_call 6; refine (implSha_as _ _ HK.out hx S HS.out).mono ?_; rintro e w1 ⟨rfl, hb1⟩)
    go_ret
    exact ⟨rfl, hb1⟩
  · by_cases h1 : k = 1
    · subst h1
      have e : dig 1 S = S.extract 0 1 := by simp [dig]
      rw [e]; clear e
      go_enter Tryd.func8, Tryd.ntmps8
      go_wp2_with (go_at_call 6; refine (implSha_as _ _ HK.out hx S HS.out).mono ?_; rintro e w1 ⟨rfl, hb1⟩)
      go_ret
      exact ⟨rfl, hb1⟩
    · have e : dig k S = ⟨#[]⟩ := by simp [dig, h0, h1]
      rw [e]; clear e
      go_enter Tryd.func8, Tryd.ntmps8
      go_wp2
      go_ret
      exact ⟨rfl, Below.refl _ _⟩
set_option maxHeartbeats 400000 in
theorem lawDig_any (k : Int) (a0 : ByteArray) (w : World) (hk : KeysAt w) :
    Calls Tryd.prog 4 #[.int .i64 k, .string a0] w fun e w' => e = .returned (.bool true) ∧ Below w.heap.size w w' := by
  have HK : Hid (KeysAt w) := hk
  clear hk
  by_cases hs : a0.size ≤ 1048576
  · obtain ⟨S, hS⟩ : ∃ S, (⟨(shaL a0.data.toList).toArray⟩ : ByteArray) = S := ⟨_, rfl⟩
    have HS : Hid ((⟨(shaL a0.data.toList).toArray⟩ : ByteArray) = S) := hS
    clear hS
    go_enter Tryd.func4, Tryd.ntmps4
    go_wp2_with (first | (go_at_call 7; refine (specDig_any k _ _ hs S HS.out).mono ?_; rintro e w1 ⟨rfl, hb1⟩) | (go_at_call 8; refine (implDig_any k _ _ (HK.out.below hb1 HK.out.lt) hs S HS.out).mono ?_; rintro e w2 ⟨rfl, hb2⟩))
    go_ret
    exact ⟨rfl, hb1.trans (hb2.mono hb1.size)⟩
  · have hs' : (1048576 : Int) < (a0.size : Int) := by omega
    go_enter Tryd.func4, Tryd.ntmps4
    go_wp2
    go_ret
    exact ⟨rfl, Below.refl _ _⟩
end Go.Proofs.YtcgjoldmghhajaaDoor
