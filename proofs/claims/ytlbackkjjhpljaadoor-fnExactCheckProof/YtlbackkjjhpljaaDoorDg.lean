/-
  What both Sha256s and both Digests answer, for the callers in later chapters.
-/
import Derived.Test.YtlbackkjjhpljaaDoorWj
namespace Go.Proofs.YtlbackkjjhpljaaDoor
open Go.RowKit
theorem sha_size (l : List UInt8) (S : ByteArray) (h : (⟨(shaL l).toArray⟩ : ByteArray) = S) : S.size = 32 := by
  rw [← h]
  show (shaL l).toArray.size = 32
  rw [List.size_toArray, sha_len]
theorem implSha_as (x : ByteArray) (w : World) (hk : KeysAt w) (hx : x.size ≤ 8388608) (S : ByteArray) (h : (⟨(shaL x.data.toList).toArray⟩ : ByteArray) = S) :
    Calls Tryd.prog 52 #[.string x] w fun e w' => e = .returned (.string S) ∧ Below w.heap.size w w' := by
  have := implSha_any x w hk hx
  rw [h] at this
  exact this
theorem specSha_as (x : ByteArray) (w : World) (hx : x.size ≤ 8388608) (S : ByteArray) (h : (⟨(shaL x.data.toList).toArray⟩ : ByteArray) = S) :
    Calls Tryd.prog 51 #[.string x] w fun e w' => e = .returned (.string S) ∧ Below w.heap.size w w' := by
  have := specSha_any x w hx
  rw [h] at this
  exact this
/-- What Digest answers. -/
def dig (k : Int) (S : ByteArray) : ByteArray := if k = 0 then S else if k = 1 then S.extract 0 1 else ⟨#[]⟩
set_option maxRecDepth 20000 in
set_option maxHeartbeats 400000 in
theorem specDig_any (k : Int) (x : ByteArray) (w : World) (hx : x.size ≤ 8388608) (S : ByteArray) (h : (⟨(shaL x.data.toList).toArray⟩ : ByteArray) = S) :
    Calls Tryd.prog 29 #[.int .i64 k, .string x] w fun e w' => e = .returned (.string (dig k S)) ∧ Below w.heap.size w w' := by
  have HS : Hid ((⟨(shaL x.data.toList).toArray⟩ : ByteArray) = S) := h
  have hz := sha_size _ S h
  clear h
  by_cases h0 : k = 0
  · subst h0
    have e : dig 0 S = S := by simp [dig]
    rw [e]; clear e
    go_enter Tryd.func29, Tryd.ntmps29
    go_wp2_with (go_at_call 51; refine (specSha_as _ _ hx S HS.out).mono ?_; rintro e w1 ⟨rfl, hb1⟩)
    go_ret
    exact ⟨rfl, hb1⟩
  · by_cases h1 : k = 1
    · subst h1
      have e : dig 1 S = S.extract 0 1 := by simp [dig]
      rw [e]; clear e
      go_enter Tryd.func29, Tryd.ntmps29
      go_wp2_with (go_at_call 51; refine (specSha_as _ _ hx S HS.out).mono ?_; rintro e w1 ⟨rfl, hb1⟩)
      go_ret
      exact ⟨rfl, hb1⟩
    · have e : dig k S = ⟨#[]⟩ := by simp [dig, h0, h1]
      rw [e]; clear e
      go_enter Tryd.func29, Tryd.ntmps29
      go_wp2
      go_ret
      exact ⟨rfl, Below.refl _ _⟩
set_option maxRecDepth 20000 in
set_option maxHeartbeats 400000 in
theorem implDig_any (k : Int) (x : ByteArray) (w : World) (hk : KeysAt w) (hx : x.size ≤ 8388608) (S : ByteArray) (h : (⟨(shaL x.data.toList).toArray⟩ : ByteArray) = S) :
    Calls Tryd.prog 30 #[.int .i64 k, .string x] w fun e w' => e = .returned (.string (dig k S)) ∧ Below w.heap.size w w' := by
  have HS : Hid ((⟨(shaL x.data.toList).toArray⟩ : ByteArray) = S) := h
  have HK : Hid (KeysAt w) := hk
  have hz := sha_size _ S h
  clear h hk
  by_cases h0 : k = 0
  · subst h0
    have e : dig 0 S = S := by simp [dig]
    rw [e]; clear e
    go_enter Tryd.func30, Tryd.ntmps30
    go_wp2_with (go_at_call 52; refine (implSha_as _ _ HK.out hx S HS.out).mono ?_; rintro e w1 ⟨rfl, hb1⟩)
    go_ret
    exact ⟨rfl, hb1⟩
  · by_cases h1 : k = 1
    · subst h1
      have e : dig 1 S = S.extract 0 1 := by simp [dig]
      rw [e]; clear e
      go_enter Tryd.func30, Tryd.ntmps30
      go_wp2_with (go_at_call 52; refine (implSha_as _ _ HK.out hx S HS.out).mono ?_; rintro e w1 ⟨rfl, hb1⟩)
      go_ret
      exact ⟨rfl, hb1⟩
    · have e : dig k S = ⟨#[]⟩ := by simp [dig, h0, h1]
      rw [e]; clear e
      go_enter Tryd.func30, Tryd.ntmps30
      go_wp2
      go_ret
      exact ⟨rfl, Below.refl _ _⟩
end Go.Proofs.YtlbackkjjhpljaaDoor
