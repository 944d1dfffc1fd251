/-
  Leaf and Node: what both answer; the two laws' walks.
-/
import Derived.Test.YtjbbbfplephkpaaGreatDoorWj
namespace Go.Proofs.YtjbbbfplephkpaaGreatDoor
open Go.RowKit
theorem sha_size (l : List UInt8) (S : ByteArray) (h : (⟨(shaL l).toArray⟩ : ByteArray) = S) : S.size = 32 := by
  rw [← h]
  show (shaL l).toArray.size = 32
  rw [List.size_toArray, sha_len]
set_option maxRecDepth 20000 in
theorem implSha_as (x : ByteArray) (w : World) (hk : KeysAt w) (hx : x.size ≤ 8388608) (S : ByteArray) (h : (⟨(shaL x.data.toList).toArray⟩ : ByteArray) = S) :
    Calls Tryz.prog 35 #[.string x] w fun e w' => e = .returned (.string S) ∧ Below w.heap.size w w' := by
  have := implSha_any x w hk hx
  rw [h] at this
  exact this
set_option maxRecDepth 20000 in
theorem specSha_as (x : ByteArray) (w : World) (hx : x.size ≤ 8388608) (S : ByteArray) (h : (⟨(shaL x.data.toList).toArray⟩ : ByteArray) = S) :
    Calls Tryz.prog 37 #[.string x] w fun e w' => e = .returned (.string S) ∧ Below w.heap.size w w' := by
  have := specSha_any x w hx
  rw [h] at this
  exact this
/-- What Digest answers. -/
def dig (k : Int) (S : ByteArray) : ByteArray := if k = 0 then S else if k = 1 then S.extract 0 1 else ⟨#[]⟩
set_option maxRecDepth 20000 in
set_option maxHeartbeats 400000 in
theorem specDig_any (k : Int) (x : ByteArray) (w : World) (hx : x.size ≤ 8388608) (S : ByteArray) (h : (⟨(shaL x.data.toList).toArray⟩ : ByteArray) = S) :
    Calls Tryz.prog 19 #[.int .i64 k, .string x] w fun e w' => e = .returned (.string (dig k S)) ∧ Below w.heap.size w w' := by
  have HS : Hid ((⟨(shaL x.data.toList).toArray⟩ : ByteArray) = S) := h
  have hz := sha_size _ S h
  clear h
  by_cases h0 : k = 0
  · subst h0
    have e : dig 0 S = S := by simp [dig]
    rw [e]; clear e
    go_enter Tryz.func19, Tryz.ntmps19
    go_wp2_with (go_at_call 37; refine (specSha_as _ _ hx S HS.out).mono ?_; rintro e w1 ⟨rfl, hb1⟩)
    go_ret
    exact ⟨rfl, hb1⟩
  · by_cases h1 : k = 1
    · subst h1
      have e : dig 1 S = S.extract 0 1 := by simp [dig]
      rw [e]; clear e
      go_enter Tryz.func19, Tryz.ntmps19
      go_wp2_with (go_at_call 37; refine (specSha_as _ _ hx S HS.out).mono ?_; rintro e w1 ⟨rfl, hb1⟩)
      go_ret
      exact ⟨rfl, hb1⟩
    · have e : dig k S = ⟨#[]⟩ := by simp [dig, h0, h1]
      rw [e]; clear e
      go_enter Tryz.func19, Tryz.ntmps19
      go_wp2
      go_ret
      exact ⟨rfl, Below.refl _ _⟩
set_option maxRecDepth 20000 in
set_option maxHeartbeats 400000 in
theorem implDig_any (k : Int) (x : ByteArray) (w : World) (hk : KeysAt w) (hx : x.size ≤ 8388608) (S : ByteArray) (h : (⟨(shaL x.data.toList).toArray⟩ : ByteArray) = S) :
    Calls Tryz.prog 14 #[.int .i64 k, .string x] w fun e w' => e = .returned (.string (dig k S)) ∧ Below w.heap.size w w' := by
  have HS : Hid ((⟨(shaL x.data.toList).toArray⟩ : ByteArray) = S) := h
  have HK : Hid (KeysAt w) := hk
  have hz := sha_size _ S h
  clear h hk
  by_cases h0 : k = 0
  · subst h0
    have e : dig 0 S = S := by simp [dig]
    rw [e]; clear e
    go_enter Tryz.func14, Tryz.ntmps14
    go_wp2_with (go_at_call 35; refine (implSha_as _ _ HK.out hx S HS.out).mono ?_; rintro e w1 ⟨rfl, hb1⟩)
    go_ret
    exact ⟨rfl, hb1⟩
  · by_cases h1 : k = 1
    · subst h1
      have e : dig 1 S = S.extract 0 1 := by simp [dig]
      rw [e]; clear e
      go_enter Tryz.func14, Tryz.ntmps14
      go_wp2_with (go_at_call 35; refine (implSha_as _ _ HK.out hx S HS.out).mono ?_; rintro e w1 ⟨rfl, hb1⟩)
      go_ret
      exact ⟨rfl, hb1⟩
    · have e : dig k S = ⟨#[]⟩ := by simp [dig, h0, h1]
      rw [e]; clear e
      go_enter Tryz.func14, Tryz.ntmps14
      go_wp2
      go_ret
      exact ⟨rfl, Below.refl _ _⟩
end Go.Proofs.YtjbbbfplephkpaaGreatDoor
namespace Go.Proofs.YtjbbbfplephkpaaGreatDoor
open Go.RowKit
/-- The digest of a text. -/
def dg (k : Int) (x : ByteArray) : ByteArray := dig k ⟨(shaL x.data.toList).toArray⟩
def wid (k : Int) : Nat := if k = 1 then 1 else 32
theorem dg_size (k : Int) (x : ByteArray) (h : k = 0 ∨ k = 1) : (dg k x).size = wid k := by
  have e := sha_size x.data.toList _ rfl
  rcases h with rfl | rfl
  · simp [dg, dig, wid]; simpa using e
  · simp only [dg, dig, wid]
    simp at e ⊢
    omega
theorem dg_le (k : Int) (x : ByteArray) : (dg k x).size ≤ 32 := by
  by_cases h : k = 0 ∨ k = 1
  · rw [dg_size k x h]; unfold wid; split <;> omega
  · have h0 : ¬ k = 0 := fun e => h (Or.inl e)
    have h1 : ¬ k = 1 := fun e => h (Or.inr e)
    have e : dg k x = ⟨#[]⟩ := by simp [dg, dig, h0, h1]
    rw [e]; exact Nat.zero_le _
def leafD (k : Int) (e : ByteArray) : ByteArray := dg k (⟨#[0]⟩ ++ e)
def nodeD (k : Int) (l r : ByteArray) : ByteArray := dg k (⟨#[1]⟩ ++ l ++ r)
set_option maxRecDepth 20000 in
theorem specDg_any (k : Int) (x : ByteArray) (w : World) (hx : x.size ≤ 8388608) (y : ByteArray) (hy : dg k x = y) :
    Calls Tryz.prog 19 #[.int .i64 k, .string x] w fun e w' => e = .returned (.string y) ∧ Below w.heap.size w w' := by
  subst hy
  exact specDig_any k x w hx _ rfl
set_option maxRecDepth 20000 in
theorem implDg_any (k : Int) (x : ByteArray) (w : World) (hk : KeysAt w) (hx : x.size ≤ 8388608) (y : ByteArray) (hy : dg k x = y) :
    Calls Tryz.prog 14 #[.int .i64 k, .string x] w fun e w' => e = .returned (.string y) ∧ Below w.heap.size w w' := by
  subst hy
  exact implDig_any k x w hk hx _ rfl
theorem size1 (b : UInt8) (x : ByteArray) : ((⟨#[b]⟩ : ByteArray) ++ x).size = x.size + 1 := by
  have : (⟨#[b]⟩ : ByteArray).size = 1 := rfl
  rw [ByteArray.size_append]; omega
theorem size2 (b : UInt8) (x y : ByteArray) : ((⟨#[b]⟩ : ByteArray) ++ x ++ y).size = x.size + y.size + 1 := by
  rw [ByteArray.size_append, size1]; omega
set_option maxRecDepth 20000 in
theorem leafText_any (x t : ByteArray) (w : World) (hx : x.size ≤ 4194304) (ht : (⟨#[0]⟩ : ByteArray) ++ x = t) :
    Calls Tryz.prog 58 #[.string x] w fun e w' => e = .returned (.string t) ∧ w' = w := by
  subst ht
  go_enter Tryz.func58, Tryz.ntmps58
  go_wp2
  go_ret
  exact ⟨rfl, rfl⟩
set_option maxRecDepth 20000 in
theorem nodeText_any (x y t : ByteArray) (w : World) (hx : x.size ≤ 2097152) (hy : y.size ≤ 2097152) (ht : (⟨#[1]⟩ : ByteArray) ++ x ++ y = t) :
    Calls Tryz.prog 76 #[.string x, .string y] w fun e w' => e = .returned (.string t) ∧ w' = w := by
  subst ht
  go_enter Tryz.func76, Tryz.ntmps76
  go_wp2
  go_ret
  exact ⟨rfl, rfl⟩
set_option maxRecDepth 20000 in
theorem specLeaf_any (k : Int) (x : ByteArray) (w : World) (hx : x.size ≤ 4194304) :
    Calls Tryz.prog 20 #[.int .i64 k, .string x] w fun e w' => e = .returned (.string (leafD k x)) ∧ Below w.heap.size w w' := by
  obtain ⟨y, hy⟩ : ∃ y, leafD k x = y := ⟨_, rfl⟩
  obtain ⟨t, ht⟩ : ∃ t, (⟨#[0]⟩ : ByteArray) ++ x = t := ⟨_, rfl⟩
  have hz : t.size ≤ 8388608 := by rw [← ht, size1]; omega
  have HD : Hid (dg k t = y) := by show dg k t = y; rw [← ht, ← hy]; rfl
  rw [hy]
  clear hy
  go_enter Tryz.func20, Tryz.ntmps20
  go_wp2_with (go_at_call 19; refine (specDg_any k t _ hz y HD.out).mono ?_; rintro e w1 ⟨rfl, hb1⟩)
  go_ret
  exact ⟨rfl, hb1⟩
set_option maxRecDepth 20000 in
theorem implLeaf_any (k : Int) (x : ByteArray) (w : World) (hk : KeysAt w) (hx : x.size ≤ 4194304) :
    Calls Tryz.prog 38 #[.int .i64 k, .string x] w fun e w' => e = .returned (.string (leafD k x)) ∧ Below w.heap.size w w' := by
  have HK : Hid (KeysAt w) := hk
  clear hk
  obtain ⟨y, hy⟩ : ∃ y, leafD k x = y := ⟨_, rfl⟩
  obtain ⟨t, ht⟩ : ∃ t, (⟨#[0]⟩ : ByteArray) ++ x = t := ⟨_, rfl⟩
  have hz : t.size ≤ 8388608 := by rw [← ht, size1]; omega
  have HD : Hid (dg k t = y) := by show dg k t = y; rw [← ht, ← hy]; rfl
  have HT : Hid ((⟨#[0]⟩ : ByteArray) ++ x = t) := ht
  rw [hy]
  clear hy ht
  go_enter Tryz.func38, Tryz.ntmps38
  go_wp2_with (first | (go_at_call 58; refine (leafText_any x t _ hx HT.out).mono ?_; rintro e w0 ⟨rfl, rfl⟩) | (go_at_call 14; refine (implDg_any k t _ HK.out hz y HD.out).mono ?_; rintro e w1 ⟨rfl, hb1⟩))
  go_ret
  exact ⟨rfl, hb1⟩
set_option maxRecDepth 20000 in
theorem specNode_any (k : Int) (x y : ByteArray) (w : World) (hx : x.size ≤ 2097152) (hy : y.size ≤ 2097152) :
    Calls Tryz.prog 22 #[.int .i64 k, .string x, .string y] w fun e w' => e = .returned (.string (nodeD k x y)) ∧ Below w.heap.size w w' := by
  obtain ⟨v, hv⟩ : ∃ v, nodeD k x y = v := ⟨_, rfl⟩
  obtain ⟨t, ht⟩ : ∃ t, (⟨#[1]⟩ : ByteArray) ++ x ++ y = t := ⟨_, rfl⟩
  have hz : t.size ≤ 8388608 := by rw [← ht, size2]; omega
  have HD : Hid (dg k t = v) := by show dg k t = v; rw [← ht, ← hv]; rfl
  rw [hv]
  clear hv
  go_enter Tryz.func22, Tryz.ntmps22
  go_wp2_with (go_at_call 19; refine (specDg_any k t _ hz v HD.out).mono ?_; rintro e w1 ⟨rfl, hb1⟩)
  go_ret
  exact ⟨rfl, hb1⟩
set_option maxRecDepth 20000 in
theorem implNode_any (k : Int) (x y : ByteArray) (w : World) (hk : KeysAt w) (hx : x.size ≤ 2097152) (hy : y.size ≤ 2097152) :
    Calls Tryz.prog 56 #[.int .i64 k, .string x, .string y] w fun e w' => e = .returned (.string (nodeD k x y)) ∧ Below w.heap.size w w' := by
  have HK : Hid (KeysAt w) := hk
  clear hk
  obtain ⟨v, hv⟩ : ∃ v, nodeD k x y = v := ⟨_, rfl⟩
  obtain ⟨t, ht⟩ : ∃ t, (⟨#[1]⟩ : ByteArray) ++ x ++ y = t := ⟨_, rfl⟩
  have hz : t.size ≤ 8388608 := by rw [← ht, size2]; omega
  have HD : Hid (dg k t = v) := by show dg k t = v; rw [← ht, ← hv]; rfl
  have HT : Hid ((⟨#[1]⟩ : ByteArray) ++ x ++ y = t) := ht
  rw [hv]
  clear hv ht
  go_enter Tryz.func56, Tryz.ntmps56
  go_wp2_with (first | (go_at_call 76; refine (nodeText_any x y t _ hx hy HT.out).mono ?_; rintro e w0 ⟨rfl, rfl⟩) | (go_at_call 14; refine (implDg_any k t _ HK.out hz v HD.out).mono ?_; rintro e w1 ⟨rfl, hb1⟩))
  go_ret
  exact ⟨rfl, hb1⟩
theorem keys_later {w w' : World} (h : KeysAt w) (hb : Below w.heap.size w w') : KeysAt w' := fun i hi => (hb.cell (World.block_lt_of_cell? w _ (h i hi))).trans (h i hi)
end Go.Proofs.YtjbbbfplephkpaaGreatDoor
