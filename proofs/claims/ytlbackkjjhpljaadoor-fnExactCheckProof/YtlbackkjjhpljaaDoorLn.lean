/-
  Leaf and Node: what both answer; the two laws' walks.
-/
import Derived.Test.YtlbackkjjhpljaaDoorDg
namespace Go.Proofs.YtlbackkjjhpljaaDoor
open Go.RowKit
/-- The digest of a text. -/
def dg (k : Int) (x : ByteArray) : ByteArray := dig k ⟨(shaL x.data.toList).toArray⟩
def wid (k : Int) : Nat := if k = 1 then 1 else 32
theorem dg_size (k : Int) (x : ByteArray) (h : k = 0 ∨ k = 1) : (dg k x).size = wid k := by
  have e := sha_size x.data.toList _ rfl
  rcases h with rfl | rfl
  · simp [dg, dig, wid]; simpa using e
  · simp only [dg, dig, wid]
    simp at e ⊢
    omega
theorem dg_le (k : Int) (x : ByteArray) : (dg k x).size ≤ 32 := by
  by_cases h : k = 0 ∨ k = 1
  · rw [dg_size k x h]; unfold wid; split <;> omega
  · have h0 : ¬ k = 0 := fun e => h (Or.inl e)
    have h1 : ¬ k = 1 := fun e => h (Or.inr e)
    have e : dg k x = ⟨#[]⟩ := by simp [dg, dig, h0, h1]
    rw [e]; exact Nat.zero_le _
def leafD (k : Int) (e : ByteArray) : ByteArray := dg k (⟨#[0]⟩ ++ e)
def nodeD (k : Int) (l r : ByteArray) : ByteArray := dg k (⟨#[1]⟩ ++ l ++ r)
theorem specDg_any (k : Int) (x : ByteArray) (w : World) (hx : x.size ≤ 8388608) (y : ByteArray) (hy : dg k x = y) :
    Calls Tryd.prog 29 #[.int .i64 k, .string x] w fun e w' => e = .returned (.string y) ∧ Below w.heap.size w w' := by
  subst hy
  exact specDig_any k x w hx _ rfl
theorem implDg_any (k : Int) (x : ByteArray) (w : World) (hk : KeysAt w) (hx : x.size ≤ 8388608) (y : ByteArray) (hy : dg k x = y) :
    Calls Tryd.prog 30 #[.int .i64 k, .string x] w fun e w' => e = .returned (.string y) ∧ Below w.heap.size w w' := by
  subst hy
  exact implDig_any k x w hk hx _ rfl
theorem size1 (b : UInt8) (x : ByteArray) : ((⟨#[b]⟩ : ByteArray) ++ x).size = x.size + 1 := by
  have : (⟨#[b]⟩ : ByteArray).size = 1 := rfl
  rw [ByteArray.size_append]; omega
theorem size2 (b : UInt8) (x y : ByteArray) : ((⟨#[b]⟩ : ByteArray) ++ x ++ y).size = x.size + y.size + 1 := by
  rw [ByteArray.size_append, size1]; omega
set_option maxRecDepth 20000 in
theorem leafText_any (x t : ByteArray) (w : World) (hx : x.size ≤ 4194304) (ht : (⟨#[0]⟩ : ByteArray) ++ x = t) :
    Calls Tryd.prog 31 #[.string x] w fun e w' => e = .returned (.string t) ∧ w' = w := by
  subst ht
  go_enter Tryd.func31, Tryd.ntmps31
  go_wp2
  go_ret
  exact ⟨rfl, rfl⟩
set_option maxRecDepth 20000 in
theorem nodeText_any (x y t : ByteArray) (w : World) (hx : x.size ≤ 2097152) (hy : y.size ≤ 2097152) (ht : (⟨#[1]⟩ : ByteArray) ++ x ++ y = t) :
    Calls Tryd.prog 32 #[.string x, .string y] w fun e w' => e = .returned (.string t) ∧ w' = w := by
  subst ht
  go_enter Tryd.func32, Tryd.ntmps32
  go_wp2
  go_ret
  exact ⟨rfl, rfl⟩
set_option maxRecDepth 20000 in
theorem specLeaf_any (k : Int) (x : ByteArray) (w : World) (hx : x.size ≤ 4194304) :
    Calls Tryd.prog 9 #[.int .i64 k, .string x] w fun e w' => e = .returned (.string (leafD k x)) ∧ Below w.heap.size w w' := by
  obtain ⟨y, hy⟩ : ∃ y, leafD k x = y := ⟨_, rfl⟩
  obtain ⟨t, ht⟩ : ∃ t, (⟨#[0]⟩ : ByteArray) ++ x = t := ⟨_, rfl⟩
  have hz : t.size ≤ 8388608 := by rw [← ht, size1]; omega
  have HD : Hid (dg k t = y) := by show dg k t = y; rw [← ht, ← hy]; rfl
  rw [hy]
  clear hy
  go_enter Tryd.func9, Tryd.ntmps9
  go_wp2_with (go_at_call 29; refine (specDg_any k t _ hz y HD.out).mono ?_; rintro e w1 ⟨rfl, hb1⟩)
  go_ret
  exact ⟨rfl, hb1⟩
set_option maxRecDepth 20000 in
theorem implLeaf_any (k : Int) (x : ByteArray) (w : World) (hk : KeysAt w) (hx : x.size ≤ 4194304) :
    Calls Tryd.prog 10 #[.int .i64 k, .string x] w fun e w' => e = .returned (.string (leafD k x)) ∧ Below w.heap.size w w' := by
  have HK : Hid (KeysAt w) := hk
  clear hk
  obtain ⟨y, hy⟩ : ∃ y, leafD k x = y := ⟨_, rfl⟩
  obtain ⟨t, ht⟩ : ∃ t, (⟨#[0]⟩ : ByteArray) ++ x = t := ⟨_, rfl⟩
  have hz : t.size ≤ 8388608 := by rw [← ht, size1]; omega
  have HD : Hid (dg k t = y) := by show dg k t = y; rw [← ht, ← hy]; rfl
  have HT : Hid ((⟨#[0]⟩ : ByteArray) ++ x = t) := ht
  rw [hy]
  clear hy ht
  go_enter Tryd.func10, Tryd.ntmps10
  go_wp2_with (first | (go_at_call 31; refine (leafText_any x t _ hx HT.out).mono ?_; rintro e w0 ⟨rfl, rfl⟩) | (go_at_call 30; refine (implDg_any k t _ HK.out hz y HD.out).mono ?_; rintro e w1 ⟨rfl, hb1⟩))
  go_ret
  exact ⟨rfl, hb1⟩
set_option maxRecDepth 20000 in
theorem specNode_any (k : Int) (x y : ByteArray) (w : World) (hx : x.size ≤ 2097152) (hy : y.size ≤ 2097152) :
    Calls Tryd.prog 11 #[.int .i64 k, .string x, .string y] w fun e w' => e = .returned (.string (nodeD k x y)) ∧ Below w.heap.size w w' := by
  obtain ⟨v, hv⟩ : ∃ v, nodeD k x y = v := ⟨_, rfl⟩
  obtain ⟨t, ht⟩ : ∃ t, (⟨#[1]⟩ : ByteArray) ++ x ++ y = t := ⟨_, rfl⟩
  have hz : t.size ≤ 8388608 := by rw [← ht, size2]; omega
  have HD : Hid (dg k t = v) := by show dg k t = v; rw [← ht, ← hv]; rfl
  rw [hv]
  clear hv
  go_enter Tryd.func11, Tryd.ntmps11
  go_wp2_with (go_at_call 29; refine (specDg_any k t _ hz v HD.out).mono ?_; rintro e w1 ⟨rfl, hb1⟩)
  go_ret
  exact ⟨rfl, hb1⟩
set_option maxRecDepth 20000 in
theorem implNode_any (k : Int) (x y : ByteArray) (w : World) (hk : KeysAt w) (hx : x.size ≤ 2097152) (hy : y.size ≤ 2097152) :
    Calls Tryd.prog 12 #[.int .i64 k, .string x, .string y] w fun e w' => e = .returned (.string (nodeD k x y)) ∧ Below w.heap.size w w' := by
  have HK : Hid (KeysAt w) := hk
  clear hk
  obtain ⟨v, hv⟩ : ∃ v, nodeD k x y = v := ⟨_, rfl⟩
  obtain ⟨t, ht⟩ : ∃ t, (⟨#[1]⟩ : ByteArray) ++ x ++ y = t := ⟨_, rfl⟩
  have hz : t.size ≤ 8388608 := by rw [← ht, size2]; omega
  have HD : Hid (dg k t = v) := by show dg k t = v; rw [← ht, ← hv]; rfl
  have HT : Hid ((⟨#[1]⟩ : ByteArray) ++ x ++ y = t) := ht
  rw [hv]
  clear hv ht
  go_enter Tryd.func12, Tryd.ntmps12
  go_wp2_with (first | (go_at_call 32; refine (nodeText_any x y t _ hx hy HT.out).mono ?_; rintro e w0 ⟨rfl, rfl⟩) | (go_at_call 30; refine (implDg_any k t _ HK.out hz v HD.out).mono ?_; rintro e w1 ⟨rfl, hb1⟩))
  go_ret
  exact ⟨rfl, hb1⟩
theorem keys_later {w w' : World} (h : KeysAt w) (hb : Below w.heap.size w w') : KeysAt w' := fun i hi => (hb.cell (World.block_lt_of_cell? w _ (h i hi))).trans (h i hi)
end Go.Proofs.YtlbackkjjhpljaaDoor
