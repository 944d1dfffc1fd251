/-
  The root of a list.
-/
import Derived.Test.YtjbbbfplephkpaaGreatDoorSq
namespace Go.Proofs.YtjbbbfplephkpaaGreatDoor
open Go.RowKit
/-- The root of the first n entries of S. -/
def rt (k : Int) : Nat → (Nat → ByteArray) → Nat → ByteArray
  | 0, _, _ => dg k ⟨#[]⟩
  | f + 1, S, n => if n = 0 then dg k ⟨#[]⟩ else if n = 1 then leafD k (S 0) else nodeD k (rt k f S (spl n)) (rt k f (fun j => S (spl n + j)) (n - spl n))
theorem rt_size (k : Int) (f : Nat) (S : Nat → ByteArray) (n : Nat) : (rt k f S n).size ≤ 32 := by
  cases f with
  | zero => exact dg_le _ _
  | succ f =>
    rw [rt]
    split
    · exact dg_le _ _
    · split
      · exact dg_le _ _
      · exact dg_le _ _
theorem rt_wid (k : Int) (f : Nat) (S : Nat → ByteArray) (n : Nat) (hk : k = 0 ∨ k = 1) : (rt k f S n).size = wid k := by
  cases f with
  | zero => exact dg_size k _ hk
  | succ f =>
    rw [rt]
    split
    · exact dg_size k _ hk
    · split
      · exact dg_size k _ hk
      · exact dg_size k _ hk
/-- The fuel doesn't matter. -/
theorem rt_fuel (k : Int) (f : Nat) : ∀ (g n : Nat) (S : Nat → ByteArray), n ≤ f → n ≤ g → n ≤ 1099511627776 → rt k f S n = rt k g S n := by
  induction f with
  | zero =>
    intro g n S hf _ _
    obtain rfl : n = 0 := by omega
    cases g with
    | zero => rfl
    | succ g => rw [rt, rt, if_pos rfl]
  | succ f ih =>
    intro g n S hf hg hn
    cases g with
    | zero =>
      obtain rfl : n = 0 := by omega
      rw [rt, rt, if_pos rfl]
    | succ g =>
      rw [rt, rt]
      by_cases h0 : n = 0
      · rw [if_pos h0, if_pos h0]
      · rw [if_neg h0, if_neg h0]
        by_cases h1 : n = 1
        · rw [if_pos h1, if_pos h1]
        · rw [if_neg h1, if_neg h1]
          have hs := spl_in n (by omega) hn
          rw [ih g (spl n) S (by omega) (by omega) (by omega), ih g (n - spl n) _ (by omega) (by omega) (by omega)]
def RT (k : Int) (S : Nat → ByteArray) (n : Nat) : ByteArray := rt k n S n
theorem RT_one (k : Int) (S : Nat → ByteArray) : RT k S 1 = leafD k (S 0) := by
  unfold RT
  rw [rt, if_neg (by omega), if_pos rfl]
theorem RT_two (k : Int) (S : Nat → ByteArray) (n : Nat) (h : 2 ≤ n) (hn : n ≤ 1099511627776) : RT k S n = nodeD k (RT k S (spl n)) (RT k (fun j => S (spl n + j)) (n - spl n)) := by
  obtain ⟨f, rfl⟩ : ∃ f, n = f + 1 := ⟨n - 1, by omega⟩
  have hs := spl_in (f + 1) h hn
  unfold RT
  rw [rt, if_neg (by omega), if_neg (by omega), rt_fuel k f (spl (f + 1)) (spl (f + 1)) S (by omega) (by omega) (by omega), rt_fuel k f (f + 1 - spl (f + 1)) (f + 1 - spl (f + 1)) _ (by omega) (by omega) (by omega)]
end Go.Proofs.YtjbbbfplephkpaaGreatDoor
