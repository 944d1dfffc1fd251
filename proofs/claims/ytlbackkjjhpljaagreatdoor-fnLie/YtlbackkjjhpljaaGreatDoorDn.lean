/-
  A path that is accepted: the entry is the list's, or the extractor finds a collision.
-/
import Derived.Test.YtlbackkjjhpljaaGreatDoorRt
import Derived.Test.YtlbackkjjhpljaaGreatDoorCp
namespace Go.Proofs.YtlbackkjjhpljaaGreatDoor
open Go.RowKit
theorem ba_app (a b : ByteArray) : (a ++ b).data.toList = a.data.toList ++ b.data.toList := by simp
theorem ba_same {a b : ByteArray} (h : a.data.toList = b.data.toList) : a = b := (ba_ext a _ h).trans (ba_ext b _ rfl).symm
theorem app_parts {u : UInt8} {a b c d : ByteArray} (hs : a.size = c.size) (h : (⟨#[u]⟩ : ByteArray) ++ a ++ b = ⟨#[u]⟩ ++ c ++ d) : a = c ∧ b = d := by
  have h1 := congrArg (fun x : ByteArray => x.data.toList) h
  simp only [ba_app, List.append_assoc] at h1
  have h2 := List.append_cancel_left h1
  have hl : a.data.toList.length = c.data.toList.length := by simpa using hs
  obtain ⟨h3, h4⟩ := List.append_inj h2 hl
  exact ⟨ba_same h3, ba_same h4⟩
theorem app_one {u : UInt8} {a b : ByteArray} (h : (⟨#[u]⟩ : ByteArray) ++ a = ⟨#[u]⟩ ++ b) : a = b := by
  have h1 := congrArg (fun x : ByteArray => x.data.toList) h
  simp only [ba_app] at h1
  exact ba_same (List.append_cancel_left h1)
/-- A pair: found or not, and its two texts. -/
structure Pr where
  f : Bool
  x : ByteArray
  y : ByteArray
def noPr : Pr := ⟨false, ⟨#[]⟩, ⟨#[]⟩⟩
def cand (k : Int) (x y : ByteArray) : Pr := if dg k x = dg k y then ⟨true, x, y⟩ else noPr
/-- Two different texts with one digest. -/
def Coll (k : Int) (p : Pr) : Prop := p.f = true ∧ p.x ≠ p.y ∧ dg k p.x = dg k p.y
theorem cand_coll {k : Int} {x y : ByteArray} (h : dg k x = dg k y) (hne : x ≠ y) : Coll k (cand k x y) := by
  unfold cand
  rw [if_pos h]
  exact ⟨rfl, hne, h⟩
def one1 (a b : ByteArray) : ByteArray := ⟨#[1]⟩ ++ a ++ b
def zero1 (a : ByteArray) : ByteArray := ⟨#[0]⟩ ++ a
theorem leafD_is (k : Int) (e : ByteArray) : leafD k e = dg k (zero1 e) := rfl
theorem nodeD_is (k : Int) (a b : ByteArray) : nodeD k a b = dg k (one1 a b) := rfl
/-- What the extractor answers for a path S of m elements, from the top down. -/
def dn (k : Int) (E : ByteArray) (S : Nat → ByteArray) : Nat → (Nat → ByteArray) → Nat → Nat → Nat → Pr
  | 0, L, _, _, _ => if E = L 0 then noPr else cand k (zero1 E) (zero1 (L 0))
  | f + 1, L, i, n, m =>
    if n = 1 then (if E = L 0 then noPr else cand k (zero1 E) (zero1 (L 0)))
    else if i < spl n then
      (if one1 (cl k E S f i (spl n) (m - 1)) (S (m - 1)) = one1 (RT k L (spl n)) (RT k (fun j => L (spl n + j)) (n - spl n)) then dn k E S f L i (spl n) (m - 1)
      else cand k (one1 (cl k E S f i (spl n) (m - 1)) (S (m - 1))) (one1 (RT k L (spl n)) (RT k (fun j => L (spl n + j)) (n - spl n))))
    else
      (if one1 (S (m - 1)) (cl k E S f (i - spl n) (n - spl n) (m - 1)) = one1 (RT k L (spl n)) (RT k (fun j => L (spl n + j)) (n - spl n)) then dn k E S f (fun j => L (spl n + j)) (i - spl n) (n - spl n) (m - 1)
      else cand k (one1 (S (m - 1)) (cl k E S f (i - spl n) (n - spl n) (m - 1))) (one1 (RT k L (spl n)) (RT k (fun j => L (spl n + j)) (n - spl n))))
theorem cl_wid (k : Int) (hk : k = 0 ∨ k = 1) (e : ByteArray) (S : Nat → ByteArray) (f i n m : Nat) : (cl k e S f i n m).size = wid k := by
  cases f with
  | zero => exact dg_size k _ hk
  | succ f =>
    rw [cl]
    split
    · exact dg_size k _ hk
    · split
      · exact dg_size k _ hk
      · exact dg_size k _ hk
theorem RT_wid (k : Int) (hk : k = 0 ∨ k = 1) (S : Nat → ByteArray) (n : Nat) : (RT k S n).size = wid k := rt_wid k n S n hk
theorem dn_one (k : Int) (E : ByteArray) (L : Nat → ByteArray) (h : leafD k E = RT k L 1) : E = L 0 ∨ Coll k (if E = L 0 then noPr else cand k (zero1 E) (zero1 (L 0))) := by
  by_cases e : E = L 0
  · exact Or.inl e
  · rw [if_neg e]
    rw [RT_one, leafD_is, leafD_is] at h
    exact Or.inr (cand_coll h fun h' => e (app_one h'))
/-- An accepted path: the entry is the list's, or the answer is a collision. -/
theorem dn_found (k : Int) (hk : k = 0 ∨ k = 1) (E : ByteArray) (S : Nat → ByteArray) (f : Nat) : ∀ (L : Nat → ByteArray) (i n m : Nat), f ≤ 40 → 1 ≤ n → n ≤ 2 ^ f → i < n → m = pl f i n → (∀ j, j < m → (S j).size = wid k) → cl k E S f i n m = RT k L n →
    E = L i ∨ Coll k (dn k E S f L i n m) := by
  induction f with
  | zero =>
    intro L i n m _ h1 hf hi hm hS h
    obtain rfl : n = 1 := by simp at hf; omega
    obtain rfl : i = 0 := by omega
    rw [dn]
    exact dn_one k E L h
  | succ f ih =>
    intro L i n m h40 h1 hf hi hm hS h
    have hcap := cap40 h40 hf
    by_cases hn : n = 1
    · subst hn
      obtain rfl : i = 0 := by omega
      rw [dn, if_pos rfl]
      rw [cl, if_pos rfl] at h
      exact dn_one k E L h
    · rw [pl, if_neg hn] at hm
      rw [cl, if_neg hn, RT_two k L n (by omega) hcap] at h
      rw [dn, if_neg hn]
      have hs := spl_in n (by omega) hcap
      have hh := spl_half f n (by omega) hcap hf
      by_cases hlt : i < spl n
      · rw [if_pos hlt] at hm h ⊢
        by_cases e : one1 (cl k E S f i (spl n) (m - 1)) (S (m - 1)) = one1 (RT k L (spl n)) (RT k (fun j => L (spl n + j)) (n - spl n))
        · rw [if_pos e]
          obtain ⟨e1, -⟩ := app_parts (by rw [cl_wid k hk, RT_wid k hk]) e
          exact ih L i (spl n) (m - 1) (by omega) (by omega) hh hlt (by omega) (fun j hj => hS j (by omega)) e1
        · rw [if_neg e]
          exact Or.inr (cand_coll h e)
      · rw [if_neg hlt] at hm h ⊢
        by_cases e : one1 (S (m - 1)) (cl k E S f (i - spl n) (n - spl n) (m - 1)) = one1 (RT k L (spl n)) (RT k (fun j => L (spl n + j)) (n - spl n))
        · rw [if_pos e]
          obtain ⟨-, e2⟩ := app_parts (by rw [hS (m - 1) (by omega), RT_wid k hk]) e
          have := ih (fun j => L (spl n + j)) (i - spl n) (n - spl n) (m - 1) (by omega) (by omega) (by omega) (by omega) (by omega) (fun j hj => hS j (by omega)) e2
          rw [show spl n + (i - spl n) = i by omega] at this
          exact this
        · rw [if_neg e]
          exact Or.inr (cand_coll h e)
end Go.Proofs.YtlbackkjjhpljaaGreatDoor
