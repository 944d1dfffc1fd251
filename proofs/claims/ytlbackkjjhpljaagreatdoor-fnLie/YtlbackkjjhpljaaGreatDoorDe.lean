/-
  A proof that is accepted: the one list begins the other, or the extractor finds a collision.
-/
import Derived.Test.YtlbackkjjhpljaaGreatDoorDn
import Derived.Test.YtlbackkjjhpljaaGreatDoorCs
namespace Go.Proofs.YtlbackkjjhpljaaGreatDoor
open Go.RowKit
/-- The text under the root of n entries, split at s. -/
def ins (k : Int) (L : Nat → ByteArray) (n s : Nat) : ByteArray := one1 (RT k L s) (RT k (fun j => L (s + j)) (n - s))
/-- What the comparison of two lists of one length answers, and whether there was a candidate. -/
def cmp (k : Int) : Nat → (Nat → ByteArray) → (Nat → ByteArray) → Nat → Pr × Bool
  | 0, A, B, n => if ∀ j, j < n → A j = B j then (noPr, false) else (cand k (zero1 (A 0)) (zero1 (B 0)), true)
  | f + 1, A, B, n =>
    if ∀ j, j < n → A j = B j then (noPr, false)
    else if n = 1 then (cand k (zero1 (A 0)) (zero1 (B 0)), true)
    else if ins k A n (spl n) = ins k B n (spl n) then
      (if (cmp k f A B (spl n)).2 = true then ((cmp k f A B (spl n)).1, true) else cmp k f (fun j => A (spl n + j)) (fun j => B (spl n + j)) (n - spl n))
    else (cand k (ins k A n (spl n)) (ins k B n (spl n)), true)
theorem cmp_same (k : Int) (f : Nat) (A B : Nat → ByteArray) (n : Nat) (h : ∀ j, j < n → A j = B j) : cmp k f A B n = (noPr, false) := by
  cases f with
  | zero => rw [cmp, if_pos h]
  | succ f => rw [cmp, if_pos h]
theorem cmp_one (k : Int) (A B : Nat → ByteArray) (h : RT k A 1 = RT k B 1) (hne : ¬ ∀ j, j < 1 → A j = B j) : Coll k (cand k (zero1 (A 0)) (zero1 (B 0))) := by
  rw [RT_one, RT_one, leafD_is, leafD_is] at h
  refine cand_coll h fun h' => hne fun j hj => ?_
  obtain rfl : j = 0 := by omega
  exact app_one h'
theorem cmp_found (k : Int) (hk : k = 0 ∨ k = 1) (f : Nat) : ∀ (A B : Nat → ByteArray) (n : Nat), f ≤ 40 → 1 ≤ n → n ≤ 2 ^ f → RT k A n = RT k B n → (¬ ∀ j, j < n → A j = B j) → (cmp k f A B n).2 = true ∧ Coll k (cmp k f A B n).1 := by
  induction f with
  | zero =>
    intro A B n _ h1 hf h hne
    obtain rfl : n = 1 := by simp at hf; omega
    rw [cmp, if_neg hne]
    exact ⟨rfl, cmp_one k A B h hne⟩
  | succ f ih =>
    intro A B n h40 h1 hf h hne
    have hcap := cap40 h40 hf
    rw [cmp, if_neg hne]
    by_cases hn : n = 1
    · subst hn
      rw [if_pos rfl]
      exact ⟨rfl, cmp_one k A B h hne⟩
    · rw [if_neg hn]
      have hs := spl_in n (by omega) hcap
      have hh := spl_half f n (by omega) hcap hf
      rw [RT_two k A n (by omega) hcap, RT_two k B n (by omega) hcap] at h
      by_cases e : ins k A n (spl n) = ins k B n (spl n)
      · rw [if_pos e]
        obtain ⟨e1, e2⟩ := app_parts (by rw [RT_wid k hk, RT_wid k hk]) e
        by_cases hl : ∀ j, j < spl n → A j = B j
        · rw [cmp_same k f A B (spl n) hl, if_neg (by simp)]
          refine ih _ _ (n - spl n) (by omega) (by omega) (by omega) e2 fun hr => hne fun j hj => ?_
          by_cases hj2 : j < spl n
          · exact hl j hj2
          · have := hr (j - spl n) (by omega)
            rw [show spl n + (j - spl n) = j by omega] at this
            exact this
        · obtain ⟨d, c⟩ := ih A B (spl n) (by omega) (by omega) hh e1 hl
          rw [if_pos d]
          exact ⟨rfl, c⟩
      · rw [if_neg e]
        exact ⟨rfl, cand_coll h e⟩
/-- What the extractor answers for a proof S of q elements, from the top down. -/
def stp (k : Int) (O : ByteArray) (S : Nat → ByteArray) : Nat → (Nat → ByteArray) → (Nat → ByteArray) → Nat → Nat → Nat → Bool → Pr
  | 0, A, B, _, n, _, _ => (cmp k 0 A B n).1
  | f + 1, A, B, m, n, q, b =>
    if m = n then (cmp k (f + 1) A B n).1
    else if m ≤ spl n then
      (if one1 (cq k O S f m (spl n) (q - 1) b).2 (S (q - 1)) = ins k B n (spl n) then stp k O S f A B m (spl n) (q - 1) b
      else cand k (one1 (cq k O S f m (spl n) (q - 1) b).2 (S (q - 1))) (ins k B n (spl n)))
    else
      (if one1 (S (q - 1)) (cq k O S f (m - spl n) (n - spl n) (q - 1) false).1 = ins k A m (spl n) then
        (if one1 (S (q - 1)) (cq k O S f (m - spl n) (n - spl n) (q - 1) false).2 = ins k B n (spl n) then
          (if (cmp k f A B (spl n)).2 = true then (cmp k f A B (spl n)).1 else stp k O S f (fun j => A (spl n + j)) (fun j => B (spl n + j)) (m - spl n) (n - spl n) (q - 1) false)
        else cand k (one1 (S (q - 1)) (cq k O S f (m - spl n) (n - spl n) (q - 1) false).2) (ins k B n (spl n)))
      else cand k (one1 (S (q - 1)) (cq k O S f (m - spl n) (n - spl n) (q - 1) false).1) (ins k A m (spl n)))
theorem cq_wid2 (k : Int) (hk : k = 0 ∨ k = 1) (O : ByteArray) (S : Nat → ByteArray) (hO : O.size = wid k) (f m n q : Nat) (b : Bool) (hq : q = ql f m n b) (hS : ∀ j, j < q → (S j).size = wid k) : (cq k O S f m n q b).2.size = wid k := by
  have base : ∀ q : Nat, q = (if b then 0 else 1) → (∀ j, j < q → (S j).size = wid k) → (if b then (O, O) else (S 0, S 0)).2.size = wid k := by
    intro q hq hS
    cases b
    · exact hS 0 (by rw [hq]; decide)
    · exact hO
  cases f with
  | zero => rw [cq]; exact base q hq hS
  | succ f =>
    by_cases hn : m = n
    · subst hn
      rw [cq_same]
      rw [ql_same] at hq
      exact base q hq hS
    · rw [cq, if_neg hn]
      split
      · exact dg_size k _ hk
      · exact dg_size k _ hk
/-- The split of what lies between s and 2 s. -/
theorem spl_mid (m n : Nat) (hn : 2 ≤ n) (hc : n ≤ 1099511627776) (h1 : spl n < m) (h2 : m ≤ n) : spl m = spl n := by
  have hs := spl_in n hn hc
  obtain ⟨b, hb, e⟩ := sp_is 40 n 1
  rw [Nat.one_mul] at e
  have e' : spl n = 2 ^ b := e
  obtain ⟨c, hc', g⟩ := sp_is 40 m 1
  rw [Nat.one_mul] at g
  have g' : spl m = 2 ^ c := g
  have hm := spl_in m (by omega) (by omega)
  rw [e'] at hs h1
  rw [g'] at hm
  rw [e', g']
  have a1 : 2 ^ c < 2 ^ (b + 1) := by rw [Nat.pow_succ]; omega
  have a2 : 2 ^ b < 2 ^ (c + 1) := by rw [Nat.pow_succ]; omega
  have b1 := (Nat.pow_lt_pow_iff_right (by decide : 1 < 2)).1 a1
  have b2 := (Nat.pow_lt_pow_iff_right (by decide : 1 < 2)).1 a2
  rw [show c = b by omega]
/-- An accepted proof: the one list begins the other, or the answer is a collision. -/
theorem stp_found (k : Int) (hk : k = 0 ∨ k = 1) (O : ByteArray) (S : Nat → ByteArray) (hO : O.size = wid k) (f : Nat) : ∀ (A B : Nat → ByteArray) (m n q : Nat) (b : Bool), f ≤ 40 → 1 ≤ m → m ≤ n → n ≤ 2 ^ f → q = ql f m n b → (∀ j, j < q → (S j).size = wid k) → (cq k O S f m n q b).1 = RT k A m → (cq k O S f m n q b).2 = RT k B n →
    (∀ j, j < m → A j = B j) ∨ Coll k (stp k O S f A B m n q b) := by
  have same : ∀ (f : Nat) (A B : Nat → ByteArray) (m q : Nat) (b : Bool), f ≤ 40 → 1 ≤ m → m ≤ 2 ^ f → (cq k O S f m m q b).1 = RT k A m → (cq k O S f m m q b).2 = RT k B m → (∀ j, j < m → A j = B j) ∨ Coll k (cmp k f A B m).1 := by
    intro f A B m q b h40 h1 hf ha hb
    rw [cq_same] at ha hb
    have e : RT k A m = RT k B m := by
      rw [← ha, ← hb]
      cases b <;> rfl
    by_cases hs : ∀ j, j < m → A j = B j
    · exact Or.inl hs
    · exact Or.inr (cmp_found k hk f A B m h40 h1 hf e hs).2
  induction f with
  | zero =>
    intro A B m n q b h40 h1 hmn hf hq hS ha hb
    obtain rfl : n = 1 := by simp at hf; omega
    obtain rfl : m = 1 := by omega
    rw [stp]
    exact same 0 A B 1 q b h40 h1 hf ha hb
  | succ f ih =>
    intro A B m n q b h40 h1 hmn hf hq hS ha hb
    have hcap := cap40 h40 hf
    by_cases hn : m = n
    · subst hn
      rw [stp, if_pos rfl]
      exact same (f + 1) A B m q b h40 h1 hf ha hb
    · have hs := spl_in n (by omega) hcap
      have hh := spl_half f n (by omega) hcap hf
      rw [ql, if_neg hn] at hq
      rw [cq, if_neg hn] at ha hb
      rw [stp, if_neg hn]
      by_cases hlt : m ≤ spl n
      · rw [if_pos hlt] at hq ha hb ⊢
        rw [RT_two k B n (by omega) hcap] at hb
        by_cases e : one1 (cq k O S f m (spl n) (q - 1) b).2 (S (q - 1)) = ins k B n (spl n)
        · rw [if_pos e]
          obtain ⟨e1, -⟩ := app_parts (by rw [cq_wid2 k hk O S hO f m (spl n) (q - 1) b (by omega) (fun j hj => hS j (by omega)), RT_wid k hk]) e
          exact ih A B m (spl n) (q - 1) b (by omega) h1 hlt hh (by omega) (fun j hj => hS j (by omega)) ha e1
        · rw [if_neg e]
          exact Or.inr (cand_coll hb e)
      · rw [if_neg hlt] at hq ha hb ⊢
        have hz : (S (q - 1)).size = wid k := hS (q - 1) (by omega)
        have hm := spl_mid m n (by omega) hcap (by omega) hmn
        rw [RT_two k B n (by omega) hcap] at hb
        rw [RT_two k A m (by omega) (by omega), hm] at ha
        by_cases e : one1 (S (q - 1)) (cq k O S f (m - spl n) (n - spl n) (q - 1) false).1 = ins k A m (spl n)
        · rw [if_pos e]
          by_cases e' : one1 (S (q - 1)) (cq k O S f (m - spl n) (n - spl n) (q - 1) false).2 = ins k B n (spl n)
          · rw [if_pos e']
            obtain ⟨a1, a2⟩ := app_parts (by rw [hz, RT_wid k hk]) e
            obtain ⟨b1, b2⟩ := app_parts (by rw [hz, RT_wid k hk]) e'
            by_cases hl : ∀ j, j < spl n → A j = B j
            · rw [cmp_same k f A B (spl n) hl, if_neg (by simp)]
              rcases ih (fun j => A (spl n + j)) (fun j => B (spl n + j)) (m - spl n) (n - spl n) (q - 1) false (by omega) (by omega) (by omega) (by omega) (by omega) (fun j hj => hS j (by omega)) a2 b2 with hr | hc
              · refine Or.inl fun j hj => ?_
                by_cases hj2 : j < spl n
                · exact hl j hj2
                · have := hr (j - spl n) (by omega)
                  rw [show spl n + (j - spl n) = j by omega] at this
                  exact this
              · exact Or.inr hc
            · obtain ⟨d, c⟩ := cmp_found k hk f A B (spl n) (by omega) (by omega) hh (a1.symm.trans b1) hl
              rw [if_pos d]
              exact Or.inr c
          · rw [if_neg e']
            exact Or.inr (cand_coll hb e')
        · rw [if_neg e]
          exact Or.inr (cand_coll ha e)
end Go.Proofs.YtlbackkjjhpljaaGreatDoor
