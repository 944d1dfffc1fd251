/-
  A tree with one entry more: what it is; rows of strings that a call owns.
-/
import Derived.Test.YtjbbbfplephkpaaGreatDoorMs
import Derived.Deep.AppendLies
namespace Go.Proofs.YtjbbbfplephkpaaGreatDoor
open Go.RowKit
def trail : Nat → Nat → Nat
  | 0, _ => 0
  | f + 1, x => if x % 2 = 1 then trail f (x / 2) + 1 else 0
theorem trail_more (f x : Nat) (h : x < 2 ^ f) : trail (f + 1) x = trail f x := by
  induction f generalizing x with
  | zero => have : x = 0 := by simpa using h
            subst this; rfl
  | succ f ih =>
    have h' : x / 2 < 2 ^ f := by rw [Nat.pow_succ] at h; omega
    have := ih (x / 2) h'
    show (if x % 2 = 1 then trail (f + 1) (x / 2) + 1 else 0) = if x % 2 = 1 then trail f (x / 2) + 1 else 0
    rw [this]
/-- How many of the lowest bits are 1, for x below 2048. -/
def lows (x : Nat) : Nat := trail 12 x
theorem lows_odd (x : Nat) (h : x < 2048) (ho : x % 2 = 1) : lows x = lows (x / 2) + 1 := by
  unfold lows
  rw [trail_more 11 (x / 2) (by omega)]
  show (if x % 2 = 1 then trail 11 (x / 2) + 1 else 0) = _
  rw [if_pos ho]
theorem lows_even (x : Nat) (he : ¬ x % 2 = 1) : lows x = 0 := by
  unfold lows
  show (if x % 2 = 1 then trail 11 (x / 2) + 1 else 0) = 0
  rw [if_neg he]
/-- The new piece's digest after i joins. -/
def gl (k : Int) (S : Nat → ByteArray) (n : Nat) (e : ByteArray) : Nat → ByteArray
  | 0 => leafD k e
  | i + 1 => nodeD k (S (n - 1 - i)) (gl k S n e i)
theorem gl_wid (k : Int) (S : Nat → ByteArray) (n : Nat) (e : ByteArray) (hk : k = 0 ∨ k = 1) : ∀ i, (gl k S n e i).size = wid k
  | 0 => dg_size k _ hk
  | _ + 1 => dg_size k _ hk
/-- n strings as cells. -/
def strs (S : Nat → ByteArray) (n : Nat) : List Value := (List.range n).map fun i => .string (S i)
theorem strs_len (S : Nat → ByteArray) (n : Nat) : (strs S n).length = n := by simp [strs]
theorem strs_get (S : Nat → ByteArray) (n j : Nat) (h : j < n) : (strs S n)[j]? = some (.string (S j)) := by simp [strs, h]
theorem strs_one (S : Nat → ByteArray) (n : Nat) : ∀ v ∈ strs S n, v.oneCell' = true := by
  intro v hv
  simp only [strs, List.mem_map] at hv
  obtain ⟨i, _, rfl⟩ := hv
  rfl
theorem strs_take (S : Nat → ByteArray) (n m : Nat) (h : m ≤ n) : (strs S n).take m = strs S m := by
  apply List.ext_getElem?
  intro i
  by_cases hi : i < m
  · rw [List.getElem?_take, if_pos hi, strs_get S n i (by omega), strs_get S m i hi]
  · rw [List.getElem?_take, if_neg hi, List.getElem?_eq_none (by rw [strs_len]; omega)]
theorem own_cell {w : World} {B g n cap : Nat} {xs : List Value} (h : w.ownsRow B 9 1 (.slice (some ⟨g, 0, none⟩) n cap) n xs) (j : Nat) (v : Value) (hj : xs[j]? = some v) : w.cell? ⟨g, j, none⟩ = some v := by
  rcases h.2 with ⟨h0, _⟩ | ⟨g', cap', cur, hv, hb, hg, hn, hc, hs, ht⟩
  · simp at h0
  · simp at hv
    obtain ⟨rfl, rfl⟩ := hv
    have hjl : j < n := by have := (List.getElem?_eq_some_iff.1 hj).1; have := h.1; omega
    rw [cell_of_row w g j _ _ _ hg]
    rw [← ht, List.getElem?_take] at hj
    rw [if_pos (by omega)] at hj
    simpa using hj
theorem own_sl {w : World} {B g n cap : Nat} {T : Nat → ByteArray} (h : w.ownsRow B 9 1 (.slice (some ⟨g, 0, none⟩) n cap) n (strs T n)) (hn : n ≤ 1048576) (hs : ∀ k, k < n → (T k).size ≤ 9223372036854775807) : Sl w (some ⟨g, 0, none⟩) n T := by
  refine ⟨by omega, fun k hk => ⟨hs k hk, g, 0, rfl, ?_⟩⟩
  rw [Nat.zero_add]
  exact own_cell h k _ (strs_get T n k hk)
theorem own_cut {w : World} {B g n cap : Nat} {S : Nat → ByteArray} (h : w.ownsRow B 9 1 (.slice (some ⟨g, 0, none⟩) n cap) n (strs S n)) (m : Nat) (hm : m ≤ n) : w.ownsRow B 9 1 (.slice (some ⟨g, 0, none⟩) m cap) m (strs S m) := by
  rcases h.2 with ⟨h0, _⟩ | ⟨g', cap', cur, hv, hb, hg, hn, hc, hs, ht⟩
  · simp at h0
  · simp at hv
    obtain ⟨rfl, rfl⟩ := hv
    refine ⟨by rw [strs_len]; omega, .inr ⟨g, cap, cur, rfl, hb, hg, by omega, hc, hs, ?_⟩⟩
    have e : cur.toList.take (m * 1) = (cur.toList.take (n * 1)).take (m * 1) := by rw [List.take_take, Nat.min_eq_left (by omega)]
    rw [e, ht, Nat.mul_one, strs_take S n m hm]
theorem own_cap {w : World} {B g n cap : Nat} {xs : List Value} (h : w.ownsRow B 9 1 (.slice (some ⟨g, 0, none⟩) n cap) n xs) : n ≤ cap ∧ B ≤ g ∧ g < w.heap.size ∧ cap ≤ 9223372036854775807 := by
  rcases h.2 with ⟨h0, _⟩ | ⟨g', cap', cur, hv, hb, hg, hn, hc, hs, ht⟩
  · simp at h0
  · simp at hv
    obtain ⟨rfl, rfl⟩ := hv
    unfold maxLen at hc
    exact ⟨hn, hb, (Array.getElem?_eq_some_iff.1 hg).1, by omega⟩
theorem own_later {w w' : World} {B g n cap : Nat} {xs : List Value} (h : w.ownsRow B 9 1 (.slice (some ⟨g, 0, none⟩) n cap) n xs) (hb : Below w.heap.size w w') : w'.ownsRow B 9 1 (.slice (some ⟨g, 0, none⟩) n cap) n xs :=
  h.kept (row := none) ⟨hb.os, hb.tape, hb.output, hb.size, fun k hk _ => hb.block k hk⟩ (Or.inr (by simp [Value.ownBlock]))
/-- The Peaks of the tree that has grown. -/
def grownS (k : Int) (S : Nat → ByteArray) (n : Nat) (e : ByteArray) (r : Nat) : Nat → ByteArray := fun j => if j < n - r then S j else gl k S n e r
theorem strs_grown (k : Int) (S : Nat → ByteArray) (n : Nat) (e : ByteArray) (r : Nat) : strs S (n - r) ++ [.string (gl k S n e r)] = strs (grownS k S n e r) (n - r + 1) := by
  unfold strs
  rw [List.range_succ, List.map_append]
  congr 1
  · apply List.map_congr_left
    intro i hi
    have := List.mem_range.1 hi
    simp [grownS, this]
  · simp [grownS]
theorem on_pos (x : Nat) (h : x < 2048) (ho : x % 2 = 1) : on x = on (x / 2) + 1 := by rw [on_step x h]; omega
end Go.Proofs.YtjbbbfplephkpaaGreatDoor
