/-
  The frames of a text: what they are; the specification's walk.
-/
import Derived.Test.YtlilmbeehmjpkaaHb
namespace Go.Proofs.Ytlilmbeehmjpkaa
open Go.RowKit
/-- What is left of s at a place. -/
def rst (s : ByteArray) (a : Nat) : ByteArray := s.extract a s.size
/-- The entries L stand as frames in s from a on, and end at b. -/
def Ch (s : ByteArray) : Nat → List ByteArray → Nat → Prop
  | a, [], b => a = b
  | a, x :: xs, b => x = fst (rst s a) ∧ x.size ≠ 0 ∧ Ch s (a + (8 + x.size)) xs b
theorem Ch.snoc {s : ByteArray} {L : List ByteArray} {a b : Nat} (h : Ch s a L b) (x : ByteArray) (hx : x = fst (rst s b)) (h0 : x.size ≠ 0) : Ch s a (L ++ [x]) (b + (8 + x.size)) := by
  induction L generalizing a with
  | nil =>
    obtain rfl : a = b := h
    exact ⟨hx, h0, rfl⟩
  | cons y ys ih => exact ⟨h.1, h.2.1, ih h.2.2⟩
theorem Ch.same {s : ByteArray} {L L' : List ByteArray} {a b b' : Nat} (h : Ch s a L b) (h' : Ch s a L' b') (e : (fst (rst s b)).size = 0) (e' : (fst (rst s b')).size = 0) : L = L' ∧ b = b' := by
  induction L generalizing a L' with
  | nil =>
    obtain rfl : a = b := h
    cases L' with
    | nil => exact ⟨rfl, h'⟩
    | cons y ys =>
      obtain ⟨h1, h2, _⟩ := h'
      rw [h1] at h2
      exact absurd e h2
  | cons x xs ih =>
    obtain ⟨h1, h2, h3⟩ := h
    cases L' with
    | nil =>
      obtain rfl : a = b' := h'
      rw [h1] at h2
      exact absurd e' h2
    | cons y ys =>
      obtain ⟨k1, k2, k3⟩ := h'
      obtain rfl : x = y := h1.trans k1.symm
      obtain ⟨rfl, rfl⟩ := ih h3 k3
      exact ⟨rfl, rfl⟩
theorem rst_size (s : ByteArray) (a : Nat) (_h : a ≤ s.size) : (rst s a).size = s.size - a := by simp [rst]
theorem fst_fits (s : ByteArray) (h : (fst s).size ≠ 0) : 8 + (fst s).size ≤ s.size := by
  by_cases h0 : s.size < 8
  · exact absurd (show (fst s).size = 0 by rw [fst_a h0]; rfl) h
  by_cases h1 : s.size < 8 + be s 0 4
  · exact absurd (show (fst s).size = 0 by rw [fst_b h1]; rfl) h
  by_cases h2 : be s 0 4 = 0 ∨ 60000 < be s 0 4
  · exact absurd (show (fst s).size = 0 by rw [fst_c h2]; rfl) h
  by_cases h3 : crcOf (s.extract 8 (8 + be s 0 4)) = be s 4 4
  · rw [fst_e h0 h1 h2 h3, ext_size s _ (by omega)]
    omega
  · exact absurd (show (fst s).size = 0 by rw [fst_d h3]; rfl) h
theorem rst_fits {s : ByteArray} {b : Nat} (hb : b ≤ s.size) (h : (fst (rst s b)).size ≠ 0) : b + (8 + (fst (rst s b)).size) ≤ s.size := by
  have h1 := fst_fits _ h
  rw [rst_size s b hb] at h1
  omega
theorem rst_rst (s : ByteArray) (a n : Nat) (h : a + n ≤ s.size) : (rst s a).extract n (rst s a).size = rst s (a + n) := by
  apply bytes_eq
  rw [rst_size s a (by omega)]
  unfold rst
  rw [ext_list, ext_list, ext_list, List.drop_take, List.drop_drop, List.take_take]
  congr 1
  omega
theorem rst_zero (s : ByteArray) : rst s 0 = s := by
  apply bytes_eq
  unfold rst
  rw [ext_list, List.drop_zero, List.take_of_length_le (by simp)]
theorem own_below {w w' : World} {base e size n : Nat} {v : Value} {xs : List Value} (h : w.ownsRow base e size v n xs) (hb : Below w.heap.size w w') : w'.ownsRow base e size v n xs := by
  obtain ⟨hl, hh⟩ := h
  refine ⟨hl, ?_⟩
  rcases hh with hh | ⟨gg, cap, cur, e1, e2, e3, e4⟩
  · exact Or.inl hh
  · exact Or.inr ⟨gg, cap, cur, e1, e2, (hb.block gg (Array.getElem?_eq_some_iff.1 e3).1).trans e3, e4⟩
theorem Try.infoS : (Try.prog.info? 9).map (fun i => (i.zero, i.size, i.bytes)) = some (some (.string ByteArray.empty), 1, 16) := by kernel_rfl
/-- A slice of these texts, in a row of its own. -/
def OwnS (w : World) (B : Nat) (g cap : Nat) (L : List ByteArray) : Prop := w.ownsRow B 9 1 (.slice (some ⟨g, 0, none⟩) L.length cap) L.length (L.map Value.string)
end Go.Proofs.Ytlilmbeehmjpkaa
