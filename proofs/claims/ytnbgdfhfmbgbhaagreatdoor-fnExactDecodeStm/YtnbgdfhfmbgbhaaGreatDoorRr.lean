/-
  Statements read: the lists of columns, values and expressions.
-/
import Derived.Test.YtnbgdfhfmbgbhaaGreatDoorRn
import Derived.Test.YtnbgdfhfmbgbhaaGreatDoorQa
namespace Go.Proofs.YtnbgdfhfmbgbhaaGreatDoor
open Go.RowKit Go.Maps Go.WideMaps
theorem flat_len {F : Nat → List Value} {z : Nat} (hF : ∀ j, (F j).length = z) : ∀ m, (flat F m).length = m * z
  | 0 => by simp [flat]
  | m + 1 => by rw [flat, List.length_append, flat_len hF m, hF, Nat.succ_mul]
theorem flat_get {F : Nat → List Value} {z : Nat} (hF : ∀ j, (F j).length = z) {j c : Nat} (hc : c < z) : ∀ m, j < m → (flat F m)[j * z + c]? = (F j)[c]?
  | 0, h => by omega
  | m + 1, h => by
    rw [flat]
    by_cases e : j = m
    · subst e
      rw [List.getElem?_append_right (by rw [flat_len hF]; omega), flat_len hF, Nat.add_sub_cancel_left]
    · have h1 : j * z + c < (flat F m).length := by
        rw [flat_len hF]
        have : (j + 1) * z ≤ m * z := Nat.mul_le_mul_right _ (by omega)
        rw [Nat.succ_mul] at this
        omega
      rw [List.getElem?_append_left h1]
      exact flat_get hF hc m (by omega)
theorem cut_size (s : ByteArray) (n : Nat) : ∀ p : Option Nat, (cutV s n p).size ≤ s.size
  | none => Nat.zero_le _
  | some a => by
    simp only [cutV]
    split
    · rw [ByteArray.size_extract]; omega
    · exact Nat.zero_le _
theorem txt_size (s : ByteArray) (k : Nat) (p : Option Nat) : (txtV s k p).size ≤ s.size := cut_size _ _ _
theorem itm_size (s : ByteArray) (p : Option Nat) : (itmV s p).s.size ≤ s.size := by
  unfold itmV
  (repeat' split) <;> first | exact txt_size _ _ _ | exact Nat.zero_le _
theorem vl_size (s : ByteArray) (p : Option Nat) : (vlV s p).s.size ≤ s.size := by
  unfold vlV
  split <;> first | exact txt_size _ _ _ | exact Nat.zero_le _
theorem wrap_rng (x : Int) : rng (wrap64 x) := by
  unfold rng wrap64
  omega
theorem num_rng (s : ByteArray) (k : Nat) : ∀ p : Option Nat, rng (numV s k p)
  | none => by show rng 0; unfold rng; omega
  | some a => by
    simp only [numV]
    split
    · exact wrap_rng _
    · unfold rng; omega
theorem itm_rng (s : ByteArray) (p : Option Nat) : rng (itmV s p).m := by
  unfold itmV
  (repeat' split) <;> first | exact num_rng _ _ _ | (show rng 0; unfold rng; omega)
theorem vl_rng (s : ByteArray) (p : Option Nat) : rng (vlV s p).m := by
  unfold vlV
  split <;> first | exact num_rng _ _ _ | (show rng 0; unfold rng; omega)
theorem LsI.il {w : World} {base B : Nat} {s : ByteArray} {q : Option Nat} {n m g cap : Nat} (h : LsI w base B s q n m g cap) (hs : s.size ≤ 1048576) : IL w (some ⟨g, 0, none⟩) m (fun j => itmV s (rep (itmP s) q j)) := fun k hk => by
  have hF : ∀ j, ([Value.int .i64 (itmV s (rep (itmP s) q j)).o, Value.int .i64 (itmV s (rep (itmP s) q j)).m, Value.string (itmV s (rep (itmP s) q j)).s] : List Value).length = 3 := fun _ => rfl
  refine ⟨g, 0, rfl, ?_, ?_, ?_, Nat.le_trans (itm_size _ _) hs⟩
  · have h1 := h.own.cellAt (k * 3) (by omega)
    rw [Nat.zero_add, h1]
    have := flat_get hF (j := k) (c := 0) (by omega) m hk
    simpa using this
  · have h1 := h.own.cellAt (k * 3 + 1) (by omega)
    rw [Nat.zero_add, h1]
    have := flat_get hF (j := k) (c := 1) (by omega) m hk
    simpa using this
  · have h1 := h.own.cellAt (k * 3 + 2) (by omega)
    rw [Nat.zero_add, h1]
    have := flat_get hF (j := k) (c := 2) (by omega) m hk
    simpa using this
end Go.Proofs.YtnbgdfhfmbgbhaaGreatDoor
namespace Go.Proofs.YtnbgdfhfmbgbhaaGreatDoor
open Go.RowKit Go.Maps Go.WideMaps
theorem own_cl {w : World} {base g m cap : Nat} {s : ByteArray} {q : Option Nat} (h : w.ownsRow base 49 2 (.slice (some ⟨g, 0, none⟩) m cap) m (flat (fun j => [Value.string (clV s (rep (clP s) q j)).s, Value.int .i64 (clV s (rep (clP s) q j)).t]) m)) (hs : s.size ≤ 1048576) : CL w (some ⟨g, 0, none⟩) m (fun j => clV s (rep (clP s) q j)) := fun k hk => by
  have hF : ∀ j, ([Value.string (clV s (rep (clP s) q j)).s, Value.int .i64 (clV s (rep (clP s) q j)).t] : List Value).length = 2 := fun _ => rfl
  refine ⟨g, 0, rfl, ?_, ?_, Nat.le_trans (txt_size _ _ _) hs⟩
  · have h1 := h.cellAt (k * 2) (by omega)
    rw [Nat.zero_add, h1]
    have := flat_get hF (j := k) (c := 0) (by omega) m hk
    simpa using this
  · have h1 := h.cellAt (k * 2 + 1) (by omega)
    rw [Nat.zero_add, h1]
    have := flat_get hF (j := k) (c := 1) (by omega) m hk
    simpa using this
theorem own_il {w : World} {base g m cap : Nat} {s : ByteArray} {q : Option Nat} (h : w.ownsRow base 51 3 (.slice (some ⟨g, 0, none⟩) m cap) m (flat (fun j => [Value.int .i64 (vlV s (rep (vlP s) q j)).o, Value.int .i64 (vlV s (rep (vlP s) q j)).m, Value.string (vlV s (rep (vlP s) q j)).s]) m)) (hs : s.size ≤ 1048576) : IL w (some ⟨g, 0, none⟩) m (fun j => vlV s (rep (vlP s) q j)) := fun k hk => by
  have hF : ∀ j, ([Value.int .i64 (vlV s (rep (vlP s) q j)).o, Value.int .i64 (vlV s (rep (vlP s) q j)).m, Value.string (vlV s (rep (vlP s) q j)).s] : List Value).length = 3 := fun _ => rfl
  refine ⟨g, 0, rfl, ?_, ?_, ?_, Nat.le_trans (vl_size _ _) hs⟩
  · have h1 := h.cellAt (k * 3) (by omega)
    rw [Nat.zero_add, h1]
    have := flat_get hF (j := k) (c := 0) (by omega) m hk
    simpa using this
  · have h1 := h.cellAt (k * 3 + 1) (by omega)
    rw [Nat.zero_add, h1]
    have := flat_get hF (j := k) (c := 1) (by omega) m hk
    simpa using this
  · have h1 := h.cellAt (k * 3 + 2) (by omega)
    rw [Nat.zero_add, h1]
    have := flat_get hF (j := k) (c := 2) (by omega) m hk
    simpa using this
theorem lenV_le (s : ByteArray) (p : Option Nat) : lenV s 2 p ≤ 65535 ∧ lenV s 1 p ≤ 65535 := ⟨(numV_small s (by omega) p).2, (numV_small s (by omega) p).2⟩
theorem own_ol {w : World} {base B g m cap : Nat} {s : ByteArray} {X : Nat → Ex3} {Q : Nat → Option Nat} (h : w.ownsRow base 24 1 (.slice (some ⟨g, 0, none⟩) m cap) m (exC X m)) (hX : ∀ i, i < m → LsI w base B s (numP s 2 (Q i)) (lenV s 2 (Q i)) (X i).m (X i).g (X i).c) (hs : s.size ≤ 1048576) :
    OL w (some ⟨g, 0, none⟩) m (fun i => (X i).m) (fun i j => itmV s (rep (itmP s) (numP s 2 (Q i)) j)) := fun k hk => by
  have hL := hX k hk
  have hle := hL.le
  have h2 := (lenV_le s (Q k)).1
  refine ⟨g, 0, some ⟨(X k).g, 0, none⟩, (X k).c, rfl, ?_, hL.il hs, by show (X k).m ≤ 1048576; omega⟩
  have h1 := h.cellAt k (by omega)
  rw [Nat.zero_add, h1]
  unfold exC
  rw [List.getElem?_map, List.getElem?_eq_getElem (by simpa using hk)]
  simp
end Go.Proofs.YtnbgdfhfmbgbhaaGreatDoor
