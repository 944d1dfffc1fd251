/-
  The law on FsValid.
-/
import Derived.Test.YtngppfjphbodcaaGreatDoorFf
import Derived.Test.YtngppfjphbodcaaGreatDoorHm
import Derived.OwnWalk
import Derived.Deep.DeepCutAuto
namespace Go.Proofs.YtngppfjphbodcaaGreatDoor
open Go.RowKit
def flatL (n : Nat) (F : Nat → Fil) : List Value := (flat n F).toList
theorem flatL_len (n : Nat) (F : Nat → Fil) : (flatL n F).length = n * 3 := by simp [flatL, flat_size]
theorem flatL_snoc (n : Nat) (F : Nat → Fil) : flatL n F ++ [.string (F n).s, .string (F n).d, .int .i64 (F n).y] = flatL (n + 1) F := by
  have h : (flat n F ++ #[.string (F n).s, .string (F n).d, .int .i64 (F n).y]) = flat (n + 1) F := by
    apply flat_of
    · simp [flat_size]; omega
    · intro k hk
      by_cases e : k = n
      · subst e
        refine ⟨?_, ?_, ?_⟩
        · rw [Array.getElem?_append_right (by rw [flat_size]; omega), flat_size, show k * 3 - k * 3 = 0 by omega]; rfl
        · rw [Array.getElem?_append_right (by rw [flat_size]; omega), flat_size, show k * 3 + 1 - k * 3 = 1 by omega]; rfl
        · rw [Array.getElem?_append_right (by rw [flat_size]; omega), flat_size, show k * 3 + 2 - k * 3 = 2 by omega]; rfl
      · refine ⟨?_, ?_, ?_⟩
        · rw [Array.getElem?_append_left (by rw [flat_size]; omega)]; exact flat0 F (by omega)
        · rw [Array.getElem?_append_left (by rw [flat_size]; omega)]; exact flat1 F (by omega)
        · rw [Array.getElem?_append_left (by rw [flat_size]; omega)]; exact flat2 F (by omega)
  unfold flatL
  rw [← h]
  simp
theorem flatL_get {n : Nat} (F : Nat → Fil) {j : Nat} {u : Value} (h : (flatL n F)[j]? = some u) : ∃ k, k < n ∧ ((j = k * 3 ∧ u = .string (F k).s) ∨ (j = k * 3 + 1 ∧ u = .string (F k).d) ∨ (j = k * 3 + 2 ∧ u = .int .i64 (F k).y)) := by
  have hj : j < n * 3 := by rw [← flatL_len n F]; exact (List.getElem?_eq_some_iff.1 h).1
  refine ⟨j / 3, by omega, ?_⟩
  have h' : (flat n F)[j]? = some u := by unfold flatL at h; simpa using h
  rcases (show j = j / 3 * 3 ∨ j = j / 3 * 3 + 1 ∨ j = j / 3 * 3 + 2 by omega) with e | e | e
  · rw [e, flat0 F (by omega)] at h'
    exact Or.inl ⟨e, by simpa using h'.symm⟩
  · rw [e, flat1 F (by omega)] at h'
    exact Or.inr (Or.inl ⟨e, by simpa using h'.symm⟩)
  · rw [e, flat2 F (by omega)] at h'
    exact Or.inr (Or.inr ⟨e, by simpa using h'.symm⟩)
theorem flatL_one (n : Nat) (F : Nat → Fil) : ∀ u ∈ flatL n F, u.oneCell' = true := by
  intro u hu
  obtain ⟨j, hj, e⟩ := List.getElem_of_mem hu
  obtain ⟨k, _, h | h | h⟩ := flatL_get F (List.getElem?_eq_some_iff.2 ⟨hj, e⟩)
  all_goals (rw [h.2]; rfl)
/-- A slice of files in a row of its own. -/
def OwnF (w : World) (B : Nat) (v : Value) (n : Nat) (F : Nat → Fil) : Prop := w.ownsRow B 49 3 v n (flatL n F)
theorem OwnF.later {w w' : World} {B n : Nat} {v : Value} {F : Nat → Fil} (h : OwnF w B v n F) (hb : Below w.heap.size w w') : OwnF w' B v n F := own_below h hb
theorem OwnF.fl {w : World} {B n cap : Nat} {a : Option Addr} {F : Nat → Fil} (h : OwnF w B (.slice a n cap) n F) : FL w a n F := by
  intro k hk
  rcases h.2 with ⟨_, h0⟩ | ⟨g, cap', cur, e, _⟩
  · omega
  · simp only [Value.slice.injEq, true_and] at e
    obtain ⟨rfl, rfl⟩ := e
    have hc := h.cells (g := g) rfl
    have hadd : ∀ j, (⟨g, 0, none⟩ : Addr).add j = ⟨g, j, none⟩ := fun j => by unfold Addr.add; split <;> simp_all
    refine ⟨g, 0, rfl, ?_, ?_, ?_⟩
    · rw [Nat.zero_add, ← hadd]; exact hc _ _ (by simpa [flatL] using flat0 F hk)
    · rw [Nat.zero_add, ← hadd]; exact hc _ _ (by simpa [flatL] using flat1 F hk)
    · rw [Nat.zero_add, ← hadd]; exact hc _ _ (by simpa [flatL] using flat2 F hk)
theorem OwnF.of {w : World} {g n B : Nat} {F : Nat → Fil} (h : FR w g n F) (hB : B ≤ g) (hn : n ≤ 2097152) : OwnF w B (.slice (some ⟨g, 0, none⟩) n n) n F :=
  ⟨flatL_len n F, Or.inr ⟨g, n, flat n F, rfl, hB, h, Nat.le_refl _, by unfold maxLen; omega, flat_size n F, by rw [List.take_of_length_le (by simp [flat_size])]; rfl⟩⟩
set_option maxRecDepth 20000 in
set_option maxHeartbeats 4000000 in
theorem iCloneF (b off n c : Nat) (F : Nat → Fil) (w : World) (h : FL w (some ⟨b, off, none⟩) n F) (hn : n ≤ 2097152) : Calls Tryz.prog 44 #[.slice (some ⟨b, off, none⟩) n c] w fun e w' => ∃ g cap, e = .returned (.slice (some ⟨g, 0, none⟩) n cap) ∧ OwnF w' w.heap.size (.slice (some ⟨g, 0, none⟩) n cap) n F ∧ Below w.heap.size w w' := by
  obtain ⟨i0, hi, hz0, hz1, hz2⟩ := info_parts Tryz.infoFil
  have HI : Hid (Tryz.prog.info? 49 = some i0) := hi
  clear hi
  have hO0 : (w.alloc (.cells #[] 49)).ownsRow w.heap.size 49 3 (.slice (some ⟨w.heap.size, 0, none⟩) 0 0) 0 [] := World.ownsRow_lit w #[] 0 (Nat.le_refl _) (by simp [maxLen]) rfl
  have hb0 := bal w (.cells #[] 49)
  have hn' : ∀ j u, (flatL n F)[j]? = some u → (w.alloc (.cells #[] 49)).cell? ((⟨b, off, none⟩ : Addr).add j) = some u := by
    intro j u hu
    obtain ⟨k, hk, h3⟩ := flatL_get F hu
    obtain ⟨b', off', e, c0, c1, c2⟩ := h.later hb0 k hk
    obtain ⟨rfl, rfl⟩ : b = b' ∧ off = off' := by simpa using e
    have hadd : (⟨b, off, none⟩ : Addr).add j = ⟨b, off + j, none⟩ := by unfold Addr.add; split <;> simp_all
    rw [hadd]
    rcases h3 with ⟨rfl, rfl⟩ | ⟨rfl, rfl⟩ | ⟨rfl, rfl⟩
    · exact c0
    · exact c1
    · exact c2
  have hlen := flatL_len n F
  have hone := flatL_one n F
  have HN : Hid (∀ j u, (flatL n F)[j]? = some u → (w.alloc (.cells #[] 49)).cell? ((⟨b, off, none⟩ : Addr).add j) = some u) := hn'
  clear hn'
  have hnl : ∀ W : World, (binOp .eql 26 (.slice (some ⟨b, off, none⟩) n c) (.slice none 0 0)).run Tryz.prog W = .ok (.bool false) W := fun W => by kernel_rfl
  go_enter Tryz.func44, Tryz.ntmps44
  go_wp2_with (at_builtin; refine wpList_append_own _ rfl _ _ 26 rfl w.heap.size 49 i0 _ 3 40 Tryz.underlying26 HI.out hz0 hz1 hz2 rfl (by omega) _ 0 _ rfl hO0 ⟨b, off, none⟩ n c (flatL n F) rfl hlen HN.out hone (by unfold maxLen; omega) (by omega) (by simp) ?_; intro v' w1 hown1 hgrow hnil)
  obtain ⟨g, cap, rfl⟩ : ∃ g cap, v' = .slice (some ⟨g, 0, none⟩) n cap := by
    rcases hown1.2 with ⟨e, _⟩ | ⟨g, cap, _, e, _⟩
    · exact absurd (hnil.1 e).1 (by intro h; cases h)
    · exact ⟨g, cap, by simpa using e⟩
  go_wp2
  go_ret
  refine ⟨g, cap, rfl, ?_, hb0.grown hgrow (by simp) (fun k e => by cases e; exact Nat.le_refl _)⟩
  unfold OwnF
  simpa using hown1
/-- What a crash leaves of a file. -/
def crD (d : ByteArray) (y : Int) (t : ByteArray) : ByteArray := d.extract 0 y.toNat ++ t.extract 0 (min t.size (d.size - y.toNat))
theorem crD_size (d : ByteArray) (y : Int) (t : ByteArray) (h0 : 0 ≤ y) (h1 : y ≤ d.size) : (crD d y t).size ≤ d.size := by
  unfold crD
  rw [ByteArray.size_append]
  simp
  omega
set_option maxRecDepth 20000 in
set_option maxHeartbeats 2000000 in
theorem iSync (g o : Nat) (d : ByteArray) (v : Value) (w : World) (h1 : w.cell? ⟨g, o + 1, none⟩ = some (.string d)) (h2 : w.cell? ⟨g, o + 2, none⟩ = some v) (f2 : w.frozen? ⟨g, o + 2, none⟩ = false) : Calls Tryz.prog 77 #[.pointer (some ⟨g, o, none⟩)] w fun e w' => (∃ v, e = .returned v) ∧ w' = w.setCell ⟨g, o + 2, none⟩ (.int .i64 (d.size : Int)) := by
  go_enter Tryz.func77, Tryz.ntmps77
  go_wp2
  go_end0
  exact ⟨⟨_, rfl⟩, rfl⟩
theorem B6.later {V V' : World} {B : Nat} {v0 v1 v2 v3 v4 v5 : Value} (h : B6 V B v0 v1 v2 v3 v4 v5) (hb : Below V.heap.size V V') : B6 V' B v0 v1 v2 v3 v4 v5 := ⟨keepB hb h.c0, keepB hb h.c1, keepB hb h.c2, keepB hb h.c3, keepB hb h.c4, keepB hb h.c5⟩
theorem B6.new (w : World) (v0 v1 v2 v3 v4 v5 : Value) (t : TypeId) : B6 (w.alloc (.cells #[v0, v1, v2, v3, v4, v5] t)) w.heap.size v0 v1 v2 v3 v4 v5 :=
  have h := heap_alloc_new w (.cells #[v0, v1, v2, v3, v4, v5] t)
  ⟨cell_of_row _ _ 0 _ _ _ h, cell_of_row _ _ 1 _ _ _ h, cell_of_row _ _ 2 _ _ _ h, cell_of_row _ _ 3 _ _ _ h, cell_of_row _ _ 4 _ _ _ h, cell_of_row _ _ 5 _ _ _ h⟩
theorem neqB (b : Bool) : (b != b) = false := by cases b <;> rfl
end Go.Proofs.YtngppfjphbodcaaGreatDoor
