/-
  Quotes written twice: the library's words.
-/
import Derived.Test.YtnbgdfhfmbgbhaaGreatDoorQb
import Derived.Test.YtnbgdfhfmbgbhaaGreatDoorShelf
namespace Go.Proofs.YtnbgdfhfmbgbhaaGreatDoor
open Go.RowKit Go.Maps Go.WideMaps
theorem idx_hit (l : List UInt8) : Lib.index (39 :: l) [39] = 0 := by simp [Lib.index]
theorem idx_miss {b : UInt8} (l : List UInt8) (h : ¬ b = 39) : Lib.index (b :: l) [39] = if Lib.index l [39] == -1 then -1 else Lib.index l [39] + 1 := by
  rw [Lib.index, if_neg (by simp; exact fun e => h e.symm)]
theorem idx_ge (l : List UInt8) : -1 ≤ Lib.index l [39] := by
  induction l with
  | nil => simp [Lib.index]
  | cons b l ih =>
    by_cases h : b = 39
    · subst h; rw [idx_hit]; omega
    · rw [idx_miss l h]; split <;> omega
theorem rep_miss {b : UInt8} (l : List UInt8) (h : ¬ b = 39) (k : Nat) : Lib.replaceK [39] [39, 39] k (b :: l) = b :: Lib.replaceK [39] [39, 39] k l := by
  cases k with
  | zero => rfl
  | succ k =>
    have hg := idx_ge l
    rw [Lib.replaceK, Lib.replaceK, idx_miss l h]
    by_cases e : Lib.index l [39] = -1
    · simp [e]
    · have e1 : (Lib.index l [39] == -1) = false := by simpa using e
      obtain ⟨i, hi⟩ : ∃ i : Nat, Lib.index l [39] = i := ⟨(Lib.index l [39]).toNat, by omega⟩
      have e2 : ((i : Int) + 1 == -1) = false := by simp; omega
      have e3 : ((i : Int) == -1) = false := by simp
      have e4 : ((i : Int) + 1).toNat = i + 1 := by omega
      simp [hi, e2, e3, e4]
theorem rep_hit (l : List UInt8) (k : Nat) : Lib.replaceK [39] [39, 39] (k + 1) (39 :: l) = 39 :: 39 :: Lib.replaceK [39] [39, 39] k l := by
  rw [Lib.replaceK, idx_hit]
  rfl
def c39 : List UInt8 → Nat
  | [] => 0
  | b :: l => (if b = 39 then 1 else 0) + c39 l
theorem rep_quo : ∀ (s : List UInt8) (k : Nat), c39 s ≤ k → Lib.replaceK [39] [39, 39] k s = quoL s
  | [], k, _ => by cases k <;> rfl
  | b :: l, k, h => by
    by_cases e : b = 39
    · subst e
      rw [c39, if_pos rfl] at h
      obtain ⟨j, rfl⟩ : ∃ j, k = j + 1 := ⟨k - 1, by omega⟩
      rw [rep_hit, rep_quo l j (by omega), quoL, if_pos rfl]
    · rw [c39, if_neg e] at h
      rw [rep_miss l e, rep_quo l k (by omega), quoL, if_neg e]
theorem cnt_ge : ∀ (s : List UInt8) (f : Nat), s.length < f → c39 s ≤ Lib.countFrom [39] f s
  | [], f, _ => Nat.zero_le _
  | b :: l, f, h => by
    obtain ⟨g, rfl⟩ : ∃ g, f = g + 1 := ⟨f - 1, by omega⟩
    have hl : l.length < g := by simpa using h
    by_cases e : b = 39
    · subst e
      rw [c39, if_pos rfl, Lib.countFrom, idx_hit]
      have := cnt_ge l g hl
      simpa using this
    · rw [c39, if_neg e, Nat.zero_add]
      have := cnt_ge l (g + 1) (by omega)
      refine Nat.le_trans this (Nat.le_of_eq ?_)
      have hg := idx_ge l
      rw [Lib.countFrom, Lib.countFrom, idx_miss l e]
      by_cases e1 : Lib.index l [39] = -1
      · simp [e1]
      · have e2 : (Lib.index l [39] == -1) = false := by simpa using e1
        obtain ⟨i, hi⟩ : ∃ i : Nat, Lib.index l [39] = i := ⟨(Lib.index l [39]).toNat, by omega⟩
        have e3 : ((i : Int) + 1 == -1) = false := by simp; omega
        have e4 : ((i : Int) == -1) = false := by simp
        have e5 : ((i : Int) + 1).toNat = i + 1 := by omega
        simp [hi, e3, e4, e5]
theorem all_quo (s : List UInt8) : Lib.replaceAll s [39] [39, 39] = quoL s := by
  unfold Lib.replaceAll Lib.replace Lib.replaceNum Lib.count
  rw [if_neg (by decide), if_pos (by left; omega)]
  exact rep_quo s _ (cnt_ge s _ (by omega))
/-- The variable that the library's search asks holds some number. -/
def ML (w : World) : Prop := ∃ m : Int, w.cell? ⟨2, 0, none⟩ = some (.int .i64 m)
theorem ML.later {w w' : World} (h : ML w) (hb : Below w.heap.size w w') : ML w' := by
  obtain ⟨m, hm⟩ := h
  exact ⟨m, keepB hb hm⟩
theorem iReplace (s : ByteArray) (w : World) (hM : ML w) (hs : s.size ≤ 1048576) : Calls Tryz.prog 131 #[.string s, .string ⟨#[39]⟩, .string ⟨#[39, 39]⟩] w fun e w' => e = .returned (.string ⟨(quoL s.data.toList).toArray⟩) ∧ Below w.heap.size w w' := by
  obtain ⟨m, hm⟩ := hM
  have hc := Lib.countB_mul_le ⟨#[39]⟩ (Nat.le_refl _) s.size s (Nat.le_refl _)
  have e1 : (⟨#[39]⟩ : ByteArray).size = 1 := rfl
  have e2 : (⟨#[39, 39]⟩ : ByteArray).size = 2 := rfl
  rw [e1] at hc
  refine (Tryz.strings_ReplaceAll s ⟨#[39]⟩ ⟨#[39, 39]⟩ m w (by omega) hm (Nat.le_refl _) (by rw [e2]; omega)).mono ?_
  rintro e w' ⟨rfl, hb⟩
  exact ⟨by rw [all_quo], hb⟩
set_option maxRecDepth 20000 in
set_option maxHeartbeats 2000000 in
theorem iQuoted (s : ByteArray) (w : World) (hM : ML w) (hs : s.size ≤ 1048576) : Calls Tryz.prog 106 #[.string s] w fun e w' => e = .returned (.string (quoB s)) ∧ Below w.heap.size w w' := by
  have hz := quoL_len s.data.toList
  have hl : s.data.toList.length = s.size := by simp
  obtain ⟨q, hq⟩ : ∃ q : ByteArray, (⟨(quoL s.data.toList).toArray⟩ : ByteArray) = q := ⟨_, rfl⟩
  have hqs : q.size ≤ 2 * s.size := by
    rw [← hq]
    have : (⟨(quoL s.data.toList).toArray⟩ : ByteArray).size = (quoL s.data.toList).length := by simp [ByteArray.size]
    omega
  have HB : Hid (quoB s = ⟨#[39]⟩ ++ q ++ ⟨#[39]⟩) := by
    show _ = _
    unfold quoB quoP
    rw [← hq, ← hl, List.take_length]
  have hR := fun w hM => iReplace s w hM hs
  rw [hq] at hR
  clear hq hz hl
  go_enter Tryz.func106, Tryz.ntmps106
  go_wp2_with (go_at_call 131; refine (hR _ hM).mono ?_; rintro e w1 ⟨rfl, hb1⟩)
  go_ret
  exact ⟨by rw [HB.out]; rfl, hb1⟩
end Go.Proofs.YtnbgdfhfmbgbhaaGreatDoor
