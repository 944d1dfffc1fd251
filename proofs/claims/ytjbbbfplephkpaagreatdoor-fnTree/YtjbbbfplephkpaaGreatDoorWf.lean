/-
  The padding, and the program's Sha256.
-/
import Derived.Test.YtjbbbfplephkpaaGreatDoorWe
import Derived.Test.YtjbbbfplephkpaaGreatDoorShelf
namespace Go.Proofs.YtjbbbfplephkpaaGreatDoor
open Go.RowKit
def padL (l : List UInt8) (total : Nat) : List UInt8 := l ++ [128] ++ List.replicate ((119 - l.length) % 64) 0 ++ num 8 (total * 8)
set_option maxRecDepth 20000 in
theorem rep_any (z : Nat) (w : World) (hz : z < 64) :
    Calls Tryz.prog 74 #[.string ⟨#[0]⟩, .int .i64 z] w fun e w' => e = .returned (.string ⟨(List.replicate z 0).toArray⟩) ∧ Below w.heap.size w w' := by
  have h := Tryz.strings_Repeat ⟨#[0]⟩ z w (by omega) (by have e : (⟨#[0]⟩ : ByteArray).size = 1 := rfl
                                                          rw [e]; omega)
  have e := Lib.repeatL_replicate 0 1 z
  rw [Nat.mul_one] at e
  have e1 : (⟨#[0]⟩ : ByteArray).data.toList = List.replicate 1 0 := rfl
  rw [e1, e] at h
  exact h
set_option maxHeartbeats 200000 in
set_option maxRecDepth 20000 in
theorem pad_any (x : ByteArray) (total : Nat) (w : World) (hx : x.size < 64) (ht : total ≤ 8388608) :
    Calls Tryz.prog 54 #[.string x, .int .i64 total] w fun e w' => e = .returned (.string ⟨(padL x.data.toList total).toArray⟩) ∧ Below w.heap.size w w' := by
  obtain ⟨v, hv⟩ : ∃ v : Nat, (total : Int) * 8 = (v : Int) := ⟨total * 8, by omega⟩
  obtain ⟨z, hz⟩ : ∃ z : Nat, z = (119 - x.size) % 64 := ⟨_, rfl⟩
  have hz1 : (119 - (x.size : Int)) % 64 = (z : Int) := by omega
  have HZ : Hid (z = (119 - x.size) % 64) := hz
  have hzl : z < 64 := by omega
  clear hz
  have HV : Hid (v = total * 8) := by show v = _; omega
  have hl8 : (num 8 v).length = 8 := num_len 8 v
  go_enter Tryz.func54, Tryz.ntmps54
  go_wp2_with (first | (go_at_call 74; refine (rep_any z _ hzl).mono ?_; rintro e w1 ⟨rfl, hb1⟩) | (go_at_call 75; refine (high_any v _).mono ?_; rintro e w2 ⟨rfl, hb2⟩))
  go_ret
  refine ⟨ret_str ?_, hb1.trans (hb2.mono hb1.size)⟩
  apply ba_ext
  have e1 : x.data.toList.length = x.size := by simp
  simp only [padL, e1]
  rw [← HZ.out, ← HV.out]
  simp
/-- The digest of a text: the state behind all blocks, as bytes. -/
def iv : St := ⟨1779033703, 3144134277, 1013904242, 2773480762, 1359893119, 2600822924, 528734635, 1541459225⟩
theorem iv_ok : iv.ok := by unfold St.ok iv; simp
def msgL (l : List UInt8) : List UInt8 := l ++ [128] ++ List.replicate ((119 - l.length % 64) % 64) 0 ++ num 8 (l.length * 8)
def shaL (l : List UInt8) : List UInt8 := outL (comps iv (msgL l) ((msgL l).length / 64))
theorem sha_len (l : List UInt8) : (shaL l).length = 32 := outL_len _
theorem comps_front (s : St) (a b : List UInt8) (n : Nat) (h : 64 * n ≤ a.length) : comps s (a ++ b) n = comps s a n := by
  induction n with
  | zero => rfl
  | succ n ih =>
    simp only [comps]
    rw [ih (by omega), List.drop_append_of_le_length (by omega), List.take_append_of_le_length (by simp; omega)]
theorem comps_back (s : St) (a b : List UInt8) (m n : Nat) (h : a.length = 64 * m) : comps s (a ++ b) (m + n) = comps (comps s a m) b n := by
  induction n with
  | zero => simp only [comps, Nat.add_zero]; exact comps_front s a b m (by omega)
  | succ n ih =>
    rw [← Nat.add_assoc]
    simp only [comps]
    rw [ih]
    have e : (a ++ b).drop (64 * (m + n)) = b.drop (64 * n) := by
      rw [Nat.mul_add, ← List.drop_drop, ← h, List.drop_left]
    rw [e]
theorem sha_split (l : List UInt8) : shaL l = outL (comps (comps iv (l.take (l.length - l.length % 64)) (l.length / 64)) (padL (l.drop (l.length - l.length % 64)) l.length) ((padL (l.drop (l.length - l.length % 64)) l.length).length / 64)) := by
  have e : msgL l = l.take (l.length - l.length % 64) ++ padL (l.drop (l.length - l.length % 64)) l.length := by
    have h1 : (l.drop (l.length - l.length % 64)).length = l.length % 64 := by simp; omega
    unfold msgL padL
    rw [h1]
    simp only [← List.append_assoc, List.take_append_drop]
  have hl : (l.take (l.length - l.length % 64)).length = 64 * (l.length / 64) := by simp; omega
  have hm : (msgL l).length / 64 = l.length / 64 + (padL (l.drop (l.length - l.length % 64)) l.length).length / 64 := by
    rw [e, List.length_append, hl]; omega
  unfold shaL
  rw [hm, e, comps_back _ _ _ _ _ hl]
end Go.Proofs.YtjbbbfplephkpaaGreatDoor
