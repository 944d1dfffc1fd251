/-
  The split of a list, and pieces of a slice of strings: the specification's way.
-/
import Derived.Test.YtjbbbfplephkpaaGreatDoorSl
import Derived.Deep.RegionHeld3
import Derived.Deep.MidRow
namespace Go.Proofs.YtjbbbfplephkpaaGreatDoor
open Go.RowKit
def sp : Nat → Nat → Nat → Nat
  | 0, _, k => k
  | f + 1, n, k => if 2 * k < n then sp f n (2 * k) else k
/-- The greatest power of 2 below n, for n from 2 to 2^40. -/
def spl (n : Nat) : Nat := sp 40 n 1
theorem sp_in (f n k : Nat) (hk : k < n) (h : n ≤ k * 2 ^ f) : k ≤ sp f n k ∧ sp f n k < n ∧ n ≤ 2 * sp f n k := by
  induction f generalizing k with
  | zero => simp at h; omega
  | succ f ih =>
    rw [sp]
    split
    · rename_i h2
      have := ih (2 * k) h2 (by rw [Nat.pow_succ] at h; rw [Nat.mul_comm 2 k, Nat.mul_assoc, Nat.mul_comm 2]; exact h)
      omega
    · omega
theorem spl_in (n : Nat) (h : 2 ≤ n) (h2 : n ≤ 1099511627776) : 1 ≤ spl n ∧ spl n < n ∧ n ≤ 2 * spl n := sp_in 40 n 1 (by omega) (by omega)
set_option maxRecDepth 20000 in
set_option maxHeartbeats 1000000 in
theorem l2Split_any (n : Nat) (w : World) (h2 : n ≤ 1099511627776) :
    Calls Tryz.prog 21 #[.int .i64 n] w fun e w' => e = .returned (.int .i64 (spl n : Nat)) ∧ w' = w := by
  go_enter Tryz.func21, Tryz.ntmps21
  go_wp2
  go_loop [3] (fun x => ∃ f k : Nat, x = .int .i64 k ∧ 1 ≤ k ∧ k ≤ 1099511627776 ∧ n ≤ k * 2 ^ f ∧ sp f n k = spl n) (fun x => 1099511627777 - (intOf x).toNat)
  case atStart => exact ⟨40, 1, rfl, by omega, by omega, by omega, rfl⟩
  case round =>
    obtain ⟨f, k, rfl, h1, h3, hn, hs⟩ := hrel
    have HS : Hid (sp f n k = spl n) := hs
    have HN : Hid (n ≤ k * 2 ^ f) := hn
    clear hs hn
    by_cases hlt : 2 * k < n
    · have hz : 0 < f := by
        rcases Nat.eq_zero_or_pos f with rfl | h
        · have := HN.out; simp at this; omega
        · exact h
      go_wp2
      go_round
      case rel =>
        obtain ⟨f', rfl⟩ : ∃ f', f = f' + 1 := ⟨f - 1, by omega⟩
        refine ⟨f', 2 * k, by go_num, by omega, by omega, ?_, ?_⟩
        · have := HN.out; rw [Nat.pow_succ] at this; rw [Nat.mul_comm 2 k, Nat.mul_assoc, Nat.mul_comm 2]; exact this
        · rw [← HS.out, sp, if_pos hlt]
      case measure => simp [intOf]; omega
    · have he : spl n = k := by
        rw [← HS.out]
        cases f with
        | zero => rfl
        | succ f => rw [sp, if_neg hlt]
      have HE : Hid (spl n = k) := he
      clear he
      go_wp2
      go_ret
      exact ⟨ret_int (by rw [HE.out]), rfl⟩
set_option maxRecDepth 20000 in
theorem l2Split_as (n : Nat) (z : Int) (w : World) (hz : z = n) (h2 : n ≤ 1099511627776) (s : Nat) (hs : spl n = s) :
    Calls Tryz.prog 21 #[.int .i64 z] w fun e w' => e = .returned (.int .i64 (s : Int)) ∧ w' = w := by
  subst hz hs
  exact l2Split_any n w h2
set_option maxRecDepth 20000 in
theorem specNode_as (k : Int) (x y : ByteArray) (w : World) (hx : x.size ≤ 2097152) (hy : y.size ≤ 2097152) (z : ByteArray) (hz : nodeD k x y = z) :
    Calls Tryz.prog 22 #[.int .i64 k, .string x, .string y] w fun e w' => e = .returned (.string z) ∧ Below w.heap.size w w' := by
  subst hz
  exact specNode_any k x y w hx hy
set_option maxRecDepth 20000 in
theorem specLeaf_as (k : Int) (x : ByteArray) (w : World) (hx : x.size ≤ 4194304) (z : ByteArray) (hz : leafD k x = z) :
    Calls Tryz.prog 20 #[.int .i64 k, .string x] w fun e w' => e = .returned (.string z) ∧ Below w.heap.size w w' := by
  subst hz
  exact specLeaf_any k x w hx
theorem Sl.left {w : World} {a : Option Addr} {n : Nat} {S : Nat → ByteArray} (h : Sl w a n S) (s : Nat) (hs : s ≤ n) : Sl w a s S := ⟨by have := h.1; omega, fun k hk => h.2 k (by omega)⟩
theorem Sl.right {w : World} {P off n : Nat} {S : Nat → ByteArray} (h : Sl w (some ⟨P, off, none⟩) n S) (s : Nat) (hs : s ≤ n) : Sl w (some ⟨P, off + s, none⟩) (n - s) (fun j => S (s + j)) := by
  refine ⟨by have := h.1; omega, fun k hk => ⟨(h.2 (s + k) (by omega)).1, P, off + s, rfl, ?_⟩⟩
  obtain ⟨b, o, e, hc⟩ := h.at (s + k) (by omega)
  obtain ⟨rfl, rfl⟩ : P = b ∧ off = o := by simpa using e
  rw [Nat.add_assoc]
  exact hc
end Go.Proofs.YtjbbbfplephkpaaGreatDoor
