/-
  The frame with which a text begins: both sides.
-/
import Derived.Test.YtngppfjphbodcaaGreatDoorFd
import Derived.KernelRfl
import Derived.Lib.BufferWrite
import Derived.Lib.UnsafeStr
import Derived.Deep.RegionHeld3
namespace Go.Proofs.YtngppfjphbodcaaGreatDoor
open Go.RowKit
theorem undrewN {w : World} (q : Nat) : Below w.heap.size w (w.drewN q) := ⟨rfl, rfl, rfl, Nat.le_refl _, fun _ _ => rfl⟩
theorem bdrew1 (w : World) : Below w.heap.size w w.drew := undrew (Below.refl _ _)
def byteAt (s : ByteArray) (k : Nat) : Nat := (s.data.toList.getD k 0).toNat
theorem byteAt_lt (s : ByteArray) (k : Nat) : byteAt s k < 256 := (s.data.toList.getD k 0).toNat_lt
theorem byteAt_get (s : ByteArray) (k : Nat) (h : k < s.size) : s[k].toNat = byteAt s k := by
  have h' : k < s.data.toList.length := by simpa using h
  unfold byteAt
  rw [List.getD_eq_getElem?_getD, List.getElem?_eq_getElem h']
  rfl
def be (s : ByteArray) (at' : Nat) : Nat → Nat
  | 0 => 0
  | k + 1 => be s at' k * 256 + byteAt s (at' + k)
theorem be_lt (s : ByteArray) (p k : Nat) : be s p k < 256 ^ k := by
  induction k with
  | zero => simp [be]
  | succ k ih =>
    have := byteAt_lt s (p + k)
    simp only [be, Nat.pow_succ]
    omega
theorem be4_lt (s : ByteArray) (p : Nat) : be s p 4 < 4294967296 := be_lt s p 4
theorem or_sum (i : Nat) (x y : Int) (hx₀ : 0 ≤ x) (hx : x % 2 ^ i = 0) (hx₁ : x < 2 ^ 32) (hy₀ : 0 ≤ y) (hy : y < 2 ^ i) (hy₁ : y < 2 ^ 32) : bits .or .u32 x y = x + y :=
  bits_join .u32 32 (by decide) (fun n h0 h1 => by rw [IntKind.wrap_u32]; omega) i x y hx₀ hx hx₁ hy₀ hy hy₁
set_option maxHeartbeats 400000 in
theorem word_any (s : ByteArray) (p : Nat) (w : World) (hp : p + 4 ≤ s.size) (hs : s.size ≤ 1048576) :
    Calls Tryz.prog 82 #[.string s, .int .i64 p] w fun e w' => e = .returned (.int .u32 (be s p 4 : Nat)) ∧ ∃ q, w' = w.drewN q := by
  have b0 := byteAt_get s p (by omega)
  have b1 := byteAt_get s (p + 1) (by omega)
  have b2 := byteAt_get s (p + 2) (by omega)
  have b3 := byteAt_get s (p + 3) (by omega)
  have HB : Hid (be s p 4 = ((byteAt s p * 256 + byteAt s (p + 1)) * 256 + byteAt s (p + 2)) * 256 + byteAt s (p + 3)) := by
    show be s p 4 = _; simp [be]
  have l0 := byteAt_lt s p
  have l1 := byteAt_lt s (p + 1)
  have l2 := byteAt_lt s (p + 2)
  have l3 := byteAt_lt s (p + 3)
  obtain ⟨B0, e0⟩ : ∃ n, byteAt s p = n := ⟨_, rfl⟩
  obtain ⟨B1, e1⟩ : ∃ n, byteAt s (p + 1) = n := ⟨_, rfl⟩
  obtain ⟨B2, e2⟩ : ∃ n, byteAt s (p + 2) = n := ⟨_, rfl⟩
  obtain ⟨B3, e3⟩ : ∃ n, byteAt s (p + 3) = n := ⟨_, rfl⟩
  rw [e0] at b0 l0; rw [e1] at b1 l1; rw [e2] at b2 l2; rw [e3] at b3 l3
  rw [e0, e1, e2, e3] at HB
  clear e0 e1 e2 e3
  have i0 : (p : Int) < (s.size : Int) := by omega
  have i1 : (p : Int) + 1 < (s.size : Int) := by omega
  have i2 : (p : Int) + 2 < (s.size : Int) := by omega
  have i3 : (p : Int) + 3 < (s.size : Int) := by omega
  have n1 : (0 : Int) ≤ (p : Int) + 1 := by omega
  have n2 : (0 : Int) ≤ (p : Int) + 2 := by omega
  have n3 : (0 : Int) ≤ (p : Int) + 3 := by omega
  have q1 : ((p : Int) + 1).toNat = p + 1 := by omega
  have q2 : ((p : Int) + 2).toNat = p + 2 := by omega
  have q3 : ((p : Int) + 3).toNat = p + 3 := by omega
  have v1 : IntKind.i64.wrap ((p : Int) + 1) = (p : Int) + 1 := by rw [IntKind.wrap_i64]; omega
  have v2 : IntKind.i64.wrap ((p : Int) + 2) = (p : Int) + 2 := by rw [IntKind.wrap_i64]; omega
  have v3 : IntKind.i64.wrap ((p : Int) + 3) = (p : Int) + 3 := by rw [IntKind.wrap_i64]; omega
  have u0 : IntKind.u32.wrap (B0 : Int) = (B0 : Int) := by rw [IntKind.wrap_u32]; omega
  have u1 : IntKind.u32.wrap (B1 : Int) = (B1 : Int) := by rw [IntKind.wrap_u32]; omega
  have u2 : IntKind.u32.wrap (B2 : Int) = (B2 : Int) := by rw [IntKind.wrap_u32]; omega
  have u3 : IntKind.u32.wrap (B3 : Int) = (B3 : Int) := by rw [IntKind.wrap_u32]; omega
  have m0 : IntKind.u32.wrap ((B0 : Int) * 16777216) = (B0 : Int) * 16777216 := by rw [IntKind.wrap_u32]; omega
  have m1 : IntKind.u32.wrap ((B1 : Int) * 65536) = (B1 : Int) * 65536 := by rw [IntKind.wrap_u32]; omega
  have m2 : IntKind.u32.wrap ((B2 : Int) * 256) = (B2 : Int) * 256 := by rw [IntKind.wrap_u32]; omega
  have o1 : bits .or .u32 ((B0 : Int) * 16777216) ((B1 : Int) * 65536) = (B0 : Int) * 16777216 + (B1 : Int) * 65536 := or_sum 24 _ _ (by omega) (by omega) (by omega) (by omega) (by omega) (by omega)
  have o2 : bits .or .u32 ((B0 : Int) * 16777216 + (B1 : Int) * 65536) ((B2 : Int) * 256) = (B0 : Int) * 16777216 + (B1 : Int) * 65536 + (B2 : Int) * 256 := or_sum 16 _ _ (by omega) (by omega) (by omega) (by omega) (by omega) (by omega)
  have o3 : bits .or .u32 ((B0 : Int) * 16777216 + (B1 : Int) * 65536 + (B2 : Int) * 256) (B3 : Int) = (B0 : Int) * 16777216 + (B1 : Int) * 65536 + (B2 : Int) * 256 + (B3 : Int) := or_sum 8 _ _ (by omega) (by omega) (by omega) (by omega) (by omega) (by omega)
  go_enter Tryz.func82, Tryz.ntmps82
  go_wp2
  go_quiet (fail)
  go_wp2
  go_ret
  refine ⟨ret_int ?_, _, rfl⟩
  rw [HB.out]
  omega
theorem word_as (s : ByteArray) (p : Nat) (w : World) (hp : p + 4 ≤ s.size) (hs : s.size ≤ 1048576) :
    Calls Tryz.prog 82 #[.string s, .int .i64 p] w fun e w' => e = .returned (.int .u32 (be s p 4 : Nat)) ∧ Below w.heap.size w w' :=
  (word_any s p w hp hs).mono fun e w' ⟨he, q, hw⟩ => ⟨he, by rw [hw]; exact undrewN q⟩
set_option maxRecDepth 20000 in
set_option maxHeartbeats 2000000 in
theorem sGet (s : ByteArray) (p : Nat) (w : World) (hp : p + 4 ≤ s.size) (hs : s.size ≤ 1048576) : Calls Tryz.prog 49 #[.string s, .int .i64 p, .int .i64 4] w fun e w' => e = .returned (.int .i64 (be s p 4 : Nat)) ∧ w' = w := by
  go_enter Tryz.func49, Tryz.ntmps49
  go_wp2
  go_loop [7, 8] (fun v i => ∃ k : Nat, k ≤ 4 ∧ i = .int .i64 k ∧ v = .int .i64 (be s p k : Nat)) (fun _ i => 4 - (intOf i).toNat)
  case atStart => exact ⟨0, by omega, rfl, rfl⟩
  case round =>
    obtain ⟨k, hk, rfl, rfl⟩ := hrel
    by_cases hlt : k < 4
    · have HB : Hid (be s p (k + 1) = be s p k * 256 + byteAt s (p + k)) := rfl
      have hbl : be s p k < 4294967296 := by
        have h1 := be_lt s p k
        have h2 : 256 ^ k ≤ 256 ^ 4 := Nat.pow_le_pow_right (by omega) (by omega)
        omega
      have b0 := byteAt_get s (p + k) (by omega)
      have b1 := byteAt_lt s (p + k)
      obtain ⟨B0, e0⟩ : ∃ n, byteAt s (p + k) = n := ⟨_, rfl⟩
      obtain ⟨V, e1⟩ : ∃ n, be s p k = n := ⟨_, rfl⟩
      rw [e0] at b0 b1 HB
      rw [e1] at HB hbl ⊢
      clear e0 e1
      have i0 : (0 : Int) ≤ (p : Int) + k := by omega
      have i1 : (p : Int) + k < (s.size : Int) := by omega
      have q1 : ((p : Int) + k).toNat = p + k := by omega
      go_wp2
      go_round
      case rel => exact ⟨k + 1, by omega, by go_num, by rw [HB.out]; go_num⟩
      case measure => simp [intOf]; omega
    · obtain rfl : k = 4 := by omega
      go_wp2
      go_ret
      exact ⟨rfl, rfl⟩
/-! ### The mathematics -/
theorem ext_list (s : ByteArray) (i j : Nat) : (s.extract i j).data.toList = (s.data.toList.drop i).take (j - i) := by
  rw [ByteArray.data_extract, Array.toList_extract, List.extract_eq_take_drop]
theorem bytes_eq {a b : ByteArray} (h : a.data.toList = b.data.toList) : a = b := by
  obtain ⟨⟨a⟩⟩ := a
  obtain ⟨⟨b⟩⟩ := b
  simp at h
  rw [h]
theorem byt_of (v : Int) (i : Nat) (c : UInt8) (h : (v / 256 ^ i) % 256 = (c.toNat : Int)) : byt v i = c := by
  have h1 := byt_nat v i
  rw [h] at h1
  have h2 : (byt v i).toNat = c.toNat := by omega
  exact UInt8.toNat_inj.1 h2
theorem be4 (s : ByteArray) (p : Nat) : be s p 4 = ((byteAt s p * 256 + byteAt s (p + 1)) * 256 + byteAt s (p + 2)) * 256 + byteAt s (p + 3) := by simp [be]
theorem num_be (s : ByteArray) (p : Nat) (h : p + 4 ≤ s.size) : bs (numI 4 (be s p 4 : Nat)) = s.extract p (p + 4) := by
  apply bytes_eq
  rw [ext_list]
  have hs : s.data.toList.length = s.size := by simp
  have l0 := byteAt_lt s p
  have l1 := byteAt_lt s (p + 1)
  have l2 := byteAt_lt s (p + 2)
  have l3 := byteAt_lt s (p + 3)
  have hb := be4 s p
  have e : (p + 4 - p) = 4 := by omega
  rw [e]
  have hn : numI 4 (be s p 4 : Nat) = [byt (be s p 4 : Nat) 3, byt (be s p 4 : Nat) 2, byt (be s p 4 : Nat) 1, byt (be s p 4 : Nat) 0] := rfl
  have hd : (s.data.toList.drop p).take 4 = [s.data.toList.getD p 0, s.data.toList.getD (p + 1) 0, s.data.toList.getD (p + 2) 0, s.data.toList.getD (p + 3) 0] := by
    apply List.ext_getElem
    · simp; omega
    · intro i h1 h2
      simp at h1
      rcases (show i = 0 ∨ i = 1 ∨ i = 2 ∨ i = 3 by omega) with rfl | rfl | rfl | rfl <;> simp
      all_goals (rw [Array.getElem?_eq_getElem (by have : s.data.size = s.size := rfl; omega)]; rfl)
  show (bs (numI 4 (be s p 4 : Nat))).data.toList = _
  rw [hd]
  show numI 4 (be s p 4 : Nat) = _
  rw [hn, byt_of _ 3 (s.data.toList.getD p 0), byt_of _ 2 (s.data.toList.getD (p + 1) 0), byt_of _ 1 (s.data.toList.getD (p + 2) 0), byt_of _ 0 (s.data.toList.getD (p + 3) 0)]
  all_goals
    simp only [byteAt] at hb l0 l1 l2 l3
    rw [hb]
    omega
theorem num_inj (a b : Nat) (ha : a < 4294967296) (hb : b < 4294967296) (h : bs (numI 4 (a : Int)) = bs (numI 4 (b : Int))) : a = b := by
  have h1 : numI 4 (a : Int) = numI 4 (b : Int) := by
    have := congrArg (fun x : ByteArray => x.data.toList) h
    simpa [bs] using this
  have e : ∀ v : Int, numI 4 v = [byt v 3, byt v 2, byt v 1, byt v 0] := fun _ => rfl
  rw [e, e] at h1
  simp only [List.cons.injEq, and_true] at h1
  obtain ⟨h3, h2, h1, h0⟩ := h1
  have g3 := byt_nat (a : Int) 3
  have g2 := byt_nat (a : Int) 2
  have g1 := byt_nat (a : Int) 1
  have g0 := byt_nat (a : Int) 0
  have k3 := byt_nat (b : Int) 3
  have k2 := byt_nat (b : Int) 2
  have k1 := byt_nat (b : Int) 1
  have k0 := byt_nat (b : Int) 0
  rw [h3] at g3
  rw [h2] at g2
  rw [h1] at g1
  rw [h0] at g0
  rw [k3] at g3
  rw [k2] at g2
  rw [k1] at g1
  rw [k0] at g0
  simp only [Int.reducePow, Int.pow_zero, Int.ediv_one] at g0 g1 g2 g3
  omega
theorem ext_app (s : ByteArray) (a b c : Nat) (h1 : a ≤ b) (h2 : b ≤ c) (_h3 : c ≤ s.size) : s.extract a b ++ s.extract b c = s.extract a c := by
  apply bytes_eq
  rw [ByteArray.data_append, Array.toList_append]
  rw [ext_list, ext_list, ext_list]
  have e : s.data.toList.drop b = (s.data.toList.drop a).drop (b - a) := by rw [List.drop_drop]; congr 1; omega
  rw [e, ← List.take_add]
  congr 1
  omega
/-- The entry of the frame with which s begins; nothing where none begins. -/
def fst (s : ByteArray) : ByteArray :=
  if s.size < 8 then ByteArray.empty
  else if s.size < 8 + be s 0 4 then ByteArray.empty
  else if be s 0 4 = 0 ∨ 60000 < be s 0 4 then ByteArray.empty
  else if crcOf (s.extract 8 (8 + be s 0 4)) = be s 4 4 then s.extract 8 (8 + be s 0 4) else ByteArray.empty
theorem fst_a {s : ByteArray} (h : s.size < 8) : fst s = ByteArray.empty := by unfold fst; rw [if_pos h]
theorem fst_b {s : ByteArray} (h : s.size < 8 + be s 0 4) : fst s = ByteArray.empty := by simp only [fst, if_pos h, ite_self]
theorem fst_c {s : ByteArray} (h : be s 0 4 = 0 ∨ 60000 < be s 0 4) : fst s = ByteArray.empty := by simp only [fst, if_pos h, ite_self]
theorem fst_d {s : ByteArray} (h : crcOf (s.extract 8 (8 + be s 0 4)) ≠ be s 4 4) : fst s = ByteArray.empty := by simp only [fst, if_neg h, ite_self]
theorem fst_e {s : ByteArray} (h0 : ¬ s.size < 8) (h1 : ¬ s.size < 8 + be s 0 4) (h2 : ¬ (be s 0 4 = 0 ∨ 60000 < be s 0 4)) (h : crcOf (s.extract 8 (8 + be s 0 4)) = be s 4 4) : fst s = s.extract 8 (8 + be s 0 4) := by unfold fst; rw [if_neg h0, if_neg h1, if_neg h2, if_pos h]
theorem ext_size (s : ByteArray) (n : Nat) (h : 8 + n ≤ s.size) : (s.extract 8 (8 + n)).size = n := by simp; omega
theorem frm_iff (s : ByteArray) (h1 : 8 + be s 0 4 ≤ s.size) (h2 : ¬ (be s 0 4 = 0 ∨ 60000 < be s 0 4)) : frm (s.extract 8 (8 + be s 0 4)) = s.extract 0 (8 + be s 0 4) ↔ crcOf (s.extract 8 (8 + be s 0 4)) = be s 4 4 := by
  have hz := ext_size s (be s 0 4) h1
  have hb : btw ((s.extract 8 (8 + be s 0 4)).size : Int) 1 60000 = true := by rw [hz]; simp [btw]; omega
  rw [frm_yes hb, hz, num_be s 0 (by omega)]
  have e : s.extract 0 (8 + be s 0 4) = s.extract 0 (0 + 4) ++ s.extract 4 8 ++ s.extract 8 (8 + be s 0 4) := by
    rw [ext_app s 0 4 8 (by omega) (by omega) (by omega), ext_app s 0 8 (8 + be s 0 4) (by omega) (by omega) (by omega)]
  rw [e]
  have hn := num_be s 4 (by omega)
  constructor
  · intro h
    have h3 := congrArg (fun x : ByteArray => x.data.toList) h
    simp only [ByteArray.data_append, Array.toList_append] at h3
    have h4 := List.append_cancel_right h3
    have h5 := List.append_cancel_left h4
    have h6 : bs (numI 4 (crcOf (s.extract 8 (8 + be s 0 4)) : Nat)) = s.extract 4 8 := bytes_eq h5
    exact num_inj _ _ (crcOf_lt _) (be4_lt s 4) (h6.trans hn.symm)
  · intro h
    rw [h, hn]
theorem frm_empty (s : ByteArray) : frm s = ByteArray.empty ↔ (s.size = 0 ∨ 60000 < s.size) := by
  rcases hb : btw s.size 1 60000
  · rw [frm_no hb]
    simp [btw] at hb
    constructor
    · intro _; omega
    · intro _; rfl
  · rw [frm_yes hb]
    simp [btw] at hb
    constructor
    · intro h
      have := congrArg ByteArray.size h
      simp [bs_size, numI_len] at this
    · intro h; omega
end Go.Proofs.YtngppfjphbodcaaGreatDoor
