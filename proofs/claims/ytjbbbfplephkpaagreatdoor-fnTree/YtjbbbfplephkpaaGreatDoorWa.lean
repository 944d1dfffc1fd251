/-
  The small functions on words: turns, the four sums, four bytes as a word.
-/
import Derived.Laws.BitsLemmas
import Derived.Laws.Bits64b
import Derived.Test.YtjbbbfplephkpaaGreatDoorProg
import Derived.KernelRfl
import Derived.WalkKit
import Derived.ProofKit
import Derived.Deep.QuietTactic
import Derived.BigQuiet
namespace Go.Proofs.YtjbbbfplephkpaaGreatDoor

theorem nat_u32 (a : Nat) (ha : a < 4294967296) : (BitVec.ofInt 32 (a : Int)).toNat = a := by
  rw [BitVec.ofInt_natCast, BitVec.toNat_ofNat]; exact Nat.mod_eq_of_lt (by omega)
theorem xor_u32 (a b : Nat) (ha : a < 4294967296) (hb : b < 4294967296) :
    bits .xor .u32 (a : Int) (b : Int) = ((a ^^^ b : Nat) : Int) := by
  have hx : a ^^^ b < 2 ^ 32 := Nat.xor_lt_two_pow (by omega) (by omega)
  show IntKind.u32.wrap ((BitVec.ofInt 32 (a : Int) ^^^ BitVec.ofInt 32 (b : Int)).toNat : Int) = _
  rw [BitVec.toNat_xor, nat_u32 a ha, nat_u32 b hb, IntKind.wrap_u32]
  omega
theorem and_u32 (a b : Nat) (ha : a < 4294967296) (hb : b < 4294967296) :
    bits .and .u32 (a : Int) (b : Int) = ((a &&& b : Nat) : Int) := by
  have hx : a &&& b < 2 ^ 32 := Nat.and_lt_two_pow _ (by omega)
  show IntKind.u32.wrap ((BitVec.ofInt 32 (a : Int) &&& BitVec.ofInt 32 (b : Int)).toNat : Int) = _
  rw [BitVec.toNat_and, nat_u32 a ha, nat_u32 b hb, IntKind.wrap_u32]
  omega
theorem or_u32 (a b : Nat) (ha : a < 4294967296) (hb : b < 4294967296) :
    bits .or .u32 (a : Int) (b : Int) = ((a ||| b : Nat) : Int) := by
  have hx : a ||| b < 2 ^ 32 := Nat.or_lt_two_pow (by omega) (by omega)
  show IntKind.u32.wrap ((BitVec.ofInt 32 (a : Int) ||| BitVec.ofInt 32 (b : Int)).toNat : Int) = _
  rw [BitVec.toNat_or, nat_u32 a ha, nat_u32 b hb, IntKind.wrap_u32]
  omega
theorem ret_int {k : IntKind} {a b : Int} (h : a = b) : Ending.returned (.int k a) = .returned (.int k b) := by rw [h]
theorem ret_str {a b : ByteArray} (h : a = b) : Ending.returned (.string a) = .returned (.string b) := by rw [h]

/-! The operations on words. -/
def rot (x n : Nat) : Nat := (x / 2 ^ n) ||| (x * 2 ^ (32 - n) % 4294967296)
def add (a b : Nat) : Nat := (a + b) % 4294967296
def xo (a b : Nat) : Nat := a ^^^ b
def an (a b : Nat) : Nat := a &&& b
def no (a : Nat) : Nat := 4294967295 ^^^ a
theorem div_lt32 (x n : Nat) (h : x < 4294967296) : x / n < 4294967296 := Nat.lt_of_le_of_lt (Nat.div_le_self _ _) h
theorem rot_lt (x n : Nat) (h : x < 4294967296) : rot x n < 4294967296 :=
  Nat.or_lt_two_pow (n := 32) (div_lt32 x _ h) (Nat.mod_lt _ (by omega))
theorem add_lt (a b : Nat) : add a b < 4294967296 := Nat.mod_lt _ (by omega)
theorem xo_lt (a b : Nat) (ha : a < 4294967296) (hb : b < 4294967296) : xo a b < 4294967296 := Nat.xor_lt_two_pow (n := 32) ha hb
theorem an_lt (a b : Nat) (hb : b < 4294967296) : an a b < 4294967296 := Nat.and_lt_two_pow (n := 32) _ hb
theorem no_lt (a : Nat) (ha : a < 4294967296) : no a < 4294967296 := Nat.xor_lt_two_pow (n := 32) (by omega) ha
theorem add_comm' (a b : Nat) : add a b = add b a := by unfold add; rw [Nat.add_comm]

/-! The same as the walk spells them. -/
theorem w_xor (a b : Nat) (ha : a < 4294967296) (hb : b < 4294967296) : bits .xor .u32 (a : Int) (b : Int) = ((xo a b : Nat) : Int) := xor_u32 a b ha hb
theorem w_and (a b : Nat) (ha : a < 4294967296) (hb : b < 4294967296) : bits .and .u32 (a : Int) (b : Int) = ((an a b : Nat) : Int) := and_u32 a b ha hb
theorem w_not (a : Nat) (ha : a < 4294967296) : bits .xor .u32 IntKind.u32.max (a : Int) = ((no a : Nat) : Int) := by
  have e : IntKind.u32.max = ((4294967295 : Nat) : Int) := by decide
  rw [e]; exact xor_u32 _ a (by omega) ha
theorem w_add (a b : Nat) : ((a : Int) + (b : Int)) % 4294967296 = ((add a b : Nat) : Int) := by
  unfold add; omega
theorem w_div (x n : Nat) : (x : Int) / 2 ^ n = ((x / 2 ^ n : Nat) : Int) := by
  rw [Int.natCast_ediv, Int.natCast_pow]; rfl
theorem w_mul (x n : Nat) : (x : Int) * 2 ^ n % 4294967296 = ((x * 2 ^ n % 4294967296 : Nat) : Int) := by
  rw [Int.natCast_emod, Int.natCast_mul, Int.natCast_pow]; rfl
theorem w_rot (x n : Nat) (h : x < 4294967296) : bits .or .u32 ((x : Int) / 2 ^ n) ((x : Int) * 2 ^ (32 - n) % 4294967296) = ((rot x n : Nat) : Int) := by
  rw [w_div, w_mul]
  exact or_u32 _ _ (div_lt32 x _ h) (Nat.mod_lt _ (by omega))
theorem w_rot' (x n m : Nat) (h : x < 4294967296) (e : m + n = 32) : bits .or .u32 ((x : Int) * 2 ^ m % 4294967296) ((x : Int) / 2 ^ (32 - m)) = ((rot x n : Nat) : Int) := by
  rw [w_div, w_mul, or_u32 _ _ (Nat.mod_lt _ (by omega)) (div_lt32 x _ h)]
  unfold rot
  rw [Nat.or_comm, show 32 - m = n by omega, show 32 - n = m by omega]
theorem w_neg (n m : Nat) (hn : 1 ≤ n) (hn' : n ≤ 31) (e : m + n = 32) : bits .and .u64 (IntKind.u64.wrap (-(n : Int))) 31 = (m : Int) := by
  have h := bits_mask .u64 64 (by decide) (fun x h0 h1 => by rw [IntKind.wrap_u64]; omega) 5 (by omega) (IntKind.u64.wrap (-(n : Int))) (by rw [IntKind.wrap_u64]; omega) (by rw [IntKind.wrap_u64]; omega)
  have e5 : (2 : Int) ^ 5 - 1 = 31 := rfl
  have e6 : (2 : Int) ^ 5 = 32 := rfl
  rw [e5, e6, IntKind.wrap_u64] at h
  rw [IntKind.wrap_u64, h]
  omega

def S1 (e : Nat) : Nat := xo (xo (rot e 6) (rot e 11)) (rot e 25)
def S0 (a : Nat) : Nat := xo (xo (rot a 2) (rot a 13)) (rot a 22)
def s0 (a : Nat) : Nat := xo (xo (rot a 7) (rot a 18)) (a / 8)
def s1 (a : Nat) : Nat := xo (xo (rot a 17) (rot a 19)) (a / 1024)
theorem S1_lt (a : Nat) (h : a < 4294967296) : S1 a < 4294967296 := xo_lt _ _ (xo_lt _ _ (rot_lt _ _ h) (rot_lt _ _ h)) (rot_lt _ _ h)
theorem S0_lt (a : Nat) (h : a < 4294967296) : S0 a < 4294967296 := xo_lt _ _ (xo_lt _ _ (rot_lt _ _ h) (rot_lt _ _ h)) (rot_lt _ _ h)
theorem s0_lt (a : Nat) (h : a < 4294967296) : s0 a < 4294967296 := xo_lt _ _ (xo_lt _ _ (rot_lt _ _ h) (rot_lt _ _ h)) (div_lt32 _ _ h)
theorem s1_lt (a : Nat) (h : a < 4294967296) : s1 a < 4294967296 := xo_lt _ _ (xo_lt _ _ (rot_lt _ _ h) (rot_lt _ _ h)) (div_lt32 _ _ h)

/-- Four bytes, high first. -/
def byteAt (s : ByteArray) (k : Nat) : Nat := (s.data.toList.getD k 0).toNat
theorem byteAt_lt (s : ByteArray) (k : Nat) : byteAt s k < 256 := (s.data.toList.getD k 0).toNat_lt
theorem byteAt_get (s : ByteArray) (k : Nat) (h : k < s.size) : s[k].toNat = byteAt s k := by
  have h' : k < s.data.toList.length := by simpa using h
  unfold byteAt
  rw [List.getD_eq_getElem?_getD, List.getElem?_eq_getElem h']
  rfl
def be (s : ByteArray) (at' : Nat) : Nat → Nat
  | 0 => 0
  | k + 1 => be s at' k * 256 + byteAt s (at' + k)
theorem be_lt (s : ByteArray) (p k : Nat) : be s p k < 256 ^ k := by
  induction k with
  | zero => simp [be]
  | succ k ih =>
    have := byteAt_lt s (p + k)
    simp only [be, Nat.pow_succ]
    omega
theorem be4_lt (s : ByteArray) (p : Nat) : be s p 4 < 4294967296 := be_lt s p 4

/-- The words of a block. -/
def wlist (s : ByteArray) : Nat → List Nat
  | 0 => []
  | t + 1 => wlist s t ++ [if t < 16 then be s (4 * t) 4 else add (add (add ((wlist s t).getD (t - 16) 0) (s0 ((wlist s t).getD (t - 15) 0))) ((wlist s t).getD (t - 7) 0)) (s1 ((wlist s t).getD (t - 2) 0))]
def wd (s : ByteArray) (t : Nat) : Nat := (wlist s (t + 1)).getD t 0
theorem wlist_len (s : ByteArray) (t : Nat) : (wlist s t).length = t := by
  induction t with
  | zero => rfl
  | succ t ih => simp only [wlist, List.length_append, ih, List.length_singleton]
theorem wlist_at (s : ByteArray) (t i : Nat) (h : i < t) : (wlist s t).getD i 0 = wd s i := by
  induction t with
  | zero => omega
  | succ t ih =>
    by_cases e : i = t
    · subst e; rfl
    · have hl := wlist_len s t
      rw [← ih (by omega)]
      simp only [wlist, List.getD_eq_getElem?_getD]
      rw [List.getElem?_append_left (by omega)]
theorem wd_last (s : ByteArray) (t : Nat) : wd s t = if t < 16 then be s (4 * t) 4 else add (add (add ((wlist s t).getD (t - 16) 0) (s0 ((wlist s t).getD (t - 15) 0))) ((wlist s t).getD (t - 7) 0)) (s1 ((wlist s t).getD (t - 2) 0)) := by
  have hl := wlist_len s t
  unfold wd
  simp only [wlist, List.getD_eq_getElem?_getD]
  rw [List.getElem?_append_right (by omega), hl]
  simp
theorem wd_low (s : ByteArray) (t : Nat) (h : t < 16) : wd s t = be s (4 * t) 4 := by rw [wd_last, if_pos h]
theorem wd_high (s : ByteArray) (t : Nat) (h : 16 ≤ t) : wd s t = add (add (add (wd s (t - 16)) (s0 (wd s (t - 15)))) (wd s (t - 7))) (s1 (wd s (t - 2))) := by
  rw [wd_last, if_neg (by omega), wlist_at s t _ (by omega), wlist_at s t _ (by omega), wlist_at s t _ (by omega), wlist_at s t _ (by omega)]
theorem wd_lt (s : ByteArray) (t : Nat) : wd s t < 4294967296 := by
  by_cases h : t < 16
  · rw [wd_low s t h]; exact be4_lt _ _
  · rw [wd_high s t (by omega)]; exact add_lt _ _

/-- The state. -/
structure St where
  a : Nat
  b : Nat
  c : Nat
  d : Nat
  e : Nat
  f : Nat
  g : Nat
  h : Nat
def St.ok (s : St) : Prop := s.a < 4294967296 ∧ s.b < 4294967296 ∧ s.c < 4294967296 ∧ s.d < 4294967296 ∧ s.e < 4294967296 ∧ s.f < 4294967296 ∧ s.g < 4294967296 ∧ s.h < 4294967296
def St.list (s : St) : List Nat := [s.a, s.b, s.c, s.d, s.e, s.f, s.g, s.h]
def t1 (s : St) (k w : Nat) : Nat := add (add (add (add s.h (S1 s.e)) (xo (an s.e s.f) (an (no s.e) s.g))) k) w
def t2 (s : St) : Nat := add (S0 s.a) (xo (xo (an s.a s.b) (an s.a s.c)) (an s.b s.c))
def rnd (s : St) (k w : Nat) : St := ⟨add (t1 s k w) (t2 s), s.a, s.b, s.c, add s.d (t1 s k w), s.e, s.f, s.g⟩
def keysL : List Nat := [
  0x428a2f98, 0x71374491, 0xb5c0fbcf, 0xe9b5dba5, 0x3956c25b, 0x59f111f1, 0x923f82a4, 0xab1c5ed5,
  0xd807aa98, 0x12835b01, 0x243185be, 0x550c7dc3, 0x72be5d74, 0x80deb1fe, 0x9bdc06a7, 0xc19bf174,
  0xe49b69c1, 0xefbe4786, 0x0fc19dc6, 0x240ca1cc, 0x2de92c6f, 0x4a7484aa, 0x5cb0a9dc, 0x76f988da,
  0x983e5152, 0xa831c66d, 0xb00327c8, 0xbf597fc7, 0xc6e00bf3, 0xd5a79147, 0x06ca6351, 0x14292967,
  0x27b70a85, 0x2e1b2138, 0x4d2c6dfc, 0x53380d13, 0x650a7354, 0x766a0abb, 0x81c2c92e, 0x92722c85,
  0xa2bfe8a1, 0xa81a664b, 0xc24b8b70, 0xc76c51a3, 0xd192e819, 0xd6990624, 0xf40e3585, 0x106aa070,
  0x19a4c116, 0x1e376c08, 0x2748774c, 0x34b0bcb5, 0x391c0cb3, 0x4ed8aa4a, 0x5b9cca4f, 0x682e6ff3,
  0x748f82ee, 0x78a5636f, 0x84c87814, 0x8cc70208, 0x90befffa, 0xa4506ceb, 0xbef9a3f7, 0xc67178f2]
def key (t : Nat) : Nat := keysL.getD t 0
theorem key_lt (t : Nat) : key t < 4294967296 := by
  have h : ∀ x ∈ keysL, x < 4294967296 := by decide
  unfold key
  rw [List.getD_eq_getElem?_getD]
  by_cases hl : t < keysL.length
  · rw [List.getElem?_eq_getElem hl]; exact h _ (List.getElem_mem hl)
  · rw [List.getElem?_eq_none (by omega)]; simp
def rds (s : St) (blk : ByteArray) : Nat → St
  | 0 => s
  | t + 1 => rnd (rds s blk t) (key t) (wd blk t)
theorem rnd_ok (s : St) (k w : Nat) (h : s.ok) : (rnd s k w).ok := by
  obtain ⟨h1, h2, h3, h4, h5, h6, h7, h8⟩ := h
  exact ⟨add_lt _ _, h1, h2, h3, add_lt _ _, h5, h6, h7⟩
theorem rds_ok (s : St) (blk : ByteArray) (t : Nat) (h : s.ok) : (rds s blk t).ok := by
  induction t with
  | zero => exact h
  | succ t ih => exact rnd_ok _ _ _ ih
/-- The state behind a block. -/
def comp (s : St) (blk : ByteArray) : St :=
  let r := rds s blk 64
  ⟨add s.a r.a, add s.b r.b, add s.c r.c, add s.d r.d, add s.e r.e, add s.f r.f, add s.g r.g, add s.h r.h⟩
theorem comp_ok (s : St) (blk : ByteArray) : (comp s blk).ok := ⟨add_lt _ _, add_lt _ _, add_lt _ _, add_lt _ _, add_lt _ _, add_lt _ _, add_lt _ _, add_lt _ _⟩
end Go.Proofs.YtjbbbfplephkpaaGreatDoor
namespace Go.Proofs.YtjbbbfplephkpaaGreatDoor
open Go.RowKit
set_option maxRecDepth 20000 in
set_option maxHeartbeats 400000 in
theorem turn_any (x : Nat) (i : Int) (w : World) (hx : x < 4294967296) (hn : 1 ≤ i) (hn' : i ≤ 31) :
    Calls Tryz.prog 79 #[.int .u32 x, .int .i64 i] w fun e w' => e = .returned (.int .u32 (rot x i.toNat : Nat)) ∧ ∃ q, w' = w.drewN q := by
  obtain ⟨n, rfl⟩ := Int.eq_ofNat_of_zero_le (by omega : 0 ≤ i)
  replace hn : 1 ≤ n := by omega
  replace hn' : n ≤ 31 := by omega
  go_enter Tryz.func79, Tryz.ntmps79
  go_wp2
  go_quiet (fail)
  go_wp2
  go_ret
  exact ⟨ret_int (w_rot x n hx), _, rfl⟩
set_option maxRecDepth 20000 in
set_option maxHeartbeats 400000 in
theorem rot39 (x n : Nat) (w : World) (hx : x < 4294967296) (hn : 1 ≤ n) (hn' : n ≤ 31) :
    Calls Tryz.prog 131 #[.int .u32 x, .int .i64 (-(n : Int))] w fun e w' => e = .returned (.int .u32 (rot x n : Nat)) ∧ w' = w := by
  obtain ⟨m, hm⟩ : ∃ m, m + n = 32 := ⟨32 - n, by omega⟩
  have h1 := w_neg n m hn hn' hm
  have h2 := w_rot' x n m hx hm
  go_enter Tryz.func131, Tryz.ntmps131
  go_wp2
  go_ret
  exact ⟨ret_int (by simp), rfl⟩
set_option maxRecDepth 20000 in
set_option maxHeartbeats 400000 in
theorem turnR_any (x : Nat) (i : Int) (w : World) (hx : x < 4294967296) (hn : 1 ≤ i) (hn' : i ≤ 31) :
    Calls Tryz.prog 125 #[.int .u32 x, .int .i64 i] w fun e w' => e = .returned (.int .u32 (rot x i.toNat : Nat)) ∧ w' = w := by
  obtain ⟨n, rfl⟩ := Int.eq_ofNat_of_zero_le (by omega : 0 ≤ i)
  replace hn : 1 ≤ n := by omega
  replace hn' : n ≤ 31 := by omega
  go_enter Tryz.func125, Tryz.ntmps125
  go_wp2_with (go_at_call 131; refine (rot39 x n _ hx hn hn').mono ?_; rintro e w1 ⟨rfl, rfl⟩)
  go_ret
  exact ⟨rfl, rfl⟩
set_option maxRecDepth 20000 in
set_option maxHeartbeats 400000 in
theorem S1_any (x : Nat) (w : World) (hx : x < 4294967296) :
    Calls Tryz.prog 106 #[.int .u32 x] w fun e w' => e = .returned (.int .u32 (S1 x : Nat)) ∧ w' = w := by
  have h1 := w_xor (rot x 6) (rot x 11) (rot_lt _ _ hx) (rot_lt _ _ hx)
  have h2 := w_xor (xo (rot x 6) (rot x 11)) (rot x 25) (xo_lt _ _ (rot_lt _ _ hx) (rot_lt _ _ hx)) (rot_lt _ _ hx)
  go_enter Tryz.func106, Tryz.ntmps106
  go_wp2_with (go_at_call 125; refine (turnR_any x _ _ hx (by decide) (by decide)).mono ?_; rintro e w1 ⟨rfl, rfl⟩)
  go_ret
  exact ⟨rfl, rfl⟩
set_option maxRecDepth 20000 in
set_option maxHeartbeats 400000 in
theorem S0_any (x : Nat) (w : World) (hx : x < 4294967296) :
    Calls Tryz.prog 107 #[.int .u32 x] w fun e w' => e = .returned (.int .u32 (S0 x : Nat)) ∧ w' = w := by
  have h1 := w_xor (rot x 2) (rot x 13) (rot_lt _ _ hx) (rot_lt _ _ hx)
  have h2 := w_xor (xo (rot x 2) (rot x 13)) (rot x 22) (xo_lt _ _ (rot_lt _ _ hx) (rot_lt _ _ hx)) (rot_lt _ _ hx)
  go_enter Tryz.func107, Tryz.ntmps107
  go_wp2_with (go_at_call 125; refine (turnR_any x _ _ hx (by decide) (by decide)).mono ?_; rintro e w1 ⟨rfl, rfl⟩)
  go_ret
  exact ⟨rfl, rfl⟩
set_option maxRecDepth 20000 in
set_option maxHeartbeats 400000 in
theorem s0_any (x : Nat) (w : World) (hx : x < 4294967296) :
    Calls Tryz.prog 109 #[.int .u32 x] w fun e w' => e = .returned (.int .u32 (s0 x : Nat)) ∧ w' = w := by
  have h1 := w_xor (rot x 7) (rot x 18) (rot_lt _ _ hx) (rot_lt _ _ hx)
  have h2 : bits .xor .u32 ((xo (rot x 7) (rot x 18) : Nat) : Int) ((x : Int) / 8) = ((s0 x : Nat) : Int) := by
    rw [show (x : Int) / 8 = ((x / 8 : Nat) : Int) by omega]
    exact w_xor _ _ (xo_lt _ _ (rot_lt _ _ hx) (rot_lt _ _ hx)) (div_lt32 _ _ hx)
  go_enter Tryz.func109, Tryz.ntmps109
  go_wp2_with (go_at_call 125; refine (turnR_any x _ _ hx (by decide) (by decide)).mono ?_; rintro e w1 ⟨rfl, rfl⟩)
  go_ret
  exact ⟨rfl, rfl⟩
set_option maxRecDepth 20000 in
set_option maxHeartbeats 400000 in
theorem s1_any (x : Nat) (w : World) (hx : x < 4294967296) :
    Calls Tryz.prog 110 #[.int .u32 x] w fun e w' => e = .returned (.int .u32 (s1 x : Nat)) ∧ w' = w := by
  have h1 := w_xor (rot x 17) (rot x 19) (rot_lt _ _ hx) (rot_lt _ _ hx)
  have h2 : bits .xor .u32 ((xo (rot x 17) (rot x 19) : Nat) : Int) ((x : Int) / 1024) = ((s1 x : Nat) : Int) := by
    rw [show (x : Int) / 1024 = ((x / 1024 : Nat) : Int) by omega]
    exact w_xor _ _ (xo_lt _ _ (rot_lt _ _ hx) (rot_lt _ _ hx)) (div_lt32 _ _ hx)
  go_enter Tryz.func110, Tryz.ntmps110
  go_wp2_with (go_at_call 125; refine (turnR_any x _ _ hx (by decide) (by decide)).mono ?_; rintro e w1 ⟨rfl, rfl⟩)
  go_ret
  exact ⟨rfl, rfl⟩
set_option maxRecDepth 20000 in
set_option maxHeartbeats 400000 in
theorem get_any (s : ByteArray) (p : Nat) (w : World) (hp : p + 4 ≤ s.size) (hs : s.size ≤ 1048576) :
    Calls Tryz.prog 117 #[.string s, .int .i64 p, .int .i64 4] w fun e w' => e = .returned (.int .i64 (be s p 4 : Nat)) ∧ w' = w := by
  go_enter Tryz.func117, Tryz.ntmps117
  go_wp2
  go_loop [7, 8] (fun v i => ∃ k : Nat, k ≤ 4 ∧ i = .int .i64 k ∧ v = .int .i64 (be s p k : Nat)) (fun _ i => 4 - (intOf i).toNat)
  case atStart => exact ⟨0, by omega, rfl, rfl⟩
  case round =>
    obtain ⟨k, hk, rfl, rfl⟩ := hrel
    by_cases hlt : k < 4
    · have h1 := be_lt s p k
      have h2 : 256 ^ k ≤ 256 ^ 3 := Nat.pow_le_pow_right (by omega) (by omega)
      have h3 : be s p k < 16777216 := by omega
      clear h1 h2
      have HB : Hid (be s p (k + 1) = be s p k * 256 + byteAt s (p + k)) := rfl
      have hb := byteAt_get s (p + k) (by omega)
      have hbl := byteAt_lt s (p + k)
      go_wp2
      go_round
      case rel => exact ⟨k + 1, by omega, by go_num, by rw [HB.out]; go_num⟩
      case measure => simp [intOf]; omega
    · obtain rfl : k = 4 := by omega
      go_wp2
      go_ret
      exact ⟨rfl, rfl⟩
theorem or_sum (i : Nat) (x y : Int) (hx₀ : 0 ≤ x) (hx : x % 2 ^ i = 0) (hx₁ : x < 2 ^ 32) (hy₀ : 0 ≤ y) (hy : y < 2 ^ i) (hy₁ : y < 2 ^ 32) : bits .or .u32 x y = x + y :=
  bits_join .u32 32 (by decide) (fun n h0 h1 => by rw [IntKind.wrap_u32]; omega) i x y hx₀ hx hx₁ hy₀ hy hy₁
set_option maxRecDepth 20000 in
set_option maxHeartbeats 400000 in
theorem word_any (s : ByteArray) (p : Nat) (w : World) (hp : p + 4 ≤ s.size) (hs : s.size ≤ 1048576) :
    Calls Tryz.prog 108 #[.string s, .int .i64 p] w fun e w' => e = .returned (.int .u32 (be s p 4 : Nat)) ∧ ∃ q, w' = w.drewN q := by
  have b0 := byteAt_get s p (by omega)
  have b1 := byteAt_get s (p + 1) (by omega)
  have b2 := byteAt_get s (p + 2) (by omega)
  have b3 := byteAt_get s (p + 3) (by omega)
  have HB : Hid (be s p 4 = ((byteAt s p * 256 + byteAt s (p + 1)) * 256 + byteAt s (p + 2)) * 256 + byteAt s (p + 3)) := by
    show be s p 4 = _; simp [be]
  have l0 := byteAt_lt s p
  have l1 := byteAt_lt s (p + 1)
  have l2 := byteAt_lt s (p + 2)
  have l3 := byteAt_lt s (p + 3)
  obtain ⟨B0, e0⟩ : ∃ n, byteAt s p = n := ⟨_, rfl⟩
  obtain ⟨B1, e1⟩ : ∃ n, byteAt s (p + 1) = n := ⟨_, rfl⟩
  obtain ⟨B2, e2⟩ : ∃ n, byteAt s (p + 2) = n := ⟨_, rfl⟩
  obtain ⟨B3, e3⟩ : ∃ n, byteAt s (p + 3) = n := ⟨_, rfl⟩
  rw [e0] at b0 l0; rw [e1] at b1 l1; rw [e2] at b2 l2; rw [e3] at b3 l3
  rw [e0, e1, e2, e3] at HB
  clear e0 e1 e2 e3
  have i0 : (p : Int) < (s.size : Int) := by omega
  have i1 : (p : Int) + 1 < (s.size : Int) := by omega
  have i2 : (p : Int) + 2 < (s.size : Int) := by omega
  have i3 : (p : Int) + 3 < (s.size : Int) := by omega
  have n1 : (0 : Int) ≤ (p : Int) + 1 := by omega
  have n2 : (0 : Int) ≤ (p : Int) + 2 := by omega
  have n3 : (0 : Int) ≤ (p : Int) + 3 := by omega
  have q1 : ((p : Int) + 1).toNat = p + 1 := by omega
  have q2 : ((p : Int) + 2).toNat = p + 2 := by omega
  have q3 : ((p : Int) + 3).toNat = p + 3 := by omega
  have v1 : IntKind.i64.wrap ((p : Int) + 1) = (p : Int) + 1 := by rw [IntKind.wrap_i64]; omega
  have v2 : IntKind.i64.wrap ((p : Int) + 2) = (p : Int) + 2 := by rw [IntKind.wrap_i64]; omega
  have v3 : IntKind.i64.wrap ((p : Int) + 3) = (p : Int) + 3 := by rw [IntKind.wrap_i64]; omega
  have u0 : IntKind.u32.wrap (B0 : Int) = (B0 : Int) := by rw [IntKind.wrap_u32]; omega
  have u1 : IntKind.u32.wrap (B1 : Int) = (B1 : Int) := by rw [IntKind.wrap_u32]; omega
  have u2 : IntKind.u32.wrap (B2 : Int) = (B2 : Int) := by rw [IntKind.wrap_u32]; omega
  have u3 : IntKind.u32.wrap (B3 : Int) = (B3 : Int) := by rw [IntKind.wrap_u32]; omega
  have m0 : IntKind.u32.wrap ((B0 : Int) * 16777216) = (B0 : Int) * 16777216 := by rw [IntKind.wrap_u32]; omega
  have m1 : IntKind.u32.wrap ((B1 : Int) * 65536) = (B1 : Int) * 65536 := by rw [IntKind.wrap_u32]; omega
  have m2 : IntKind.u32.wrap ((B2 : Int) * 256) = (B2 : Int) * 256 := by rw [IntKind.wrap_u32]; omega
  have o1 : bits .or .u32 ((B0 : Int) * 16777216) ((B1 : Int) * 65536) = (B0 : Int) * 16777216 + (B1 : Int) * 65536 := or_sum 24 _ _ (by omega) (by omega) (by omega) (by omega) (by omega) (by omega)
  have o2 : bits .or .u32 ((B0 : Int) * 16777216 + (B1 : Int) * 65536) ((B2 : Int) * 256) = (B0 : Int) * 16777216 + (B1 : Int) * 65536 + (B2 : Int) * 256 := or_sum 16 _ _ (by omega) (by omega) (by omega) (by omega) (by omega) (by omega)
  have o3 : bits .or .u32 ((B0 : Int) * 16777216 + (B1 : Int) * 65536 + (B2 : Int) * 256) (B3 : Int) = (B0 : Int) * 16777216 + (B1 : Int) * 65536 + (B2 : Int) * 256 + (B3 : Int) := or_sum 8 _ _ (by omega) (by omega) (by omega) (by omega) (by omega) (by omega)
  go_enter Tryz.func108, Tryz.ntmps108
  go_wp2
  go_quiet (fail)
  go_wp2
  go_ret
  refine ⟨ret_int ?_, _, rfl⟩
  rw [HB.out]
  omega
end Go.Proofs.YtjbbbfplephkpaaGreatDoor
