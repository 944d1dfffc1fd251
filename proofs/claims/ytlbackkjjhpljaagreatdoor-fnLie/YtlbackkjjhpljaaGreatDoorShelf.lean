/-
  DERIVED: THE SHELF's CONTRACTS AT THIS DUMP, IN PLAIN WORDS (tools/lay-plain.mjs out of 'TryzShelfR.lean', which tools/lay-shelf.mjs wrote): THE SAME DECLARATIONS UNDER THE SAME NAMES: 'import', 'namespace', 'open', 'def', 'theorem' AND NOTHING ELSE: no command of the shelf's: FOR A HAND-IN. Each laying: the table of numbers ('.._ren') and one theorem, a field a fact of the dump's own or the kernel's comparison; each contract: ONE APPLICATION.
-/
import Derived.Laws.BitsLemmas
import Derived.Laws.Bits64b
import Derived.Shelf.Strings.Builder1
import Derived.Shelf.Strings.Builder2
import Derived.Shelf.Strings.BuilderF
import Derived.Shelf.Strings.Prefix
import Derived.Shelf.Bits.Mul64
import Derived.Shelf.Strings.Repeat
import Derived.Test.YtlbackkjjhpljaaGreatDoorProg
namespace Go.Proofs.YtlbackkjjhpljaaGreatDoor

theorem nat_u32 (a : Nat) (ha : a < 4294967296) : (BitVec.ofInt 32 (a : Int)).toNat = a := by
  rw [BitVec.ofInt_natCast, BitVec.toNat_ofNat]; exact Nat.mod_eq_of_lt (by omega)
theorem xor_u32 (a b : Nat) (ha : a < 4294967296) (hb : b < 4294967296) :
    bits .xor .u32 (a : Int) (b : Int) = ((a ^^^ b : Nat) : Int) := by
  have hx : a ^^^ b < 2 ^ 32 := Nat.xor_lt_two_pow (by omega) (by omega)
  show IntKind.u32.wrap ((BitVec.ofInt 32 (a : Int) ^^^ BitVec.ofInt 32 (b : Int)).toNat : Int) = _
  rw [BitVec.toNat_xor, nat_u32 a ha, nat_u32 b hb, IntKind.wrap_u32]
  omega
theorem and_u32 (a b : Nat) (ha : a < 4294967296) (hb : b < 4294967296) :
    bits .and .u32 (a : Int) (b : Int) = ((a &&& b : Nat) : Int) := by
  have hx : a &&& b < 2 ^ 32 := Nat.and_lt_two_pow _ (by omega)
  show IntKind.u32.wrap ((BitVec.ofInt 32 (a : Int) &&& BitVec.ofInt 32 (b : Int)).toNat : Int) = _
  rw [BitVec.toNat_and, nat_u32 a ha, nat_u32 b hb, IntKind.wrap_u32]
  omega
theorem or_u32 (a b : Nat) (ha : a < 4294967296) (hb : b < 4294967296) :
    bits .or .u32 (a : Int) (b : Int) = ((a ||| b : Nat) : Int) := by
  have hx : a ||| b < 2 ^ 32 := Nat.or_lt_two_pow (by omega) (by omega)
  show IntKind.u32.wrap ((BitVec.ofInt 32 (a : Int) ||| BitVec.ofInt 32 (b : Int)).toNat : Int) = _
  rw [BitVec.toNat_or, nat_u32 a ha, nat_u32 b hb, IntKind.wrap_u32]
  omega
theorem ret_int {k : IntKind} {a b : Int} (h : a = b) : Ending.returned (.int k a) = .returned (.int k b) := by rw [h]
theorem ret_str {a b : ByteArray} (h : a = b) : Ending.returned (.string a) = .returned (.string b) := by rw [h]

/-! The operations on words. -/
def rot (x n : Nat) : Nat := (x / 2 ^ n) ||| (x * 2 ^ (32 - n) % 4294967296)
def add (a b : Nat) : Nat := (a + b) % 4294967296
def xo (a b : Nat) : Nat := a ^^^ b
def an (a b : Nat) : Nat := a &&& b
def no (a : Nat) : Nat := 4294967295 ^^^ a
theorem div_lt32 (x n : Nat) (h : x < 4294967296) : x / n < 4294967296 := Nat.lt_of_le_of_lt (Nat.div_le_self _ _) h
theorem rot_lt (x n : Nat) (h : x < 4294967296) : rot x n < 4294967296 :=
  Nat.or_lt_two_pow (n := 32) (div_lt32 x _ h) (Nat.mod_lt _ (by omega))
theorem add_lt (a b : Nat) : add a b < 4294967296 := Nat.mod_lt _ (by omega)
theorem xo_lt (a b : Nat) (ha : a < 4294967296) (hb : b < 4294967296) : xo a b < 4294967296 := Nat.xor_lt_two_pow (n := 32) ha hb
theorem an_lt (a b : Nat) (hb : b < 4294967296) : an a b < 4294967296 := Nat.and_lt_two_pow (n := 32) _ hb
theorem no_lt (a : Nat) (ha : a < 4294967296) : no a < 4294967296 := Nat.xor_lt_two_pow (n := 32) (by omega) ha
theorem add_comm' (a b : Nat) : add a b = add b a := by unfold add; rw [Nat.add_comm]

/-! The same as the walk spells them. -/
theorem w_xor (a b : Nat) (ha : a < 4294967296) (hb : b < 4294967296) : bits .xor .u32 (a : Int) (b : Int) = ((xo a b : Nat) : Int) := xor_u32 a b ha hb
theorem w_and (a b : Nat) (ha : a < 4294967296) (hb : b < 4294967296) : bits .and .u32 (a : Int) (b : Int) = ((an a b : Nat) : Int) := and_u32 a b ha hb
theorem w_not (a : Nat) (ha : a < 4294967296) : bits .xor .u32 IntKind.u32.max (a : Int) = ((no a : Nat) : Int) := by
  have e : IntKind.u32.max = ((4294967295 : Nat) : Int) := by decide
  rw [e]; exact xor_u32 _ a (by omega) ha
theorem w_add (a b : Nat) : ((a : Int) + (b : Int)) % 4294967296 = ((add a b : Nat) : Int) := by
  unfold add; omega
theorem w_div (x n : Nat) : (x : Int) / 2 ^ n = ((x / 2 ^ n : Nat) : Int) := by
  rw [Int.natCast_ediv, Int.natCast_pow]; rfl
theorem w_mul (x n : Nat) : (x : Int) * 2 ^ n % 4294967296 = ((x * 2 ^ n % 4294967296 : Nat) : Int) := by
  rw [Int.natCast_emod, Int.natCast_mul, Int.natCast_pow]; rfl
theorem w_rot (x n : Nat) (h : x < 4294967296) : bits .or .u32 ((x : Int) / 2 ^ n) ((x : Int) * 2 ^ (32 - n) % 4294967296) = ((rot x n : Nat) : Int) := by
  rw [w_div, w_mul]
  exact or_u32 _ _ (div_lt32 x _ h) (Nat.mod_lt _ (by omega))
theorem w_rot' (x n m : Nat) (h : x < 4294967296) (e : m + n = 32) : bits .or .u32 ((x : Int) * 2 ^ m % 4294967296) ((x : Int) / 2 ^ (32 - m)) = ((rot x n : Nat) : Int) := by
  rw [w_div, w_mul, or_u32 _ _ (Nat.mod_lt _ (by omega)) (div_lt32 x _ h)]
  unfold rot
  rw [Nat.or_comm, show 32 - m = n by omega, show 32 - n = m by omega]
theorem w_neg (n m : Nat) (hn : 1 ≤ n) (hn' : n ≤ 31) (e : m + n = 32) : bits .and .u64 (IntKind.u64.wrap (-(n : Int))) 31 = (m : Int) := by
  have h := bits_mask .u64 64 (by decide) (fun x h0 h1 => by rw [IntKind.wrap_u64]; omega) 5 (by omega) (IntKind.u64.wrap (-(n : Int))) (by rw [IntKind.wrap_u64]; omega) (by rw [IntKind.wrap_u64]; omega)
  have e5 : (2 : Int) ^ 5 - 1 = 31 := rfl
  have e6 : (2 : Int) ^ 5 = 32 := rfl
  rw [e5, e6, IntKind.wrap_u64] at h
  rw [IntKind.wrap_u64, h]
  omega

def S1 (e : Nat) : Nat := xo (xo (rot e 6) (rot e 11)) (rot e 25)
def S0 (a : Nat) : Nat := xo (xo (rot a 2) (rot a 13)) (rot a 22)
def s0 (a : Nat) : Nat := xo (xo (rot a 7) (rot a 18)) (a / 8)
def s1 (a : Nat) : Nat := xo (xo (rot a 17) (rot a 19)) (a / 1024)
theorem S1_lt (a : Nat) (h : a < 4294967296) : S1 a < 4294967296 := xo_lt _ _ (xo_lt _ _ (rot_lt _ _ h) (rot_lt _ _ h)) (rot_lt _ _ h)
theorem S0_lt (a : Nat) (h : a < 4294967296) : S0 a < 4294967296 := xo_lt _ _ (xo_lt _ _ (rot_lt _ _ h) (rot_lt _ _ h)) (rot_lt _ _ h)
theorem s0_lt (a : Nat) (h : a < 4294967296) : s0 a < 4294967296 := xo_lt _ _ (xo_lt _ _ (rot_lt _ _ h) (rot_lt _ _ h)) (div_lt32 _ _ h)
theorem s1_lt (a : Nat) (h : a < 4294967296) : s1 a < 4294967296 := xo_lt _ _ (xo_lt _ _ (rot_lt _ _ h) (rot_lt _ _ h)) (div_lt32 _ _ h)

/-- Four bytes, high first. -/
def byteAt (s : ByteArray) (k : Nat) : Nat := (s.data.toList.getD k 0).toNat
theorem byteAt_lt (s : ByteArray) (k : Nat) : byteAt s k < 256 := (s.data.toList.getD k 0).toNat_lt
theorem byteAt_get (s : ByteArray) (k : Nat) (h : k < s.size) : s[k].toNat = byteAt s k := by
  have h' : k < s.data.toList.length := by simpa using h
  unfold byteAt
  rw [List.getD_eq_getElem?_getD, List.getElem?_eq_getElem h']
  rfl
def be (s : ByteArray) (at' : Nat) : Nat → Nat
  | 0 => 0
  | k + 1 => be s at' k * 256 + byteAt s (at' + k)
theorem be_lt (s : ByteArray) (p k : Nat) : be s p k < 256 ^ k := by
  induction k with
  | zero => simp [be]
  | succ k ih =>
    have := byteAt_lt s (p + k)
    simp only [be, Nat.pow_succ]
    omega
theorem be4_lt (s : ByteArray) (p : Nat) : be s p 4 < 4294967296 := be_lt s p 4

/-- The words of a block. -/
def wlist (s : ByteArray) : Nat → List Nat
  | 0 => []
  | t + 1 => wlist s t ++ [if t < 16 then be s (4 * t) 4 else add (add (add ((wlist s t).getD (t - 16) 0) (s0 ((wlist s t).getD (t - 15) 0))) ((wlist s t).getD (t - 7) 0)) (s1 ((wlist s t).getD (t - 2) 0))]
def wd (s : ByteArray) (t : Nat) : Nat := (wlist s (t + 1)).getD t 0
theorem wlist_len (s : ByteArray) (t : Nat) : (wlist s t).length = t := by
  induction t with
  | zero => rfl
  | succ t ih => simp only [wlist, List.length_append, ih, List.length_singleton]
theorem wlist_at (s : ByteArray) (t i : Nat) (h : i < t) : (wlist s t).getD i 0 = wd s i := by
  induction t with
  | zero => omega
  | succ t ih =>
    by_cases e : i = t
    · subst e; rfl
    · have hl := wlist_len s t
      rw [← ih (by omega)]
      simp only [wlist, List.getD_eq_getElem?_getD]
      rw [List.getElem?_append_left (by omega)]
theorem wd_last (s : ByteArray) (t : Nat) : wd s t = if t < 16 then be s (4 * t) 4 else add (add (add ((wlist s t).getD (t - 16) 0) (s0 ((wlist s t).getD (t - 15) 0))) ((wlist s t).getD (t - 7) 0)) (s1 ((wlist s t).getD (t - 2) 0)) := by
  have hl := wlist_len s t
  unfold wd
  simp only [wlist, List.getD_eq_getElem?_getD]
  rw [List.getElem?_append_right (by omega), hl]
  simp
theorem wd_low (s : ByteArray) (t : Nat) (h : t < 16) : wd s t = be s (4 * t) 4 := by rw [wd_last, if_pos h]
theorem wd_high (s : ByteArray) (t : Nat) (h : 16 ≤ t) : wd s t = add (add (add (wd s (t - 16)) (s0 (wd s (t - 15)))) (wd s (t - 7))) (s1 (wd s (t - 2))) := by
  rw [wd_last, if_neg (by omega), wlist_at s t _ (by omega), wlist_at s t _ (by omega), wlist_at s t _ (by omega), wlist_at s t _ (by omega)]
theorem wd_lt (s : ByteArray) (t : Nat) : wd s t < 4294967296 := by
  by_cases h : t < 16
  · rw [wd_low s t h]; exact be4_lt _ _
  · rw [wd_high s t (by omega)]; exact add_lt _ _

/-- The state. -/
structure St where
  a : Nat
  b : Nat
  c : Nat
  d : Nat
  e : Nat
  f : Nat
  g : Nat
  h : Nat
def St.ok (s : St) : Prop := s.a < 4294967296 ∧ s.b < 4294967296 ∧ s.c < 4294967296 ∧ s.d < 4294967296 ∧ s.e < 4294967296 ∧ s.f < 4294967296 ∧ s.g < 4294967296 ∧ s.h < 4294967296
def St.list (s : St) : List Nat := [s.a, s.b, s.c, s.d, s.e, s.f, s.g, s.h]
def t1 (s : St) (k w : Nat) : Nat := add (add (add (add s.h (S1 s.e)) (xo (an s.e s.f) (an (no s.e) s.g))) k) w
def t2 (s : St) : Nat := add (S0 s.a) (xo (xo (an s.a s.b) (an s.a s.c)) (an s.b s.c))
def rnd (s : St) (k w : Nat) : St := ⟨add (t1 s k w) (t2 s), s.a, s.b, s.c, add s.d (t1 s k w), s.e, s.f, s.g⟩
def keysL : List Nat := [
  0x428a2f98, 0x71374491, 0xb5c0fbcf, 0xe9b5dba5, 0x3956c25b, 0x59f111f1, 0x923f82a4, 0xab1c5ed5,
  0xd807aa98, 0x12835b01, 0x243185be, 0x550c7dc3, 0x72be5d74, 0x80deb1fe, 0x9bdc06a7, 0xc19bf174,
  0xe49b69c1, 0xefbe4786, 0x0fc19dc6, 0x240ca1cc, 0x2de92c6f, 0x4a7484aa, 0x5cb0a9dc, 0x76f988da,
  0x983e5152, 0xa831c66d, 0xb00327c8, 0xbf597fc7, 0xc6e00bf3, 0xd5a79147, 0x06ca6351, 0x14292967,
  0x27b70a85, 0x2e1b2138, 0x4d2c6dfc, 0x53380d13, 0x650a7354, 0x766a0abb, 0x81c2c92e, 0x92722c85,
  0xa2bfe8a1, 0xa81a664b, 0xc24b8b70, 0xc76c51a3, 0xd192e819, 0xd6990624, 0xf40e3585, 0x106aa070,
  0x19a4c116, 0x1e376c08, 0x2748774c, 0x34b0bcb5, 0x391c0cb3, 0x4ed8aa4a, 0x5b9cca4f, 0x682e6ff3,
  0x748f82ee, 0x78a5636f, 0x84c87814, 0x8cc70208, 0x90befffa, 0xa4506ceb, 0xbef9a3f7, 0xc67178f2]
def key (t : Nat) : Nat := keysL.getD t 0
theorem key_lt (t : Nat) : key t < 4294967296 := by
  have h : ∀ x ∈ keysL, x < 4294967296 := by decide
  unfold key
  rw [List.getD_eq_getElem?_getD]
  by_cases hl : t < keysL.length
  · rw [List.getElem?_eq_getElem hl]; exact h _ (List.getElem_mem hl)
  · rw [List.getElem?_eq_none (by omega)]; simp
def rds (s : St) (blk : ByteArray) : Nat → St
  | 0 => s
  | t + 1 => rnd (rds s blk t) (key t) (wd blk t)
theorem rnd_ok (s : St) (k w : Nat) (h : s.ok) : (rnd s k w).ok := by
  obtain ⟨h1, h2, h3, h4, h5, h6, h7, h8⟩ := h
  exact ⟨add_lt _ _, h1, h2, h3, add_lt _ _, h5, h6, h7⟩
theorem rds_ok (s : St) (blk : ByteArray) (t : Nat) (h : s.ok) : (rds s blk t).ok := by
  induction t with
  | zero => exact h
  | succ t ih => exact rnd_ok _ _ _ ih
/-- The state behind a block. -/
def comp (s : St) (blk : ByteArray) : St :=
  let r := rds s blk 64
  ⟨add s.a r.a, add s.b r.b, add s.c r.c, add s.d r.d, add s.e r.e, add s.f r.f, add s.g r.g, add s.h r.h⟩
theorem comp_ok (s : St) (blk : ByteArray) : (comp s blk).ok := ⟨add_lt _ _, add_lt _ _, add_lt _ _, add_lt _ _, add_lt _ _, add_lt _ _, add_lt _ _, add_lt _ _⟩
end Go.Proofs.YtlbackkjjhpljaaGreatDoor
namespace Go.Proofs
open Go.Shelf
def Tryz.lays105_ren : Go.Shelf.Ren := ⟨fun | 105 => 112 | 212 => 139 | 99 => 140 | 165 => 141 | 166 => 142 | 170 => 143 | 169 => 144 | 263 => 151 | 264 => 152 | 206 => 153 | 240 => 154 | 241 => 155 | 276 => 157 | 277 => 158 | n => n, fun | 9 => 9 | 3 => 3 | 4 => 4 | 20 => 20 | 0 => 0 | 46 => 111 | 109 => 188 | 5 => 5 | 72 => 193 | 76 => 194 | 51 => 127 | 146 => 202 | 53 => 139 | 148 => 204 | 70 => 191 | 37 => 33 | 75 => 51 | 127 => 206 | 164 => 112 | 80 => 133 | n => n, fun | n => n⟩
theorem Tryz.lays105 : Go.Proofs.Lays.n105 Tryz.prog Tryz.lays105_ren := {
  mixed := by kernel_rfl
  f99 := Tryz.func140.trans (congrArg some (by kernel_rfl))
  f105 := Tryz.func112.trans (congrArg some (by kernel_rfl))
  f165 := Tryz.func141.trans (congrArg some (by kernel_rfl))
  f166 := Tryz.func142.trans (congrArg some (by kernel_rfl))
  f169 := Tryz.func144.trans (congrArg some (by kernel_rfl))
  f170 := Tryz.func143.trans (congrArg some (by kernel_rfl))
  f206 := Tryz.func153.trans (congrArg some (by kernel_rfl))
  f212 := Tryz.func139.trans (congrArg some (by kernel_rfl))
  f240 := Tryz.func154.trans (congrArg some (by kernel_rfl))
  f241 := Tryz.func155.trans (congrArg some (by kernel_rfl))
  f263 := Tryz.func151.trans (congrArg some (by kernel_rfl))
  f264 := Tryz.func152.trans (congrArg some (by kernel_rfl))
  f276 := Tryz.func157.trans (congrArg some (by kernel_rfl))
  f277 := Tryz.func158.trans (congrArg some (by kernel_rfl))
  t0 := Tryz.underlying0
  a0 := Tryz.isAgg0
  z0 := Tryz.sizeOf0
  v0 := Tryz.zeroValue0
  t3 := Tryz.underlying3
  a3 := Tryz.isAgg3
  z3 := Tryz.sizeOf3
  v3 := Tryz.zeroValue3
  t4 := Tryz.underlying4
  a4 := Tryz.isAgg4
  z4 := Tryz.sizeOf4
  v4 := Tryz.zeroValue4
  t5 := Tryz.underlying5
  a5 := Tryz.isAgg5
  z5 := Tryz.sizeOf5
  v5 := Tryz.zeroValue5
  t9 := Tryz.underlying9
  a9 := Tryz.isAgg9
  z9 := Tryz.sizeOf9
  v9 := Tryz.zeroValue9
  t20 := Tryz.underlying20
  a20 := Tryz.isAgg20
  z20 := Tryz.sizeOf20
  v20 := Tryz.zeroValue20
  t37 := Tryz.underlying33
  a37 := Tryz.isAgg33
  z37 := Tryz.sizeOf33
  v37 := Tryz.zeroValue33
  t46 := Tryz.underlying111
  a46 := Tryz.isAgg111
  z46 := Tryz.sizeOf111
  v46 := Tryz.zeroValue111
  t51 := Tryz.underlying127
  a51 := Tryz.isAgg127
  z51 := Tryz.sizeOf127
  v51 := Tryz.zeroValue127
  t53 := Tryz.underlying139
  a53 := Tryz.isAgg139
  z53 := Tryz.sizeOf139
  v53 := Tryz.zeroValue139
  t70 := Tryz.underlying191
  a70 := Tryz.isAgg191
  z70 := Tryz.sizeOf191
  v70 := Tryz.zeroValue191
  t72 := Tryz.underlying193
  a72 := Tryz.isAgg193
  z72 := Tryz.sizeOf193
  v72 := Tryz.zeroValue193
  t75 := Tryz.underlying51
  a75 := Tryz.isAgg51
  z75 := Tryz.sizeOf51
  v75 := Tryz.zeroValue51
  t76 := Tryz.underlying194
  a76 := Tryz.isAgg194
  z76 := Tryz.sizeOf194
  v76 := Tryz.zeroValue194
  t109 := Tryz.underlying188
  a109 := Tryz.isAgg188
  z109 := Tryz.sizeOf188
  v109 := Tryz.zeroValue188
  t127 := Tryz.underlying206
  a127 := Tryz.isAgg206
  z127 := Tryz.sizeOf206
  v127 := Tryz.zeroValue206
  t146 := Tryz.underlying202
  a146 := Tryz.isAgg202
  z146 := Tryz.sizeOf202
  v146 := Tryz.zeroValue202
  t148 := Tryz.underlying204
  a148 := Tryz.isAgg204
  z148 := Tryz.sizeOf204
  v148 := Tryz.zeroValue204
  t164 := Tryz.underlying112
  a164 := Tryz.isAgg112
  z164 := Tryz.sizeOf112
  v164 := Tryz.zeroValue112 }
theorem Tryz.Builder_Extra_105 : Builder.Extra Tryz.prog Tryz.lays105_ren := {
  sizeBuilder := by kernel_rfl
  liesBuilder := by kernel_rfl
  t5 := Tryz.underlying5
  a5 := Tryz.isAgg5
  z5 := Tryz.sizeOf5
  v5 := Tryz.zeroValue5
  infoByte := by kernel_rfl
  cellsByte := by kernel_rfl
  sizeByte := by kernel_rfl
  neB5 := by decide }
open Go.RowKit Go.Lib in
/-- **strings.Repeat: count ≥ 0, the result within one allocation: count copies of s.** (LAID: no walk: one application.) -/
theorem Tryz.strings_Repeat (s : ByteArray) (c : Nat) (w : World) (hc : c ≤ 9223372036854775807) (hlen : s.size * c ≤ 140737488355328) :
    Calls Tryz.prog 112 #[.string s, .int .i64 c] w fun e w' => e = .returned (.string ⟨(Lib.repeatL s.data.toList c).toArray⟩) ∧ Below w.heap.size w w' := Any.strings_Repeat Tryz.lays105 Tryz.Builder_Extra_105 s c w hc hlen
end Go.Proofs
