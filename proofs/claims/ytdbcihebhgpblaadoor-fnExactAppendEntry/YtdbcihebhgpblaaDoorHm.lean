/-
  Slices of strings: held against each other, marked, the marks found again.
-/
import Derived.Test.YtdbcihebhgpblaaDoorFd
import Derived.KernelRfl
import Derived.Lib.BufferWrite
import Derived.Lib.UnsafeStr
import Derived.Deep.RegionHeld3
import Derived.RegionCalls
namespace Go.Proofs.YtdbcihebhgpblaaDoor
open Go.RowKit
theorem undrewN {w : World} (q : Nat) : Below w.heap.size w (w.drewN q) := ⟨rfl, rfl, rfl, Nat.le_refl _, fun _ _ => rfl⟩
theorem bdrew1 (w : World) : Below w.heap.size w w.drew := undrew (Below.refl _ _)
def byteAt (s : ByteArray) (k : Nat) : Nat := (s.data.toList.getD k 0).toNat
theorem byteAt_lt (s : ByteArray) (k : Nat) : byteAt s k < 256 := (s.data.toList.getD k 0).toNat_lt
theorem byteAt_get (s : ByteArray) (k : Nat) (h : k < s.size) : s[k].toNat = byteAt s k := by
  have h' : k < s.data.toList.length := by simpa using h
  unfold byteAt
  rw [List.getD_eq_getElem?_getD, List.getElem?_eq_getElem h']
  rfl
def be (s : ByteArray) (at' : Nat) : Nat → Nat
  | 0 => 0
  | k + 1 => be s at' k * 256 + byteAt s (at' + k)
theorem be_lt (s : ByteArray) (p k : Nat) : be s p k < 256 ^ k := by
  induction k with
  | zero => simp [be]
  | succ k ih =>
    have := byteAt_lt s (p + k)
    simp only [be, Nat.pow_succ]
    omega
theorem be4_lt (s : ByteArray) (p : Nat) : be s p 4 < 4294967296 := be_lt s p 4
theorem or_sum (i : Nat) (x y : Int) (hx₀ : 0 ≤ x) (hx : x % 2 ^ i = 0) (hx₁ : x < 2 ^ 32) (hy₀ : 0 ≤ y) (hy : y < 2 ^ i) (hy₁ : y < 2 ^ 32) : bits .or .u32 x y = x + y :=
  bits_join .u32 32 (by decide) (fun n h0 h1 => by rw [IntKind.wrap_u32]; omega) i x y hx₀ hx hx₁ hy₀ hy hy₁
theorem ext_list (s : ByteArray) (i j : Nat) : (s.extract i j).data.toList = (s.data.toList.drop i).take (j - i) := by
  rw [ByteArray.data_extract, Array.toList_extract, List.extract_eq_take_drop]
theorem bytes_eq {a b : ByteArray} (h : a.data.toList = b.data.toList) : a = b := by
  obtain ⟨⟨a⟩⟩ := a
  obtain ⟨⟨b⟩⟩ := b
  simp at h
  rw [h]
theorem byt_of (v : Int) (i : Nat) (c : UInt8) (h : (v / 256 ^ i) % 256 = (c.toNat : Int)) : byt v i = c := by
  have h1 := byt_nat v i
  rw [h] at h1
  have h2 : (byt v i).toNat = c.toNat := by omega
  exact UInt8.toNat_inj.1 h2
theorem be4 (s : ByteArray) (p : Nat) : be s p 4 = ((byteAt s p * 256 + byteAt s (p + 1)) * 256 + byteAt s (p + 2)) * 256 + byteAt s (p + 3) := by simp [be]
theorem num_be (s : ByteArray) (p : Nat) (h : p + 4 ≤ s.size) : bs (numI 4 (be s p 4 : Nat)) = s.extract p (p + 4) := by
  apply bytes_eq
  rw [ext_list]
  have hs : s.data.toList.length = s.size := by simp
  have l0 := byteAt_lt s p
  have l1 := byteAt_lt s (p + 1)
  have l2 := byteAt_lt s (p + 2)
  have l3 := byteAt_lt s (p + 3)
  have hb := be4 s p
  have e : (p + 4 - p) = 4 := by omega
  rw [e]
  have hn : numI 4 (be s p 4 : Nat) = [byt (be s p 4 : Nat) 3, byt (be s p 4 : Nat) 2, byt (be s p 4 : Nat) 1, byt (be s p 4 : Nat) 0] := rfl
  have hd : (s.data.toList.drop p).take 4 = [s.data.toList.getD p 0, s.data.toList.getD (p + 1) 0, s.data.toList.getD (p + 2) 0, s.data.toList.getD (p + 3) 0] := by
    apply List.ext_getElem
    · simp; omega
    · intro i h1 h2
      simp at h1
      rcases (show i = 0 ∨ i = 1 ∨ i = 2 ∨ i = 3 by omega) with rfl | rfl | rfl | rfl <;> simp
      all_goals (rw [Array.getElem?_eq_getElem (by have : s.data.size = s.size := rfl; omega)]; rfl)
  show (bs (numI 4 (be s p 4 : Nat))).data.toList = _
  rw [hd]
  show numI 4 (be s p 4 : Nat) = _
  rw [hn, byt_of _ 3 (s.data.toList.getD p 0), byt_of _ 2 (s.data.toList.getD (p + 1) 0), byt_of _ 1 (s.data.toList.getD (p + 2) 0), byt_of _ 0 (s.data.toList.getD (p + 3) 0)]
  all_goals
    simp only [byteAt] at hb l0 l1 l2 l3
    rw [hb]
    omega
theorem num_inj (a b : Nat) (ha : a < 4294967296) (hb : b < 4294967296) (h : bs (numI 4 (a : Int)) = bs (numI 4 (b : Int))) : a = b := by
  have h1 : numI 4 (a : Int) = numI 4 (b : Int) := by
    have := congrArg (fun x : ByteArray => x.data.toList) h
    simpa [bs] using this
  have e : ∀ v : Int, numI 4 v = [byt v 3, byt v 2, byt v 1, byt v 0] := fun _ => rfl
  rw [e, e] at h1
  simp only [List.cons.injEq, and_true] at h1
  obtain ⟨h3, h2, h1, h0⟩ := h1
  have g3 := byt_nat (a : Int) 3
  have g2 := byt_nat (a : Int) 2
  have g1 := byt_nat (a : Int) 1
  have g0 := byt_nat (a : Int) 0
  have k3 := byt_nat (b : Int) 3
  have k2 := byt_nat (b : Int) 2
  have k1 := byt_nat (b : Int) 1
  have k0 := byt_nat (b : Int) 0
  rw [h3] at g3
  rw [h2] at g2
  rw [h1] at g1
  rw [h0] at g0
  rw [k3] at g3
  rw [k2] at g2
  rw [k1] at g1
  rw [k0] at g0
  simp only [Int.reducePow, Int.pow_zero, Int.ediv_one] at g0 g1 g2 g3
  omega
theorem ext_app (s : ByteArray) (a b c : Nat) (h1 : a ≤ b) (h2 : b ≤ c) (_h3 : c ≤ s.size) : s.extract a b ++ s.extract b c = s.extract a c := by
  apply bytes_eq
  rw [ByteArray.data_append, Array.toList_append]
  rw [ext_list, ext_list, ext_list]
  have e : s.data.toList.drop b = (s.data.toList.drop a).drop (b - a) := by rw [List.drop_drop]; congr 1; omega
  rw [e, ← List.take_add]
  congr 1
  omega
/-- The entry of the frame with which s begins; nothing where none begins. -/
def fst (s : ByteArray) : ByteArray :=
  if s.size < 8 then ByteArray.empty
  else if s.size < 8 + be s 0 4 then ByteArray.empty
  else if be s 0 4 = 0 ∨ 60000 < be s 0 4 then ByteArray.empty
  else if crcOf (s.extract 8 (8 + be s 0 4)) = be s 4 4 then s.extract 8 (8 + be s 0 4) else ByteArray.empty
theorem fst_a {s : ByteArray} (h : s.size < 8) : fst s = ByteArray.empty := by unfold fst; rw [if_pos h]
theorem fst_b {s : ByteArray} (h : s.size < 8 + be s 0 4) : fst s = ByteArray.empty := by simp only [fst, if_pos h, ite_self]
theorem fst_c {s : ByteArray} (h : be s 0 4 = 0 ∨ 60000 < be s 0 4) : fst s = ByteArray.empty := by simp only [fst, if_pos h, ite_self]
theorem fst_d {s : ByteArray} (h : crcOf (s.extract 8 (8 + be s 0 4)) ≠ be s 4 4) : fst s = ByteArray.empty := by simp only [fst, if_neg h, ite_self]
theorem fst_e {s : ByteArray} (h0 : ¬ s.size < 8) (h1 : ¬ s.size < 8 + be s 0 4) (h2 : ¬ (be s 0 4 = 0 ∨ 60000 < be s 0 4)) (h : crcOf (s.extract 8 (8 + be s 0 4)) = be s 4 4) : fst s = s.extract 8 (8 + be s 0 4) := by unfold fst; rw [if_neg h0, if_neg h1, if_neg h2, if_pos h]
theorem ext_size (s : ByteArray) (n : Nat) (h : 8 + n ≤ s.size) : (s.extract 8 (8 + n)).size = n := by simp; omega
theorem frm_iff (s : ByteArray) (h1 : 8 + be s 0 4 ≤ s.size) (h2 : ¬ (be s 0 4 = 0 ∨ 60000 < be s 0 4)) : frm (s.extract 8 (8 + be s 0 4)) = s.extract 0 (8 + be s 0 4) ↔ crcOf (s.extract 8 (8 + be s 0 4)) = be s 4 4 := by
  have hz := ext_size s (be s 0 4) h1
  have hb : btw ((s.extract 8 (8 + be s 0 4)).size : Int) 1 60000 = true := by rw [hz]; simp [btw]; omega
  rw [frm_yes hb, hz, num_be s 0 (by omega)]
  have e : s.extract 0 (8 + be s 0 4) = s.extract 0 (0 + 4) ++ s.extract 4 8 ++ s.extract 8 (8 + be s 0 4) := by
    rw [ext_app s 0 4 8 (by omega) (by omega) (by omega), ext_app s 0 8 (8 + be s 0 4) (by omega) (by omega) (by omega)]
  rw [e]
  have hn := num_be s 4 (by omega)
  constructor
  · intro h
    have h3 := congrArg (fun x : ByteArray => x.data.toList) h
    simp only [ByteArray.data_append, Array.toList_append] at h3
    have h4 := List.append_cancel_right h3
    have h5 := List.append_cancel_left h4
    have h6 : bs (numI 4 (crcOf (s.extract 8 (8 + be s 0 4)) : Nat)) = s.extract 4 8 := bytes_eq h5
    exact num_inj _ _ (crcOf_lt _) (be4_lt s 4) (h6.trans hn.symm)
  · intro h
    rw [h, hn]
theorem frm_empty (s : ByteArray) : frm s = ByteArray.empty ↔ (s.size = 0 ∨ 60000 < s.size) := by
  rcases hb : btw s.size 1 60000
  · rw [frm_no hb]
    simp [btw] at hb
    constructor
    · intro _; omega
    · intro _; rfl
  · rw [frm_yes hb]
    simp [btw] at hb
    constructor
    · intro h
      have := congrArg ByteArray.size h
      simp [bs_size, numI_len] at this
    · intro h; omega
end Go.Proofs.YtdbcihebhgpblaaDoor
namespace Go.Proofs.YtdbcihebhgpblaaDoor
open Go.RowKit
abbrev qHb10 : Oper := { dst := some 18, op := Op.move (Operand.tmp 5), type := 3, pos := "l6_journal.go:341", after := #[], guard := none }
abbrev qHb11 : Oper := { dst := some 19, op := Op.binOp BinOp.gtr 3 (Operand.tmp 18) (Operand.const (Value.int IntKind.i64 60000)) 3, type := 4, pos := "l6_journal.go:341", after := #[{ on := 0, ground := Ground.data }], guard := none }
abbrev qHb12 : Oper := { dst := some 20, op := Op.move (Operand.tmp 19), type := 4, pos := "l6_journal.go:341", after := #[{ on := 1, ground := Ground.data }], guard := none }
abbrev qHb13 : Oper := { dst := some 21, op := Op.move (Operand.tmp 5), type := 3, pos := "l6_journal.go:341", after := #[{ on := 2, ground := Ground.guard }], guard := some (2, false) }
abbrev qHb14 : Oper := { dst := some 22, op := Op.move (Operand.tmp 7), type := 9, pos := "l6_journal.go:341", after := #[{ on := 2, ground := Ground.guard }], guard := some (2, false) }
abbrev qHb15 : Oper := { dst := some 23, op := Op.call { callee := Callee.builtin Builtin.len, args := #[Operand.tmp 22], argTypes := #[9] }, type := 3, pos := "l6_journal.go:341", after := #[{ on := 4, ground := Ground.data }, { on := 2, ground := Ground.guard }], guard := some (2, false) }
abbrev qHb16 : Oper := { dst := some 24, op := Op.binOp BinOp.gtr 3 (Operand.tmp 21) (Operand.tmp 23) 3, type := 4, pos := "l6_journal.go:341", after := #[{ on := 3, ground := Ground.data }, { on := 5, ground := Ground.data }, { on := 2, ground := Ground.guard }], guard := some (2, false) }
abbrev qHb17 : Oper := { dst := some 25, op := Op.pick (Operand.tmp 20) (Operand.const (Value.bool true)) (Operand.tmp 24), type := 4, pos := "l6_journal.go:341", after := #[{ on := 2, ground := Ground.data }, { on := 6, ground := Ground.data }], guard := none }
abbrev qHb18 : Oper := { dst := some 26, op := Op.move (Operand.tmp 25), type := 4, pos := "l6_journal.go:341", after := #[{ on := 7, ground := Ground.data }, { on := 2, ground := Ground.chain }], guard := none }
abbrev qHb19 : Oper := { dst := some 27, op := Op.load 95 (Operand.tmp 3), type := 95, pos := "l6_journal.go:341", after := #[{ on := 8, ground := Ground.guard }], guard := some (8, false) }
abbrev qHb20 : Oper := { dst := some 28, op := Op.move (Operand.tmp 7), type := 9, pos := "l6_journal.go:341", after := #[{ on := 8, ground := Ground.guard }], guard := some (8, false) }
abbrev qHb21 : Oper := { dst := some 29, op := Op.move (Operand.tmp 5), type := 3, pos := "l6_journal.go:341", after := #[{ on := 8, ground := Ground.guard }], guard := some (8, false) }
abbrev qHb22 : Oper := { dst := some 30, op := Op.slice 9 (Operand.tmp 28) none (some (Operand.tmp 29)) none, type := 9, pos := "l6_journal.go:341", after := #[{ on := 10, ground := Ground.data }, { on := 11, ground := Ground.data }, { on := 8, ground := Ground.guard }], guard := some (8, false) }
abbrev qHb23 : Oper := { dst := some 31, op := Op.call { callee := Callee.value (Operand.func 63), args := #[Operand.tmp 27, Operand.tmp 30], argTypes := #[95, 9] }, type := 93, pos := "l6_journal.go:341", after := #[{ on := 9, ground := Ground.data }, { on := 12, ground := Ground.data }, { on := 8, ground := Ground.chain }, { on := 8, ground := Ground.guard }], guard := some (8, false) }
abbrev qHb24 : Oper := { dst := some 32, op := Op.move (Operand.tmp 6), type := 93, pos := "l6_journal.go:341", after := #[{ on := 8, ground := Ground.guard }], guard := some (8, false) }
abbrev qHb25 : Oper := { dst := some 33, op := Op.binOp BinOp.neq 93 (Operand.tmp 31) (Operand.tmp 32) 93, type := 4, pos := "l6_journal.go:341", after := #[{ on := 13, ground := Ground.data }, { on := 14, ground := Ground.data }, { on := 8, ground := Ground.guard }], guard := some (8, false) }
abbrev qHb26 : Oper := { dst := some 34, op := Op.pick (Operand.tmp 26) (Operand.const (Value.bool true)) (Operand.tmp 33), type := 4, pos := "l6_journal.go:341", after := #[{ on := 8, ground := Ground.data }, { on := 15, ground := Ground.data }], guard := none }
theorem nilS (s : ByteArray) : (s.toList == ([] : List UInt8)) = decide (s.size = 0) := by
  have h := empty_iff s
  rcases hb : (s.toList == ([] : List UInt8))
  · have h1 : ¬ s.toList = [] := by simpa using hb
    have : ¬ s.size = 0 := fun e => h1 (h.2 e)
    simp [this]
  · have h1 : s.toList = [] := by simpa using hb
    simp [h.1 h1]
theorem tabRange {x : World} {g : Nat} (h : x.heap[g]? = some (.cells (tab 256) 147 (0, 0))) : x.rangeAt g 0 (tab 256).toList := fun j v hv => by
  rw [Nat.zero_add, cell_of_row x _ j _ _ _ h]
  simpa using hv
theorem sumOf (s : ByteArray) (w : World) (hs : s.size ≤ 1048576) : Calls Tryd.prog 97 #[.agg (tab 256), .string s] w fun e w' => e = .returned (.int .u32 (crcOf s : Nat)) ∧ Below w.heap.size w w' := sum_any s w hs
theorem ext_ext (s : ByteArray) (n : Nat) (h : 8 + n ≤ s.size) : (s.extract 8 s.size).extract 0 n = s.extract 8 (8 + n) := by
  apply bytes_eq
  rw [ext_list, ext_list, ext_list, List.drop_zero, List.take_take]
  congr 1
  omega
end Go.Proofs.YtdbcihebhgpblaaDoor
namespace Go.Proofs.YtdbcihebhgpblaaDoor
open Go.RowKit
/-- What is left of s at a place. -/
def rst (s : ByteArray) (a : Nat) : ByteArray := s.extract a s.size
/-- The entries L stand as frames in s from a on, and end at b. -/
def Ch (s : ByteArray) : Nat → List ByteArray → Nat → Prop
  | a, [], b => a = b
  | a, x :: xs, b => x = fst (rst s a) ∧ x.size ≠ 0 ∧ Ch s (a + (8 + x.size)) xs b
theorem Ch.snoc {s : ByteArray} {L : List ByteArray} {a b : Nat} (h : Ch s a L b) (x : ByteArray) (hx : x = fst (rst s b)) (h0 : x.size ≠ 0) : Ch s a (L ++ [x]) (b + (8 + x.size)) := by
  induction L generalizing a with
  | nil =>
    obtain rfl : a = b := h
    exact ⟨hx, h0, rfl⟩
  | cons y ys ih => exact ⟨h.1, h.2.1, ih h.2.2⟩
theorem Ch.same {s : ByteArray} {L L' : List ByteArray} {a b b' : Nat} (h : Ch s a L b) (h' : Ch s a L' b') (e : (fst (rst s b)).size = 0) (e' : (fst (rst s b')).size = 0) : L = L' ∧ b = b' := by
  induction L generalizing a L' with
  | nil =>
    obtain rfl : a = b := h
    cases L' with
    | nil => exact ⟨rfl, h'⟩
    | cons y ys =>
      obtain ⟨h1, h2, _⟩ := h'
      rw [h1] at h2
      exact absurd e h2
  | cons x xs ih =>
    obtain ⟨h1, h2, h3⟩ := h
    cases L' with
    | nil =>
      obtain rfl : a = b' := h'
      rw [h1] at h2
      exact absurd e' h2
    | cons y ys =>
      obtain ⟨k1, k2, k3⟩ := h'
      obtain rfl : x = y := h1.trans k1.symm
      obtain ⟨rfl, rfl⟩ := ih h3 k3
      exact ⟨rfl, rfl⟩
theorem rst_size (s : ByteArray) (a : Nat) (_h : a ≤ s.size) : (rst s a).size = s.size - a := by simp [rst]
theorem fst_fits (s : ByteArray) (h : (fst s).size ≠ 0) : 8 + (fst s).size ≤ s.size := by
  by_cases h0 : s.size < 8
  · exact absurd (show (fst s).size = 0 by rw [fst_a h0]; rfl) h
  by_cases h1 : s.size < 8 + be s 0 4
  · exact absurd (show (fst s).size = 0 by rw [fst_b h1]; rfl) h
  by_cases h2 : be s 0 4 = 0 ∨ 60000 < be s 0 4
  · exact absurd (show (fst s).size = 0 by rw [fst_c h2]; rfl) h
  by_cases h3 : crcOf (s.extract 8 (8 + be s 0 4)) = be s 4 4
  · rw [fst_e h0 h1 h2 h3, ext_size s _ (by omega)]
    omega
  · exact absurd (show (fst s).size = 0 by rw [fst_d h3]; rfl) h
theorem rst_fits {s : ByteArray} {b : Nat} (hb : b ≤ s.size) (h : (fst (rst s b)).size ≠ 0) : b + (8 + (fst (rst s b)).size) ≤ s.size := by
  have h1 := fst_fits _ h
  rw [rst_size s b hb] at h1
  omega
theorem rst_rst (s : ByteArray) (a n : Nat) (h : a + n ≤ s.size) : (rst s a).extract n (rst s a).size = rst s (a + n) := by
  apply bytes_eq
  rw [rst_size s a (by omega)]
  unfold rst
  rw [ext_list, ext_list, ext_list, List.drop_take, List.drop_drop, List.take_take]
  congr 1
  omega
theorem rst_zero (s : ByteArray) : rst s 0 = s := by
  apply bytes_eq
  unfold rst
  rw [ext_list, List.drop_zero, List.take_of_length_le (by simp)]
theorem own_below {w w' : World} {base e size n : Nat} {v : Value} {xs : List Value} (h : w.ownsRow base e size v n xs) (hb : Below w.heap.size w w') : w'.ownsRow base e size v n xs := by
  obtain ⟨hl, hh⟩ := h
  refine ⟨hl, ?_⟩
  rcases hh with hh | ⟨gg, cap, cur, e1, e2, e3, e4⟩
  · exact Or.inl hh
  · exact Or.inr ⟨gg, cap, cur, e1, e2, (hb.block gg (Array.getElem?_eq_some_iff.1 e3).1).trans e3, e4⟩
theorem Tryd.infoS : (Tryd.prog.info? 9).map (fun i => (i.zero, i.size, i.bytes)) = some (some (.string ByteArray.empty), 1, 16) := by kernel_rfl
/-- A slice of these texts, in a row of its own. -/
def OwnS (w : World) (B : Nat) (g cap : Nat) (L : List ByteArray) : Prop := w.ownsRow B 9 1 (.slice (some ⟨g, 0, none⟩) L.length cap) L.length (L.map Value.string)
end Go.Proofs.YtdbcihebhgpblaaDoor
namespace Go.Proofs.YtdbcihebhgpblaaDoor
open Go.RowKit
theorem keep {w w' : World} {p : Addr} {v : Value} (hb : Below w.heap.size w w') (hc : w.cell? p = some v) : w'.cell? p = some v := keepB hb hc
theorem bcell {W w1 : World} (hb : Below W.heap.size W w1) : (∀ b o, b < W.heap.size → w1.cell? ⟨b, o, none⟩ = W.cell? ⟨b, o, none⟩) ∧ (∀ b o, b < W.heap.size → w1.frozen? ⟨b, o, none⟩ = W.frozen? ⟨b, o, none⟩) :=
  ⟨fun b o h => hb.cell (p := ⟨b, o, none⟩) h, fun b o h => hb.frozen (p := ⟨b, o, none⟩) h⟩
theorem size1 (b : UInt8) (x : ByteArray) : ((⟨#[b]⟩ : ByteArray) ++ x).size = x.size + 1 := by
  have : (⟨#[b]⟩ : ByteArray).size = 1 := rfl
  rw [ByteArray.size_append]; omega
/-- A slice of n strings. -/
def Sl (w : World) (a : Option Addr) (n : Nat) (S : Nat → ByteArray) : Prop :=
  n ≤ 9223372036854775807 ∧ ∀ k, k < n → (S k).size ≤ 9223372036854775807 ∧ ∃ b off, a = some ⟨b, off, none⟩ ∧ w.cell? ⟨b, off + k, none⟩ = some (.string (S k))
theorem Sl.at {w : World} {a : Option Addr} {n : Nat} {S : Nat → ByteArray} (h : Sl w a n S) (k : Nat) (hk : k < n) :
    ∃ b off, a = some ⟨b, off, none⟩ ∧ w.cell? ⟨b, off + k, none⟩ = some (.string (S k)) := (h.2 k hk).2
theorem Sl.later {w w' : World} {a : Option Addr} {n : Nat} {S : Nat → ByteArray} (h : Sl w a n S) (hb : Below w.heap.size w w') : Sl w' a n S := by
  refine ⟨h.1, fun k hk => ⟨(h.2 k hk).1, ?_⟩⟩
  obtain ⟨b, off, e, hc⟩ := h.at k hk
  exact ⟨b, off, e, (hb.cell (World.block_lt_of_cell? w _ hc)).trans hc⟩
theorem Sl.drew {w : World} {a : Option Addr} {n : Nat} {S : Nat → ByteArray} (h : Sl w a n S) (q : Nat) : Sl (w.drewN q) a n S := h
def dgs : Nat → Nat → ByteArray → ByteArray
  | 0, _, acc => acc
  | f + 1, i, acc => if i = 0 then acc else dgs f (i / 10) (⟨#[UInt8.ofNat (48 + i % 10)]⟩ ++ acc)
theorem dgs_zero (f : Nat) (acc : ByteArray) : dgs f 0 acc = acc := by cases f <;> simp [dgs]
theorem dgs_more (f i : Nat) (acc : ByteArray) (h : i < 10 ^ f) : dgs (f + 1) i acc = dgs f i acc := by
  induction f generalizing i acc with
  | zero => have : i = 0 := by simpa using h
            subst this; simp [dgs]
  | succ f ih =>
    by_cases hi : i = 0
    · subst hi; simp [dgs]
    · have h' : i / 10 < 10 ^ f := by rw [Nat.pow_succ] at h; omega
      have e1 : dgs (f + 1 + 1) i acc = dgs (f + 1) (i / 10) (⟨#[UInt8.ofNat (48 + i % 10)]⟩ ++ acc) := by simp [dgs, hi]
      have e2 : dgs (f + 1) i acc = dgs f (i / 10) (⟨#[UInt8.ofNat (48 + i % 10)]⟩ ++ acc) := by simp [dgs, hi]
      rw [e1, e2, ih _ _ h']
/-- The text that marks number i. -/
def mtx (i : Nat) : ByteArray := ⟨#[109]⟩ ++ dgs 8 i ⟨#[]⟩
theorem dgs_step (i : Nat) (acc : ByteArray) (h0 : 0 < i) (h : i < 10000000) : dgs 8 i acc = dgs 8 (i / 10) (⟨#[UInt8.ofNat (48 + i % 10)]⟩ ++ acc) := by
  have e : dgs 8 i acc = dgs 7 (i / 10) (⟨#[UInt8.ofNat (48 + i % 10)]⟩ ++ acc) := by
    rw [dgs, if_neg (by omega)]
  rw [e, dgs_more 7 _ _ (by omega)]
theorem conv1 (w : World) (x : Int) (hx : 48 ≤ x) (hx2 : x ≤ 57) :
    (convert 91 9 (.slice (some ⟨w.heap.size, 0, none⟩) 1 1)).run Tryd.prog (w.alloc (.cells #[.int .u8 x] 5)) = .ok (.string ⟨#[UInt8.ofNat x.toNat]⟩) (w.alloc (.cells #[.int .u8 x] 5)) := by
  refine run_convert_bytes_back _ 91 9 5 ⟨w.heap.size, 0, none⟩ _ [UInt8.ofNat x.toNat] Tryd.underlying91 Tryd.underlying5 Tryd.underlying9 ?_
  intro j hj
  obtain rfl : j = 0 := by simpa using hj
  have hadd : (⟨w.heap.size, 0, none⟩ : Addr).add 0 = ⟨w.heap.size, 0, none⟩ := rfl
  rw [hadd, cell_of_row _ _ 0 _ 5 _ (heap_alloc_new w _)]
  have : ((UInt8.ofNat x.toNat).toNat : Int) = x := by simp; omega
  have e2 : (List.toArray [Value.int .u8 x])[0]? = some (.int .u8 x) := rfl
  simp only [List.length_cons, List.length_nil] at hj
  show some (Value.int .u8 x) = some (Value.int .u8 ((UInt8.ofNat x.toNat).toNat : Int))
  rw [this]
set_option maxRecDepth 20000 in
set_option maxHeartbeats 1000000 in
theorem markText_any (i : Nat) (w : World) (h0 : 0 < i) (h1 : i < 10000000) (y : ByteArray) (hy : mtx i = y) :
    Calls Tryd.prog 72 #[.int .i64 i] w fun e w' => e = .returned (.string y) ∧ Below w.heap.size w w' := by
  have HY : Hid (mtx i = y) := hy
  clear hy
  have hd0 : decide (i = 0) = false := by simpa using (by omega : ¬ i = 0)
  go_enter Tryd.func72, Tryd.ntmps72
  go_wp2
  go_loopw [0, 3] (fun x s wr => ∃ (j : Nat) (acc : ByteArray), acc.size + j ≤ 10000000 ∧ j < 10000000 ∧ x = .int .i64 j ∧ s = .string acc ∧ dgs 8 j acc = dgs 8 i ⟨#[]⟩ ∧ Below w.heap.size w wr) (fun x _ _ => (intOf x).toNat)
  case atStart => exact ⟨i, ⟨#[]⟩, (show 0 + i ≤ 10000000 by omega), h1, rfl, rfl, rfl, Below.refl _ _⟩
  case round =>
    obtain ⟨j, acc, hsz, hj, rfl, rfl, hd, hb⟩ := hrel
    have HD : Hid (dgs 8 j acc = dgs 8 i ⟨#[]⟩) := hd
    clear hd
    by_cases hlt : 0 < j
    · have HS : Hid (dgs 8 j acc = dgs 8 (j / 10) (⟨#[UInt8.ofNat (48 + j % 10)]⟩ ++ acc)) := dgs_step j acc hlt hj
      have hx1 : (48 : Int) ≤ 48 + (j : Int) % 10 := by omega
      have hx2 : 48 + (j : Int) % 10 ≤ 57 := by omega
      have hcv := conv1 wr (48 + (j : Int) % 10) hx1 hx2
      have e : (48 + (j : Int) % 10).toNat = 48 + j % 10 := by omega
      rw [e] at hcv
      have hw8 : IntKind.u8.wrap (48 + (j : Int) % 10) = 48 + (j : Int) % 10 := by rw [IntKind.wrap_u8']; omega
      clear e
      obtain ⟨c8, hc8⟩ : ∃ c, UInt8.ofNat (48 + j % 10) = c := ⟨_, rfl⟩
      rw [hc8] at hcv HS
      clear hc8
      go_wp2
      go_roundw
      case rel => exact ⟨j / 10, _, by have := size1 c8 acc; omega, by omega, by go_num, rfl, by rw [← HS.out]; exact HD.out, hb.alloc hb.size _⟩
      case measure => simp [intOf]; omega
    · obtain rfl : j = 0 := by omega
      have HE : Hid (⟨#[109]⟩ ++ acc = y) := by show ⟨#[109]⟩ ++ acc = y; rw [← HY.out]; unfold mtx; rw [← HD.out, dgs_zero]
      go_wp2
      go_ret
      exact ⟨by rw [← HE.out]; rfl, hb⟩
theorem mtx_size (i : Nat) : (mtx i).size ≤ 1000 := by
  have h : ∀ f j acc, (dgs f j acc).size ≤ f + acc.size := by
    intro f
    induction f with
    | zero => intro j acc; simp [dgs]
    | succ f ih =>
      intro j acc
      rw [dgs]
      split
      · omega
      · have := ih (j / 10) (⟨#[UInt8.ofNat (48 + j % 10)]⟩ ++ acc)
        rw [size1] at this
        omega
  unfold mtx
  rw [size1]
  have := h 8 i ⟨#[]⟩
  have e : (⟨#[]⟩ : ByteArray).size = 0 := rfl
  omega
def strs (S : Nat → ByteArray) (n : Nat) : List Value := (List.range n).map fun i => .string (S i)
theorem strs_len (S : Nat → ByteArray) (n : Nat) : (strs S n).length = n := by simp [strs]
theorem strs_get (S : Nat → ByteArray) (n j : Nat) (h : j < n) : (strs S n)[j]? = some (.string (S j)) := by simp [strs, h]
theorem strs_one (S : Nat → ByteArray) (n : Nat) : ∀ v ∈ strs S n, v.oneCell' = true := by
  intro v hv
  simp only [strs, List.mem_map] at hv
  obtain ⟨i, _, rfl⟩ := hv
  rfl
theorem strs_take (S : Nat → ByteArray) (n m : Nat) (h : m ≤ n) : (strs S n).take m = strs S m := by
  apply List.ext_getElem?
  intro i
  by_cases hi : i < m
  · rw [List.getElem?_take, if_pos hi, strs_get S n i (by omega), strs_get S m i hi]
  · rw [List.getElem?_take, if_neg hi, List.getElem?_eq_none (by rw [strs_len]; omega)]
theorem own_cell {w : World} {B g n cap : Nat} {xs : List Value} (h : w.ownsRow B 9 1 (.slice (some ⟨g, 0, none⟩) n cap) n xs) (j : Nat) (v : Value) (hj : xs[j]? = some v) : w.cell? ⟨g, j, none⟩ = some v := by
  rcases h.2 with ⟨h0, _⟩ | ⟨g', cap', cur, hv, hb, hg, hn, hc, hs, ht⟩
  · simp at h0
  · simp at hv
    obtain ⟨rfl, rfl⟩ := hv
    have hjl : j < n := by have := (List.getElem?_eq_some_iff.1 hj).1; have := h.1; omega
    rw [cell_of_row w g j _ _ _ hg]
    rw [← ht, List.getElem?_take] at hj
    rw [if_pos (by omega)] at hj
    simpa using hj
theorem own_sl {w : World} {B g n cap : Nat} {T : Nat → ByteArray} (h : w.ownsRow B 9 1 (.slice (some ⟨g, 0, none⟩) n cap) n (strs T n)) (hn : n ≤ 2097152) (hs : ∀ k, k < n → (T k).size ≤ 9223372036854775807) : Sl w (some ⟨g, 0, none⟩) n T := by
  refine ⟨by omega, fun k hk => ⟨hs k hk, g, 0, rfl, ?_⟩⟩
  rw [Nat.zero_add]
  exact own_cell h k _ (strs_get T n k hk)
theorem own_cut {w : World} {B g n cap : Nat} {S : Nat → ByteArray} (h : w.ownsRow B 9 1 (.slice (some ⟨g, 0, none⟩) n cap) n (strs S n)) (m : Nat) (hm : m ≤ n) : w.ownsRow B 9 1 (.slice (some ⟨g, 0, none⟩) m cap) m (strs S m) := by
  rcases h.2 with ⟨h0, _⟩ | ⟨g', cap', cur, hv, hb, hg, hn, hc, hs, ht⟩
  · simp at h0
  · simp at hv
    obtain ⟨rfl, rfl⟩ := hv
    refine ⟨by rw [strs_len]; omega, .inr ⟨g, cap, cur, rfl, hb, hg, by omega, hc, hs, ?_⟩⟩
    have e : cur.toList.take (m * 1) = (cur.toList.take (n * 1)).take (m * 1) := by rw [List.take_take, Nat.min_eq_left (by omega)]
    rw [e, ht, Nat.mul_one, strs_take S n m hm]
theorem own_cap {w : World} {B g n cap : Nat} {xs : List Value} (h : w.ownsRow B 9 1 (.slice (some ⟨g, 0, none⟩) n cap) n xs) : n ≤ cap ∧ B ≤ g ∧ g < w.heap.size ∧ cap ≤ 9223372036854775807 := by
  rcases h.2 with ⟨h0, _⟩ | ⟨g', cap', cur, hv, hb, hg, hn, hc, hs, ht⟩
  · simp at h0
  · simp at hv
    obtain ⟨rfl, rfl⟩ := hv
    unfold maxLen at hc
    exact ⟨hn, hb, (Array.getElem?_eq_some_iff.1 hg).1, by omega⟩
theorem own_later {w w' : World} {B g n cap : Nat} {xs : List Value} (h : w.ownsRow B 9 1 (.slice (some ⟨g, 0, none⟩) n cap) n xs) (hb : Below w.heap.size w w') : w'.ownsRow B 9 1 (.slice (some ⟨g, 0, none⟩) n cap) n xs :=
  h.kept (row := none) ⟨hb.os, hb.tape, hb.output, hb.size, fun k hk _ => hb.block k hk⟩ (Or.inr (by simp [Value.ownBlock]))
/-- The marks from 1 on. -/
def marks : Nat → ByteArray := fun j => mtx (1 + j)
theorem markText_as (i : Nat) (w : World) (z : Int) (hz : z = i) (h0 : 0 < i) (h1 : i < 10000000) (y : ByteArray) (hy : mtx i = y) :
    Calls Tryd.prog 72 #[.int .i64 z] w fun e w' => e = .returned (.string y) ∧ Below w.heap.size w w' := by
  subst hz
  exact markText_any i w h0 h1 y hy
end Go.Proofs.YtdbcihebhgpblaaDoor
