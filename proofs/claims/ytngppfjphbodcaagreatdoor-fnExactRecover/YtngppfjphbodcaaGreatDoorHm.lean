/-
  Slices of strings: held against each other, marked, the marks found again.
-/
import Derived.Test.YtngppfjphbodcaaGreatDoorHb
import Derived.RegionCalls
namespace Go.Proofs.YtngppfjphbodcaaGreatDoor
open Go.RowKit
/-- What is left of s at a place. -/
def rst (s : ByteArray) (a : Nat) : ByteArray := s.extract a s.size
/-- The entries L stand as frames in s from a on, and end at b. -/
def Ch (s : ByteArray) : Nat → List ByteArray → Nat → Prop
  | a, [], b => a = b
  | a, x :: xs, b => x = fst (rst s a) ∧ x.size ≠ 0 ∧ Ch s (a + (8 + x.size)) xs b
theorem Ch.snoc {s : ByteArray} {L : List ByteArray} {a b : Nat} (h : Ch s a L b) (x : ByteArray) (hx : x = fst (rst s b)) (h0 : x.size ≠ 0) : Ch s a (L ++ [x]) (b + (8 + x.size)) := by
  induction L generalizing a with
  | nil =>
    obtain rfl : a = b := h
    exact ⟨hx, h0, rfl⟩
  | cons y ys ih => exact ⟨h.1, h.2.1, ih h.2.2⟩
theorem Ch.same {s : ByteArray} {L L' : List ByteArray} {a b b' : Nat} (h : Ch s a L b) (h' : Ch s a L' b') (e : (fst (rst s b)).size = 0) (e' : (fst (rst s b')).size = 0) : L = L' ∧ b = b' := by
  induction L generalizing a L' with
  | nil =>
    obtain rfl : a = b := h
    cases L' with
    | nil => exact ⟨rfl, h'⟩
    | cons y ys =>
      obtain ⟨h1, h2, _⟩ := h'
      rw [h1] at h2
      exact absurd e h2
  | cons x xs ih =>
    obtain ⟨h1, h2, h3⟩ := h
    cases L' with
    | nil =>
      obtain rfl : a = b' := h'
      rw [h1] at h2
      exact absurd e' h2
    | cons y ys =>
      obtain ⟨k1, k2, k3⟩ := h'
      obtain rfl : x = y := h1.trans k1.symm
      obtain ⟨rfl, rfl⟩ := ih h3 k3
      exact ⟨rfl, rfl⟩
theorem rst_size (s : ByteArray) (a : Nat) (_h : a ≤ s.size) : (rst s a).size = s.size - a := by simp [rst]
theorem fst_fits (s : ByteArray) (h : (fst s).size ≠ 0) : 8 + (fst s).size ≤ s.size := by
  by_cases h0 : s.size < 8
  · exact absurd (show (fst s).size = 0 by rw [fst_a h0]; rfl) h
  by_cases h1 : s.size < 8 + be s 0 4
  · exact absurd (show (fst s).size = 0 by rw [fst_b h1]; rfl) h
  by_cases h2 : be s 0 4 = 0 ∨ 60000 < be s 0 4
  · exact absurd (show (fst s).size = 0 by rw [fst_c h2]; rfl) h
  by_cases h3 : crcOf (s.extract 8 (8 + be s 0 4)) = be s 4 4
  · rw [fst_e h0 h1 h2 h3, ext_size s _ (by omega)]
    omega
  · exact absurd (show (fst s).size = 0 by rw [fst_d h3]; rfl) h
theorem rst_fits {s : ByteArray} {b : Nat} (hb : b ≤ s.size) (h : (fst (rst s b)).size ≠ 0) : b + (8 + (fst (rst s b)).size) ≤ s.size := by
  have h1 := fst_fits _ h
  rw [rst_size s b hb] at h1
  omega
theorem rst_rst (s : ByteArray) (a n : Nat) (h : a + n ≤ s.size) : (rst s a).extract n (rst s a).size = rst s (a + n) := by
  apply bytes_eq
  rw [rst_size s a (by omega)]
  unfold rst
  rw [ext_list, ext_list, ext_list, List.drop_take, List.drop_drop, List.take_take]
  congr 1
  omega
theorem rst_zero (s : ByteArray) : rst s 0 = s := by
  apply bytes_eq
  unfold rst
  rw [ext_list, List.drop_zero, List.take_of_length_le (by simp)]
theorem own_below {w w' : World} {base e size n : Nat} {v : Value} {xs : List Value} (h : w.ownsRow base e size v n xs) (hb : Below w.heap.size w w') : w'.ownsRow base e size v n xs := by
  obtain ⟨hl, hh⟩ := h
  refine ⟨hl, ?_⟩
  rcases hh with hh | ⟨gg, cap, cur, e1, e2, e3, e4⟩
  · exact Or.inl hh
  · exact Or.inr ⟨gg, cap, cur, e1, e2, (hb.block gg (Array.getElem?_eq_some_iff.1 e3).1).trans e3, e4⟩
theorem Tryz.infoS : (Tryz.prog.info? 9).map (fun i => (i.zero, i.size, i.bytes)) = some (some (.string ByteArray.empty), 1, 16) := by kernel_rfl
/-- A slice of these texts, in a row of its own. -/
def OwnS (w : World) (B : Nat) (g cap : Nat) (L : List ByteArray) : Prop := w.ownsRow B 9 1 (.slice (some ⟨g, 0, none⟩) L.length cap) L.length (L.map Value.string)
set_option maxRecDepth 20000 in
set_option maxHeartbeats 4000000 in
theorem sScan (s : ByteArray) (w : World) (hs : s.size ≤ 1048576) : Calls Tryz.prog 20 #[.string s] w fun e w' => ∃ L b g cap, e = .returned (.tuple #[.slice (some ⟨g, 0, none⟩) L.length cap, .int .i64 (b : Nat)]) ∧ OwnS w' w.heap.size g cap L ∧ Ch s 0 L b ∧ (fst (rst s b)).size = 0 ∧ L.length ≤ s.size ∧ b ≤ s.size ∧ Below w.heap.size w w' := by
  obtain ⟨i0, hi, hz0, hz1, hz2⟩ := info_parts Tryz.infoS
  have HI : Hid (Tryz.prog.info? 9 = some i0) := hi
  clear hi
  go_enter Tryz.func20, Tryz.ntmps20
  go_wp2
  go_loopw [4, 5, 6] (fun l i _ wr => ∃ (L : List ByteArray) (b g cap : Nat), l = .slice (some ⟨g, 0, none⟩) L.length cap ∧ i = .int .i64 (b : Nat) ∧ OwnS wr w.heap.size g cap L ∧ Ch s 0 L b ∧ L.length ≤ b ∧ b ≤ s.size ∧ Below w.heap.size w wr) (fun _ i _ _ => s.size - (intOf i).toNat)
  case atStart => exact ⟨[], 0, w.heap.size, 0, rfl, rfl, World.ownsRow_lit w #[] 0 (Nat.le_refl _) (by simp [maxLen]) rfl, rfl, by simp, by omega, (Below.refl _ _).alloc (Nat.le_refl _) _⟩
  case round =>
    obtain ⟨L, b, g, cap, rfl, rfl, hown, hC, hLb, hbs, hb⟩ := hrel
    obtain ⟨R, hR⟩ : ∃ R, rst s b = R := ⟨_, rfl⟩
    have hR' : s.extract b s.size = R := hR
    have HR : Hid (rst s b = R) := hR
    have HRs : Hid (R.size = s.size - b) := by show R.size = _; rw [← hR]; exact rst_size s b hbs
    have i0' : (0 : Int) ≤ (b : Int) := by omega
    have i1 : (b : Int) ≤ (s.size : Int) := by omega
    have hN := nilS (fst R)
    clear hR
    by_cases h0 : (fst R).size = 0
    · have hQ : ((fst R).toList == ([] : List UInt8)) = true := by rw [hN]; simp [h0]
      have hQ' : (fst R).toList = [] := by simpa using hQ
      go_wp2_with (go_at_call 36; refine (sFirst R _ (by have := HRs.out; omega)).mono ?_; rintro e w1 ⟨rfl, hb1⟩)
      refine bodyPost_ret (v := .tuple #[.slice (some ⟨g, 0, none⟩) L.length cap, .int .i64 (b : Nat)]) (by simp [results, Tryz.results20, go_sem]) rfl ⟨L, b, g, cap, rfl, ?_, hC, by rw [HR.out]; exact h0, by omega, hbs, bstep hb hb1⟩
      exact own_below hown hb1
    · have hQ : ((fst R).toList == ([] : List UInt8)) = false := by rw [hN]; simp [h0]
      have hQ' : ¬ (fst R).toList = [] := by simpa using hQ
      have hfit := rst_fits hbs (by rw [HR.out]; exact h0)
      rw [HR.out] at hfit
      obtain ⟨x, hx⟩ : ∃ x, fst R = x := ⟨_, rfl⟩
      have HX : Hid (fst R = x) := hx
      rw [hx] at hfit h0 hQ hQ' hN
      have hsz := hb.size
      go_wp2_with (first | (go_at_call 36; refine (sFirst R _ (by have := HRs.out; omega)).mono ?_; rw [hx]; rintro e w1 ⟨rfl, hb1⟩; have hown1 := own_below hown hb1; have hsz1 := hb1.size) | (at_builtin; refine wpList_append_lies _ rfl _ _ _ rfl w.heap.size 9 i0 (.string ByteArray.empty) 1 16 Tryz.underlying31 HI.out hz0 hz1 hz2 rfl (by omega) _ L.length _ rfl (hown1.alloc _) ⟨w1.heap.size, 0, none⟩ 1 1 [.string x] rfl rfl (World.news_of_block (heap_alloc_new w1 _)) (ones _ rfl) (by omega) (by unfold maxLen; omega) (by omega) (by simp; omega) _ rfl ?_; intro g1 cap1 w2 hown2 hgrow hat hlt1))
      go_roundw
      case rel =>
        refine ⟨L ++ [x], b + (8 + x.size), g1, cap1, by simp, by go_num, ?_, hC.snoc x (by rw [HR.out, HX.out]) h0, by simp; omega, hfit, ?_⟩
        · unfold OwnS
          simpa using hown2
        · exact (bstep hb (bstep hb1 (bal _ _))).grown hgrow (by have := hb1.size; simp; omega) (fun q hq => by
            have e : g = q := Option.some.inj hq
            have := grow_le hown
            omega)
      case measure => simp [intOf]; omega
theorem keep {w w' : World} {p : Addr} {v : Value} (hb : Below w.heap.size w w') (hc : w.cell? p = some v) : w'.cell? p = some v := keepB hb hc
theorem bcell {W w1 : World} (hb : Below W.heap.size W w1) : (∀ b o, b < W.heap.size → w1.cell? ⟨b, o, none⟩ = W.cell? ⟨b, o, none⟩) ∧ (∀ b o, b < W.heap.size → w1.frozen? ⟨b, o, none⟩ = W.frozen? ⟨b, o, none⟩) :=
  ⟨fun b o h => hb.cell (p := ⟨b, o, none⟩) h, fun b o h => hb.frozen (p := ⟨b, o, none⟩) h⟩
theorem size1 (b : UInt8) (x : ByteArray) : ((⟨#[b]⟩ : ByteArray) ++ x).size = x.size + 1 := by
  have : (⟨#[b]⟩ : ByteArray).size = 1 := rfl
  rw [ByteArray.size_append]; omega
/-- A slice of n strings. -/
def Sl (w : World) (a : Option Addr) (n : Nat) (S : Nat → ByteArray) : Prop :=
  n ≤ 9223372036854775807 ∧ ∀ k, k < n → (S k).size ≤ 9223372036854775807 ∧ ∃ b off, a = some ⟨b, off, none⟩ ∧ w.cell? ⟨b, off + k, none⟩ = some (.string (S k))
theorem Sl.at {w : World} {a : Option Addr} {n : Nat} {S : Nat → ByteArray} (h : Sl w a n S) (k : Nat) (hk : k < n) :
    ∃ b off, a = some ⟨b, off, none⟩ ∧ w.cell? ⟨b, off + k, none⟩ = some (.string (S k)) := (h.2 k hk).2
theorem Sl.later {w w' : World} {a : Option Addr} {n : Nat} {S : Nat → ByteArray} (h : Sl w a n S) (hb : Below w.heap.size w w') : Sl w' a n S := by
  refine ⟨h.1, fun k hk => ⟨(h.2 k hk).1, ?_⟩⟩
  obtain ⟨b, off, e, hc⟩ := h.at k hk
  exact ⟨b, off, e, (hb.cell (World.block_lt_of_cell? w _ hc)).trans hc⟩
theorem Sl.drew {w : World} {a : Option Addr} {n : Nat} {S : Nat → ByteArray} (h : Sl w a n S) (q : Nat) : Sl (w.drewN q) a n S := h
set_option maxRecDepth 20000 in
set_option maxHeartbeats 1000000 in
/-- Two slices of the same strings are found alike. -/
theorem eqStrs_any (a a' : Option Addr) (n c c' : Nat) (S S' : Nat → ByteArray) (w : World) (h : Sl w a n S) (h' : Sl w a' n S') (he : ∀ k, k < n → S k = S' k) :
    Calls Tryz.prog 10 #[.slice a n c, .slice a' n c'] w fun e w' => e = .returned (.bool true) ∧ ∃ q, w' = w.drewN q := by
  have hn := h.1
  go_enter Tryz.func10, Tryz.ntmps10
  go_wp2
  go_loopw [5] (fun i wr => ∃ k q : Nat, k ≤ n ∧ i = .int .i64 k ∧ wr = w.drewN q) (fun i _ => n - (intOf i).toNat)
  case atStart => exact ⟨0, 0, by omega, rfl, rfl⟩
  case round =>
    obtain ⟨k, q, hk, rfl, hwr⟩ := hrel
    have HR : Hid (wr = w.drewN q) := hwr
    by_cases hlt : k < n
    · have hkk : (k : Int) < n := by omega
      obtain ⟨b, off, rfl, hc⟩ := (h.drew q).at k hlt
      obtain ⟨b', off', rfl, hc'⟩ := (h'.drew q).at k hlt
      rw [← he k hlt, ← hwr] at hc'
      rw [← hwr] at hc
      clear hwr
      go_wp2
      go_quiet (fail)
      go_wp2
      go_roundw
      case rel => exact ⟨k + 1, q + nq, by omega, by go_num, by rw [HR.out]; simp⟩
      case measure => simp [intOf]; omega
    · clear hwr
      obtain rfl : k = n := by omega
      go_wp2
      go_ret
      exact ⟨rfl, q, HR.out⟩
def dgs : Nat → Nat → ByteArray → ByteArray
  | 0, _, acc => acc
  | f + 1, i, acc => if i = 0 then acc else dgs f (i / 10) (⟨#[UInt8.ofNat (48 + i % 10)]⟩ ++ acc)
theorem dgs_zero (f : Nat) (acc : ByteArray) : dgs f 0 acc = acc := by cases f <;> simp [dgs]
theorem dgs_more (f i : Nat) (acc : ByteArray) (h : i < 10 ^ f) : dgs (f + 1) i acc = dgs f i acc := by
  induction f generalizing i acc with
  | zero => have : i = 0 := by simpa using h
            subst this; simp [dgs]
  | succ f ih =>
    by_cases hi : i = 0
    · subst hi; simp [dgs]
    · have h' : i / 10 < 10 ^ f := by rw [Nat.pow_succ] at h; omega
      have e1 : dgs (f + 1 + 1) i acc = dgs (f + 1) (i / 10) (⟨#[UInt8.ofNat (48 + i % 10)]⟩ ++ acc) := by simp [dgs, hi]
      have e2 : dgs (f + 1) i acc = dgs f (i / 10) (⟨#[UInt8.ofNat (48 + i % 10)]⟩ ++ acc) := by simp [dgs, hi]
      rw [e1, e2, ih _ _ h']
/-- The text that marks number i. -/
def mtx (i : Nat) : ByteArray := ⟨#[109]⟩ ++ dgs 8 i ⟨#[]⟩
theorem dgs_step (i : Nat) (acc : ByteArray) (h0 : 0 < i) (h : i < 10000000) : dgs 8 i acc = dgs 8 (i / 10) (⟨#[UInt8.ofNat (48 + i % 10)]⟩ ++ acc) := by
  have e : dgs 8 i acc = dgs 7 (i / 10) (⟨#[UInt8.ofNat (48 + i % 10)]⟩ ++ acc) := by
    rw [dgs, if_neg (by omega)]
  rw [e, dgs_more 7 _ _ (by omega)]
theorem conv1 (w : World) (x : Int) (hx : 48 ≤ x) (hx2 : x ≤ 57) :
    (convert 69 9 (.slice (some ⟨w.heap.size, 0, none⟩) 1 1)).run Tryz.prog (w.alloc (.cells #[.int .u8 x] 5)) = .ok (.string ⟨#[UInt8.ofNat x.toNat]⟩) (w.alloc (.cells #[.int .u8 x] 5)) := by
  refine run_convert_bytes_back _ 69 9 5 ⟨w.heap.size, 0, none⟩ _ [UInt8.ofNat x.toNat] Tryz.underlying69 Tryz.underlying5 Tryz.underlying9 ?_
  intro j hj
  obtain rfl : j = 0 := by simpa using hj
  have hadd : (⟨w.heap.size, 0, none⟩ : Addr).add 0 = ⟨w.heap.size, 0, none⟩ := rfl
  rw [hadd, cell_of_row _ _ 0 _ 5 _ (heap_alloc_new w _)]
  have : ((UInt8.ofNat x.toNat).toNat : Int) = x := by simp; omega
  have e2 : (List.toArray [Value.int .u8 x])[0]? = some (.int .u8 x) := rfl
  simp only [List.length_cons, List.length_nil] at hj
  show some (Value.int .u8 x) = some (Value.int .u8 ((UInt8.ofNat x.toNat).toNat : Int))
  rw [this]
set_option maxRecDepth 20000 in
set_option maxHeartbeats 1000000 in
theorem markText_any (i : Nat) (w : World) (h0 : 0 < i) (h1 : i < 10000000) (y : ByteArray) (hy : mtx i = y) :
    Calls Tryz.prog 30 #[.int .i64 i] w fun e w' => e = .returned (.string y) ∧ Below w.heap.size w w' := by
  have HY : Hid (mtx i = y) := hy
  clear hy
  have hd0 : decide (i = 0) = false := by simpa using (by omega : ¬ i = 0)
  go_enter Tryz.func30, Tryz.ntmps30
  go_wp2
  go_loopw [0, 3] (fun x s wr => ∃ (j : Nat) (acc : ByteArray), acc.size + j ≤ 10000000 ∧ j < 10000000 ∧ x = .int .i64 j ∧ s = .string acc ∧ dgs 8 j acc = dgs 8 i ⟨#[]⟩ ∧ Below w.heap.size w wr) (fun x _ _ => (intOf x).toNat)
  case atStart => exact ⟨i, ⟨#[]⟩, (show 0 + i ≤ 10000000 by omega), h1, rfl, rfl, rfl, Below.refl _ _⟩
  case round =>
    obtain ⟨j, acc, hsz, hj, rfl, rfl, hd, hb⟩ := hrel
    have HD : Hid (dgs 8 j acc = dgs 8 i ⟨#[]⟩) := hd
    clear hd
    by_cases hlt : 0 < j
    · have HS : Hid (dgs 8 j acc = dgs 8 (j / 10) (⟨#[UInt8.ofNat (48 + j % 10)]⟩ ++ acc)) := dgs_step j acc hlt hj
      have hx1 : (48 : Int) ≤ 48 + (j : Int) % 10 := by omega
      have hx2 : 48 + (j : Int) % 10 ≤ 57 := by omega
      have hcv := conv1 wr (48 + (j : Int) % 10) hx1 hx2
      have e : (48 + (j : Int) % 10).toNat = 48 + j % 10 := by omega
      rw [e] at hcv
      have hw8 : IntKind.u8.wrap (48 + (j : Int) % 10) = 48 + (j : Int) % 10 := by rw [IntKind.wrap_u8']; omega
      clear e
      obtain ⟨c8, hc8⟩ : ∃ c, UInt8.ofNat (48 + j % 10) = c := ⟨_, rfl⟩
      rw [hc8] at hcv HS
      clear hc8
      go_wp2
      go_roundw
      case rel => exact ⟨j / 10, _, by have := size1 c8 acc; omega, by omega, by go_num, rfl, by rw [← HS.out]; exact HD.out, hb.alloc hb.size _⟩
      case measure => simp [intOf]; omega
    · obtain rfl : j = 0 := by omega
      have HE : Hid (⟨#[109]⟩ ++ acc = y) := by show ⟨#[109]⟩ ++ acc = y; rw [← HY.out]; unfold mtx; rw [← HD.out, dgs_zero]
      go_wp2
      go_ret
      exact ⟨by rw [← HE.out]; rfl, hb⟩
theorem mtx_size (i : Nat) : (mtx i).size ≤ 1000 := by
  have h : ∀ f j acc, (dgs f j acc).size ≤ f + acc.size := by
    intro f
    induction f with
    | zero => intro j acc; simp [dgs]
    | succ f ih =>
      intro j acc
      rw [dgs]
      split
      · omega
      · have := ih (j / 10) (⟨#[UInt8.ofNat (48 + j % 10)]⟩ ++ acc)
        rw [size1] at this
        omega
  unfold mtx
  rw [size1]
  have := h 8 i ⟨#[]⟩
  have e : (⟨#[]⟩ : ByteArray).size = 0 := rfl
  omega
def strs (S : Nat → ByteArray) (n : Nat) : List Value := (List.range n).map fun i => .string (S i)
theorem strs_len (S : Nat → ByteArray) (n : Nat) : (strs S n).length = n := by simp [strs]
theorem strs_get (S : Nat → ByteArray) (n j : Nat) (h : j < n) : (strs S n)[j]? = some (.string (S j)) := by simp [strs, h]
theorem strs_one (S : Nat → ByteArray) (n : Nat) : ∀ v ∈ strs S n, v.oneCell' = true := by
  intro v hv
  simp only [strs, List.mem_map] at hv
  obtain ⟨i, _, rfl⟩ := hv
  rfl
theorem strs_take (S : Nat → ByteArray) (n m : Nat) (h : m ≤ n) : (strs S n).take m = strs S m := by
  apply List.ext_getElem?
  intro i
  by_cases hi : i < m
  · rw [List.getElem?_take, if_pos hi, strs_get S n i (by omega), strs_get S m i hi]
  · rw [List.getElem?_take, if_neg hi, List.getElem?_eq_none (by rw [strs_len]; omega)]
theorem own_cell {w : World} {B g n cap : Nat} {xs : List Value} (h : w.ownsRow B 9 1 (.slice (some ⟨g, 0, none⟩) n cap) n xs) (j : Nat) (v : Value) (hj : xs[j]? = some v) : w.cell? ⟨g, j, none⟩ = some v := by
  rcases h.2 with ⟨h0, _⟩ | ⟨g', cap', cur, hv, hb, hg, hn, hc, hs, ht⟩
  · simp at h0
  · simp at hv
    obtain ⟨rfl, rfl⟩ := hv
    have hjl : j < n := by have := (List.getElem?_eq_some_iff.1 hj).1; have := h.1; omega
    rw [cell_of_row w g j _ _ _ hg]
    rw [← ht, List.getElem?_take] at hj
    rw [if_pos (by omega)] at hj
    simpa using hj
theorem own_sl {w : World} {B g n cap : Nat} {T : Nat → ByteArray} (h : w.ownsRow B 9 1 (.slice (some ⟨g, 0, none⟩) n cap) n (strs T n)) (hn : n ≤ 1048576) (hs : ∀ k, k < n → (T k).size ≤ 9223372036854775807) : Sl w (some ⟨g, 0, none⟩) n T := by
  refine ⟨by omega, fun k hk => ⟨hs k hk, g, 0, rfl, ?_⟩⟩
  rw [Nat.zero_add]
  exact own_cell h k _ (strs_get T n k hk)
theorem own_cut {w : World} {B g n cap : Nat} {S : Nat → ByteArray} (h : w.ownsRow B 9 1 (.slice (some ⟨g, 0, none⟩) n cap) n (strs S n)) (m : Nat) (hm : m ≤ n) : w.ownsRow B 9 1 (.slice (some ⟨g, 0, none⟩) m cap) m (strs S m) := by
  rcases h.2 with ⟨h0, _⟩ | ⟨g', cap', cur, hv, hb, hg, hn, hc, hs, ht⟩
  · simp at h0
  · simp at hv
    obtain ⟨rfl, rfl⟩ := hv
    refine ⟨by rw [strs_len]; omega, .inr ⟨g, cap, cur, rfl, hb, hg, by omega, hc, hs, ?_⟩⟩
    have e : cur.toList.take (m * 1) = (cur.toList.take (n * 1)).take (m * 1) := by rw [List.take_take, Nat.min_eq_left (by omega)]
    rw [e, ht, Nat.mul_one, strs_take S n m hm]
theorem own_cap {w : World} {B g n cap : Nat} {xs : List Value} (h : w.ownsRow B 9 1 (.slice (some ⟨g, 0, none⟩) n cap) n xs) : n ≤ cap ∧ B ≤ g ∧ g < w.heap.size ∧ cap ≤ 9223372036854775807 := by
  rcases h.2 with ⟨h0, _⟩ | ⟨g', cap', cur, hv, hb, hg, hn, hc, hs, ht⟩
  · simp at h0
  · simp at hv
    obtain ⟨rfl, rfl⟩ := hv
    unfold maxLen at hc
    exact ⟨hn, hb, (Array.getElem?_eq_some_iff.1 hg).1, by omega⟩
theorem own_later {w w' : World} {B g n cap : Nat} {xs : List Value} (h : w.ownsRow B 9 1 (.slice (some ⟨g, 0, none⟩) n cap) n xs) (hb : Below w.heap.size w w') : w'.ownsRow B 9 1 (.slice (some ⟨g, 0, none⟩) n cap) n xs :=
  h.kept (row := none) ⟨hb.os, hb.tape, hb.output, hb.size, fun k hk _ => hb.block k hk⟩ (Or.inr (by simp [Value.ownBlock]))
/-- The marks from 1 on. -/
def marks : Nat → ByteArray := fun j => mtx (1 + j)
theorem markText_as (i : Nat) (w : World) (z : Int) (hz : z = i) (h0 : 0 < i) (h1 : i < 10000000) (y : ByteArray) (hy : mtx i = y) :
    Calls Tryz.prog 30 #[.int .i64 z] w fun e w' => e = .returned (.string y) ∧ Below w.heap.size w w' := by
  subst hz
  exact markText_any i w h0 h1 y hy
theorem markStrs_zero (a : Option Addr) (c : Nat) (w : World) :
    Calls Tryz.prog 12 #[.slice a 0 c, .int .i64 1] w fun e w' => e = .returned (.int .i64 1) ∧ w' = w := by
  go_enter Tryz.func12, Tryz.ntmps12
  go_wp2
  go_loop [1, 5] (fun k i => k = .int .i64 1 ∧ i = .int .i64 0) (fun _ _ => 0)
  case atStart => exact ⟨rfl, rfl⟩
  case round =>
    obtain ⟨rfl, rfl⟩ := hrel
    go_wp2
    go_ret
    exact ⟨rfl, rfl⟩
set_option maxRecDepth 20000 in
set_option maxHeartbeats 2000000 in
theorem markStrs_row (B g n cap : Nat) (xs : List Value) (w : World) (h : w.ownsRow B 9 1 (.slice (some ⟨g, 0, none⟩) n cap) n xs) (hn : n ≤ 1048576) :
    Calls Tryz.prog 12 #[.slice (some ⟨g, 0, none⟩) n cap, .int .i64 1] w fun e w' => e = .returned (.int .i64 ((1 + n : Nat) : Int)) ∧ w'.ownsRow B 9 1 (.slice (some ⟨g, 0, none⟩) n cap) n (strs marks n) ∧ w.grownBy w' (some g) := by
  obtain ⟨cur0, hg0, hnc, hcm, hcs⟩ : ∃ cur, w.heap[g]? = some (.cells cur 9 (0, 0)) ∧ n ≤ cap ∧ cap ≤ maxLen ∧ cur.size = cap := by
    rcases h.2 with ⟨h0, _⟩ | ⟨g', cap', cur, hv, hb, hg, hn, hc, hs, ht⟩
    · simp at h0
    · simp at hv
      obtain ⟨rfl, rfl⟩ := hv
      exact ⟨cur, hg, hn, hc, by omega⟩
  have hBg := (own_cap h).2.1
  have HG0 : Hid (w.heap[g]? = some (.cells cur0 9 (0, 0))) := hg0
  clear h hg0
  go_enter Tryz.func12, Tryz.ntmps12
  go_wp2
  go_loopw [1, 5] (fun k i wr => ∃ (j : Nat) (cur : Array Value), j ≤ n ∧ k = .int .i64 ((1 + j : Nat) : Int) ∧ i = .int .i64 j ∧ wr.heap[g]? = some (.cells cur 9 (0, 0)) ∧ cur.size = cap ∧ (∀ q, q < j → cur[q]? = some (.string (marks q))) ∧ (∀ q, q < cap → ∃ s, cur[q]? = some s) ∧ w.grownBy wr (some g)) (fun _ i _ => n - (intOf i).toNat)
  case atStart => exact ⟨0, cur0, by omega, rfl, rfl, HG0.out, hcs, fun q hq => by omega, fun q hq => ⟨_, Array.getElem?_eq_getElem (by omega)⟩, ⟨rfl, rfl, rfl, Nat.le_refl _, fun _ _ _ => rfl⟩⟩
  case round =>
    obtain ⟨j, cur, hj, rfl, rfl, hg, hsz, hall, hany, hgr⟩ := hrel
    have HG : Hid (wr.heap[g]? = some (.cells cur 9 (0, 0))) := hg
    have HSZ : Hid (cur.size = cap) := hsz
    have HALL : Hid (∀ q, q < j → cur[q]? = some (.string (marks q))) := hall
    have HANY : Hid (∀ q, q < cap → ∃ s, cur[q]? = some s) := hany
    clear hg hsz hall hany
    by_cases hlt : j < n
    · obtain ⟨y, hy⟩ : ∃ y, mtx (1 + j) = y := ⟨_, rfl⟩
      have HY : Hid (mtx (1 + j) = y) := hy
      clear hy
      obtain ⟨s0, hs0⟩ := HANY.out j (by omega)
      have hc : wr.cell? ⟨g, j, none⟩ = some s0 := by rw [cell_of_row wr g j _ _ _ HG.out]; exact hs0
      have hf : wr.frozen? ⟨g, j, none⟩ = false := frozen_of_row wr g j _ _ HG.out
      clear hs0
      go_wp2_with (go_at_call 30; refine (markText_as (1 + j) _ _ (by first | rfl | omega) (by omega) (by omega) y HY.out).mono ?_; rintro e w2 ⟨rfl, hb2⟩; have hc2 := keep hb2 hc; have hf2 := ((bcell hb2).2 _ _ (World.block_lt_of_cell? _ _ hc)).trans hf)
      go_roundw
      case rel =>
        have hg2 : w2.heap[g]? = some (.cells cur 9 (0, 0)) := (hb2.block g (World.block_lt_of_cell? _ _ hc)).trans HG.out
        have R : ∃ (j' : Nat) (cur' : Array Value), j' ≤ n ∧ Value.int .i64 ((1 + j : Nat) + 1 : Int) = .int .i64 ((1 + j' : Nat) : Int) ∧ Value.int .i64 ((j : Int) + 1) = .int .i64 j' ∧ (w2.setCell ⟨g, j, none⟩ (.string y)).heap[g]? = some (.cells cur' 9 (0, 0)) ∧ cur'.size = cap ∧ (∀ q, q < j' → cur'[q]? = some (.string (marks q))) ∧ (∀ q, q < cap → ∃ s, cur'[q]? = some s) ∧ w.grownBy (w2.setCell ⟨g, j, none⟩ (.string y)) (some g) := by
          refine ⟨j + 1, cur.setIfInBounds j (.string y), by omega, by congr 1, by go_num, heap_setCell_same w2 g j _ _ _ hg2, by simp; exact HSZ.out, ?_, ?_, ?_⟩
          · intro q hq
            rw [Array.getElem?_setIfInBounds]
            by_cases e : j = q
            · subst e
              rw [if_pos rfl, if_pos (by have := HSZ.out; omega)]
              show _ = some (Value.string (mtx (1 + j)))
              rw [HY.out]
            · rw [if_neg e]; exact HALL.out q (by omega)
          · intro q hq
            rw [Array.getElem?_setIfInBounds]
            by_cases e : j = q
            · subst e; rw [if_pos rfl, if_pos (by have := HSZ.out; omega)]; exact ⟨_, rfl⟩
            · rw [if_neg e]; exact HANY.out q hq
          · exact ⟨hb2.os.trans hgr.os, hb2.tape.trans hgr.tape, hb2.output.trans hgr.output, by have := hb2.size; have := hgr.size; simp; omega, fun i hi hne => (heap_setCell_other _ _ _ _ (by simpa using fun e => hne (by rw [e]))).trans ((hb2.block i (Nat.lt_of_lt_of_le hi hgr.size)).trans (hgr.block i hi hne))⟩
        first | exact R | exact ⟨_, _, R, rfl⟩
      case measure => simp [intOf]; omega
    · obtain rfl : j = n := by omega
      go_wp2
      go_ret
      refine ⟨rfl, ⟨by rw [strs_len]; omega, .inr ⟨g, cap, cur, rfl, hBg, HG.out, hnc, hcm, by rw [HSZ.out]; omega, ?_⟩⟩, hgr⟩
      apply List.ext_getElem?
      intro q
      by_cases hq : q < j
      · rw [List.getElem?_take, if_pos (by omega), strs_get _ _ _ hq]
        simpa using HALL.out q hq
      · rw [List.getElem?_take, if_neg (by omega), List.getElem?_eq_none (by rw [strs_len]; omega)]
set_option maxRecDepth 20000 in
set_option maxHeartbeats 2000000 in
theorem heldStrs_any (a : Option Addr) (n c : Nat) (w : World) (h : Sl w a n marks) (hn : n ≤ 1048576) :
    Calls Tryz.prog 14 #[.slice a n c, .int .i64 1] w fun e w' => e = .returned (.int .i64 ((1 + n : Nat) : Int)) ∧ Below w.heap.size w w' := by
  go_enter Tryz.func14, Tryz.ntmps14
  go_wp2
  go_loopw [1, 5] (fun k i wr => ∃ j : Nat, j ≤ n ∧ k = .int .i64 ((1 + j : Nat) : Int) ∧ i = .int .i64 j ∧ Below w.heap.size w wr) (fun _ i _ => n - (intOf i).toNat)
  case atStart => exact ⟨0, by omega, rfl, rfl, Below.refl _ _⟩
  case round =>
    obtain ⟨j, hj, rfl, rfl, hb⟩ := hrel
    by_cases hlt : j < n
    · obtain ⟨P, off, rfl, hct0⟩ := (h.later hb).at j hlt
      obtain ⟨y, hy⟩ : ∃ y, mtx (1 + j) = y := ⟨_, rfl⟩
      have hct : wr.drew.cell? ⟨P, off + j, none⟩ = some (.string y) := by rw [← hy]; exact hct0
      have HY : Hid (mtx (1 + j) = y) := hy
      have hjn : (j : Int) < n := by omega
      clear hy hct0
      go_wp2
      refine wp_region_held_drew (S := fun w' => w'.cell? ⟨P, off + j, none⟩ = some (.string y)) (by kernel_rfl) hct (fun hHeld => ?_)
      refine wpAnyH_take (i := 0) (oi := ({ dst := some 12, op := Op.move (Operand.tmp 0), type := 31, pos := "exact.go:184", after := #[], guard := none } : Oper)) (v := .slice (some ⟨P, off, none⟩) n c) rfl (by kernel_rfl) (by kernel_rfl) (by kernel_rfl) (fun _ _ _ h => h) (Or.inl ⟨by rfl, fun w hSw => by go_simp⟩) hHeld ?_
      simp only [Act.put, List.setIfInBounds_toArray, List.set_cons_zero, List.set_cons_succ]
      refine wpAnyH_take (i := 1) (oi := ({ dst := some 13, op := Op.move (Operand.tmp 5), type := 3, pos := "exact.go:184", after := #[], guard := none } : Oper)) (v := .int .i64 (j : Int)) rfl (by kernel_rfl) (by kernel_rfl) (by kernel_rfl) (fun _ _ _ h => h) (Or.inl ⟨by rfl, fun w hSw => by go_simp⟩) hHeld ?_
      simp only [Act.put, List.setIfInBounds_toArray, List.set_cons_zero, List.set_cons_succ]
      refine wpAnyH_take (i := 2) (oi := ({ dst := some 14, op := Op.indexAddr 31 (Operand.tmp 12) (Operand.tmp 13), type := 0, pos := "exact.go:184", after := #[{ on := 0, ground := Ground.data }, { on := 1, ground := Ground.data }], guard := none } : Oper)) (v := .pointer (some ⟨P, off + j, none⟩)) rfl (by kernel_rfl) (by kernel_rfl) (by kernel_rfl) (fun _ _ _ h => h) (Or.inl ⟨by rfl, fun w hSw => by go_simp⟩) hHeld ?_
      simp only [Act.put, List.setIfInBounds_toArray, List.set_cons_zero, List.set_cons_succ]
      refine wpAnyH_take (i := 3) (oi := ({ dst := some 15, op := Op.load 9 (Operand.tmp 14), type := 9, pos := "exact.go:184", after := #[{ on := 2, ground := Ground.data }], guard := none } : Oper)) (v := .string y) rfl (by kernel_rfl) (by kernel_rfl) (by kernel_rfl) (fun _ _ _ h => h) (Or.inl ⟨by rfl, fun w hSw => by go_simp⟩) hHeld ?_
      simp only [Act.put, List.setIfInBounds_toArray, List.set_cons_zero, List.set_cons_succ]
      refine wpAnyH_take (i := 4) (oi := ({ dst := some 16, op := Op.move (Operand.tmp 1), type := 3, pos := "exact.go:184", after := #[], guard := none } : Oper)) (v := .int .i64 ((1 + j : Nat) : Int)) rfl (by kernel_rfl) (by kernel_rfl) (by kernel_rfl) (fun _ _ _ h => h) (Or.inl ⟨by rfl, fun w hSw => by go_simp⟩) hHeld ?_
      simp only [Act.put, List.setIfInBounds_toArray, List.set_cons_zero, List.set_cons_succ]
      refine wpAnyH_ready (rs := [5]) (by kernel_rfl) (by simp) ?_
      refine AllReadyH.cons (o := ({ dst := some 17, op := Op.call { callee := Callee.value (Operand.func 30), args := #[Operand.tmp 16], argTypes := #[3] }, type := 9, pos := "exact.go:184", after := #[{ on := 4, ground := Ground.data }], guard := none } : Oper)) rfl (fun K hK => ?_) AllReadyH.nil
      go_simp
      refine (markText_any (1 + j) _ (by omega) (by omega) y HY.out).mono ?_
      rintro e w2 ⟨rfl, hb2⟩
      refine hK.out _ _ (keep hb2 hHeld) (fun hHeld => ?_)
      clear hK K
      refine wpAnyH_take (i := 6) (oi := ({ dst := some 18, op := Op.binOp BinOp.neq 9 (Operand.tmp 15) (Operand.tmp 17) 9, type := 4, pos := "exact.go:184", after := #[{ on := 3, ground := Ground.data }, { on := 5, ground := Ground.data }], guard := none } : Oper)) (v := .bool false) rfl (by kernel_rfl) (by kernel_rfl) (by kernel_rfl) (fun _ _ _ h => h) (Or.inl ⟨by rfl, fun w hSw => by go_simp⟩) hHeld ?_
      simp only [Act.put, List.setIfInBounds_toArray, List.set_cons_zero, List.set_cons_succ]
      refine wpAnyH_done (by kernel_rfl) ?_ _
      go_wp2
      go_roundw
      case rel =>
        have R : ∃ j' : Nat, j' ≤ n ∧ Value.int .i64 ((1 + j : Nat) + 1 : Int) = .int .i64 ((1 + j' : Nat) : Int) ∧ Value.int .i64 ((j : Int) + 1) = .int .i64 j' ∧ Below w.heap.size w w2 := ⟨j + 1, by omega, by congr 1, by go_num, hb.drew.trans (hb2.mono hb.size)⟩
        first | exact R | exact ⟨_, _, R, rfl⟩
      case measure => simp [intOf]; omega
    · obtain rfl : j = n := by omega
      go_wp2
      go_ret
      exact ⟨rfl, hb⟩
end Go.Proofs.YtngppfjphbodcaaGreatDoor
