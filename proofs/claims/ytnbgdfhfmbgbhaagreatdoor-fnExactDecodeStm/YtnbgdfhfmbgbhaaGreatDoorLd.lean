/-
  DecodeStm: the law.
-/
import Derived.Test.YtnbgdfhfmbgbhaaGreatDoorRzc
import Derived.Test.YtnbgdfhfmbgbhaaGreatDoorRwd
namespace Go.Proofs.YtnbgdfhfmbgbhaaGreatDoor
open Go.RowKit Go.Maps Go.WideMaps
theorem specYes {s : ByteArray} {d : St} (hg : Good s d) (w : World) (hs : s.size ≤ 1048576) : Calls Tryz.prog 5 #[.string s] w fun e w' => ∃ p, e = .returned (.tuple #[.agg (cs8 d p), .bool true]) ∧ SM w' d p ∧ Below w.heap.size w w' := by
  refine (specDec s w hs).mono ?_
  rintro e w' ⟨hb, ⟨-, hn⟩ | ⟨d', p, hg', rfl, hM⟩⟩
  · exact absurd hg (hn d)
  · obtain rfl := hg.one hg'
    exact ⟨p, rfl, hM, hb⟩
theorem specNo {s : ByteArray} (hn : ∀ d, ¬ Good s d) (w : World) (hs : s.size ≤ 1048576) : Calls Tryz.prog 5 #[.string s] w fun e w' => e = .returned (.tuple #[.agg (cs8 zS noP), .bool false]) ∧ Below w.heap.size w w' := by
  refine (specDec s w hs).mono ?_
  rintro e w' ⟨hb, ⟨rfl, -⟩ | ⟨d', p, hg', -⟩⟩
  · exact ⟨rfl, hb⟩
  · exact absurd hg' (hn d')
theorem implYes {s : ByteArray} {d : St} (hg : Good s d) (w : World) (hs : s.size ≤ 1048576) (hT : SpT w) : Calls Tryz.prog 6 #[.string s] w fun e w' => ∃ p, e = .returned (.tuple #[.agg (cs8 d p), .bool true]) ∧ SM w' d p ∧ Wr w' w.heap.size w'.heap.size d p ∧ Below w.heap.size w w' := by
  refine (iDec s w hs hT).mono ?_
  rintro e w' ⟨hb, ⟨-, hn⟩ | ⟨d', p, hg', rfl, hM, hW⟩⟩
  · exact absurd hg (hn d)
  · obtain rfl := hg.one hg'
    exact ⟨p, rfl, hM, hW, hb⟩
theorem implNo {s : ByteArray} (hn : ∀ d, ¬ Good s d) (w : World) (hs : s.size ≤ 1048576) (hT : SpT w) : Calls Tryz.prog 6 #[.string s] w fun e w' => e = .returned (.tuple #[.agg (cs8 zS noP), .bool false]) ∧ Below w.heap.size w w' := by
  refine (iDec s w hs hT).mono ?_
  rintro e w' ⟨hb, ⟨rfl, -⟩ | ⟨d', p, hg', -⟩⟩
  · exact ⟨rfl, hb⟩
  · exact absurd hg' (hn d')
/-- How many marks there are, and one. -/
def tt (d : St) : Nat := 1 + 2 * d.n2 + 3 * d.n3 + 3 * d.n5 + 3 * d.n6 + 3 * sm d.m7 d.n7
def Mk (w : World) (d : St) (p : Sa) : Prop := MkA w d p ∨ MkB w d p
theorem tA {d : St} (h : d.n7 = 0) : 1 + 2 * d.n2 + 3 * d.n3 + 3 * d.n5 + 3 * d.n6 = tt d := by
  unfold tt
  rw [h]
  rfl
theorem tB {d : St} (h2 : d.n2 = 0) (h3 : d.n3 = 0) (h5 : d.n5 = 0) : 1 + 3 * d.n6 + 3 * sm d.m7 d.n7 = tt d := by
  unfold tt
  rw [h2, h3, h5]
theorem markAny (d : St) (p : Sa) (lo hi : Nat) (w : World) (h : Wr w lo hi d p) (hhi : hi ≤ w.heap.size) (hz : tt d < 9000000) (hn : d.n7 ≤ 1048576) :
    Calls Tryz.prog 8 #[.agg (cs8 d p), .int .i64 1] w fun e w' => ∃ K : Int, e = .returned (.int .i64 K) ∧ Hid (K = ((tt d : Nat) : Int)) ∧ Mk w' d p ∧ Mid lo hi w w' := by
  rcases h with h | h
  · have e := tA h.n7
    refine (markA d p lo hi w h hhi (by omega)).mono ?_
    rintro e' w' ⟨K, rfl, hK, h1, h2⟩
    rw [e] at hK
    exact ⟨K, rfl, hK, Or.inl h1, h2⟩
  · have e := tB h.n2 h.n3 h.n5
    refine (markB d p lo hi w h hhi (by omega) hn).mono ?_
    rintro e' w' ⟨K, rfl, hK, h1, h2⟩
    rw [e] at hK
    exact ⟨K, rfl, hK, Or.inr h1, h2⟩
theorem heldAny (d : St) (p : Sa) (w : World) (h : Mk w d p) (hz : tt d < 9000000) (hn : d.n7 ≤ 1048576) :
    Calls Tryz.prog 9 #[.agg (cs8 d p), .int .i64 1] w fun e w' => ∃ K : Int, e = .returned (.int .i64 K) ∧ Hid (K = ((tt d : Nat) : Int)) ∧ Below w.heap.size w w' := by
  rcases h with h | h
  · have e := tA h.n7
    refine (heldA d p w h (by omega)).mono ?_
    rintro e' w' ⟨K, rfl, hK, h1⟩
    rw [e] at hK
    exact ⟨K, rfl, hK, h1⟩
  · have e := tB h.n2 h.n3 h.n5
    refine (heldB d p w h (by omega) hn).mono ?_
    rintro e' w' ⟨K, rfl, hK, h1⟩
    rw [e] at hK
    exact ⟨K, rfl, hK, h1⟩
theorem sm_small {M : Nat → Nat} : ∀ {n : Nat}, (∀ i, i < n → M i ≤ 100) → sm M n ≤ 100 * n
  | 0, _ => Nat.le_refl _
  | n + 1, h => by
    have h1 := sm_small (M := M) (n := n) (fun i hi => h i (by omega))
    have h2 := h n (by omega)
    rw [sm_succ]
    omega
theorem tt_small {s : ByteArray} {d : St} (h : Good s d) : tt d < 9000000 ∧ d.n7 ≤ 1048576 := by
  have hok := h.ok
  obtain ⟨-, hr, -⟩ := h
  rcases hr with ⟨e1, e2, e3, e4, e5, rfl⟩ | ⟨m, _, _, rfl⟩ | ⟨m, _, _, rfl⟩ | ⟨m, m', _, _, _, rfl⟩ | ⟨m', _, _, rfl⟩ | ⟨m, M, m', _, _, _, _, _, rfl⟩
  · rw [enc0 s e1 e2 e3 e4 e5] at hok; cases hok
  · have : m ≤ 20 := (ok1 hok rfl).1
    have e : tt (rd1 s m) = 1 + 2 * m := rfl
    exact ⟨by omega, Nat.zero_le _⟩
  · have : m ≤ 20 := (ok2 hok rfl).1
    have e : tt (rd2 s m) = 1 + 2 * 0 + 3 * m := rfl
    exact ⟨by omega, Nat.zero_le _⟩
  · have h1 : m ≤ 100 := (ok3 hok rfl).2.1.1
    have h2 : m' ≤ 100 := (ok3 hok rfl).2.2.1
    have e : tt (rd3 s m m') = 1 + 2 * 0 + 3 * 0 + 3 * m + 3 * m' := rfl
    exact ⟨by omega, Nat.zero_le _⟩
  · have h2 : m' ≤ 100 := (ok4 hok rfl).1
    have e : tt (rd4 s m') = 1 + 2 * 0 + 3 * 0 + 3 * 0 + 3 * m' := rfl
    exact ⟨by omega, Nat.zero_le _⟩
  · obtain ⟨h1, h2, h3⟩ := ok5 hok rfl
    have h1' : m ≤ 20 := h1
    have h3' : m' ≤ 100 := h3.1
    have h4 : sm M m ≤ 100 * m := sm_small (fun i hi => (h2 i hi).1)
    have e : tt (rd5 s m M m') = 1 + 2 * 0 + 3 * 0 + 3 * 0 + 3 * m' + 3 * sm M m := rfl
    exact ⟨by omega, by show m ≤ 1048576; omega⟩
theorem zSM (w : World) : SM w zS noP := ⟨zero_size, zero_size, zeroCL _ _ _, zeroIL _ _ _, zeroIL _ _ _, zeroIL _ _ _, zeroOL _ _ _ _, Nat.zero_le _, Nat.zero_le _, Nat.zero_le _, Nat.zero_le _, Nat.zero_le _⟩
theorem zWr (w : World) (lo hi : Nat) : Wr w lo hi zS noP := Or.inl ⟨rfl, Or.inl rfl, Or.inl rfl, Or.inl rfl, Or.inl rfl, Dj.zero _ _ _, Dj.zero _ _ _, Dj.zero _ _ _, Dj.zero _ _ _, Dj.zero _ _ _, Dj.zero _ _ _⟩
theorem tt_zero : tt zS < 9000000 ∧ zS.n7 ≤ 1048576 := ⟨by decide, Nat.zero_le _⟩
/-- Both sides, in one way: what they answer. -/
theorem specAns (s : ByteArray) (hs : s.size ≤ 1048576) : ∃ (d : St) (b : Bool), tt d < 9000000 ∧ d.n7 ≤ 1048576 ∧ (∀ w, Calls Tryz.prog 5 #[.string s] w fun e w' => ∃ p, e = .returned (.tuple #[.agg (cs8 d p), .bool b]) ∧ SM w' d p ∧ Below w.heap.size w w') ∧
    (∀ w, SpT w → Calls Tryz.prog 6 #[.string s] w fun e w' => ∃ p, e = .returned (.tuple #[.agg (cs8 d p), .bool b]) ∧ SM w' d p ∧ Wr w' w.heap.size w'.heap.size d p ∧ Below w.heap.size w w') := by
  by_cases hg : ∃ d, Good s d
  · obtain ⟨d, hg⟩ := hg
    obtain ⟨h1, h2⟩ := tt_small hg
    exact ⟨d, true, h1, h2, fun w => specYes hg w hs, fun w hT => implYes hg w hs hT⟩
  · have hn : ∀ d, ¬ Good s d := fun d h => hg ⟨d, h⟩
    refine ⟨zS, false, tt_zero.1, tt_zero.2, fun w => ?_, fun w hT => ?_⟩
    · refine (specNo hn w hs).mono ?_
      rintro e w' ⟨rfl, hb⟩
      exact ⟨noP, rfl, zSM _, hb⟩
    · refine (implNo hn w hs hT).mono ?_
      rintro e w' ⟨rfl, hb⟩
      exact ⟨noP, rfl, zSM _, zWr _ _ _, hb⟩
theorem mid_below {B lo hi : Nat} {w a b : World} (h : Below B w a) (k : Mid lo hi a b) (h1 : B ≤ lo) (h2 : B ≤ w.heap.size) : Below B w b :=
  ⟨k.os.trans h.os, k.tape.trans h.tape, k.output.trans h.output, Nat.le_trans h.size k.size, fun x hx => (k.block x (by have := h.size; omega) (Or.inl (by omega))).trans (h.block x hx)⟩
theorem below_to {B : Nat} {w a b : World} (h : Below B w a) (k : Below a.heap.size a b) (h2 : B ≤ w.heap.size) : Below B w b :=
  ⟨k.os.trans h.os, k.tape.trans h.tape, k.output.trans h.output, Nat.le_trans h.size k.size, fun x hx => (k.block x (by have := h.size; omega)).trans (h.block x hx)⟩
theorem b8_row {w : World} {g : Nat} {d : St} {p : Sa} (h : w.heap[g]? = some (.cells (cs8 d p) 27 (0, 0))) : B8 w g d p :=
  ⟨(cell_of_row _ _ 0 _ _ _ h).trans rfl, (cell_of_row _ _ 1 _ _ _ h).trans rfl, (cell_of_row _ _ 2 _ _ _ h).trans rfl, (cell_of_row _ _ 3 _ _ _ h).trans rfl, (cell_of_row _ _ 4 _ _ _ h).trans rfl, (cell_of_row _ _ 5 _ _ _ h).trans rfl, (cell_of_row _ _ 6 _ _ _ h).trans rfl, (cell_of_row _ _ 7 _ _ _ h).trans rfl⟩
set_option maxRecDepth 20000 in
set_option maxHeartbeats 16000000 in
theorem lawDec (s : ByteArray) (w : World) (hsz : s.size ≤ 9223372036854775807) (hT : SpT w) : Calls Tryz.prog 3 #[.string s] w fun e w' => e = .returned (.bool true) ∧ Below w.heap.size w w' := by
  by_cases hb : s.size ≤ 1048576
  rotate_left
  · have h1 : (1048576 : Int) < s.size := by omega
    go_enter Tryz.func3, Tryz.ntmps3
    go_wp2
    go_ret
    exact ⟨rfl, Below.refl _ _⟩
  have h1 : ¬ (1048576 : Int) < s.size := by omega
  obtain ⟨d, b, ht, hn, hS, hI⟩ := specAns s hb
  go_enter Tryz.func3, Tryz.ntmps3
  go_wp2_with (first | (go_at_call 7; have _h := hM6a; refine (eqStm_any d p6 p1 _ hM6a hM1b).mono ?_; rintro e w7 ⟨rfl, hb7⟩) | (go_at_call 6; have _h := T5; refine (hI _ T5).mono ?_; rintro e w6 ⟨p6, rfl, hM6, -, hb6⟩; have B6 : Below w1.heap.size w1 (w6.alloc (.cells (cs8 d p6) 27)) := below_to (below_to B5 hb6 (Nat.le_refl _)) (bal w6 _) (Nat.le_refl _); have HR1f : Hid ((w6.alloc (.cells (cs8 d p6) 27)).heap[w1.heap.size]? = some (.cells (cs8 d p1) 27 (0, 0))) := rowL (rowL HR1e.out hb6) (bal w6 _); have hM6a := hM6.later (bal w6 (.cells (cs8 d p6) 27)); have hM1b := hM1.later B6; obtain ⟨v0, v1, v2, v3, v4, v5, v6, v7⟩ := b8_row HR1f.out) | (go_at_call 9; refine (heldAny d p2 w4 hM4 ht hn).mono ?_; rintro e w5 ⟨K5, rfl, HK5, hb5⟩; obtain rfl : K5 = K4 := HK5.out.trans HK4.out.symm; have hK5 : 0 ≤ K5 := (by rw [HK5.out]; omega); have B5 : Below w1.heap.size w1 w5 := below_to B4 hb5 (Nat.le_refl _); have HR1e : Hid (w5.heap[w1.heap.size]? = some (.cells (cs8 d p1) 27 (0, 0))) := rowL HR1d.out hb5; have T5 : SpT w5 := hT.later (bstep hb1 B5)) | (go_at_call 8; refine (markAny d p2 _ _ w3 hW3 (by omega) ht hn).mono ?_; rintro e w4 ⟨K4, rfl, HK4, hM4, hD4⟩; have B4 : Below w1.heap.size w1 w4 := mid_below B3 hD4 (by omega) (Nat.le_refl _); have HR1d : Hid (w4.heap[w1.heap.size]? = some (.cells (cs8 d p1) 27 (0, 0))) := hD4.row HR1c.out (Or.inl (by omega)); have HR2d : Hid (w4.heap[w2.heap.size]? = some (.cells (cs8 d p2) 27 (0, 0))) := hD4.row HR2c.out (Or.inr (Nat.le_refl _)); obtain ⟨u0, u1, u2, u3, u4, u5, u6, u7⟩ := b8_row HR2d.out) | (go_at_call 7; refine (eqStm_any d p2 p1 _ hM2a hM1a).mono ?_; rintro e w3 ⟨rfl, hb3⟩; have B3 : Below w1.heap.size w1 w3 := below_to B2 hb3 (Nat.le_refl _); have HR1c : Hid (w3.heap[w1.heap.size]? = some (.cells (cs8 d p1) 27 (0, 0))) := rowL HR1b.out hb3; have HR2c : Hid (w3.heap[w2.heap.size]? = some (.cells (cs8 d p2) 27 (0, 0))) := rowL HR2.out hb3; have hs3 := hb3.size; have hW3 := hW2.kp (KpR.below (bstep (bal w2 (.cells (cs8 d p2) 27)) hb3)); obtain ⟨y0, y1, y2, y3, y4, y5, y6, y7⟩ := b8_row HR2c.out) | (go_at_call 6; refine (hI _ T1).mono ?_; rintro e w2 ⟨p2, rfl, hM2, hW2, hb2⟩; have B2 : Below w1.heap.size w1 (w2.alloc (.cells (cs8 d p2) 27)) := below_to (below_to B1 hb2 (Nat.le_refl _)) (bal w2 _) (Nat.le_refl _); have HR1b : Hid ((w2.alloc (.cells (cs8 d p2) 27)).heap[w1.heap.size]? = some (.cells (cs8 d p1) 27 (0, 0))) := rowL (rowL HR1.out hb2) (bal w2 _); have HR2 : Hid ((w2.alloc (.cells (cs8 d p2) 27)).heap[w2.heap.size]? = some (.cells (cs8 d p2) 27 (0, 0))) := heap_alloc_new w2 _; have hs2 := hb2.size; have hs2a : (w2.alloc (.cells (cs8 d p2) 27)).heap.size = w2.heap.size + 1 := (by simp); have hM2a := hM2.later (bal w2 (.cells (cs8 d p2) 27)); have hM1a := hM1.later B2; obtain ⟨x0, x1, x2, x3, x4, x5, x6, x7⟩ := b8_row HR1b.out) | (go_at_call 5; refine (hS _).mono ?_; rintro e w1 ⟨p1, rfl, hM1, hb1⟩; have B1 : Below w1.heap.size w1 (w1.alloc (.cells (cs8 d p1) 27)) := bal _ _; have HR1 : Hid ((w1.alloc (.cells (cs8 d p1) 27)).heap[w1.heap.size]? = some (.cells (cs8 d p1) 27 (0, 0))) := heap_alloc_new w1 _; have hs1 : (w1.alloc (.cells (cs8 d p1) 27)).heap.size = w1.heap.size + 1 := (by simp); have T1 : SpT (w1.alloc (.cells (cs8 d p1) 27)) := hT.later (bstep hb1 (bal _ _))))
  go_ret
  exact ⟨rfl, bstep hb1 (below_to B6 hb7 (Nat.le_refl _))⟩
end Go.Proofs.YtnbgdfhfmbgbhaaGreatDoor
