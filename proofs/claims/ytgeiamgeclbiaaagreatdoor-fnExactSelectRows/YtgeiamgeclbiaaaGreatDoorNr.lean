/-
  The law's own functions over lists of expressions: measured, copied, held against each other.
-/
import Derived.Test.YtgeiamgeclbiaaaGreatDoorNk
import Derived.Deep.OwnRows
import Derived.Deep.RegionWith
namespace Go.Proofs.YtgeiamgeclbiaaaGreatDoor
open Go.RowKit Go.Maps Go.WideMaps
/-- A column. -/
structure Clm where
  s : ByteArray
  t : Int
/-- n columns lie there. -/
def CL (w : World) (a : Option Addr) (n : Nat) (C : Nat → Clm) : Prop :=
  ∀ k, k < n → ∃ b off, a = some ⟨b, off, none⟩ ∧ w.cell? ⟨b, off + k * 2, none⟩ = some (.string (C k).s) ∧ w.cell? ⟨b, off + k * 2 + 1, none⟩ = some (.int .i64 (C k).t) ∧ (C k).s.size ≤ 1048576
theorem CL.later {w w' : World} {a : Option Addr} {n : Nat} {C : Nat → Clm} (h : CL w a n C) (hb : Below w.heap.size w w') : CL w' a n C := fun k hk => by
  obtain ⟨b, off, e, h0, h1, hs⟩ := h k hk
  exact ⟨b, off, e, keepB hb h0, keepB hb h1, hs⟩
/-- n expressions lie there. -/
def OL (w : World) (a : Option Addr) (n : Nat) (m : Nat → Nat) (O : Nat → Nat → Itm) : Prop :=
  ∀ k, k < n → ∃ b off i c, a = some ⟨b, off, none⟩ ∧ w.cell? ⟨b, off + k, none⟩ = some (.slice i (m k) c) ∧ IL w i (m k) (O k) ∧ m k ≤ 1048576
theorem OL.later {w w' : World} {a : Option Addr} {n : Nat} {m : Nat → Nat} {O : Nat → Nat → Itm} (h : OL w a n m O) (hb : Below w.heap.size w w') : OL w' a n m O := fun k hk => by
  obtain ⟨b, off, i, c, e, h0, hi, hm⟩ := h k hk
  exact ⟨b, off, i, c, e, keepB hb h0, hi.later hb, hm⟩
/-- What a statement says. -/
structure St where
  k : Int
  tb : ByteArray
  n2 : Nat
  C : Nat → Clm
  n3 : Nat
  V : Nat → Itm
  col : ByteArray
  n5 : Nat
  E : Nat → Itm
  n6 : Nat
  W : Nat → Itm
  n7 : Nat
  m7 : Nat → Nat
  O : Nat → Nat → Itm
/-- Where its lists lie. -/
structure Sa where
  a2 : Option Addr
  c2 : Nat
  a3 : Option Addr
  c3 : Nat
  a5 : Option Addr
  c5 : Nat
  a6 : Option Addr
  c6 : Nat
  a7 : Option Addr
  c7 : Nat
/-- Its cells. -/
abbrev cs8 (d : St) (p : Sa) : Array Value := #[.int .i64 d.k, .string d.tb, .slice p.a2 d.n2 p.c2, .slice p.a3 d.n3 p.c3, .string d.col, .slice p.a5 d.n5 p.c5, .slice p.a6 d.n6 p.c6, .slice p.a7 d.n7 p.c7]
/-- A statement lies there. -/
structure SM (w : World) (d : St) (p : Sa) : Prop where
  tb : d.tb.size ≤ 1048576
  col : d.col.size ≤ 1048576
  co : CL w p.a2 d.n2 d.C
  va : IL w p.a3 d.n3 d.V
  ex : IL w p.a5 d.n5 d.E
  wh : IL w p.a6 d.n6 d.W
  ou : OL w p.a7 d.n7 d.m7 d.O
  l2 : d.n2 ≤ 1048576
  l3 : d.n3 ≤ 1048576
  l5 : d.n5 ≤ 1048576
  l6 : d.n6 ≤ 1048576
  l7 : d.n7 ≤ 1048576
theorem SM.later {w w' : World} {d : St} {p : Sa} (h : SM w d p) (hb : Below w.heap.size w w') : SM w' d p :=
  ⟨h.tb, h.col, h.co.later hb, h.va.later hb, h.ex.later hb, h.wh.later hb, h.ou.later hb, h.l2, h.l3, h.l5, h.l6, h.l7⟩
/-- The eight cells of a statement's own block. -/
structure B8 (w : World) (g : Nat) (d : St) (p : Sa) : Prop where
  c0 : w.cell? ⟨g, 0, none⟩ = some (.int .i64 d.k)
  c1 : w.cell? ⟨g, 1, none⟩ = some (.string d.tb)
  c2 : w.cell? ⟨g, 2, none⟩ = some (.slice p.a2 d.n2 p.c2)
  c3 : w.cell? ⟨g, 3, none⟩ = some (.slice p.a3 d.n3 p.c3)
  c4 : w.cell? ⟨g, 4, none⟩ = some (.string d.col)
  c5 : w.cell? ⟨g, 5, none⟩ = some (.slice p.a5 d.n5 p.c5)
  c6 : w.cell? ⟨g, 6, none⟩ = some (.slice p.a6 d.n6 p.c6)
  c7 : w.cell? ⟨g, 7, none⟩ = some (.slice p.a7 d.n7 p.c7)
theorem B8.new (w : World) (d : St) (p : Sa) (t : TypeId) : B8 (w.alloc (.cells (cs8 d p) t)) w.heap.size d p :=
  ⟨(cell_of_row _ _ 0 _ _ _ (heap_alloc_new w _)).trans rfl, (cell_of_row _ _ 1 _ _ _ (heap_alloc_new w _)).trans rfl, (cell_of_row _ _ 2 _ _ _ (heap_alloc_new w _)).trans rfl, (cell_of_row _ _ 3 _ _ _ (heap_alloc_new w _)).trans rfl, (cell_of_row _ _ 4 _ _ _ (heap_alloc_new w _)).trans rfl, (cell_of_row _ _ 5 _ _ _ (heap_alloc_new w _)).trans rfl, (cell_of_row _ _ 6 _ _ _ (heap_alloc_new w _)).trans rfl, (cell_of_row _ _ 7 _ _ _ (heap_alloc_new w _)).trans rfl⟩
theorem B8.later {w w' : World} {g : Nat} {d : St} {p : Sa} (h : B8 w g d p) (hb : Below w.heap.size w w') : B8 w' g d p :=
  ⟨keepB hb h.c0, keepB hb h.c1, keepB hb h.c2, keepB hb h.c3, keepB hb h.c4, keepB hb h.c5, keepB hb h.c6, keepB hb h.c7⟩
/-- p holds at all numbers below n. -/
def allN (n : Nat) (p : Nat → Bool) : Bool := (List.range n).all p
theorem allN_true {n : Nat} {p : Nat → Bool} (h : ∀ j, j < n → p j = true) : allN n p = true := by
  unfold allN
  rw [List.all_eq_true]
  exact fun j hj => h j (List.mem_range.1 hj)
theorem allN_false {n j : Nat} {p : Nat → Bool} (hj : j < n) (h : p j = false) : allN n p = false := by
  unfold allN
  rw [List.all_eq_false]
  exact ⟨j, List.mem_range.2 hj, by simp [h]⟩
theorem and_no {n j : Nat} {p : Nat → Bool} (hj : j < n) (h : p j = false ∨ 20 < n) : (btw n 1 20 && allN n p) = false := by
  rcases h with h | h
  · rw [allN_false hj h]; simp
  · simp [btw]
    intros
    omega
theorem and_yes {n : Nat} {p : Nat → Bool} (h : ∀ j, j < n → p j = true) (hm : 0 < n → n ≤ 20) : (btw n 1 20 && allN n p) = decide (0 < n) := by
  rw [allN_true h, Bool.eq_iff_iff]
  simp [btw]
  omega
theorem and_no2 {a b : Bool} (h : a = false) : (a && b) = false := by rw [h]; rfl
def badS (d : St) : Bool := (d.k != 1 && (d.n2 : Int) != 0) || (d.k != 2 && (d.n3 : Int) != 0) || (d.k != 3 && (!decide (d.col.size = 0) || (d.n5 : Int) != 0)) || (d.k != 5 && (d.n7 : Int) != 0)
def restS (d : St) : Bool :=
  if d.k = 1 then btw d.n2 1 20 && allN d.n2 (fun j => okCol (d.C j).s (d.C j).t)
  else if d.k = 2 then btw d.n3 1 20 && allN d.n3 (fun j => okValue (d.V j).o (d.V j).m (d.V j).s)
  else if d.k = 3 then okName d.col && okExp d.E d.n5 && okWhere d.W d.n6
  else if d.k = 4 then okWhere d.W d.n6
  else if d.k = 5 then btw d.n7 1 20 && allN d.n7 (fun j => okExp (d.O j) (d.m7 j)) && okWhere d.W d.n6
  else false
def okStm (d : St) : Bool := okName d.tb && !badS d && !(decide (d.k < 3) && (d.n6 : Int) != 0) && restS d
end Go.Proofs.YtgeiamgeclbiaaaGreatDoor
namespace Go.Proofs.YtgeiamgeclbiaaaGreatDoor
open Go.RowKit Go.Maps Go.WideMaps
theorem below3 (w : World) (a b c : Obj) : Below w.heap.size w (((w.alloc a).alloc b).alloc c) := bstep (bal w a) (bstep (bal _ b) (bal _ c))
theorem make_any {t e : TypeId} {z : Value} {size bytes : Nat} (ht : Tryz.prog.underlying t = some (.slice e)) (hinfo : (Tryz.prog.info? e).map (fun i => (i.zero, i.size, i.bytes)) = some (some z, size, bytes)) (n : Nat) (hn : n ≤ 1048576) (hb : bytes ≤ 1000) (w : World) :
    (Instr.makeSlice t (.int .i64 (n : Int)) (.int .i64 (n : Int))).run Tryz.prog w = .ok (.slice (some ⟨w.heap.size, 0, none⟩) n n) (w.alloc (.cells (madeCells z.cells (n * size)) e)) := by
  obtain ⟨i, hi, hzz⟩ := Option.map_eq_some_iff.1 hinfo
  simp only [Prod.mk.injEq] at hzz
  obtain ⟨hz, hs, hbb⟩ := hzz
  have h1 : ((i.bytes : Int) * (n : Int)) ≤ 281474976710656 := by
    rw [hbb]
    have : bytes * n ≤ 1000 * 1048576 := Nat.mul_le_mul hb hn
    have h2 : ((bytes : Int) * (n : Int)) = ((bytes * n : Nat) : Int) := by simp
    omega
  have := run_make (P := Tryz.prog) w t e i z ht hi hz .i64 .i64 n n (by omega) (by omega) h1 (by omega)
  rw [hs] at this
  simpa using this
theorem made_size (z : Array Value) (n : Nat) : (madeCells z n).size = n := by simp [size_madeCells]
theorem there {A : Array Value} {k : Nat} (h : k < A.size) : ∃ v, A[k]? = some v := ⟨A[k], by simp [h]⟩
theorem setA {A : Array Value} {k i : Nat} {v u : Value} (h : A[i]? = some u) (hne : k ≠ i) : (A.setIfInBounds k v)[i]? = some u := by
  rw [Array.getElem?_setIfInBounds, if_neg hne]; exact h
theorem setS {A : Array Value} {k : Nat} {v : Value} (h : k < A.size) : (A.setIfInBounds k v)[k]? = some v := by
  rw [Array.getElem?_setIfInBounds]; simp [h]
theorem eqS_same (s : ByteArray) : (s.toList == s.toList) = true := by simp
/-- n of them, of whatever length. -/
def CX (w : World) (a : Option Addr) (n : Nat) (C : Nat → Clm) : Prop :=
  n ≤ 9223372036854775807 ∧ ∀ k, k < n → ∃ b off, a = some ⟨b, off, none⟩ ∧ w.cell? ⟨b, off + k * 2, none⟩ = some (.string (C k).s) ∧ w.cell? ⟨b, off + k * 2 + 1, none⟩ = some (.int .i64 (C k).t) ∧ (C k).s.size ≤ 9223372036854775807
theorem CX.later {w w' : World} {a : Option Addr} {n : Nat} {C : Nat → Clm} (h : CX w a n C) (hb : Below w.heap.size w w') : CX w' a n C := ⟨h.1, fun k hk => by
  obtain ⟨b, off, e, h0, h1, hs⟩ := h.2 k hk
  exact ⟨b, off, e, keepB hb h0, keepB hb h1, hs⟩⟩
theorem CX.small {w : World} {a : Option Addr} {n : Nat} {C : Nat → Clm} (h : CX w a n C) (hs : ∀ k, k < n → (C k).s.size ≤ 1048576) : CL w a n C := fun k hk => by
  obtain ⟨b, off, e, h0, h1, _⟩ := h.2 k hk
  exact ⟨b, off, e, h0, h1, hs k hk⟩
set_option maxRecDepth 20000 in
set_option maxHeartbeats 2000000 in
theorem szCol (s : ByteArray) (t : Int) (w : World) (L : Int) (h0 : 0 ≤ L) (h1 : L ≤ 1048576) (hs : s.size ≤ 9223372036854775807) :
    Calls Tryz.prog 63 #[.agg #[.string s, .int .i64 t], .int .i64 L] w fun e w' => Below w.heap.size w w' ∧ ∃ r : Int, e = .returned (.int .i64 r) ∧ r ≤ 1048576 ∧ (0 ≤ r → s.size ≤ 1048576) := by
  go_enter Tryz.func63, Tryz.ntmps63
  by_cases hneg : (0 : Int) ≤ L - s.size
  · go_wp2
    go_ret
    exact ⟨bal _ _, _, rfl, by omega, fun _ => by omega⟩
  · go_wp2
    go_ret
    exact ⟨bal _ _, -1, rfl, by omega, fun hh => by omega⟩
set_option maxRecDepth 20000 in
set_option maxHeartbeats 2000000 in
theorem szCols (a : Option Addr) (n c : Nat) (C : Nat → Clm) (w : World) (h : CX w a n C) (L : Int) (h0 : 0 ≤ L) (h1 : L ≤ 1048576) :
    Calls Tryz.prog 22 #[.slice a n c, .int .i64 L] w fun e w' => Below w.heap.size w w' ∧ ∃ r : Int, e = .returned (.int .i64 r) ∧ r ≤ 1048576 ∧ (0 ≤ r → n ≤ 1048576 ∧ ∀ k, k < n → (C k).s.size ≤ 1048576) := by
  have hn := h.1
  have hb0 := Below.refl w.heap.size w
  by_cases hs : (n : Int) ≤ L
  · go_enter Tryz.func22, Tryz.ntmps22
    go_wp2
    go_loopw [1, 5] (fun l i wr => ∃ k : Nat, ∃ x : Int, k ≤ n ∧ i = .int .i64 k ∧ l = .int .i64 x ∧ 0 ≤ x ∧ x ≤ 1048576 ∧ (∀ j, j < k → (C j).s.size ≤ 1048576) ∧ Below w.heap.size w wr) (fun _ i _ => n - (intOf i).toNat)
    case atStart => exact ⟨0, _, by omega, rfl, rfl, by omega, by omega, fun j hj => by omega, hb0⟩
    case round =>
      obtain ⟨k, x, hk, rfl, rfl, hx0, hx1, hall, hb⟩ := hrel
      by_cases hlt : k < n
      · obtain ⟨b, off, rfl, c0, c1, hsz⟩ := (h.later hb).2 k hlt
        go_wp2_with (go_at_call 63; refine (szCol _ _ _ _ hx0 hx1 hsz).mono ?_; rintro e w1 ⟨hb1, r, rfl, hr1, hr2⟩; replace hb1 := bstep hb hb1; by_cases hr : (0 : Int) ≤ r)
        · go_roundw
          case rel => exact ⟨k + 1, r, by omega, by go_num, rfl, hr, hr1, fun j hj => by
            by_cases e : j = k
            · subst e; exact hr2 hr
            · exact hall j (by omega), hb1⟩
          case measure => simp [intOf]; omega
        · go_ret
          exact ⟨hb1, -1, rfl, by omega, fun hh => by omega⟩
      · obtain rfl : k = n := by omega
        go_wp2
        go_ret
        exact ⟨hb, _, rfl, hx1, fun _ => ⟨by omega, hall⟩⟩
  · go_enter Tryz.func22, Tryz.ntmps22
    go_wp2
    go_ret
    exact ⟨hb0, -1, rfl, by omega, fun hh => by omega⟩
set_option maxRecDepth 20000 in
set_option maxHeartbeats 2000000 in
theorem toCol (s : ByteArray) (t : Int) (w : World) : Calls Tryz.prog 70 #[.agg #[.string s, .int .i64 t]] w fun e w' => e = .returned (.agg #[.string s, .int .i64 t]) ∧ Below w.heap.size w w' := by
  go_enter Tryz.func70, Tryz.ntmps70
  go_wp2
  exact bodyPost_ret (v := .agg #[.string s, .int .i64 t]) (by simp [results, Tryz.results70, go_sem]) rfl ⟨rfl, below3 _ _ _ _⟩
theorem Tryz.infoCol : (Tryz.prog.info? 113).map (fun i => (i.zero, i.size, i.bytes)) = some (some (.agg #[.string ByteArray.empty, .int .i64 0]), 2, 24) := by kernel_rfl
set_option maxRecDepth 20000 in
set_option maxHeartbeats 2000000 in
theorem eqCol (s : ByteArray) (t : Int) (w : World) : Calls Tryz.prog 94 #[.agg #[.string s, .int .i64 t], .agg #[.string s, .int .i64 t]] w fun e w' => e = .returned (.bool true) ∧ Below w.heap.size w w' := by
  have hq := eqS_same s
  go_enter Tryz.func94, Tryz.ntmps94
  go_wp2
  go_ret
  exact ⟨rfl, bstep (bal _ _) (bal _ _)⟩
set_option maxRecDepth 20000 in
set_option maxHeartbeats 4000000 in
theorem eqCols (a a' : Option Addr) (n c c' : Nat) (C : Nat → Clm) (w : World) (h : CL w a n C) (h' : CL w a' n C) (hn : n ≤ 1048576) :
    Calls Tryz.prog 41 #[.slice a n c, .slice a' n c'] w fun e w' => e = .returned (.bool true) ∧ Below w.heap.size w w' := by
  have hb0 := Below.refl w.heap.size w
  go_enter Tryz.func41, Tryz.ntmps41
  go_wp2
  go_loopw [5] (fun i wr => ∃ k : Nat, k ≤ n ∧ i = .int .i64 k ∧ Below w.heap.size w wr) (fun i _ => n - (intOf i).toNat)
  case atStart => exact ⟨0, by omega, rfl, hb0⟩
  case round =>
    obtain ⟨k, hk, rfl, hb⟩ := hrel
    by_cases hlt : k < n
    · have hkk : (k : Int) < n := by omega
      obtain ⟨b, off, rfl, c0, c1, _⟩ := h.later hb k hlt
      obtain ⟨b', off', rfl, e0, e1, _⟩ := h'.later hb k hlt
      go_wp2
      go_region_with (go_at_call 94; refine (eqCol _ _ _).mono ?_; rintro e w1 ⟨rfl, hb1⟩)
      all_goals
        go_wp2
        go_roundw
        case rel => exact ⟨k + 1, by omega, by go_num, bstep hb (undrew hb1)⟩
        case measure => simp [intOf]; omega
    · obtain rfl : k = n := by omega
      go_wp2
      go_ret
      exact ⟨rfl, hb⟩
/-- n of them, of whatever length. -/
def IX (w : World) (a : Option Addr) (n : Nat) (I : Nat → Itm) : Prop :=
  n ≤ 9223372036854775807 ∧ ∀ k, k < n → ∃ b off, a = some ⟨b, off, none⟩ ∧ w.cell? ⟨b, off + k * 3, none⟩ = some (.int .i64 (I k).o) ∧ w.cell? ⟨b, off + k * 3 + 1, none⟩ = some (.int .i64 (I k).m) ∧ w.cell? ⟨b, off + k * 3 + 2, none⟩ = some (.string (I k).s) ∧ (I k).s.size ≤ 9223372036854775807
theorem IX.later {w w' : World} {a : Option Addr} {n : Nat} {I : Nat → Itm} (h : IX w a n I) (hb : Below w.heap.size w w') : IX w' a n I := ⟨h.1, fun k hk => by
  obtain ⟨b, off, e, h0, h1, h2, hs⟩ := h.2 k hk
  exact ⟨b, off, e, keepB hb h0, keepB hb h1, keepB hb h2, hs⟩⟩
theorem IX.small {w : World} {a : Option Addr} {n : Nat} {I : Nat → Itm} (h : IX w a n I) (hs : ∀ k, k < n → (I k).s.size ≤ 1048576) : IL w a n I := fun k hk => by
  obtain ⟨b, off, e, h0, h1, h2, _⟩ := h.2 k hk
  exact ⟨b, off, e, h0, h1, h2, hs k hk⟩
set_option maxRecDepth 20000 in
set_option maxHeartbeats 2000000 in
theorem szVal (o : Int) (m : Int) (s : ByteArray) (w : World) (L : Int) (h0 : 0 ≤ L) (h1 : L ≤ 1048576) (hs : s.size ≤ 9223372036854775807) :
    Calls Tryz.prog 64 #[.agg #[.int .i64 o, .int .i64 m, .string s], .int .i64 L] w fun e w' => Below w.heap.size w w' ∧ ∃ r : Int, e = .returned (.int .i64 r) ∧ r ≤ 1048576 ∧ (0 ≤ r → s.size ≤ 1048576) := by
  go_enter Tryz.func64, Tryz.ntmps64
  by_cases hneg : (0 : Int) ≤ L - s.size
  · go_wp2
    go_ret
    exact ⟨bal _ _, _, rfl, by omega, fun _ => by omega⟩
  · go_wp2
    go_ret
    exact ⟨bal _ _, -1, rfl, by omega, fun hh => by omega⟩
set_option maxRecDepth 20000 in
set_option maxHeartbeats 2000000 in
theorem szVals (a : Option Addr) (n c : Nat) (I : Nat → Itm) (w : World) (h : IX w a n I) (L : Int) (h0 : 0 ≤ L) (h1 : L ≤ 1048576) :
    Calls Tryz.prog 23 #[.slice a n c, .int .i64 L] w fun e w' => Below w.heap.size w w' ∧ ∃ r : Int, e = .returned (.int .i64 r) ∧ r ≤ 1048576 ∧ (0 ≤ r → n ≤ 1048576 ∧ ∀ k, k < n → (I k).s.size ≤ 1048576) := by
  have hn := h.1
  have hb0 := Below.refl w.heap.size w
  by_cases hs : (n : Int) ≤ L
  · go_enter Tryz.func23, Tryz.ntmps23
    go_wp2
    go_loopw [1, 5] (fun l i wr => ∃ k : Nat, ∃ x : Int, k ≤ n ∧ i = .int .i64 k ∧ l = .int .i64 x ∧ 0 ≤ x ∧ x ≤ 1048576 ∧ (∀ j, j < k → (I j).s.size ≤ 1048576) ∧ Below w.heap.size w wr) (fun _ i _ => n - (intOf i).toNat)
    case atStart => exact ⟨0, _, by omega, rfl, rfl, by omega, by omega, fun j hj => by omega, hb0⟩
    case round =>
      obtain ⟨k, x, hk, rfl, rfl, hx0, hx1, hall, hb⟩ := hrel
      by_cases hlt : k < n
      · obtain ⟨b, off, rfl, c0, c1, c2, hsz⟩ := (h.later hb).2 k hlt
        go_wp2_with (go_at_call 64; refine (szVal _ _ _ _ _ hx0 hx1 hsz).mono ?_; rintro e w1 ⟨hb1, r, rfl, hr1, hr2⟩; replace hb1 := bstep hb hb1; by_cases hr : (0 : Int) ≤ r)
        · go_roundw
          case rel => exact ⟨k + 1, r, by omega, by go_num, rfl, hr, hr1, fun j hj => by
            by_cases e : j = k
            · subst e; exact hr2 hr
            · exact hall j (by omega), hb1⟩
          case measure => simp [intOf]; omega
        · go_ret
          exact ⟨hb1, -1, rfl, by omega, fun hh => by omega⟩
      · obtain rfl : k = n := by omega
        go_wp2
        go_ret
        exact ⟨hb, _, rfl, hx1, fun _ => ⟨by omega, hall⟩⟩
  · go_enter Tryz.func23, Tryz.ntmps23
    go_wp2
    go_ret
    exact ⟨hb0, -1, rfl, by omega, fun hh => by omega⟩
set_option maxRecDepth 20000 in
set_option maxHeartbeats 2000000 in
theorem toVal (o : Int) (m : Int) (s : ByteArray) (w : World) : Calls Tryz.prog 71 #[.agg #[.int .i64 o, .int .i64 m, .string s]] w fun e w' => e = .returned (.agg #[.int .i64 o, .int .i64 m, .string s]) ∧ Below w.heap.size w w' := by
  go_enter Tryz.func71, Tryz.ntmps71
  go_wp2
  exact bodyPost_ret (v := .agg #[.int .i64 o, .int .i64 m, .string s]) (by simp [results, Tryz.results71, go_sem]) rfl ⟨rfl, below3 _ _ _ _⟩
theorem Tryz.infoVal : (Tryz.prog.info? 66).map (fun i => (i.zero, i.size, i.bytes)) = some (some (.agg #[.int .i64 0, .int .i64 0, .string ByteArray.empty]), 3, 32) := by kernel_rfl
set_option maxRecDepth 20000 in
set_option maxHeartbeats 2000000 in
theorem eqVal (o : Int) (m : Int) (s : ByteArray) (w : World) : Calls Tryz.prog 92 #[.agg #[.int .i64 o, .int .i64 m, .string s], .agg #[.int .i64 o, .int .i64 m, .string s]] w fun e w' => e = .returned (.bool true) ∧ Below w.heap.size w w' := by
  have hq := eqS_same s
  go_enter Tryz.func92, Tryz.ntmps92
  go_wp2
  go_ret
  exact ⟨rfl, bstep (bal _ _) (bal _ _)⟩
set_option maxRecDepth 20000 in
set_option maxHeartbeats 4000000 in
theorem eqVals (a a' : Option Addr) (n c c' : Nat) (I : Nat → Itm) (w : World) (h : IL w a n I) (h' : IL w a' n I) (hn : n ≤ 1048576) :
    Calls Tryz.prog 39 #[.slice a n c, .slice a' n c'] w fun e w' => e = .returned (.bool true) ∧ Below w.heap.size w w' := by
  have hb0 := Below.refl w.heap.size w
  go_enter Tryz.func39, Tryz.ntmps39
  go_wp2
  go_loopw [5] (fun i wr => ∃ k : Nat, k ≤ n ∧ i = .int .i64 k ∧ Below w.heap.size w wr) (fun i _ => n - (intOf i).toNat)
  case atStart => exact ⟨0, by omega, rfl, hb0⟩
  case round =>
    obtain ⟨k, hk, rfl, hb⟩ := hrel
    by_cases hlt : k < n
    · have hkk : (k : Int) < n := by omega
      obtain ⟨b, off, rfl, c0, c1, c2, _⟩ := h.later hb k hlt
      obtain ⟨b', off', rfl, e0, e1, e2, _⟩ := h'.later hb k hlt
      go_wp2
      go_region_with (go_at_call 92; refine (eqVal _ _ _ _).mono ?_; rintro e w1 ⟨rfl, hb1⟩)
      all_goals
        go_wp2
        go_roundw
        case rel => exact ⟨k + 1, by omega, by go_num, bstep hb (undrew hb1)⟩
        case measure => simp [intOf]; omega
    · obtain rfl : k = n := by omega
      go_wp2
      go_ret
      exact ⟨rfl, hb⟩
set_option maxRecDepth 20000 in
set_option maxHeartbeats 2000000 in
theorem szItm (o : Int) (m : Int) (s : ByteArray) (w : World) (L : Int) (h0 : 0 ≤ L) (h1 : L ≤ 1048576) (hs : s.size ≤ 9223372036854775807) :
    Calls Tryz.prog 65 #[.agg #[.int .i64 o, .int .i64 m, .string s], .int .i64 L] w fun e w' => Below w.heap.size w w' ∧ ∃ r : Int, e = .returned (.int .i64 r) ∧ r ≤ 1048576 ∧ (0 ≤ r → s.size ≤ 1048576) := by
  go_enter Tryz.func65, Tryz.ntmps65
  by_cases hneg : (0 : Int) ≤ L - s.size
  · go_wp2
    go_ret
    exact ⟨bal _ _, _, rfl, by omega, fun _ => by omega⟩
  · go_wp2
    go_ret
    exact ⟨bal _ _, -1, rfl, by omega, fun hh => by omega⟩
set_option maxRecDepth 20000 in
set_option maxHeartbeats 2000000 in
theorem szItms (a : Option Addr) (n c : Nat) (I : Nat → Itm) (w : World) (h : IX w a n I) (L : Int) (h0 : 0 ≤ L) (h1 : L ≤ 1048576) :
    Calls Tryz.prog 24 #[.slice a n c, .int .i64 L] w fun e w' => Below w.heap.size w w' ∧ ∃ r : Int, e = .returned (.int .i64 r) ∧ r ≤ 1048576 ∧ (0 ≤ r → n ≤ 1048576 ∧ ∀ k, k < n → (I k).s.size ≤ 1048576) := by
  have hn := h.1
  have hb0 := Below.refl w.heap.size w
  by_cases hs : (n : Int) ≤ L
  · go_enter Tryz.func24, Tryz.ntmps24
    go_wp2
    go_loopw [1, 5] (fun l i wr => ∃ k : Nat, ∃ x : Int, k ≤ n ∧ i = .int .i64 k ∧ l = .int .i64 x ∧ 0 ≤ x ∧ x ≤ 1048576 ∧ (∀ j, j < k → (I j).s.size ≤ 1048576) ∧ Below w.heap.size w wr) (fun _ i _ => n - (intOf i).toNat)
    case atStart => exact ⟨0, _, by omega, rfl, rfl, by omega, by omega, fun j hj => by omega, hb0⟩
    case round =>
      obtain ⟨k, x, hk, rfl, rfl, hx0, hx1, hall, hb⟩ := hrel
      by_cases hlt : k < n
      · obtain ⟨b, off, rfl, c0, c1, c2, hsz⟩ := (h.later hb).2 k hlt
        go_wp2_with (go_at_call 65; refine (szItm _ _ _ _ _ hx0 hx1 hsz).mono ?_; rintro e w1 ⟨hb1, r, rfl, hr1, hr2⟩; replace hb1 := bstep hb hb1; by_cases hr : (0 : Int) ≤ r)
        · go_roundw
          case rel => exact ⟨k + 1, r, by omega, by go_num, rfl, hr, hr1, fun j hj => by
            by_cases e : j = k
            · subst e; exact hr2 hr
            · exact hall j (by omega), hb1⟩
          case measure => simp [intOf]; omega
        · go_ret
          exact ⟨hb1, -1, rfl, by omega, fun hh => by omega⟩
      · obtain rfl : k = n := by omega
        go_wp2
        go_ret
        exact ⟨hb, _, rfl, hx1, fun _ => ⟨by omega, hall⟩⟩
  · go_enter Tryz.func24, Tryz.ntmps24
    go_wp2
    go_ret
    exact ⟨hb0, -1, rfl, by omega, fun hh => by omega⟩
set_option maxRecDepth 20000 in
set_option maxHeartbeats 2000000 in
theorem toItm (o : Int) (m : Int) (s : ByteArray) (w : World) : Calls Tryz.prog 72 #[.agg #[.int .i64 o, .int .i64 m, .string s]] w fun e w' => e = .returned (.agg #[.int .i64 o, .int .i64 m, .string s]) ∧ Below w.heap.size w w' := by
  go_enter Tryz.func72, Tryz.ntmps72
  go_wp2
  exact bodyPost_ret (v := .agg #[.int .i64 o, .int .i64 m, .string s]) (by simp [results, Tryz.results72, go_sem]) rfl ⟨rfl, below3 _ _ _ _⟩
theorem Tryz.infoItm : (Tryz.prog.info? 108).map (fun i => (i.zero, i.size, i.bytes)) = some (some (.agg #[.int .i64 0, .int .i64 0, .string ByteArray.empty]), 3, 32) := by kernel_rfl
set_option maxRecDepth 20000 in
set_option maxHeartbeats 2000000 in
theorem eqItm (o : Int) (m : Int) (s : ByteArray) (w : World) : Calls Tryz.prog 95 #[.agg #[.int .i64 o, .int .i64 m, .string s], .agg #[.int .i64 o, .int .i64 m, .string s]] w fun e w' => e = .returned (.bool true) ∧ Below w.heap.size w w' := by
  have hq := eqS_same s
  go_enter Tryz.func95, Tryz.ntmps95
  go_wp2
  go_ret
  exact ⟨rfl, bstep (bal _ _) (bal _ _)⟩
set_option maxRecDepth 20000 in
set_option maxHeartbeats 4000000 in
theorem eqItms (a a' : Option Addr) (n c c' : Nat) (I : Nat → Itm) (w : World) (h : IL w a n I) (h' : IL w a' n I) (hn : n ≤ 1048576) :
    Calls Tryz.prog 42 #[.slice a n c, .slice a' n c'] w fun e w' => e = .returned (.bool true) ∧ Below w.heap.size w w' := by
  have hb0 := Below.refl w.heap.size w
  go_enter Tryz.func42, Tryz.ntmps42
  go_wp2
  go_loopw [5] (fun i wr => ∃ k : Nat, k ≤ n ∧ i = .int .i64 k ∧ Below w.heap.size w wr) (fun i _ => n - (intOf i).toNat)
  case atStart => exact ⟨0, by omega, rfl, hb0⟩
  case round =>
    obtain ⟨k, hk, rfl, hb⟩ := hrel
    by_cases hlt : k < n
    · have hkk : (k : Int) < n := by omega
      obtain ⟨b, off, rfl, c0, c1, c2, _⟩ := h.later hb k hlt
      obtain ⟨b', off', rfl, e0, e1, e2, _⟩ := h'.later hb k hlt
      go_wp2
      go_region_with (go_at_call 95; refine (eqItm _ _ _ _).mono ?_; rintro e w1 ⟨rfl, hb1⟩)
      all_goals
        go_wp2
        go_roundw
        case rel => exact ⟨k + 1, by omega, by go_num, bstep hb (undrew hb1)⟩
        case measure => simp [intOf]; omega
    · obtain rfl : k = n := by omega
      go_wp2
      go_ret
      exact ⟨rfl, hb⟩
end Go.Proofs.YtgeiamgeclbiaaaGreatDoor
namespace Go.Proofs.YtgeiamgeclbiaaaGreatDoor
open Go.RowKit Go.Maps Go.WideMaps
/-- n expressions, of whatever length. -/
def OX (w : World) (a : Option Addr) (n : Nat) (m : Nat → Nat) (O : Nat → Nat → Itm) : Prop :=
  n ≤ 9223372036854775807 ∧ ∀ k, k < n → ∃ b off i c, a = some ⟨b, off, none⟩ ∧ w.cell? ⟨b, off + k, none⟩ = some (.slice i (m k) c) ∧ IX w i (m k) (O k)
theorem OX.later {w w' : World} {a : Option Addr} {n : Nat} {m : Nat → Nat} {O : Nat → Nat → Itm} (h : OX w a n m O) (hb : Below w.heap.size w w') : OX w' a n m O := ⟨h.1, fun k hk => by
  obtain ⟨b, off, i, c, e, h0, hi⟩ := h.2 k hk
  exact ⟨b, off, i, c, e, keepB hb h0, hi.later hb⟩⟩
theorem OX.small {w : World} {a : Option Addr} {n : Nat} {m : Nat → Nat} {O : Nat → Nat → Itm} (h : OX w a n m O) (hs : ∀ k, k < n → m k ≤ 1048576 ∧ ∀ j, j < m k → (O k j).s.size ≤ 1048576) : OL w a n m O := fun k hk => by
  obtain ⟨b, off, i, c, e, h0, hi⟩ := h.2 k hk
  exact ⟨b, off, i, c, e, h0, hi.small (hs k hk).2, (hs k hk).1⟩
set_option maxRecDepth 20000 in
set_option maxHeartbeats 2000000 in
theorem szOuts (a : Option Addr) (n c : Nat) (m : Nat → Nat) (O : Nat → Nat → Itm) (w : World) (h : OX w a n m O) (L : Int) (h0 : 0 ≤ L) (h1 : L ≤ 1048576) :
    Calls Tryz.prog 25 #[.slice a n c, .int .i64 L] w fun e w' => Below w.heap.size w w' ∧ ∃ r : Int, e = .returned (.int .i64 r) ∧ r ≤ 1048576 ∧ (0 ≤ r → n ≤ 1048576 ∧ ∀ k, k < n → m k ≤ 1048576 ∧ ∀ j, j < m k → (O k j).s.size ≤ 1048576) := by
  have hn := h.1
  have hb0 := Below.refl w.heap.size w
  by_cases hs : (n : Int) ≤ L
  · go_enter Tryz.func25, Tryz.ntmps25
    go_wp2
    go_loopw [1, 5] (fun l i wr => ∃ k : Nat, ∃ x : Int, k ≤ n ∧ i = .int .i64 k ∧ l = .int .i64 x ∧ 0 ≤ x ∧ x ≤ 1048576 ∧ (∀ q, q < k → m q ≤ 1048576 ∧ ∀ j, j < m q → (O q j).s.size ≤ 1048576) ∧ Below w.heap.size w wr) (fun _ i _ => n - (intOf i).toNat)
    case atStart => exact ⟨0, _, by omega, rfl, rfl, by omega, by omega, fun j hj => by omega, hb0⟩
    case round =>
      obtain ⟨k, x, hk, rfl, rfl, hx0, hx1, hall, hb⟩ := hrel
      by_cases hlt : k < n
      · obtain ⟨b, off, i, c', rfl, c0, hi⟩ := (h.later hb).2 k hlt
        go_wp2_with (go_at_call 24; refine (szItms i _ c' _ _ hi _ hx0 hx1).mono ?_; rintro e w1 ⟨hb1, r, rfl, hr1, hr2⟩; replace hb1 := bstep hb hb1; by_cases hr : (0 : Int) ≤ r)
        · go_roundw
          case rel => exact ⟨k + 1, r, by omega, by go_num, rfl, hr, hr1, fun j hj => by
            by_cases e : j = k
            · subst e; exact hr2 hr
            · exact hall j (by omega), hb1⟩
          case measure => simp [intOf]; omega
        · go_ret
          exact ⟨hb1, -1, rfl, by omega, fun hh => by omega⟩
      · obtain rfl : k = n := by omega
        go_wp2
        go_ret
        exact ⟨hb, _, rfl, hx1, fun _ => ⟨by omega, hall⟩⟩
  · go_enter Tryz.func25, Tryz.ntmps25
    go_wp2
    go_ret
    exact ⟨hb0, -1, rfl, by omega, fun hh => by omega⟩
theorem Tryz.infoOut : (Tryz.prog.info? 42).map (fun i => (i.zero, i.size, i.bytes)) = some (some (.slice none 0 0), 1, 24) := by kernel_rfl
theorem IL.set {w : World} {g n B k : Nat} {I : Nat → Itm} {v : Value} (h : IL w (some ⟨g, 0, none⟩) n I) (hne : B ≠ g) : IL (w.setCell ⟨B, k, none⟩ v) (some ⟨g, 0, none⟩) n I := fun j hj => by
  obtain ⟨b, off, e, h0, h1, h2, hs⟩ := h j hj
  obtain ⟨rfl, rfl⟩ : g = b ∧ 0 = off := by simpa using e
  exact ⟨g, 0, rfl, by rw [World.cell?_setCell_far _ _ _ _ hne]; exact h0, by rw [World.cell?_setCell_far _ _ _ _ hne]; exact h1, by rw [World.cell?_setCell_far _ _ _ _ hne]; exact h2, hs⟩
/-- Cells in blocks from G on stay. -/
def Kp (G : Nat) (w w' : World) : Prop := ∀ a v, G ≤ a.block → w.cell? a = some v → w'.cell? a = some v
theorem Kp.of {w w' : World} (G : Nat) (hb : Below w.heap.size w w') : Kp G w w' := fun _ _ _ h => keepB hb h
theorem Kp.trans {G : Nat} {a b c : World} (h : Kp G a b) (k : Kp G b c) : Kp G a c := fun x v hx hc => k x v hx (h x v hx hc)
theorem Kp.set {G B i : Nat} {w : World} {v : Value} (h : B < G) : Kp G w (w.setCell ⟨B, i, none⟩ v) := fun x u hx hc => by
  rw [World.cell?_setCell_far _ _ _ _ (show B ≠ x.block by omega)]; exact hc
theorem CL.kp {G g n : Nat} {w w' : World} {C : Nat → Clm} (h : CL w (some ⟨g, 0, none⟩) n C) (k : Kp G w w') (hg : G ≤ g) : CL w' (some ⟨g, 0, none⟩) n C := fun j hj => by
  obtain ⟨b, off, e, h0, h1, hs⟩ := h j hj
  obtain ⟨rfl, rfl⟩ : g = b ∧ 0 = off := by simpa using e
  exact ⟨g, 0, rfl, k _ _ hg h0, k _ _ hg h1, hs⟩
theorem IL.kp {G g n : Nat} {w w' : World} {I : Nat → Itm} (h : IL w (some ⟨g, 0, none⟩) n I) (k : Kp G w w') (hg : G ≤ g) : IL w' (some ⟨g, 0, none⟩) n I := fun j hj => by
  obtain ⟨b, off, e, h0, h1, h2, hs⟩ := h j hj
  obtain ⟨rfl, rfl⟩ : g = b ∧ 0 = off := by simpa using e
  exact ⟨g, 0, rfl, k _ _ hg h0, k _ _ hg h1, k _ _ hg h2, hs⟩
/-- n expressions, all of them in blocks from G on. -/
def OF (G : Nat) (w : World) (g n : Nat) (m : Nat → Nat) (O : Nat → Nat → Itm) : Prop :=
  ∀ k, k < n → ∃ q, G ≤ q ∧ w.cell? ⟨g, k, none⟩ = some (.slice (some ⟨q, 0, none⟩) (m k) (m k)) ∧ IL w (some ⟨q, 0, none⟩) (m k) (O k) ∧ m k ≤ 1048576
theorem OF.kp {G H g n : Nat} {w w' : World} {m : Nat → Nat} {O : Nat → Nat → Itm} (h : OF G w g n m O) (k : Kp H w w') (hg : H ≤ g) (hG : H ≤ G) : OF G w' g n m O := fun j hj => by
  obtain ⟨q, hq, h0, hi, hm⟩ := h j hj
  exact ⟨q, hq, k _ _ hg h0, hi.kp k (by omega), hm⟩
theorem OF.ol {G g n : Nat} {w : World} {m : Nat → Nat} {O : Nat → Nat → Itm} (h : OF G w g n m O) : OL w (some ⟨g, 0, none⟩) n m O := fun j hj => by
  obtain ⟨q, hq, h0, hi, hm⟩ := h j hj
  exact ⟨g, 0, _, _, rfl, by rw [Nat.zero_add]; exact h0, hi, hm⟩
theorem IL.drew {w : World} {a : Option Addr} {n : Nat} {I : Nat → Itm} (h : IL w a n I) : IL w.drew a n I := h
set_option maxRecDepth 20000 in
set_option maxHeartbeats 4000000 in
theorem eqOuts (a a' : Option Addr) (n c c' : Nat) (m : Nat → Nat) (O : Nat → Nat → Itm) (w : World) (h : OL w a n m O) (h' : OL w a' n m O) (hn : n ≤ 1048576) :
    Calls Tryz.prog 43 #[.slice a n c, .slice a' n c'] w fun e w' => e = .returned (.bool true) ∧ Below w.heap.size w w' := by
  have hb0 := Below.refl w.heap.size w
  go_enter Tryz.func43, Tryz.ntmps43
  go_wp2
  go_loopw [5] (fun i wr => ∃ k : Nat, k ≤ n ∧ i = .int .i64 k ∧ Below w.heap.size w wr) (fun i _ => n - (intOf i).toNat)
  case atStart => exact ⟨0, by omega, rfl, hb0⟩
  case round =>
    obtain ⟨k, hk, rfl, hb⟩ := hrel
    by_cases hlt : k < n
    · have hkk : (k : Int) < n := by omega
      obtain ⟨b, off, i, d, rfl, c0, hi, hm⟩ := h.later hb k hlt
      obtain ⟨b', off', i', d', rfl, c0', hi', -⟩ := h'.later hb k hlt
      go_wp2
      go_region_with (go_at_call 42; refine (eqItms i i' _ d d' _ _ hi.drew hi'.drew hm).mono ?_; rintro e w1 ⟨rfl, hb1⟩)
      all_goals
        go_wp2
        go_roundw
        case rel => exact ⟨k + 1, by omega, by go_num, bstep hb (undrew hb1)⟩
        case measure => simp [intOf]; omega
    · obtain rfl : k = n := by omega
      go_wp2
      go_ret
      exact ⟨rfl, hb⟩
end Go.Proofs.YtgeiamgeclbiaaaGreatDoor
