/-
  The law's own functions over lists of columns, values and items: measured, copied, held against each other.
-/
import Derived.Test.YtfodndnkhgijmaaDoorNlx
import Derived.Deep.OwnRows
import Derived.Deep.RegionWith
namespace Go.Proofs.YtfodndnkhgijmaaDoor
open Go.RowKit Go.Maps Go.WideMaps
theorem below3 (w : World) (a b c : Obj) : Below w.heap.size w (((w.alloc a).alloc b).alloc c) := bstep (bal w a) (bstep (bal _ b) (bal _ c))
theorem make_any {t e : TypeId} {z : Value} {size bytes : Nat} (ht : Tryd.prog.underlying t = some (.slice e)) (hinfo : (Tryd.prog.info? e).map (fun i => (i.zero, i.size, i.bytes)) = some (some z, size, bytes)) (n : Nat) (hn : n ≤ 1048576) (hb : bytes ≤ 1000) (w : World) :
    (Instr.makeSlice t (.int .i64 (n : Int)) (.int .i64 (n : Int))).run Tryd.prog w = .ok (.slice (some ⟨w.heap.size, 0, none⟩) n n) (w.alloc (.cells (madeCells z.cells (n * size)) e)) := by
  obtain ⟨i, hi, hzz⟩ := Option.map_eq_some_iff.1 hinfo
  simp only [Prod.mk.injEq] at hzz
  obtain ⟨hz, hs, hbb⟩ := hzz
  have h1 : ((i.bytes : Int) * (n : Int)) ≤ 281474976710656 := by
    rw [hbb]
    have : bytes * n ≤ 1000 * 1048576 := Nat.mul_le_mul hb hn
    have h2 : ((bytes : Int) * (n : Int)) = ((bytes * n : Nat) : Int) := by simp
    omega
  have := run_make (P := Tryd.prog) w t e i z ht hi hz .i64 .i64 n n (by omega) (by omega) h1 (by omega)
  rw [hs] at this
  simpa using this
theorem made_size (z : Array Value) (n : Nat) : (madeCells z n).size = n := by simp [size_madeCells]
theorem there {A : Array Value} {k : Nat} (h : k < A.size) : ∃ v, A[k]? = some v := ⟨A[k], by simp [h]⟩
theorem setA {A : Array Value} {k i : Nat} {v u : Value} (h : A[i]? = some u) (hne : k ≠ i) : (A.setIfInBounds k v)[i]? = some u := by
  rw [Array.getElem?_setIfInBounds, if_neg hne]; exact h
theorem setS {A : Array Value} {k : Nat} {v : Value} (h : k < A.size) : (A.setIfInBounds k v)[k]? = some v := by
  rw [Array.getElem?_setIfInBounds]; simp [h]
theorem eqS_same (s : ByteArray) : (s.toList == s.toList) = true := by simp
/-- n of them, of whatever length. -/
def CX (w : World) (a : Option Addr) (n : Nat) (C : Nat → Clm) : Prop :=
  n ≤ 9223372036854775807 ∧ ∀ k, k < n → ∃ b off, a = some ⟨b, off, none⟩ ∧ w.cell? ⟨b, off + k * 2, none⟩ = some (.string (C k).s) ∧ w.cell? ⟨b, off + k * 2 + 1, none⟩ = some (.int .i64 (C k).t) ∧ (C k).s.size ≤ 9223372036854775807
theorem CX.later {w w' : World} {a : Option Addr} {n : Nat} {C : Nat → Clm} (h : CX w a n C) (hb : Below w.heap.size w w') : CX w' a n C := ⟨h.1, fun k hk => by
  obtain ⟨b, off, e, h0, h1, hs⟩ := h.2 k hk
  exact ⟨b, off, e, keepB hb h0, keepB hb h1, hs⟩⟩
theorem CX.small {w : World} {a : Option Addr} {n : Nat} {C : Nat → Clm} (h : CX w a n C) (hs : ∀ k, k < n → (C k).s.size ≤ 1048576) : CL w a n C := fun k hk => by
  obtain ⟨b, off, e, h0, h1, _⟩ := h.2 k hk
  exact ⟨b, off, e, h0, h1, hs k hk⟩
set_option maxRecDepth 20000 in
set_option maxHeartbeats 2000000 in
theorem szCol (s : ByteArray) (t : Int) (w : World) (L : Int) (h0 : 0 ≤ L) (h1 : L ≤ 1048576) (hs : s.size ≤ 9223372036854775807) :
    Calls Tryd.prog 80 #[.agg #[.string s, .int .i64 t], .int .i64 L] w fun e w' => Below w.heap.size w w' ∧ ∃ r : Int, e = .returned (.int .i64 r) ∧ r ≤ 1048576 ∧ (0 ≤ r → s.size ≤ 1048576) := by
  go_enter Tryd.func80, Tryd.ntmps80
  by_cases hneg : (0 : Int) ≤ L - s.size
  · go_wp2
    go_ret
    exact ⟨bal _ _, _, rfl, by omega, fun _ => by omega⟩
  · go_wp2
    go_ret
    exact ⟨bal _ _, -1, rfl, by omega, fun hh => by omega⟩
set_option maxRecDepth 20000 in
set_option maxHeartbeats 2000000 in
theorem szCols (a : Option Addr) (n c : Nat) (C : Nat → Clm) (w : World) (h : CX w a n C) (L : Int) (h0 : 0 ≤ L) (h1 : L ≤ 1048576) :
    Calls Tryd.prog 27 #[.slice a n c, .int .i64 L] w fun e w' => Below w.heap.size w w' ∧ ∃ r : Int, e = .returned (.int .i64 r) ∧ r ≤ 1048576 ∧ (0 ≤ r → n ≤ 1048576 ∧ ∀ k, k < n → (C k).s.size ≤ 1048576) := by
  have hn := h.1
  have hb0 := Below.refl w.heap.size w
  by_cases hs : (n : Int) ≤ L
  · go_enter Tryd.func27, Tryd.ntmps27
    go_wp2
    go_loopw [1, 5] (fun l i wr => ∃ k : Nat, ∃ x : Int, k ≤ n ∧ i = .int .i64 k ∧ l = .int .i64 x ∧ 0 ≤ x ∧ x ≤ 1048576 ∧ (∀ j, j < k → (C j).s.size ≤ 1048576) ∧ Below w.heap.size w wr) (fun _ i _ => n - (intOf i).toNat)
    case atStart => exact ⟨0, _, by omega, rfl, rfl, by omega, by omega, fun j hj => by omega, hb0⟩
    case round =>
      obtain ⟨k, x, hk, rfl, rfl, hx0, hx1, hall, hb⟩ := hrel
      by_cases hlt : k < n
      · obtain ⟨b, off, rfl, c0, c1, hsz⟩ := (h.later hb).2 k hlt
        go_wp2_with (go_at_call 80; refine (szCol _ _ _ _ hx0 hx1 hsz).mono ?_; rintro e w1 ⟨hb1, r, rfl, hr1, hr2⟩; replace hb1 := bstep hb hb1; by_cases hr : (0 : Int) ≤ r)
        · go_roundw
          case rel => exact ⟨k + 1, r, by omega, by go_num, rfl, hr, hr1, fun j hj => by
            by_cases e : j = k
            · subst e; exact hr2 hr
            · exact hall j (by omega), hb1⟩
          case measure => simp [intOf]; omega
        · go_ret
          exact ⟨hb1, -1, rfl, by omega, fun hh => by omega⟩
      · obtain rfl : k = n := by omega
        go_wp2
        go_ret
        exact ⟨hb, _, rfl, hx1, fun _ => ⟨by omega, hall⟩⟩
  · go_enter Tryd.func27, Tryd.ntmps27
    go_wp2
    go_ret
    exact ⟨hb0, -1, rfl, by omega, fun hh => by omega⟩
set_option maxRecDepth 20000 in
set_option maxHeartbeats 2000000 in
theorem toCol (s : ByteArray) (t : Int) (w : World) : Calls Tryd.prog 91 #[.agg #[.string s, .int .i64 t]] w fun e w' => e = .returned (.agg #[.string s, .int .i64 t]) ∧ Below w.heap.size w w' := by
  go_enter Tryd.func91, Tryd.ntmps91
  go_wp2
  exact bodyPost_ret (v := .agg #[.string s, .int .i64 t]) (by simp [results, Tryd.results91, go_sem]) rfl ⟨rfl, below3 _ _ _ _⟩
theorem Tryd.infoCol : (Tryd.prog.info? 70).map (fun i => (i.zero, i.size, i.bytes)) = some (some (.agg #[.string ByteArray.empty, .int .i64 0]), 2, 24) := by kernel_rfl
set_option maxRecDepth 20000 in
set_option maxHeartbeats 4000000 in
theorem toCols (a : Option Addr) (n c : Nat) (C : Nat → Clm) (w : World) (h : CL w a n C) (hn : n ≤ 1048576) :
    Calls Tryd.prog 36 #[.slice a n c] w fun e w' => ∃ g, w.heap.size ≤ g ∧ e = .returned (.slice (some ⟨g, 0, none⟩) n n) ∧ CL w' (some ⟨g, 0, none⟩) n C ∧ Below w.heap.size w w' := by
  have hmk := make_any (t := 41) Tryd.underlying41 Tryd.infoCol n hn (by omega)
  go_enter Tryd.func36, Tryd.ntmps36
  go_wp2
  clear hmk
  go_loopw [4] (fun i wr => ∃ (k : Nat) (cur : Array Value), k ≤ n ∧ i = .int .i64 k ∧ wr.heap[w.heap.size]? = some (.cells cur 70 (0, 0)) ∧ cur.size = n * 2 ∧ (∀ j, j < k → cur[j * 2]? = some (.string (C j).s) ∧ cur[j * 2 + 1]? = some (.int .i64 (C j).t)) ∧ Below w.heap.size w wr) (fun i _ => n - (intOf i).toNat)
  case atStart => exact ⟨0, _, by omega, rfl, heap_alloc_new _ _, made_size _ _, fun j hj => by omega, bal _ _⟩
  case round =>
    obtain ⟨k, cur, hk, rfl, hG, hsz, hall, hb⟩ := hrel
    have HG : Hid (wr.heap[w.heap.size]? = some (.cells cur 70 (0, 0))) := hG
    clear hG
    by_cases hlt : k < n
    · obtain ⟨b, off, rfl, c0, c1, hs⟩ := h.later hb k hlt
      obtain ⟨v0, hv0⟩ := there (A := cur) (k := k * 2) (by omega)
      obtain ⟨v1, hv1⟩ := there (A := cur) (k := k * 2 + 1) (by omega)
      go_wp2_with (go_at_call 91; refine (toCol _ _ _).mono ?_; rintro e w1 ⟨rfl, hb1⟩; have HG1 : Hid (w1.heap[w.heap.size]? = some (.cells cur 70 (0, 0))) := (hb1.block _ (Array.getElem?_eq_some_iff.1 HG.out).1).trans HG.out; have g0 : w1.cell? ⟨w.heap.size, k * 2, none⟩ = some v0 := (cell_of_row w1 _ _ _ _ _ HG1.out).trans hv0; have f0 : w1.frozen? ⟨w.heap.size, k * 2, none⟩ = false := frozen_of_row w1 _ _ _ _ HG1.out; have g1 : w1.cell? ⟨w.heap.size, k * 2 + 1, none⟩ = some v1 := (cell_of_row w1 _ _ _ _ _ HG1.out).trans hv1; have f1 : w1.frozen? ⟨w.heap.size, k * 2 + 1, none⟩ = false := frozen_of_row w1 _ _ _ _ HG1.out; replace hb1 := bstep hb hb1)
      go_roundw
      case rel =>
        refine ⟨k + 1, ((cur.setIfInBounds (k * 2) (.string (C k).s)).setIfInBounds (k * 2 + 1) (.int .i64 (C k).t)), by omega, by go_num, (heap_setCell_same _ _ _ _ _ _ (heap_setCell_same _ _ _ _ _ _ HG1.out)), by simpa using hsz, fun j hj => ?_, ((hb1.setCell (by simp) _).setCell (by simp) _)⟩
        by_cases e : j = k
        · subst e
          exact ⟨(setA (setS (by omega)) (by omega)), (setS (by simp only [Array.size_setIfInBounds]; omega))⟩
        · exact ⟨(setA (setA (hall j (by omega)).1 (by omega)) (by omega)), (setA (setA (hall j (by omega)).2 (by omega)) (by omega))⟩
      case measure => simp [intOf]; omega
    · obtain rfl : k = n := by omega
      go_wp2
      go_ret
      refine ⟨_, Nat.le_refl _, rfl, fun j hj => ?_, hb⟩
      have := hall j hj
      have hsj := (h j hj).choose_spec.choose_spec.2.2.2
      exact ⟨_, 0, rfl, by rw [Nat.zero_add, cell_of_row wr _ _ _ _ _ HG.out]; exact this.1, by rw [Nat.zero_add, cell_of_row wr _ _ _ _ _ HG.out]; exact this.2, hsj⟩
set_option maxRecDepth 20000 in
set_option maxHeartbeats 2000000 in
theorem eqCol (s : ByteArray) (t : Int) (w : World) : Calls Tryd.prog 98 #[.agg #[.string s, .int .i64 t], .agg #[.string s, .int .i64 t]] w fun e w' => e = .returned (.bool true) ∧ Below w.heap.size w w' := by
  have hq := eqS_same s
  go_enter Tryd.func98, Tryd.ntmps98
  go_wp2
  go_ret
  exact ⟨rfl, bstep (bal _ _) (bal _ _)⟩
set_option maxRecDepth 20000 in
set_option maxHeartbeats 4000000 in
theorem eqCols (a a' : Option Addr) (n c c' : Nat) (C : Nat → Clm) (w : World) (h : CL w a n C) (h' : CL w a' n C) (hn : n ≤ 1048576) :
    Calls Tryd.prog 49 #[.slice a n c, .slice a' n c'] w fun e w' => e = .returned (.bool true) ∧ Below w.heap.size w w' := by
  have hb0 := Below.refl w.heap.size w
  go_enter Tryd.func49, Tryd.ntmps49
  go_wp2
  go_loopw [5] (fun i wr => ∃ k : Nat, k ≤ n ∧ i = .int .i64 k ∧ Below w.heap.size w wr) (fun i _ => n - (intOf i).toNat)
  case atStart => exact ⟨0, by omega, rfl, hb0⟩
  case round =>
    obtain ⟨k, hk, rfl, hb⟩ := hrel
    by_cases hlt : k < n
    · have hkk : (k : Int) < n := by omega
      obtain ⟨b, off, rfl, c0, c1, _⟩ := h.later hb k hlt
      obtain ⟨b', off', rfl, e0, e1, _⟩ := h'.later hb k hlt
      go_wp2
      go_region_with (go_at_call 98; refine (eqCol _ _ _).mono ?_; rintro e w1 ⟨rfl, hb1⟩)
      all_goals
        go_wp2
        go_roundw
        case rel => exact ⟨k + 1, by omega, by go_num, bstep hb (undrew hb1)⟩
        case measure => simp [intOf]; omega
    · obtain rfl : k = n := by omega
      go_wp2
      go_ret
      exact ⟨rfl, hb⟩
/-- n of them, of whatever length. -/
def IX (w : World) (a : Option Addr) (n : Nat) (I : Nat → Itm) : Prop :=
  n ≤ 9223372036854775807 ∧ ∀ k, k < n → ∃ b off, a = some ⟨b, off, none⟩ ∧ w.cell? ⟨b, off + k * 3, none⟩ = some (.int .i64 (I k).o) ∧ w.cell? ⟨b, off + k * 3 + 1, none⟩ = some (.int .i64 (I k).m) ∧ w.cell? ⟨b, off + k * 3 + 2, none⟩ = some (.string (I k).s) ∧ (I k).s.size ≤ 9223372036854775807
theorem IX.later {w w' : World} {a : Option Addr} {n : Nat} {I : Nat → Itm} (h : IX w a n I) (hb : Below w.heap.size w w') : IX w' a n I := ⟨h.1, fun k hk => by
  obtain ⟨b, off, e, h0, h1, h2, hs⟩ := h.2 k hk
  exact ⟨b, off, e, keepB hb h0, keepB hb h1, keepB hb h2, hs⟩⟩
theorem IX.small {w : World} {a : Option Addr} {n : Nat} {I : Nat → Itm} (h : IX w a n I) (hs : ∀ k, k < n → (I k).s.size ≤ 1048576) : IL w a n I := fun k hk => by
  obtain ⟨b, off, e, h0, h1, h2, _⟩ := h.2 k hk
  exact ⟨b, off, e, h0, h1, h2, hs k hk⟩
set_option maxRecDepth 20000 in
set_option maxHeartbeats 2000000 in
theorem szVal (o : Int) (m : Int) (s : ByteArray) (w : World) (L : Int) (h0 : 0 ≤ L) (h1 : L ≤ 1048576) (hs : s.size ≤ 9223372036854775807) :
    Calls Tryd.prog 81 #[.agg #[.int .i64 o, .int .i64 m, .string s], .int .i64 L] w fun e w' => Below w.heap.size w w' ∧ ∃ r : Int, e = .returned (.int .i64 r) ∧ r ≤ 1048576 ∧ (0 ≤ r → s.size ≤ 1048576) := by
  go_enter Tryd.func81, Tryd.ntmps81
  by_cases hneg : (0 : Int) ≤ L - s.size
  · go_wp2
    go_ret
    exact ⟨bal _ _, _, rfl, by omega, fun _ => by omega⟩
  · go_wp2
    go_ret
    exact ⟨bal _ _, -1, rfl, by omega, fun hh => by omega⟩
set_option maxRecDepth 20000 in
set_option maxHeartbeats 2000000 in
theorem szVals (a : Option Addr) (n c : Nat) (I : Nat → Itm) (w : World) (h : IX w a n I) (L : Int) (h0 : 0 ≤ L) (h1 : L ≤ 1048576) :
    Calls Tryd.prog 28 #[.slice a n c, .int .i64 L] w fun e w' => Below w.heap.size w w' ∧ ∃ r : Int, e = .returned (.int .i64 r) ∧ r ≤ 1048576 ∧ (0 ≤ r → n ≤ 1048576 ∧ ∀ k, k < n → (I k).s.size ≤ 1048576) := by
  have hn := h.1
  have hb0 := Below.refl w.heap.size w
  by_cases hs : (n : Int) ≤ L
  · go_enter Tryd.func28, Tryd.ntmps28
    go_wp2
    go_loopw [1, 5] (fun l i wr => ∃ k : Nat, ∃ x : Int, k ≤ n ∧ i = .int .i64 k ∧ l = .int .i64 x ∧ 0 ≤ x ∧ x ≤ 1048576 ∧ (∀ j, j < k → (I j).s.size ≤ 1048576) ∧ Below w.heap.size w wr) (fun _ i _ => n - (intOf i).toNat)
    case atStart => exact ⟨0, _, by omega, rfl, rfl, by omega, by omega, fun j hj => by omega, hb0⟩
    case round =>
      obtain ⟨k, x, hk, rfl, rfl, hx0, hx1, hall, hb⟩ := hrel
      by_cases hlt : k < n
      · obtain ⟨b, off, rfl, c0, c1, c2, hsz⟩ := (h.later hb).2 k hlt
        go_wp2_with (go_at_call 81; refine (szVal _ _ _ _ _ hx0 hx1 hsz).mono ?_; rintro e w1 ⟨hb1, r, rfl, hr1, hr2⟩; replace hb1 := bstep hb hb1; by_cases hr : (0 : Int) ≤ r)
        · go_roundw
          case rel => exact ⟨k + 1, r, by omega, by go_num, rfl, hr, hr1, fun j hj => by
            by_cases e : j = k
            · subst e; exact hr2 hr
            · exact hall j (by omega), hb1⟩
          case measure => simp [intOf]; omega
        · go_ret
          exact ⟨hb1, -1, rfl, by omega, fun hh => by omega⟩
      · obtain rfl : k = n := by omega
        go_wp2
        go_ret
        exact ⟨hb, _, rfl, hx1, fun _ => ⟨by omega, hall⟩⟩
  · go_enter Tryd.func28, Tryd.ntmps28
    go_wp2
    go_ret
    exact ⟨hb0, -1, rfl, by omega, fun hh => by omega⟩
set_option maxRecDepth 20000 in
set_option maxHeartbeats 2000000 in
theorem toVal (o : Int) (m : Int) (s : ByteArray) (w : World) : Calls Tryd.prog 92 #[.agg #[.int .i64 o, .int .i64 m, .string s]] w fun e w' => e = .returned (.agg #[.int .i64 o, .int .i64 m, .string s]) ∧ Below w.heap.size w w' := by
  go_enter Tryd.func92, Tryd.ntmps92
  go_wp2
  exact bodyPost_ret (v := .agg #[.int .i64 o, .int .i64 m, .string s]) (by simp [results, Tryd.results92, go_sem]) rfl ⟨rfl, below3 _ _ _ _⟩
theorem Tryd.infoVal : (Tryd.prog.info? 73).map (fun i => (i.zero, i.size, i.bytes)) = some (some (.agg #[.int .i64 0, .int .i64 0, .string ByteArray.empty]), 3, 32) := by kernel_rfl
set_option maxRecDepth 20000 in
set_option maxHeartbeats 4000000 in
theorem toVals (a : Option Addr) (n c : Nat) (I : Nat → Itm) (w : World) (h : IL w a n I) (hn : n ≤ 1048576) :
    Calls Tryd.prog 37 #[.slice a n c] w fun e w' => ∃ g, w.heap.size ≤ g ∧ e = .returned (.slice (some ⟨g, 0, none⟩) n n) ∧ IL w' (some ⟨g, 0, none⟩) n I ∧ Below w.heap.size w w' := by
  have hmk := make_any (t := 42) Tryd.underlying42 Tryd.infoVal n hn (by omega)
  go_enter Tryd.func37, Tryd.ntmps37
  go_wp2
  clear hmk
  go_loopw [4] (fun i wr => ∃ (k : Nat) (cur : Array Value), k ≤ n ∧ i = .int .i64 k ∧ wr.heap[w.heap.size]? = some (.cells cur 73 (0, 0)) ∧ cur.size = n * 3 ∧ (∀ j, j < k → cur[j * 3]? = some (.int .i64 (I j).o) ∧ cur[j * 3 + 1]? = some (.int .i64 (I j).m) ∧ cur[j * 3 + 2]? = some (.string (I j).s)) ∧ Below w.heap.size w wr) (fun i _ => n - (intOf i).toNat)
  case atStart => exact ⟨0, _, by omega, rfl, heap_alloc_new _ _, made_size _ _, fun j hj => by omega, bal _ _⟩
  case round =>
    obtain ⟨k, cur, hk, rfl, hG, hsz, hall, hb⟩ := hrel
    have HG : Hid (wr.heap[w.heap.size]? = some (.cells cur 73 (0, 0))) := hG
    clear hG
    by_cases hlt : k < n
    · obtain ⟨b, off, rfl, c0, c1, c2, hs⟩ := h.later hb k hlt
      obtain ⟨v0, hv0⟩ := there (A := cur) (k := k * 3) (by omega)
      obtain ⟨v1, hv1⟩ := there (A := cur) (k := k * 3 + 1) (by omega)
      obtain ⟨v2, hv2⟩ := there (A := cur) (k := k * 3 + 2) (by omega)
      go_wp2_with (go_at_call 92; refine (toVal _ _ _ _).mono ?_; rintro e w1 ⟨rfl, hb1⟩; have HG1 : Hid (w1.heap[w.heap.size]? = some (.cells cur 73 (0, 0))) := (hb1.block _ (Array.getElem?_eq_some_iff.1 HG.out).1).trans HG.out; have g0 : w1.cell? ⟨w.heap.size, k * 3, none⟩ = some v0 := (cell_of_row w1 _ _ _ _ _ HG1.out).trans hv0; have f0 : w1.frozen? ⟨w.heap.size, k * 3, none⟩ = false := frozen_of_row w1 _ _ _ _ HG1.out; have g1 : w1.cell? ⟨w.heap.size, k * 3 + 1, none⟩ = some v1 := (cell_of_row w1 _ _ _ _ _ HG1.out).trans hv1; have f1 : w1.frozen? ⟨w.heap.size, k * 3 + 1, none⟩ = false := frozen_of_row w1 _ _ _ _ HG1.out; have g2 : w1.cell? ⟨w.heap.size, k * 3 + 2, none⟩ = some v2 := (cell_of_row w1 _ _ _ _ _ HG1.out).trans hv2; have f2 : w1.frozen? ⟨w.heap.size, k * 3 + 2, none⟩ = false := frozen_of_row w1 _ _ _ _ HG1.out; replace hb1 := bstep hb hb1)
      go_roundw
      case rel =>
        refine ⟨k + 1, (((cur.setIfInBounds (k * 3) (.int .i64 (I k).o)).setIfInBounds (k * 3 + 1) (.int .i64 (I k).m)).setIfInBounds (k * 3 + 2) (.string (I k).s)), by omega, by go_num, (heap_setCell_same _ _ _ _ _ _ (heap_setCell_same _ _ _ _ _ _ (heap_setCell_same _ _ _ _ _ _ HG1.out))), by simpa using hsz, fun j hj => ?_, (((hb1.setCell (by simp) _).setCell (by simp) _).setCell (by simp) _)⟩
        by_cases e : j = k
        · subst e
          exact ⟨(setA (setA (setS (by omega)) (by omega)) (by omega)), (setA (setS (by simp only [Array.size_setIfInBounds]; omega)) (by omega)), (setS (by simp only [Array.size_setIfInBounds]; omega))⟩
        · exact ⟨(setA (setA (setA (hall j (by omega)).1 (by omega)) (by omega)) (by omega)), (setA (setA (setA (hall j (by omega)).2.1 (by omega)) (by omega)) (by omega)), (setA (setA (setA (hall j (by omega)).2.2 (by omega)) (by omega)) (by omega))⟩
      case measure => simp [intOf]; omega
    · obtain rfl : k = n := by omega
      go_wp2
      go_ret
      refine ⟨_, Nat.le_refl _, rfl, fun j hj => ?_, hb⟩
      have := hall j hj
      have hsj := (h j hj).choose_spec.choose_spec.2.2.2.2
      exact ⟨_, 0, rfl, by rw [Nat.zero_add, cell_of_row wr _ _ _ _ _ HG.out]; exact this.1, by rw [Nat.zero_add, cell_of_row wr _ _ _ _ _ HG.out]; exact this.2.1, by rw [Nat.zero_add, cell_of_row wr _ _ _ _ _ HG.out]; exact this.2.2, hsj⟩
set_option maxRecDepth 20000 in
set_option maxHeartbeats 2000000 in
theorem eqVal (o : Int) (m : Int) (s : ByteArray) (w : World) : Calls Tryd.prog 99 #[.agg #[.int .i64 o, .int .i64 m, .string s], .agg #[.int .i64 o, .int .i64 m, .string s]] w fun e w' => e = .returned (.bool true) ∧ Below w.heap.size w w' := by
  have hq := eqS_same s
  go_enter Tryd.func99, Tryd.ntmps99
  go_wp2
  go_ret
  exact ⟨rfl, bstep (bal _ _) (bal _ _)⟩
set_option maxRecDepth 20000 in
set_option maxHeartbeats 4000000 in
theorem eqVals (a a' : Option Addr) (n c c' : Nat) (I : Nat → Itm) (w : World) (h : IL w a n I) (h' : IL w a' n I) (hn : n ≤ 1048576) :
    Calls Tryd.prog 50 #[.slice a n c, .slice a' n c'] w fun e w' => e = .returned (.bool true) ∧ Below w.heap.size w w' := by
  have hb0 := Below.refl w.heap.size w
  go_enter Tryd.func50, Tryd.ntmps50
  go_wp2
  go_loopw [5] (fun i wr => ∃ k : Nat, k ≤ n ∧ i = .int .i64 k ∧ Below w.heap.size w wr) (fun i _ => n - (intOf i).toNat)
  case atStart => exact ⟨0, by omega, rfl, hb0⟩
  case round =>
    obtain ⟨k, hk, rfl, hb⟩ := hrel
    by_cases hlt : k < n
    · have hkk : (k : Int) < n := by omega
      obtain ⟨b, off, rfl, c0, c1, c2, _⟩ := h.later hb k hlt
      obtain ⟨b', off', rfl, e0, e1, e2, _⟩ := h'.later hb k hlt
      go_wp2
      go_region_with (go_at_call 99; refine (eqVal _ _ _ _).mono ?_; rintro e w1 ⟨rfl, hb1⟩)
      all_goals
        go_wp2
        go_roundw
        case rel => exact ⟨k + 1, by omega, by go_num, bstep hb (undrew hb1)⟩
        case measure => simp [intOf]; omega
    · obtain rfl : k = n := by omega
      go_wp2
      go_ret
      exact ⟨rfl, hb⟩
set_option maxRecDepth 20000 in
set_option maxHeartbeats 2000000 in
theorem szItm (o : Int) (m : Int) (s : ByteArray) (w : World) (L : Int) (h0 : 0 ≤ L) (h1 : L ≤ 1048576) (hs : s.size ≤ 9223372036854775807) :
    Calls Tryd.prog 82 #[.agg #[.int .i64 o, .int .i64 m, .string s], .int .i64 L] w fun e w' => Below w.heap.size w w' ∧ ∃ r : Int, e = .returned (.int .i64 r) ∧ r ≤ 1048576 ∧ (0 ≤ r → s.size ≤ 1048576) := by
  go_enter Tryd.func82, Tryd.ntmps82
  by_cases hneg : (0 : Int) ≤ L - s.size
  · go_wp2
    go_ret
    exact ⟨bal _ _, _, rfl, by omega, fun _ => by omega⟩
  · go_wp2
    go_ret
    exact ⟨bal _ _, -1, rfl, by omega, fun hh => by omega⟩
set_option maxRecDepth 20000 in
set_option maxHeartbeats 2000000 in
theorem szItms (a : Option Addr) (n c : Nat) (I : Nat → Itm) (w : World) (h : IX w a n I) (L : Int) (h0 : 0 ≤ L) (h1 : L ≤ 1048576) :
    Calls Tryd.prog 29 #[.slice a n c, .int .i64 L] w fun e w' => Below w.heap.size w w' ∧ ∃ r : Int, e = .returned (.int .i64 r) ∧ r ≤ 1048576 ∧ (0 ≤ r → n ≤ 1048576 ∧ ∀ k, k < n → (I k).s.size ≤ 1048576) := by
  have hn := h.1
  have hb0 := Below.refl w.heap.size w
  by_cases hs : (n : Int) ≤ L
  · go_enter Tryd.func29, Tryd.ntmps29
    go_wp2
    go_loopw [1, 5] (fun l i wr => ∃ k : Nat, ∃ x : Int, k ≤ n ∧ i = .int .i64 k ∧ l = .int .i64 x ∧ 0 ≤ x ∧ x ≤ 1048576 ∧ (∀ j, j < k → (I j).s.size ≤ 1048576) ∧ Below w.heap.size w wr) (fun _ i _ => n - (intOf i).toNat)
    case atStart => exact ⟨0, _, by omega, rfl, rfl, by omega, by omega, fun j hj => by omega, hb0⟩
    case round =>
      obtain ⟨k, x, hk, rfl, rfl, hx0, hx1, hall, hb⟩ := hrel
      by_cases hlt : k < n
      · obtain ⟨b, off, rfl, c0, c1, c2, hsz⟩ := (h.later hb).2 k hlt
        go_wp2_with (go_at_call 82; refine (szItm _ _ _ _ _ hx0 hx1 hsz).mono ?_; rintro e w1 ⟨hb1, r, rfl, hr1, hr2⟩; replace hb1 := bstep hb hb1; by_cases hr : (0 : Int) ≤ r)
        · go_roundw
          case rel => exact ⟨k + 1, r, by omega, by go_num, rfl, hr, hr1, fun j hj => by
            by_cases e : j = k
            · subst e; exact hr2 hr
            · exact hall j (by omega), hb1⟩
          case measure => simp [intOf]; omega
        · go_ret
          exact ⟨hb1, -1, rfl, by omega, fun hh => by omega⟩
      · obtain rfl : k = n := by omega
        go_wp2
        go_ret
        exact ⟨hb, _, rfl, hx1, fun _ => ⟨by omega, hall⟩⟩
  · go_enter Tryd.func29, Tryd.ntmps29
    go_wp2
    go_ret
    exact ⟨hb0, -1, rfl, by omega, fun hh => by omega⟩
set_option maxRecDepth 20000 in
set_option maxHeartbeats 2000000 in
theorem toItm (o : Int) (m : Int) (s : ByteArray) (w : World) : Calls Tryd.prog 93 #[.agg #[.int .i64 o, .int .i64 m, .string s]] w fun e w' => e = .returned (.agg #[.int .i64 o, .int .i64 m, .string s]) ∧ Below w.heap.size w w' := by
  go_enter Tryd.func93, Tryd.ntmps93
  go_wp2
  exact bodyPost_ret (v := .agg #[.int .i64 o, .int .i64 m, .string s]) (by simp [results, Tryd.results93, go_sem]) rfl ⟨rfl, below3 _ _ _ _⟩
theorem Tryd.infoItm : (Tryd.prog.info? 129).map (fun i => (i.zero, i.size, i.bytes)) = some (some (.agg #[.int .i64 0, .int .i64 0, .string ByteArray.empty]), 3, 32) := by kernel_rfl
set_option maxRecDepth 20000 in
set_option maxHeartbeats 4000000 in
theorem toItms (a : Option Addr) (n c : Nat) (I : Nat → Itm) (w : World) (h : IL w a n I) (hn : n ≤ 1048576) :
    Calls Tryd.prog 38 #[.slice a n c] w fun e w' => ∃ g, w.heap.size ≤ g ∧ e = .returned (.slice (some ⟨g, 0, none⟩) n n) ∧ IL w' (some ⟨g, 0, none⟩) n I ∧ Below w.heap.size w w' := by
  have hmk := make_any (t := 43) Tryd.underlying43 Tryd.infoItm n hn (by omega)
  go_enter Tryd.func38, Tryd.ntmps38
  go_wp2
  clear hmk
  go_loopw [4] (fun i wr => ∃ (k : Nat) (cur : Array Value), k ≤ n ∧ i = .int .i64 k ∧ wr.heap[w.heap.size]? = some (.cells cur 129 (0, 0)) ∧ cur.size = n * 3 ∧ (∀ j, j < k → cur[j * 3]? = some (.int .i64 (I j).o) ∧ cur[j * 3 + 1]? = some (.int .i64 (I j).m) ∧ cur[j * 3 + 2]? = some (.string (I j).s)) ∧ Below w.heap.size w wr) (fun i _ => n - (intOf i).toNat)
  case atStart => exact ⟨0, _, by omega, rfl, heap_alloc_new _ _, made_size _ _, fun j hj => by omega, bal _ _⟩
  case round =>
    obtain ⟨k, cur, hk, rfl, hG, hsz, hall, hb⟩ := hrel
    have HG : Hid (wr.heap[w.heap.size]? = some (.cells cur 129 (0, 0))) := hG
    clear hG
    by_cases hlt : k < n
    · obtain ⟨b, off, rfl, c0, c1, c2, hs⟩ := h.later hb k hlt
      obtain ⟨v0, hv0⟩ := there (A := cur) (k := k * 3) (by omega)
      obtain ⟨v1, hv1⟩ := there (A := cur) (k := k * 3 + 1) (by omega)
      obtain ⟨v2, hv2⟩ := there (A := cur) (k := k * 3 + 2) (by omega)
      go_wp2_with (go_at_call 93; refine (toItm _ _ _ _).mono ?_; rintro e w1 ⟨rfl, hb1⟩; have HG1 : Hid (w1.heap[w.heap.size]? = some (.cells cur 129 (0, 0))) := (hb1.block _ (Array.getElem?_eq_some_iff.1 HG.out).1).trans HG.out; have g0 : w1.cell? ⟨w.heap.size, k * 3, none⟩ = some v0 := (cell_of_row w1 _ _ _ _ _ HG1.out).trans hv0; have f0 : w1.frozen? ⟨w.heap.size, k * 3, none⟩ = false := frozen_of_row w1 _ _ _ _ HG1.out; have g1 : w1.cell? ⟨w.heap.size, k * 3 + 1, none⟩ = some v1 := (cell_of_row w1 _ _ _ _ _ HG1.out).trans hv1; have f1 : w1.frozen? ⟨w.heap.size, k * 3 + 1, none⟩ = false := frozen_of_row w1 _ _ _ _ HG1.out; have g2 : w1.cell? ⟨w.heap.size, k * 3 + 2, none⟩ = some v2 := (cell_of_row w1 _ _ _ _ _ HG1.out).trans hv2; have f2 : w1.frozen? ⟨w.heap.size, k * 3 + 2, none⟩ = false := frozen_of_row w1 _ _ _ _ HG1.out; replace hb1 := bstep hb hb1)
      go_roundw
      case rel =>
        refine ⟨k + 1, (((cur.setIfInBounds (k * 3) (.int .i64 (I k).o)).setIfInBounds (k * 3 + 1) (.int .i64 (I k).m)).setIfInBounds (k * 3 + 2) (.string (I k).s)), by omega, by go_num, (heap_setCell_same _ _ _ _ _ _ (heap_setCell_same _ _ _ _ _ _ (heap_setCell_same _ _ _ _ _ _ HG1.out))), by simpa using hsz, fun j hj => ?_, (((hb1.setCell (by simp) _).setCell (by simp) _).setCell (by simp) _)⟩
        by_cases e : j = k
        · subst e
          exact ⟨(setA (setA (setS (by omega)) (by omega)) (by omega)), (setA (setS (by simp only [Array.size_setIfInBounds]; omega)) (by omega)), (setS (by simp only [Array.size_setIfInBounds]; omega))⟩
        · exact ⟨(setA (setA (setA (hall j (by omega)).1 (by omega)) (by omega)) (by omega)), (setA (setA (setA (hall j (by omega)).2.1 (by omega)) (by omega)) (by omega)), (setA (setA (setA (hall j (by omega)).2.2 (by omega)) (by omega)) (by omega))⟩
      case measure => simp [intOf]; omega
    · obtain rfl : k = n := by omega
      go_wp2
      go_ret
      refine ⟨_, Nat.le_refl _, rfl, fun j hj => ?_, hb⟩
      have := hall j hj
      have hsj := (h j hj).choose_spec.choose_spec.2.2.2.2
      exact ⟨_, 0, rfl, by rw [Nat.zero_add, cell_of_row wr _ _ _ _ _ HG.out]; exact this.1, by rw [Nat.zero_add, cell_of_row wr _ _ _ _ _ HG.out]; exact this.2.1, by rw [Nat.zero_add, cell_of_row wr _ _ _ _ _ HG.out]; exact this.2.2, hsj⟩
set_option maxRecDepth 20000 in
set_option maxHeartbeats 2000000 in
theorem eqItm (o : Int) (m : Int) (s : ByteArray) (w : World) : Calls Tryd.prog 100 #[.agg #[.int .i64 o, .int .i64 m, .string s], .agg #[.int .i64 o, .int .i64 m, .string s]] w fun e w' => e = .returned (.bool true) ∧ Below w.heap.size w w' := by
  have hq := eqS_same s
  go_enter Tryd.func100, Tryd.ntmps100
  go_wp2
  go_ret
  exact ⟨rfl, bstep (bal _ _) (bal _ _)⟩
set_option maxRecDepth 20000 in
set_option maxHeartbeats 4000000 in
theorem eqItms (a a' : Option Addr) (n c c' : Nat) (I : Nat → Itm) (w : World) (h : IL w a n I) (h' : IL w a' n I) (hn : n ≤ 1048576) :
    Calls Tryd.prog 51 #[.slice a n c, .slice a' n c'] w fun e w' => e = .returned (.bool true) ∧ Below w.heap.size w w' := by
  have hb0 := Below.refl w.heap.size w
  go_enter Tryd.func51, Tryd.ntmps51
  go_wp2
  go_loopw [5] (fun i wr => ∃ k : Nat, k ≤ n ∧ i = .int .i64 k ∧ Below w.heap.size w wr) (fun i _ => n - (intOf i).toNat)
  case atStart => exact ⟨0, by omega, rfl, hb0⟩
  case round =>
    obtain ⟨k, hk, rfl, hb⟩ := hrel
    by_cases hlt : k < n
    · have hkk : (k : Int) < n := by omega
      obtain ⟨b, off, rfl, c0, c1, c2, _⟩ := h.later hb k hlt
      obtain ⟨b', off', rfl, e0, e1, e2, _⟩ := h'.later hb k hlt
      go_wp2
      go_region_with (go_at_call 100; refine (eqItm _ _ _ _).mono ?_; rintro e w1 ⟨rfl, hb1⟩)
      all_goals
        go_wp2
        go_roundw
        case rel => exact ⟨k + 1, by omega, by go_num, bstep hb (undrew hb1)⟩
        case measure => simp [intOf]; omega
    · obtain rfl : k = n := by omega
      go_wp2
      go_ret
      exact ⟨rfl, hb⟩
end Go.Proofs.YtfodndnkhgijmaaDoor
