/-
  Files: what a list of them is, the law's own functions over it.
-/
import Derived.Test.YtdbcihebhgpblaaDoorFa
namespace Go.Proofs.YtdbcihebhgpblaaDoor
open Go.RowKit
structure Fil where
  s : ByteArray
  d : ByteArray
  y : Int
/-- n files, of whatever length. -/
def FX (w : World) (a : Option Addr) (n : Nat) (F : Nat → Fil) : Prop :=
  n ≤ 9223372036854775807 ∧ ∀ k, k < n → ∃ b off, a = some ⟨b, off, none⟩ ∧ w.cell? ⟨b, off + k * 3, none⟩ = some (.string (F k).s) ∧ w.cell? ⟨b, off + k * 3 + 1, none⟩ = some (.string (F k).d) ∧ w.cell? ⟨b, off + k * 3 + 2, none⟩ = some (.int .i64 (F k).y) ∧ (F k).s.size ≤ 9223372036854775807 ∧ (F k).d.size ≤ 9223372036854775807
theorem FX.later {w w' : World} {a : Option Addr} {n : Nat} {F : Nat → Fil} (h : FX w a n F) (hb : Below w.heap.size w w') : FX w' a n F := ⟨h.1, fun k hk => by
  obtain ⟨b, off, e, h0, h1, h2, hs⟩ := h.2 k hk
  exact ⟨b, off, e, keepB hb h0, keepB hb h1, keepB hb h2, hs⟩⟩
/-- n files; what they hold together. -/
def sumS (F : Nat → Fil) : Nat → Nat
  | 0 => 0
  | k + 1 => sumS F k + (F k).s.size
def sumD (F : Nat → Fil) : Nat → Nat
  | 0 => 0
  | k + 1 => sumD F k + (F k).d.size
theorem sumS_le (F : Nat → Fil) (k n : Nat) (h : k < n) : (F k).s.size ≤ sumS F n := by
  induction n with
  | zero => omega
  | succ n ih =>
    rw [sumS]
    by_cases e : k = n
    · subst e; omega
    · have := ih (by omega); omega
theorem sumD_mono (F : Nat → Fil) (k n : Nat) (h : k ≤ n) : sumD F k ≤ sumD F n := by
  induction n with
  | zero => obtain rfl : k = 0 := by omega
            exact Nat.le_refl _
  | succ n ih =>
    by_cases e : k = n + 1
    · subst e; exact Nat.le_refl _
    · rw [sumD]; have := ih (by omega); omega
theorem sumD_le (F : Nat → Fil) (k n : Nat) (h : k < n) : (F k).d.size ≤ sumD F n := by
  have := sumD_mono F (k + 1) n h
  rw [sumD] at this
  omega
def Small (n : Nat) (F : Nat → Fil) : Prop := n + sumS F n + sumD F n ≤ 2097152
theorem Small.n {n : Nat} {F : Nat → Fil} (h : Small n F) : n ≤ 2097152 := by unfold Small at h; omega
theorem Small.s {n : Nat} {F : Nat → Fil} (h : Small n F) (k : Nat) (hk : k < n) : (F k).s.size ≤ 2097152 := by have := sumS_le F k n hk; unfold Small at h; omega
theorem Small.d {n : Nat} {F : Nat → Fil} (h : Small n F) (k : Nat) (hk : k < n) : (F k).d.size ≤ 2097152 := by have := sumD_le F k n hk; unfold Small at h; omega
theorem Small.sum {n : Nat} {F : Nat → Fil} (h : Small n F) (k : Nat) (hk : k ≤ n) : sumD F k ≤ 2097152 := by have := sumD_mono F k n hk; unfold Small at h; omega
def FL (w : World) (a : Option Addr) (n : Nat) (F : Nat → Fil) : Prop :=
  ∀ k, k < n → ∃ b off, a = some ⟨b, off, none⟩ ∧ w.cell? ⟨b, off + k * 3, none⟩ = some (.string (F k).s) ∧ w.cell? ⟨b, off + k * 3 + 1, none⟩ = some (.string (F k).d) ∧ w.cell? ⟨b, off + k * 3 + 2, none⟩ = some (.int .i64 (F k).y)
theorem FL.later {w w' : World} {a : Option Addr} {n : Nat} {F : Nat → Fil} (h : FL w a n F) (hb : Below w.heap.size w w') : FL w' a n F := fun k hk => by
  obtain ⟨b, off, e, h0, h1, h2⟩ := h k hk
  exact ⟨b, off, e, keepB hb h0, keepB hb h1, keepB hb h2⟩
theorem FX.fl {w : World} {a : Option Addr} {n : Nat} {F : Nat → Fil} (h : FX w a n F) : FL w a n F := fun k hk => by
  obtain ⟨b, off, e, h0, h1, h2, _⟩ := h.2 k hk
  exact ⟨b, off, e, h0, h1, h2⟩
/-- The cells of n files. -/
def flat (n : Nat) (F : Nat → Fil) : Array Value := Array.ofFn (n := n * 3) fun i => if i.val % 3 = 0 then .string (F (i.val / 3)).s else if i.val % 3 = 1 then .string (F (i.val / 3)).d else .int .i64 (F (i.val / 3)).y
theorem flat_size (n : Nat) (F : Nat → Fil) : (flat n F).size = n * 3 := by simp [flat]
theorem flat0 {n k : Nat} (F : Nat → Fil) (h : k < n) : (flat n F)[k * 3]? = some (.string (F k).s) := by
  simp [flat, show k * 3 < n * 3 by omega]
theorem flat1 {n k : Nat} (F : Nat → Fil) (h : k < n) : (flat n F)[k * 3 + 1]? = some (.string (F k).d) := by
  have e1 : (k * 3 + 1) % 3 = 1 := by omega
  have e2 : (k * 3 + 1) / 3 = k := by omega
  simp [flat, show k * 3 + 1 < n * 3 by omega, e1, e2]
theorem flat2 {n k : Nat} (F : Nat → Fil) (h : k < n) : (flat n F)[k * 3 + 2]? = some (.int .i64 (F k).y) := by
  have e1 : (k * 3 + 2) % 3 = 2 := by omega
  have e2 : (k * 3 + 2) / 3 = k := by omega
  simp [flat, show k * 3 + 2 < n * 3 by omega, e1, e2]
theorem flat_of {n : Nat} {F : Nat → Fil} {A : Array Value} (hs : A.size = n * 3) (h : ∀ k, k < n → A[k * 3]? = some (.string (F k).s) ∧ A[k * 3 + 1]? = some (.string (F k).d) ∧ A[k * 3 + 2]? = some (.int .i64 (F k).y)) : A = flat n F := by
  apply Array.ext_getElem?
  intro i
  by_cases hi : i < n * 3
  · obtain ⟨h0, h1, h2⟩ := h (i / 3) (by omega)
    rcases (show i = i / 3 * 3 ∨ i = i / 3 * 3 + 1 ∨ i = i / 3 * 3 + 2 by omega) with e | e | e
    · rw [e, flat0 F (by omega)]; exact h0
    · rw [e, flat1 F (by omega)]; exact h1
    · rw [e, flat2 F (by omega)]; exact h2
  · rw [Array.getElem?_eq_none (by omega), Array.getElem?_eq_none (by rw [flat_size]; omega)]
/-- They lie in a block of their own. -/
def FR (w : World) (g n : Nat) (F : Nat → Fil) : Prop := w.heap[g]? = some (.cells (flat n F) 92 (0, 0))
theorem FR.later {w w' : World} {g n : Nat} {F : Nat → Fil} (h : FR w g n F) (hb : Below w.heap.size w w') : FR w' g n F :=
  (hb.block _ (Array.getElem?_eq_some_iff.1 h).1).trans h
theorem FR.fl {w : World} {g n : Nat} {F : Nat → Fil} (h : FR w g n F) : FL w (some ⟨g, 0, none⟩) n F := fun k hk =>
  ⟨g, 0, rfl, by rw [Nat.zero_add, cell_of_row w _ _ _ _ _ h]; exact flat0 F hk, by rw [Nat.zero_add, cell_of_row w _ _ _ _ _ h]; exact flat1 F hk, by rw [Nat.zero_add, cell_of_row w _ _ _ _ _ h]; exact flat2 F hk⟩
set_option maxRecDepth 20000 in
set_option maxHeartbeats 2000000 in
theorem szFil (s d : ByteArray) (y : Int) (w : World) (L : Int) (h0 : 0 ≤ L) (h1 : L ≤ 2097152) (hs : s.size ≤ 9223372036854775807) (hd : d.size ≤ 9223372036854775807) :
    Calls Tryd.prog 48 #[.agg #[.string s, .string d, .int .i64 y], .int .i64 L] w fun e w' => Below w.heap.size w w' ∧ ∃ r : Int, e = .returned (.int .i64 r) ∧ (0 ≤ r → r = L - s.size - d.size) := by
  go_enter Tryd.func48, Tryd.ntmps48
  by_cases hneg : (0 : Int) ≤ L - s.size
  · by_cases hneg2 : (0 : Int) ≤ L - s.size - d.size
    · go_wp2
      go_ret
      exact ⟨bal _ _, _, rfl, fun _ => rfl⟩
    · go_wp2
      go_ret
      exact ⟨bal _ _, -1, rfl, fun hh => by omega⟩
  · go_wp2
    go_ret
    exact ⟨bal _ _, -1, rfl, fun hh => by omega⟩
set_option maxRecDepth 20000 in
set_option maxHeartbeats 2000000 in
theorem szFils (a : Option Addr) (n c : Nat) (F : Nat → Fil) (w : World) (h : FX w a n F) (L : Int) (h0 : 0 ≤ L) (h1 : L ≤ 2097152) :
    Calls Tryd.prog 19 #[.slice a n c, .int .i64 L] w fun e w' => Below w.heap.size w w' ∧ ∃ r : Int, e = .returned (.int .i64 r) ∧ (0 ≤ r → r + n + sumS F n + sumD F n = L) := by
  have hn := h.1
  have hb0 := Below.refl w.heap.size w
  by_cases hs : (n : Int) ≤ L
  · go_enter Tryd.func19, Tryd.ntmps19
    go_wp2
    go_loopw [1, 5] (fun l i wr => ∃ k : Nat, ∃ x : Int, k ≤ n ∧ i = .int .i64 k ∧ l = .int .i64 x ∧ 0 ≤ x ∧ x + n + sumS F k + sumD F k = L ∧ Below w.heap.size w wr) (fun _ i _ => n - (intOf i).toNat)
    case atStart => exact ⟨0, _, by omega, rfl, rfl, by omega, by simp [sumS, sumD] <;> omega, hb0⟩
    case round =>
      obtain ⟨k, x, hk, rfl, rfl, hx0, hall, hb⟩ := hrel
      by_cases hlt : k < n
      · obtain ⟨b, off, rfl, c0, c1, c2, hsz, hdz⟩ := (h.later hb).2 k hlt
        have HS : Hid (sumS F (k + 1) = sumS F k + (F k).s.size) := rfl
        have HD : Hid (sumD F (k + 1) = sumD F k + (F k).d.size) := rfl
        go_wp2_with (go_at_call 48; refine (szFil _ _ _ _ _ hx0 (by omega) hsz hdz).mono ?_; rintro e w1 ⟨hb1, r, rfl, hr2⟩; replace hb1 := bstep hb hb1; by_cases hr : (0 : Int) ≤ r)
        · have := hr2 hr
          go_roundw
          case rel => exact ⟨k + 1, r, by omega, by go_num, rfl, hr, by rw [HS.out, HD.out]; omega, hb1⟩
          case measure => simp [intOf]; omega
        · go_ret
          exact ⟨hb1, -1, rfl, fun hh => by omega⟩
      · obtain rfl : k = n := by omega
        go_wp2
        go_ret
        exact ⟨hb, _, rfl, fun _ => hall⟩
  · go_enter Tryd.func19, Tryd.ntmps19
    go_wp2
    go_ret
    exact ⟨hb0, -1, rfl, fun hh => by omega⟩
set_option maxRecDepth 20000 in
set_option maxHeartbeats 2000000 in
theorem toFil (s d : ByteArray) (y : Int) (w : World) : Calls Tryd.prog 54 #[.agg #[.string s, .string d, .int .i64 y]] w fun e w' => e = .returned (.agg #[.string s, .string d, .int .i64 y]) ∧ Below w.heap.size w w' := by
  go_enter Tryd.func54, Tryd.ntmps54
  go_wp2
  exact bodyPost_ret (v := .agg #[.string s, .string d, .int .i64 y]) (by simp [results, Tryd.results54, go_sem]) rfl ⟨rfl, below3 _ _ _ _⟩
theorem Tryd.infoFil : (Tryd.prog.info? 92).map (fun i => (i.zero, i.size, i.bytes)) = some (some (.agg #[.string ByteArray.empty, .string ByteArray.empty, .int .i64 0]), 3, 40) := by kernel_rfl
set_option maxRecDepth 20000 in
set_option maxHeartbeats 4000000 in
theorem toFils (a : Option Addr) (n c : Nat) (F : Nat → Fil) (w : World) (h : FL w a n F) (hn : n ≤ 2097152) :
    Calls Tryd.prog 25 #[.slice a n c] w fun e w' => ∃ g, w.heap.size ≤ g ∧ e = .returned (.slice (some ⟨g, 0, none⟩) n n) ∧ FR w' g n F ∧ Below w.heap.size w w' := by
  have hmk := make_any (t := 28) Tryd.underlying28 Tryd.infoFil n hn (by omega)
  go_enter Tryd.func25, Tryd.ntmps25
  go_wp2
  clear hmk
  go_loopw [4] (fun i wr => ∃ (k : Nat) (cur : Array Value), k ≤ n ∧ i = .int .i64 k ∧ wr.heap[w.heap.size]? = some (.cells cur 92 (0, 0)) ∧ cur.size = n * 3 ∧ (∀ j, j < k → cur[j * 3]? = some (.string (F j).s) ∧ cur[j * 3 + 1]? = some (.string (F j).d) ∧ cur[j * 3 + 2]? = some (.int .i64 (F j).y)) ∧ Below w.heap.size w wr) (fun i _ => n - (intOf i).toNat)
  case atStart => exact ⟨0, _, by omega, rfl, heap_alloc_new _ _, made_size _ _, fun j hj => by omega, bal _ _⟩
  case round =>
    obtain ⟨k, cur, hk, rfl, hG, hsz, hall, hb⟩ := hrel
    have HG : Hid (wr.heap[w.heap.size]? = some (.cells cur 92 (0, 0))) := hG
    clear hG
    by_cases hlt : k < n
    · obtain ⟨b, off, rfl, c0, c1, c2⟩ := h.later hb k hlt
      obtain ⟨v0, hv0⟩ := there (A := cur) (k := k * 3) (by omega)
      obtain ⟨v1, hv1⟩ := there (A := cur) (k := k * 3 + 1) (by omega)
      obtain ⟨v2, hv2⟩ := there (A := cur) (k := k * 3 + 2) (by omega)
      go_wp2_with (go_at_call 54; refine (toFil _ _ _ _).mono ?_; rintro e w1 ⟨rfl, hb1⟩; have HG1 : Hid (w1.heap[w.heap.size]? = some (.cells cur 92 (0, 0))) := (hb1.block _ (Array.getElem?_eq_some_iff.1 HG.out).1).trans HG.out; have g0 : w1.cell? ⟨w.heap.size, k * 3, none⟩ = some v0 := (cell_of_row w1 _ _ _ _ _ HG1.out).trans hv0; have f0 : w1.frozen? ⟨w.heap.size, k * 3, none⟩ = false := frozen_of_row w1 _ _ _ _ HG1.out; have g1 : w1.cell? ⟨w.heap.size, k * 3 + 1, none⟩ = some v1 := (cell_of_row w1 _ _ _ _ _ HG1.out).trans hv1; have f1 : w1.frozen? ⟨w.heap.size, k * 3 + 1, none⟩ = false := frozen_of_row w1 _ _ _ _ HG1.out; have g2 : w1.cell? ⟨w.heap.size, k * 3 + 2, none⟩ = some v2 := (cell_of_row w1 _ _ _ _ _ HG1.out).trans hv2; have f2 : w1.frozen? ⟨w.heap.size, k * 3 + 2, none⟩ = false := frozen_of_row w1 _ _ _ _ HG1.out; replace hb1 := bstep hb hb1)
      go_roundw
      case rel =>
        refine ⟨k + 1, (((cur.setIfInBounds (k * 3) (.string (F k).s)).setIfInBounds (k * 3 + 1) (.string (F k).d)).setIfInBounds (k * 3 + 2) (.int .i64 (F k).y)), by omega, by go_num, (heap_setCell_same _ _ _ _ _ _ (heap_setCell_same _ _ _ _ _ _ (heap_setCell_same _ _ _ _ _ _ HG1.out))), by simpa using hsz, fun j hj => ?_, (((hb1.setCell (by simp) _).setCell (by simp) _).setCell (by simp) _)⟩
        by_cases e : j = k
        · subst e
          exact ⟨(setA (setA (setS (by omega)) (by omega)) (by omega)), (setA (setS (by simp only [Array.size_setIfInBounds]; omega)) (by omega)), (setS (by simp only [Array.size_setIfInBounds]; omega))⟩
        · exact ⟨(setA (setA (setA (hall j (by omega)).1 (by omega)) (by omega)) (by omega)), (setA (setA (setA (hall j (by omega)).2.1 (by omega)) (by omega)) (by omega)), (setA (setA (setA (hall j (by omega)).2.2 (by omega)) (by omega)) (by omega))⟩
      case measure => simp [intOf]; omega
    · obtain rfl : k = n := by omega
      go_wp2
      go_ret
      refine ⟨_, Nat.le_refl _, rfl, ?_, hb⟩
      unfold FR
      rw [← flat_of hsz hall]
      exact HG.out
set_option maxRecDepth 20000 in
set_option maxHeartbeats 2000000 in
theorem eqFil (s d : ByteArray) (y : Int) (w : World) : Calls Tryd.prog 71 #[.agg #[.string s, .string d, .int .i64 y], .agg #[.string s, .string d, .int .i64 y]] w fun e w' => e = .returned (.bool true) ∧ Below w.heap.size w w' := by
  have hq := eqS_same s
  have hq2 := eqS_same d
  go_enter Tryd.func71, Tryd.ntmps71
  go_wp2
  go_ret
  exact ⟨rfl, bstep (bal _ _) (bal _ _)⟩
set_option maxRecDepth 20000 in
set_option maxHeartbeats 4000000 in
theorem eqFils (a a' : Option Addr) (n c c' : Nat) (F : Nat → Fil) (w : World) (h : FL w a n F) (h' : FL w a' n F) (hn : n ≤ 2097152) :
    Calls Tryd.prog 36 #[.slice a n c, .slice a' n c'] w fun e w' => e = .returned (.bool true) ∧ Below w.heap.size w w' := by
  have hb0 := Below.refl w.heap.size w
  go_enter Tryd.func36, Tryd.ntmps36
  go_wp2
  go_loopw [5] (fun i wr => ∃ k : Nat, k ≤ n ∧ i = .int .i64 k ∧ Below w.heap.size w wr) (fun i _ => n - (intOf i).toNat)
  case atStart => exact ⟨0, by omega, rfl, hb0⟩
  case round =>
    obtain ⟨k, hk, rfl, hb⟩ := hrel
    by_cases hlt : k < n
    · have hkk : (k : Int) < n := by omega
      obtain ⟨b, off, rfl, c0, c1, c2⟩ := h.later hb k hlt
      obtain ⟨b', off', rfl, e0, e1, e2⟩ := h'.later hb k hlt
      go_wp2
      go_region_with (go_at_call 71; refine (eqFil _ _ _ _).mono ?_; rintro e w1 ⟨rfl, hb1⟩)
      all_goals
        go_wp2
        go_roundw
        case rel => exact ⟨k + 1, by omega, by go_num, bstep hb (undrew hb1)⟩
        case measure => simp [intOf]; omega
    · obtain rfl : k = n := by omega
      go_wp2
      go_ret
      exact ⟨rfl, hb⟩
end Go.Proofs.YtdbcihebhgpblaaDoor
