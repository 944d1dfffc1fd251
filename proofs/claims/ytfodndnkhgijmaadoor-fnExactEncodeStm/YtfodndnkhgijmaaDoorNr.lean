/-
  The law's own functions over lists of expressions: measured, copied, held against each other.
-/
import Derived.Test.YtfodndnkhgijmaaDoorNq
namespace Go.Proofs.YtfodndnkhgijmaaDoor
open Go.RowKit Go.Maps Go.WideMaps
/-- n expressions, of whatever length. -/
def OX (w : World) (a : Option Addr) (n : Nat) (m : Nat → Nat) (O : Nat → Nat → Itm) : Prop :=
  n ≤ 9223372036854775807 ∧ ∀ k, k < n → ∃ b off i c, a = some ⟨b, off, none⟩ ∧ w.cell? ⟨b, off + k, none⟩ = some (.slice i (m k) c) ∧ IX w i (m k) (O k)
theorem OX.later {w w' : World} {a : Option Addr} {n : Nat} {m : Nat → Nat} {O : Nat → Nat → Itm} (h : OX w a n m O) (hb : Below w.heap.size w w') : OX w' a n m O := ⟨h.1, fun k hk => by
  obtain ⟨b, off, i, c, e, h0, hi⟩ := h.2 k hk
  exact ⟨b, off, i, c, e, keepB hb h0, hi.later hb⟩⟩
theorem OX.small {w : World} {a : Option Addr} {n : Nat} {m : Nat → Nat} {O : Nat → Nat → Itm} (h : OX w a n m O) (hs : ∀ k, k < n → m k ≤ 1048576 ∧ ∀ j, j < m k → (O k j).s.size ≤ 1048576) : OL w a n m O := fun k hk => by
  obtain ⟨b, off, i, c, e, h0, hi⟩ := h.2 k hk
  exact ⟨b, off, i, c, e, h0, hi.small (hs k hk).2, (hs k hk).1⟩
set_option maxRecDepth 20000 in
set_option maxHeartbeats 2000000 in
theorem szOuts (a : Option Addr) (n c : Nat) (m : Nat → Nat) (O : Nat → Nat → Itm) (w : World) (h : OX w a n m O) (L : Int) (h0 : 0 ≤ L) (h1 : L ≤ 1048576) :
    Calls Tryd.prog 30 #[.slice a n c, .int .i64 L] w fun e w' => Below w.heap.size w w' ∧ ∃ r : Int, e = .returned (.int .i64 r) ∧ r ≤ 1048576 ∧ (0 ≤ r → n ≤ 1048576 ∧ ∀ k, k < n → m k ≤ 1048576 ∧ ∀ j, j < m k → (O k j).s.size ≤ 1048576) := by
  have hn := h.1
  have hb0 := Below.refl w.heap.size w
  by_cases hs : (n : Int) ≤ L
  · go_enter Tryd.func30, Tryd.ntmps30
    go_wp2
    go_loopw [1, 5] (fun l i wr => ∃ k : Nat, ∃ x : Int, k ≤ n ∧ i = .int .i64 k ∧ l = .int .i64 x ∧ 0 ≤ x ∧ x ≤ 1048576 ∧ (∀ q, q < k → m q ≤ 1048576 ∧ ∀ j, j < m q → (O q j).s.size ≤ 1048576) ∧ Below w.heap.size w wr) (fun _ i _ => n - (intOf i).toNat)
    case atStart => exact ⟨0, _, by omega, rfl, rfl, by omega, by omega, fun j hj => by omega, hb0⟩
    case round =>
      obtain ⟨k, x, hk, rfl, rfl, hx0, hx1, hall, hb⟩ := hrel
      by_cases hlt : k < n
      · obtain ⟨b, off, i, c', rfl, c0, hi⟩ := (h.later hb).2 k hlt
        go_wp2_with (go_at_call 29; refine (szItms i _ c' _ _ hi _ hx0 hx1).mono ?_; rintro e w1 ⟨hb1, r, rfl, hr1, hr2⟩; replace hb1 := bstep hb hb1; by_cases hr : (0 : Int) ≤ r)
        · go_roundw
          case rel => exact ⟨k + 1, r, by omega, by go_num, rfl, hr, hr1, fun j hj => by
            by_cases e : j = k
            · subst e; exact hr2 hr
            · exact hall j (by omega), hb1⟩
          case measure => simp [intOf]; omega
        · go_ret
          exact ⟨hb1, -1, rfl, by omega, fun hh => by omega⟩
      · obtain rfl : k = n := by omega
        go_wp2
        go_ret
        exact ⟨hb, _, rfl, hx1, fun _ => ⟨by omega, hall⟩⟩
  · go_enter Tryd.func30, Tryd.ntmps30
    go_wp2
    go_ret
    exact ⟨hb0, -1, rfl, by omega, fun hh => by omega⟩
theorem Tryd.infoOut : (Tryd.prog.info? 43).map (fun i => (i.zero, i.size, i.bytes)) = some (some (.slice none 0 0), 1, 24) := by kernel_rfl
theorem IL.set {w : World} {g n B k : Nat} {I : Nat → Itm} {v : Value} (h : IL w (some ⟨g, 0, none⟩) n I) (hne : B ≠ g) : IL (w.setCell ⟨B, k, none⟩ v) (some ⟨g, 0, none⟩) n I := fun j hj => by
  obtain ⟨b, off, e, h0, h1, h2, hs⟩ := h j hj
  obtain ⟨rfl, rfl⟩ : g = b ∧ 0 = off := by simpa using e
  exact ⟨g, 0, rfl, by rw [World.cell?_setCell_far _ _ _ _ hne]; exact h0, by rw [World.cell?_setCell_far _ _ _ _ hne]; exact h1, by rw [World.cell?_setCell_far _ _ _ _ hne]; exact h2, hs⟩
/-- Cells in blocks from G on stay. -/
def Kp (G : Nat) (w w' : World) : Prop := ∀ a v, G ≤ a.block → w.cell? a = some v → w'.cell? a = some v
theorem Kp.of {w w' : World} (G : Nat) (hb : Below w.heap.size w w') : Kp G w w' := fun _ _ _ h => keepB hb h
theorem Kp.trans {G : Nat} {a b c : World} (h : Kp G a b) (k : Kp G b c) : Kp G a c := fun x v hx hc => k x v hx (h x v hx hc)
theorem Kp.set {G B i : Nat} {w : World} {v : Value} (h : B < G) : Kp G w (w.setCell ⟨B, i, none⟩ v) := fun x u hx hc => by
  rw [World.cell?_setCell_far _ _ _ _ (show B ≠ x.block by omega)]; exact hc
theorem CL.kp {G g n : Nat} {w w' : World} {C : Nat → Clm} (h : CL w (some ⟨g, 0, none⟩) n C) (k : Kp G w w') (hg : G ≤ g) : CL w' (some ⟨g, 0, none⟩) n C := fun j hj => by
  obtain ⟨b, off, e, h0, h1, hs⟩ := h j hj
  obtain ⟨rfl, rfl⟩ : g = b ∧ 0 = off := by simpa using e
  exact ⟨g, 0, rfl, k _ _ hg h0, k _ _ hg h1, hs⟩
theorem IL.kp {G g n : Nat} {w w' : World} {I : Nat → Itm} (h : IL w (some ⟨g, 0, none⟩) n I) (k : Kp G w w') (hg : G ≤ g) : IL w' (some ⟨g, 0, none⟩) n I := fun j hj => by
  obtain ⟨b, off, e, h0, h1, h2, hs⟩ := h j hj
  obtain ⟨rfl, rfl⟩ : g = b ∧ 0 = off := by simpa using e
  exact ⟨g, 0, rfl, k _ _ hg h0, k _ _ hg h1, k _ _ hg h2, hs⟩
/-- n expressions, all of them in blocks from G on. -/
def OF (G : Nat) (w : World) (g n : Nat) (m : Nat → Nat) (O : Nat → Nat → Itm) : Prop :=
  ∀ k, k < n → ∃ q, G ≤ q ∧ w.cell? ⟨g, k, none⟩ = some (.slice (some ⟨q, 0, none⟩) (m k) (m k)) ∧ IL w (some ⟨q, 0, none⟩) (m k) (O k) ∧ m k ≤ 1048576
theorem OF.kp {G H g n : Nat} {w w' : World} {m : Nat → Nat} {O : Nat → Nat → Itm} (h : OF G w g n m O) (k : Kp H w w') (hg : H ≤ g) (hG : H ≤ G) : OF G w' g n m O := fun j hj => by
  obtain ⟨q, hq, h0, hi, hm⟩ := h j hj
  exact ⟨q, hq, k _ _ hg h0, hi.kp k (by omega), hm⟩
theorem OF.ol {G g n : Nat} {w : World} {m : Nat → Nat} {O : Nat → Nat → Itm} (h : OF G w g n m O) : OL w (some ⟨g, 0, none⟩) n m O := fun j hj => by
  obtain ⟨q, hq, h0, hi, hm⟩ := h j hj
  exact ⟨g, 0, _, _, rfl, by rw [Nat.zero_add]; exact h0, hi, hm⟩
set_option maxRecDepth 20000 in
set_option maxHeartbeats 4000000 in
theorem toOuts (a : Option Addr) (n c : Nat) (m : Nat → Nat) (O : Nat → Nat → Itm) (w : World) (h : OL w a n m O) (hn : n ≤ 1048576) :
    Calls Tryd.prog 39 #[.slice a n c] w fun e w' => ∃ g, w.heap.size ≤ g ∧ e = .returned (.slice (some ⟨g, 0, none⟩) n n) ∧ OF w.heap.size w' g n m O ∧ Below w.heap.size w w' := by
  have hmk := make_any (t := 44) Tryd.underlying44 Tryd.infoOut n hn (by omega)
  rw [Nat.mul_one] at hmk
  go_enter Tryd.func39, Tryd.ntmps39
  go_wp2
  clear hmk
  go_loopw [4] (fun i wr => ∃ (k : Nat) (cur : Array Value), k ≤ n ∧ i = .int .i64 k ∧ wr.heap[w.heap.size]? = some (.cells cur 43 (0, 0)) ∧ cur.size = n ∧ (∀ j, j < k → ∃ g, w.heap.size < g ∧ cur[j]? = some (.slice (some ⟨g, 0, none⟩) (m j) (m j)) ∧ IL wr (some ⟨g, 0, none⟩) (m j) (O j)) ∧ Below w.heap.size w wr) (fun i _ => n - (intOf i).toNat)
  case atStart => exact ⟨0, _, by omega, rfl, heap_alloc_new _ _, made_size _ _, fun j hj => by omega, bal _ _⟩
  case round =>
    obtain ⟨k, cur, hk, rfl, hG, hsz, hall, hb⟩ := hrel
    have HG : Hid (wr.heap[w.heap.size]? = some (.cells cur 43 (0, 0))) := hG
    clear hG
    by_cases hlt : k < n
    · obtain ⟨b, off, i, c', rfl, c0, hi, hm⟩ := h.later hb k hlt
      obtain ⟨v0, hv0⟩ := there (A := cur) (k := k) (by omega)
      have hlw := (Array.getElem?_eq_some_iff.1 HG.out).1
      go_wp2_with (go_at_call 38; refine (toItms i _ c' _ _ hi hm).mono ?_; rintro e w1 ⟨g1, hg1, rfl, hI1, hb1⟩; have HG1 : Hid (w1.heap[w.heap.size]? = some (.cells cur 43 (0, 0))) := (hb1.block _ hlw).trans HG.out; have g0 : w1.cell? ⟨w.heap.size, k, none⟩ = some v0 := (cell_of_row w1 _ _ _ _ _ HG1.out).trans hv0; have f0 : w1.frozen? ⟨w.heap.size, k, none⟩ = false := frozen_of_row w1 _ _ _ _ HG1.out; have hbo := hb1; replace hb1 := bstep hb hb1)
      go_roundw
      case rel =>
        refine ⟨k + 1, cur.setIfInBounds k (.slice (some ⟨g1, 0, none⟩) (m k) (m k)), by omega, by go_num, heap_setCell_same _ _ _ _ _ _ HG1.out, by simpa using hsz, fun j hj => ?_, hb1.setCell (by simp) _⟩
        by_cases e : j = k
        · subst e
          exact ⟨g1, by omega, setS (by omega), hI1.set (by omega)⟩
        · obtain ⟨g, hg, hcur, hI⟩ := hall j (by omega)
          exact ⟨g, hg, setA hcur (by omega), (hI.later hbo).set (by omega)⟩
      case measure => simp [intOf]; omega
    · obtain rfl : k = n := by omega
      go_wp2
      go_ret
      refine ⟨_, Nat.le_refl _, rfl, fun j hj => ?_, hb⟩
      obtain ⟨g, hg, hcur, hI⟩ := hall j hj
      obtain ⟨_, _, _, _, _, _, _, hm⟩ := h j hj
      exact ⟨g, by omega, by rw [cell_of_row wr _ _ _ _ _ HG.out]; exact hcur, hI, hm⟩
theorem IL.drew {w : World} {a : Option Addr} {n : Nat} {I : Nat → Itm} (h : IL w a n I) : IL w.drew a n I := h
set_option maxRecDepth 20000 in
set_option maxHeartbeats 4000000 in
theorem eqOuts (a a' : Option Addr) (n c c' : Nat) (m : Nat → Nat) (O : Nat → Nat → Itm) (w : World) (h : OL w a n m O) (h' : OL w a' n m O) (hn : n ≤ 1048576) :
    Calls Tryd.prog 52 #[.slice a n c, .slice a' n c'] w fun e w' => e = .returned (.bool true) ∧ Below w.heap.size w w' := by
  have hb0 := Below.refl w.heap.size w
  go_enter Tryd.func52, Tryd.ntmps52
  go_wp2
  go_loopw [5] (fun i wr => ∃ k : Nat, k ≤ n ∧ i = .int .i64 k ∧ Below w.heap.size w wr) (fun i _ => n - (intOf i).toNat)
  case atStart => exact ⟨0, by omega, rfl, hb0⟩
  case round =>
    obtain ⟨k, hk, rfl, hb⟩ := hrel
    by_cases hlt : k < n
    · have hkk : (k : Int) < n := by omega
      obtain ⟨b, off, i, d, rfl, c0, hi, hm⟩ := h.later hb k hlt
      obtain ⟨b', off', i', d', rfl, c0', hi', -⟩ := h'.later hb k hlt
      go_wp2
      go_region_with (go_at_call 51; refine (eqItms i i' _ d d' _ _ hi.drew hi'.drew hm).mono ?_; rintro e w1 ⟨rfl, hb1⟩)
      all_goals
        go_wp2
        go_roundw
        case rel => exact ⟨k + 1, by omega, by go_num, bstep hb (undrew hb1)⟩
        case measure => simp [intOf]; omega
    · obtain rfl : k = n := by omega
      go_wp2
      go_ret
      exact ⟨rfl, hb⟩
end Go.Proofs.YtfodndnkhgijmaaDoor
