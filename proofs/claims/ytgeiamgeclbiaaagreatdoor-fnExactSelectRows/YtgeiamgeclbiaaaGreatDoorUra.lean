/-
  Update carried out: what it means.
-/
import Derived.Test.YtgeiamgeclbiaaaGreatDoorUq
namespace Go.Proofs.YtgeiamgeclbiaaaGreatDoor
open Go.RowKit Go.Maps Go.WideMaps
/-- A row with one value changed. -/
def upd (F : Nat → Itm) (q : Nat) (v : Itm) : Nat → Itm := fun j => if j = q then v else F j
/-- The rows so far, changed where they fit. -/
def chS (C : Nat → Clm) (n : Nat) (m : Nat → Nat) (R : Nat → Nat → Itm) (q : Nat) (E : Nat → Itm) (n5 : Nat) (W : Nat → Itm) (n6 : Nat) : Nat → List Rw
  | 0 => []
  | k + 1 => chS C n m R q E n5 W n6 k ++ [(m k, if fitB C n (R k) W n6 = true then upd (R k) q (vlR C n (R k) E n5) else R k)]
/-- Is a new text too long in a row before this one? -/
def bigS (C : Nat → Clm) (n : Nat) (R : Nat → Nat → Itm) (E : Nat → Itm) (n5 : Nat) (W : Nat → Itm) (n6 : Nat) : Nat → Bool
  | 0 => false
  | k + 1 => bigS C n R E n5 W n6 k || (fitB C n (R k) W n6 && decide (200 < (vlR C n (R k) E n5).s.size))
theorem bigS_mono {C : Nat → Clm} {n : Nat} {R : Nat → Nat → Itm} {E : Nat → Itm} {n5 : Nat} {W : Nat → Itm} {n6 k : Nat} (h : bigS C n R E n5 W n6 k = true) : ∀ r, k ≤ r → bigS C n R E n5 W n6 r = true := by
  intro r hr
  induction r with
  | zero => obtain rfl : k = 0 := by omega
            exact h
  | succ r ih =>
    by_cases e : k = r + 1
    · subst e; exact h
    · rw [bigS, ih (by omega)]; rfl
theorem chS_len {C : Nat → Clm} {n : Nat} {m : Nat → Nat} {R : Nat → Nat → Itm} {q : Nat} {E : Nat → Itm} {n5 : Nat} {W : Nat → Itm} {n6 : Nat} : ∀ {k : Nat}, (chS C n m R q E n5 W n6 k).length = k
  | 0 => rfl
  | k + 1 => by rw [chS, List.length_append, chS_len]; rfl
/-- Two neighbours of one key. -/
def dupB (A : List Rw) : Nat → Bool
  | 0 => false
  | k + 1 => dupB A k || (decide (0 < k) && decide (keyC (A.getD (k - 1) r0) (A.getD k r0) = 0))
theorem dupB_mono {A : List Rw} {k : Nat} (h : dupB A k = true) : ∀ r, k ≤ r → dupB A r = true := by
  intro r hr
  induction r with
  | zero => obtain rfl : k = 0 := by omega
            exact h
  | succ r ih =>
    by_cases e : k = r + 1
    · subst e; exact h
    · rw [dupB, ih (by omega)]; rfl
/-- The first code of an Update. -/
def upC (C : Nat → Clm) (n : Nat) (q : Nat) (E : Nat → Itm) (n5 : Nat) (W : Nat → Itm) (n6 : Nat) : Int :=
  if ¬ (ckR C n E n5).2 = 0 then (ckR C n E n5).2 else if ¬ (ckR C n E n5).1 = (C q).t then 4 else cwR C n W n6
def upRows (dn : Nat) (dC : Nat → Clm) (dr : Nat) (dm : Nat → Nat) (dR : Nat → Nat → Itm) (q : Nat) (E : Nat → Itm) (n5 : Nat) (W : Nat → Itm) (n6 : Nat) : List Rw := srt dr (chS dC dn dm dR q E n5 W n6 dr)
def upA (T : Nat → Td) (n : Nat) (ds : ByteArray) (dn : Nat) (dC : Nat → Clm) (dr : Nat) (dm : Nat → Nat) (dR : Nat → Nat → Itm) (col : ByteArray) (E : Nat → Itm) (n5 : Nat) (W : Nat → Itm) (n6 : Nat) : List Td × Int :=
  match colI dC col dn with
  | none => (tlL T n, 3)
  | some q => if ¬ upC dC dn q E n5 W n6 = 0 then (tlL T n, upC dC dn q E n5 W n6) else if bigS dC dn dR E n5 W n6 dr = true then (tlL T n, 6)
    else if dupB (upRows dn dC dr dm dR q E n5 W n6) dr = true then (tlL T n, 5) else (wtL T (tabR ds dn dC (upRows dn dC dr dm dR q E n5 W n6)) n, 0)
/-- A row of its own with one value changed. -/
theorem own_upd {w : World} {G g cap n q : Nat} {I : Nat → Itm} {x : Itm} (h : w.ownsRow G 66 3 (.slice (some ⟨g, 0, none⟩) n cap) n (flt (fun k => v3 (I k)) n)) (hs : ∀ k, k < n → (I k).s.size ≤ 1048576) (hx : x.s.size ≤ 1048576) (hq : q < n) : IL (((w.setCell ⟨g, q * 3, none⟩ (.int .i64 x.o)).setCell ⟨g, q * 3 + 1, none⟩ (.int .i64 x.m)).setCell ⟨g, q * 3 + 2, none⟩ (.string x.s)) (some ⟨g, 0, none⟩) n (upd I q x) := by
  have hI := own_il h hs
  rcases h.2 with ⟨e, -⟩ | ⟨g', cap', cur, e, -, hrow, hc, -, hsz, -⟩
  · simp at e
  · obtain ⟨rfl, rfl⟩ : g = g' ∧ cap = cap' := by simpa using e
    have hr := heap_setCell_same _ _ (q * 3 + 2) _ _ (.string x.s) (heap_setCell_same _ _ (q * 3 + 1) _ _ (.int .i64 x.m) (heap_setCell_same _ _ (q * 3) _ _ (.int .i64 x.o) hrow))
    intro k hk
    obtain ⟨b, off, e2, c0, c1, c2, -⟩ := hI k hk
    obtain ⟨rfl, rfl⟩ : g = b ∧ 0 = off := by simpa using e2
    have hcur : ∀ i v, w.cell? ⟨g, i, none⟩ = some v → cur[i]? = some v := fun i v hv => by
      have := cell_of_row w g i _ _ _ hrow
      rw [this] at hv
      exact hv
    rw [Nat.zero_add] at c0 c1 c2
    have d0 := hcur _ _ c0
    have d1 := hcur _ _ c1
    have d2 := hcur _ _ c2
    refine ⟨g, 0, rfl, ?_, ?_, ?_, ?_⟩
    all_goals try rw [Nat.zero_add]
    · rw [cell_of_row _ g _ _ _ _ hr]
      unfold upd
      by_cases e : k = q
      · subst e
        simp [Array.getElem?_setIfInBounds]
        omega
      · rw [if_neg e]
        simp only [Array.getElem?_setIfInBounds]
        rw [if_neg (by omega), if_neg (by omega), if_neg (by omega)]
        exact d0
    · rw [cell_of_row _ g _ _ _ _ hr]
      unfold upd
      by_cases e : k = q
      · subst e
        simp [Array.getElem?_setIfInBounds]
        omega
      · rw [if_neg e]
        simp only [Array.getElem?_setIfInBounds]
        rw [if_neg (by omega), if_neg (by omega), if_neg (by omega)]
        exact d1
    · rw [cell_of_row _ g _ _ _ _ hr]
      unfold upd
      by_cases e : k = q
      · subst e
        simp [Array.getElem?_setIfInBounds]
        omega
      · rw [if_neg e]
        simp only [Array.getElem?_setIfInBounds]
        rw [if_neg (by omega), if_neg (by omega), if_neg (by omega)]
        exact d2
    · unfold upd
      split
      · exact hx
      · exact hs k hk
end Go.Proofs.YtgeiamgeclbiaaaGreatDoor
