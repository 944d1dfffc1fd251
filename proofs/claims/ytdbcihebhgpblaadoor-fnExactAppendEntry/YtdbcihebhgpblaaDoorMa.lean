/-
  FsStep: the specification's small functions.
-/
import Derived.Test.YtdbcihebhgpblaaDoorKe
namespace Go.Proofs.YtdbcihebhgpblaaDoor
open Go.RowKit
set_option maxRecDepth 20000 in
set_option maxHeartbeats 4000000 in
theorem sFind (a : Option Addr) (n c : Nat) (F : Nat → Fil) (x1 x2 x3 x4 : Int) (x5 : Bool) (s : ByteArray) (w : World) (h : FL w a n F) (hn : n ≤ 2097152) : Calls Tryd.prog 94 #[.agg #[.slice a n c, .int .i64 x1, .int .i64 x2, .int .i64 x3, .int .i64 x4, .bool x5], .string s] w fun e w' => ∃ r : Int, e = .returned (.int .i64 r) ∧ ((r = -1 ∧ ∀ k, k < n → (F k).s ≠ s) ∨ ∃ k : Nat, k < n ∧ r = (k : Int) ∧ (F k).s = s ∧ ∀ j, j < k → (F j).s ≠ s) ∧ Below w.heap.size w w' := by
  have hb0 := bal w (.cells #[.slice a n c, .int .i64 x1, .int .i64 x2, .int .i64 x3, .int .i64 x4, .bool x5] 30)
  go_enter Tryd.func94, Tryd.ntmps94
  go_wp2
  go_loopw [5, 6, 10] (fun _ _ i wr => ∃ k : Nat, k ≤ n ∧ i = .int .i64 k ∧ (∀ j, j < k → (F j).s ≠ s) ∧ Below w.heap.size w wr) (fun _ _ i _ => n - (intOf i).toNat)
  case atStart => exact ⟨0, by omega, rfl, fun j hj => by omega, hb0⟩
  case round =>
    obtain ⟨k, hk, rfl, hall, hb⟩ := hrel
    by_cases hlt : k < n
    · obtain ⟨b, off, rfl, c0, c1, c2⟩ := h.later hb k hlt
      have hq := eqS (F k).s s
      by_cases he : (F k).s = s
      · have hq1 : ((F k).s.toList == s.toList) = true := by rw [hq]; simp [he]
        clear hq
        go_wp2
        go_ret
        exact ⟨k, rfl, Or.inr ⟨k, hlt, rfl, he, hall⟩, bj hb (Below.refl _ _)⟩
      · have hq1 : ((F k).s.toList == s.toList) = false := by rw [hq]; simp [he]
        clear hq
        go_wp2
        go_roundw
        case rel => exact ⟨k + 1, by omega, by go_num, fun j hj => by
          by_cases e : j = k
          · subst e; exact he
          · exact hall j (by omega), bj hb (Below.refl _ _)⟩
        case measure => simp [intOf]; omega
    · obtain rfl : k = n := by omega
      go_wp2
      go_ret
      exact ⟨-1, rfl, Or.inl ⟨rfl, hall⟩, hb⟩
/-- A list of files, by number. -/
def nthF (L : List Fil) : Nat → Fil := fun k => L.getD k ⟨ByteArray.empty, ByteArray.empty, 0⟩
theorem nthF_at (L : List Fil) (k : Nat) (h : k < L.length) : nthF L k = L[k] := by simp [nthF, h]
def cellsF (f : Fil) : List Value := [.string f.s, .string f.d, .int .i64 f.y]
theorem flatL_take (L : List Fil) (m : Nat) (hm : m ≤ L.length) : flatL m (nthF L) = ((L.take m).map cellsF).flatten := by
  induction m with
  | zero => simp [flatL, flat]
  | succ m ih =>
    rw [← flatL_snoc, ih (by omega), List.take_add_one, List.getElem?_eq_getElem (by omega), nthF_at L m (by omega), List.map_append, List.flatten_append]
    rfl
theorem flatL_list (L : List Fil) : flatL L.length (nthF L) = (L.map cellsF).flatten := by
  rw [flatL_take L L.length (Nat.le_refl _), List.take_length]
/-- A slice of these files in a row of its own. -/
def OwnL (w : World) (B : Nat) (v : Value) (L : List Fil) : Prop := w.ownsRow B 92 3 v L.length ((L.map cellsF).flatten)
theorem OwnL.f {w : World} {B : Nat} {v : Value} {L : List Fil} (h : OwnL w B v L) : OwnF w B v L.length (nthF L) := by unfold OwnF; rw [flatL_list]; exact h
theorem OwnF.l {w : World} {B : Nat} {v : Value} {L : List Fil} (h : OwnF w B v L.length (nthF L)) : OwnL w B v L := by unfold OwnF at h; rw [flatL_list] at h; exact h
/-- Files without the one of a name, and with f. -/
def wth (nm : ByteArray) (f : Fil) : List Fil → Bool → List Fil
  | [], p => if p then [] else [f]
  | g :: r, p => (if (!p && Op.bytesLess f.s.toList g.s.toList) = true then [f] else []) ++ ((if g.s = nm then [] else [g]) ++ wth nm f r (p || Op.bytesLess f.s.toList g.s.toList))
end Go.Proofs.YtdbcihebhgpblaaDoor
