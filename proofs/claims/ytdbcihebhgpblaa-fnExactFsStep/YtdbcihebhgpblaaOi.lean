/-
  FsStep, the program's side: step.
-/
import Derived.Test.YtdbcihebhgpblaaOh
namespace Go.Proofs.Ytdbcihebhgpblaa
open Go.RowKit
theorem tk_or (L : List Fil) (x1 x2 x3 x4 : Int) (x5 : Bool) (kd : Int) (nm dt : ByteArray) (sz r : Int) (h0 : 0 ≤ x2) :
    (∃ c d cd, tk x2 x3 x4 x5 = (c, d, cd) ∧ cd ≠ 0 ∧ stS L x1 x2 x3 x4 x5 kd nm dt sz r = (L, c, d, cd)) ∨ (tk x2 x3 x4 x5 = (x2 + 1, x5, 0) ∧ stS L x1 x2 x3 x4 x5 kd nm dt sz r = ((doS L x1 kd nm dt sz r).1, x2 + 1, x5, (doS L x1 kd nm dt sz r).2)) := by
  unfold tk stS
  by_cases h1 : x5 = true
  · rw [if_pos h1, if_pos h1]; exact Or.inl ⟨_, _, _, rfl, by omega, rfl⟩
  rw [if_neg h1, if_neg h1]
  by_cases h2 : x2 = 1000000000000000
  · rw [if_pos h2, if_pos h2]; exact Or.inl ⟨_, _, _, rfl, by omega, rfl⟩
  rw [if_neg h2, if_neg h2]
  by_cases h3 : x2 + 1 = x3
  · rw [if_pos h3, if_pos ⟨by omega, h3⟩]; exact Or.inl ⟨_, _, _, rfl, by omega, rfl⟩
  rw [if_neg h3, if_neg (show ¬ (x3 ≠ 0 ∧ x2 + 1 = x3) from fun h => h3 h.2)]
  by_cases h4 : x2 + 1 = x4
  · rw [if_pos h4, if_pos ⟨by omega, h4⟩]; exact Or.inl ⟨_, _, _, rfl, by omega, rfl⟩
  rw [if_neg h4, if_neg (show ¬ (x4 ≠ 0 ∧ x2 + 1 = x4) from fun h => h4 h.2)]
  exact Or.inr ⟨rfl, rfl⟩
theorem cells_setd (L : List Fil) (i : Nat) (h : i < L.length) (d : ByteArray) : ((L.map cellsF).flatten).set (i * 3 + 1) (.string d) = ((L.set i ⟨(nthF L i).s, d, (nthF L i).y⟩).map cellsF).flatten := by
  induction L generalizing i with
  | nil => simp at h
  | cons g L ih =>
    cases i with
    | zero => simp [cellsF, nthF]
    | succ i =>
      have := ih i (by simpa using h)
      rw [show (i + 1) * 3 + 1 = (i * 3 + 1) + 3 by omega]
      simp [cellsF, nthF] at this ⊢
      exact this
theorem cells_sety (L : List Fil) (i : Nat) (h : i < L.length) (y : Int) : ((L.map cellsF).flatten).set (i * 3 + 2) (.int .i64 y) = ((L.set i ⟨(nthF L i).s, (nthF L i).d, y⟩).map cellsF).flatten := by
  induction L generalizing i with
  | nil => simp at h
  | cons g L ih =>
    cases i with
    | zero => simp [cellsF, nthF]
    | succ i =>
      have := ih i (by simpa using h)
      rw [show (i + 1) * 3 + 2 = (i * 3 + 2) + 3 by omega]
      simp [cellsF, nthF] at this ⊢
      exact this
theorem OwnL.set_ {w : World} {B g cap o : Nat} {v : Value} {L M : List Fil} (h : OwnL w B (.slice (some ⟨g, 0, none⟩) L.length cap) L) (hM : M.length = L.length) (he : ((L.map cellsF).flatten).set o v = (M.map cellsF).flatten) : OwnL (w.setCell ⟨g, o, none⟩ v) B (.slice (some ⟨g, 0, none⟩) L.length cap) M := by
  rcases h.2 with ⟨e, _⟩ | ⟨g', cap', cur, e, hB, hg, h1, h2, h3, h4⟩
  · cases e
  · obtain ⟨rfl, rfl⟩ : g = g' ∧ cap = cap' := by simpa using e
    refine ⟨cells_len _, Or.inr ⟨g, cap, _, by rw [hM], hB, heap_setCell_same _ _ o _ _ _ hg, by omega, h2, by simpa using h3, ?_⟩⟩
    rw [hM, Array.toList_setIfInBounds, List.take_set, h4, he]
theorem OwnL.setd {w : World} {B g cap i : Nat} {L : List Fil} (h : OwnL w B (.slice (some ⟨g, 0, none⟩) L.length cap) L) (hi : i < L.length) (d : ByteArray) : OwnL (w.setCell ⟨g, i * 3 + 1, none⟩ (.string d)) B (.slice (some ⟨g, 0, none⟩) L.length cap) (L.set i ⟨(nthF L i).s, d, (nthF L i).y⟩) :=
  h.set_ (by simp) (cells_setd L i hi d)
theorem OwnL.sety {w : World} {B g cap i : Nat} {L : List Fil} (h : OwnL w B (.slice (some ⟨g, 0, none⟩) L.length cap) L) (hi : i < L.length) (y : Int) : OwnL (w.setCell ⟨g, i * 3 + 2, none⟩ (.int .i64 y)) B (.slice (some ⟨g, 0, none⟩) L.length cap) (L.set i ⟨(nthF L i).s, (nthF L i).d, y⟩) :=
  h.set_ (by simp) (cells_sety L i hi y)
theorem OwnL.fz {w : World} {B g n cap o : Nat} {L : List Fil} (h : OwnL w B (.slice (some ⟨g, 0, none⟩) n cap) L) : w.frozen? ⟨g, o, none⟩ = false := by
  obtain ⟨_, cur, hg⟩ := h.in
  exact frozen_of_row _ _ o _ _ hg
/-- What a step leaves. -/
def StI (w w' : World) (p B : Nat) (x1 x3 x4 : Int) (S : List Fil × Int × Bool × Int) (e : Ending) : Prop := e = .returned (.int .i64 S.2.2.2) ∧ Dk w' p B S.1 x1 S.2.1 x3 x4 S.2.2.1 ∧ Below B w w'
set_option maxRecDepth 20000 in
set_option maxHeartbeats 4000000 in
theorem iStep0 (p B : Nat) (L : List Fil) (x1 x2 x3 x4 : Int) (x5 : Bool) (kd : Int) (nm dt : ByteArray) (sz r c : Int) (d : Bool) (cd : Int) (w : World) (h : Dk w p B L x1 x2 x3 x4 x5) (hx0 : 0 ≤ x2) (hx1 : x2 ≤ 1000000000000000) (ht : tk x2 x3 x4 x5 = (c, d, cd)) (hcd : cd ≠ 0) (hst : stS L x1 x2 x3 x4 x5 kd nm dt sz r = (L, c, d, cd)) :
    Calls Try.prog 59 #[.pointer (some ⟨p, 0, none⟩), .agg #[.int .i64 kd, .string nm, .string dt, .int .i64 sz]] w fun e w' => StI w w' p B x1 x3 x4 (stS L x1 x2 x3 x4 x5 kd nm dt sz r) e := by
  obtain ⟨g, cap, hd, hO, hB⟩ := h
  have HT : Hid (tk x2 x3 x4 x5 = (c, d, cd)) := ht
  have HS : Hid (stS L x1 x2 x3 x4 x5 kd nm dt sz r = (L, c, d, cd)) := hst
  clear ht hst
  have hba := bal w (.cells #[.int .i64 kd, .string nm, .string dt, .int .i64 sz] 49)
  have hda := hd.later hba
  have hOa := hO.later hba
  have hpw : p < w.heap.size := (Array.getElem?_eq_some_iff.1 hd).1
  have hgp : some g ≠ some p := fun e => hd.apart hO (Option.some.inj e)
  have hcd' : (cd == 0) = false := by simp [hcd]
  clear hcd
  go_enter Try.func59, Try.ntmps59
  go_wp2_with (go_at_call 79; refine (iTick p _ x1 x2 x3 x4 x5 _ hda hx0 hx1).mono ?_; rw [HT.out]; rintro e w1 ⟨rfl, hd1, hg1⟩)
  go_ret
  rw [HS.out]
  obtain ⟨_, cur, hgb⟩ := hOa.in
  exact ⟨rfl, ⟨g, cap, hd1, hOa.at_ (hg1.block g (Array.getElem?_eq_some_iff.1 hgb).1 hgp), hB⟩, Below.grown (hba.mono (by omega)) hg1 (by have := hba.size; omega) (fun k e => by cases e; exact hB)⟩
end Go.Proofs.Ytdbcihebhgpblaa
