/-
  AppendEntry, the specification's side: what its walks share.
-/
import Derived.Test.YtdbcihebhgpblaaDoorPe
namespace Go.Proofs.YtdbcihebhgpblaaDoor
open Go.RowKit
theorem own_some {w : World} {B m cp : Nat} {ad : Addr} {L : List Fil} (h : OwnL w B (.slice (some ad) m cp) L) : ∃ g, ad = ⟨g, 0, none⟩ ∧ m = L.length := by
  have h1 := h.1
  rcases h.2 with ⟨e, _⟩ | ⟨g, cap', cur, e, _⟩
  · simp at e
  · simp at e
    exact ⟨g, e.1, e.2.1⟩
/-- A step, told by what it answers. -/
theorem sStepE (b off c : Nat) (L : List Fil) (x1 x2 x3 x4 : Int) (x5 : Bool) (kd : Int) (nm dt : ByteArray) (sz r : Int) (M : List Fil) (z2 : Int) (z5 : Bool) (zc : Int) (N : Nat) (w : World) (h : FL w (some ⟨b, off, none⟩) L.length (nthF L)) (hok : Ok6 L x1 x2 N) (hN : N ≤ 1179648) (h1 : 1 ≤ kd) (h5 : kd ≤ 5) (hnm : okFn nm = true) (hdt : dt.size ≤ 131072) (h3 : 0 ≤ x3 ∧ x3 ≤ 1000000000000000) (h4 : 0 ≤ x4 ∧ x4 ≤ 1000000000000000) (hr : FdAt L nm r) (he : stS L x1 x2 x3 x4 x5 kd nm dt sz r = (M, z2, z5, zc)) :
    Calls Tryd.prog 23 #[.agg #[.slice (some ⟨b, off, none⟩) L.length c, .int .i64 x1, .int .i64 x2, .int .i64 x3, .int .i64 x4, .bool x5], .agg #[.int .i64 kd, .string nm, .string dt, .int .i64 sz]] w fun e w' => ∃ g cp, e = .returned (.tuple #[.agg #[.slice (some ⟨g, 0, none⟩) M.length cp, .int .i64 x1, .int .i64 z2, .int .i64 x3, .int .i64 x4, .bool z5], .int .i64 zc]) ∧ OwnL w' w.heap.size (.slice (some ⟨g, 0, none⟩) M.length cp) M ∧ Below w.heap.size w w' := by
  have h2 := sStep b off L.length c L rfl x1 x2 x3 x4 x5 kd nm dt sz r w h (hok.fit hN h1 h5 hnm hdt) hr (hok.ok x3 x4 h3 h4) (by unfold btw; simp; omega) hnm hok.lo hok.hi
  rw [he] at h2
  refine h2.mono ?_
  rintro e w' ⟨ad, m, cp, rfl, hO, hb⟩
  obtain ⟨g, rfl, rfl⟩ := own_some hO
  exact ⟨g, cp, rfl, hO, hb⟩
/-- The boxes of the arguments and one more. -/
structure Ky (w y : World) (cX cL : Array Value) (Q : Nat) (cQ : Array Value) : Prop where
  k : Kx w y cX cL
  qr : y.heap[Q]? = some (.cells cQ 30 (0, 0))
theorem Ky.later {w x y : World} {cX cL cQ : Array Value} {Q : Nat} (h : Ky w x cX cL Q cQ) (hb : Below x.heap.size x y) : Ky w y cX cL Q cQ := ⟨h.k.later hb, rowL h.qr hb⟩
theorem Ky.set8 {w x : World} {cX cL cQ : Array Value} {Q : Nat} (h : Ky w x cX cL Q cQ) (hne : w.heap.size + 1 + 1 < Q) (v0 v1 v2 v3 v4 v5 : Value) : Ky w ((((((x.setCell ⟨w.heap.size + 1 + 1, 0, none⟩ v0).setCell ⟨w.heap.size + 1 + 1, 1, none⟩ v1).setCell ⟨w.heap.size + 1 + 1, 2, none⟩ v2).setCell ⟨w.heap.size + 1 + 1, 3, none⟩ v3).setCell ⟨w.heap.size + 1 + 1, 4, none⟩ v4).setCell ⟨w.heap.size + 1 + 1, 5, none⟩ v5) cX cL Q cQ := ⟨h.k.set8 _ _ _ _ _ _, set6_oth _ _ _ _ _ _ h.qr (by omega)⟩
theorem Ky.set9 {w x : World} {cX cL cQ : Array Value} {Q : Nat} (h : Ky w x cX cL Q cQ) (hne : w.heap.size + 1 + 1 + 1 < Q) (v0 v1 : Value) : Ky w ((x.setCell ⟨w.heap.size + 1 + 1 + 1, 0, none⟩ v0).setCell ⟨w.heap.size + 1 + 1 + 1, 1, none⟩ v1) cX cL Q cQ := ⟨h.k.set9 _ _, set2_oth _ _ h.qr (by omega)⟩
theorem keepG {W : World} {Bo Q o : Nat} {v u : Value} {L : List Fil} {X : Array Value} {fr : Nat × Nat} (h : OwnL W Bo v L) (hQ : W.heap[Q]? = some (.cells X 31 fr)) : OwnL (W.setCell ⟨Q, o, none⟩ u) Bo v L := by
  rcases h.2 with ⟨e, h0⟩ | ⟨g, cap', cur, e, hB, hg, h4⟩
  · exact ⟨h.1, Or.inl ⟨e, h0⟩⟩
  · exact ⟨h.1, Or.inr ⟨g, cap', cur, e, hB, rowO hg (fun e' => by subst e'; rw [hQ] at hg; simp at hg), h4⟩⟩
/-- What stands behind the first five parts of a body. -/
def tl5 (o : Option Code) : Code := match o with
  | some (.seq _ (.seq _ (.seq _ (.seq _ (.seq _ c))))) => c
  | _ => .skip
/-- No step but truncation answers 16. -/
theorem do_16 (L : List Fil) (x1 kd : Int) (nm dt : ByteArray) (sz r : Int) (hk : kd ≠ 4) : (doS L x1 kd nm dt sz r).2 ≠ 16 := by
  unfold doS
  repeat' split
  all_goals first | (simp; done) | omega
theorem st_16 {L M : List Fil} {x1 x2 x3 x4 : Int} {x5 : Bool} {kd : Int} {nm dt : ByteArray} {sz r z2 : Int} {z5 : Bool} {zc : Int} (he : stS L x1 x2 x3 x4 x5 kd nm dt sz r = (M, z2, z5, zc)) (hk : kd ≠ 4) : zc ≠ 16 := by
  have h1 := do_16 L x1 kd nm dt sz r hk
  have h2 : zc = (stS L x1 x2 x3 x4 x5 kd nm dt sz r).2.2.2 := by rw [he]
  rw [h2]
  unfold stS
  repeat' split
  all_goals first | exact h1 | simp
end Go.Proofs.YtdbcihebhgpblaaDoor
