/-
  AppendEntry: what both sides share.
-/
import Derived.Test.YtdbcihebhgpblaaDoorPd
namespace Go.Proofs.YtdbcihebhgpblaaDoor
open Go.RowKit
theorem results_cell2_tmp {P : Program} {fn : Func} {p p' t0 : Tmp} {ty ty' : TypeId} (h : fn.results = #[.cell p ty, .cell p' ty', .tmp t0]) (tmps : Array Value) (w : World) (g : Nat) (t : TypeId) (cs : Array Value) (fr : Nat × Nat) (d : TypeDesc)
    (hp : tmps.getD p undef = .pointer (some ⟨g, 0, none⟩)) (hg : w.heap[g]? = some (.cells cs t fr))
    (hu : P.underlying ty = some d) (hd : (match d with | .struct _ | .array _ _ => true | _ => false) = true) (hi : (P.info? ty).map (·.size) = some cs.size)
    (g' : Nat) (t' : TypeId) (cs' : Array Value) (fr' : Nat × Nat) (d' : TypeDesc)
    (hp' : tmps.getD p' undef = .pointer (some ⟨g', 0, none⟩)) (hg' : w.heap[g']? = some (.cells cs' t' fr'))
    (hu' : P.underlying ty' = some d') (hd' : (match d' with | .struct _ | .array _ _ => true | _ => false) = true) (hi' : (P.info? ty').map (·.size) = some cs'.size) :
    (results fn tmps).run P w = .ok (.tuple #[.agg cs, .agg cs', tmps.getD t0 undef]) w := by
  have hp1 : tmps[p]?.getD undef = .pointer (some ⟨g, 0, none⟩) := by simpa using hp
  have hp2 : tmps[p']?.getD undef = .pointer (some ⟨g', 0, none⟩) := by simpa using hp'
  simp [results, h, hp1, hp2, asAddr, run_loadVar_row w g t ty cs fr d hg hu hd hi, run_loadVar_row w g' t' ty' cs' fr' d' hg' hu' hd' hi']
theorem four (w : World) (a b c d : Obj) : ((((w.alloc a).alloc b).alloc c).alloc d).heap[w.heap.size]? = some a ∧ ((((w.alloc a).alloc b).alloc c).alloc d).heap[w.heap.size + 1]? = some b ∧ ((((w.alloc a).alloc b).alloc c).alloc d).heap[w.heap.size + 1 + 1]? = some c ∧ ((((w.alloc a).alloc b).alloc c).alloc d).heap[w.heap.size + 1 + 1 + 1]? = some d ∧ Below w.heap.size w ((((w.alloc a).alloc b).alloc c).alloc d) := by
  have h1 := heap_alloc_new w a
  have h2 := heap_alloc_new (w.alloc a) b
  have h3 := heap_alloc_new ((w.alloc a).alloc b) c
  have h4 := heap_alloc_new (((w.alloc a).alloc b).alloc c) d
  simp only [World.size_alloc] at h2 h3 h4
  exact ⟨rowL h1 (bstep (bal _ _) (bstep (bal _ _) (bal _ _))), rowL h2 (bstep (bal _ _) (bal _ _)), rowL h3 (bal _ _), h4, bstep (bal _ _) (bstep (bal _ _) (bstep (bal _ _) (bal _ _)))⟩
theorem set2_row {V : World} {Q : Nat} {t : TypeId} {z0 z1 : Value} (v0 v1 : Value) (h : V.heap[Q]? = some (.cells #[z0, z1] t (0, 0))) : ((V.setCell ⟨Q, 0, none⟩ v0).setCell ⟨Q, 1, none⟩ v1).heap[Q]? = some (.cells #[v0, v1] t (0, 0)) :=
  heap_setCell_same _ _ 1 _ _ _ (heap_setCell_same _ _ 0 _ _ _ h)
theorem set2_oth {V : World} {Q P : Nat} {o : Obj} (v0 v1 : Value) (h : V.heap[P]? = some o) (hne : P ≠ Q) : ((V.setCell ⟨Q, 0, none⟩ v0).setCell ⟨Q, 1, none⟩ v1).heap[P]? = some o := rowO (rowO h hne) hne
theorem set2_below {w V : World} {Q : Nat} (v0 v1 : Value) (h : Below w.heap.size w V) (hQ : w.heap.size ≤ Q) : Below w.heap.size w ((V.setCell ⟨Q, 0, none⟩ v0).setCell ⟨Q, 1, none⟩ v1) := bset (bset h hQ) hQ
theorem keep2 {W : World} {Bo Q : Nat} {v : Value} {L : List Fil} {X : Array Value} {fr : Nat × Nat} {v0 v1 : Value} (h : OwnL W Bo v L) (hQ : W.heap[Q]? = some (.cells X 31 fr)) : OwnL ((W.setCell ⟨Q, 0, none⟩ v0).setCell ⟨Q, 1, none⟩ v1) Bo v L := by
  rcases h.2 with ⟨e, h0⟩ | ⟨g, cap', cur, e, hB, hg, h4⟩
  · exact ⟨h.1, Or.inl ⟨e, h0⟩⟩
  · exact ⟨h.1, Or.inr ⟨g, cap', cur, e, hB, set2_oth _ _ hg (fun e' => by subst e'; rw [hQ] at hg; simp at hg), h4⟩⟩
/-- The boxes of the arguments lie there. -/
structure Kx (w y : World) (cX cL : Array Value) : Prop where
  b : Below w.heap.size w y
  xr : y.heap[w.heap.size]? = some (.cells cX 30 (0, 0))
  lr : y.heap[w.heap.size + 1]? = some (.cells cL 31 (0, 0))
theorem Kx.later {w x y : World} {cX cL : Array Value} (h : Kx w x cX cL) (hb : Below x.heap.size x y) : Kx w y cX cL := ⟨bstep h.b hb, rowL h.xr hb, rowL h.lr hb⟩
theorem Kx.set8 {w x : World} {cX cL : Array Value} (h : Kx w x cX cL) (v0 v1 v2 v3 v4 v5 : Value) : Kx w ((((((x.setCell ⟨w.heap.size + 1 + 1, 0, none⟩ v0).setCell ⟨w.heap.size + 1 + 1, 1, none⟩ v1).setCell ⟨w.heap.size + 1 + 1, 2, none⟩ v2).setCell ⟨w.heap.size + 1 + 1, 3, none⟩ v3).setCell ⟨w.heap.size + 1 + 1, 4, none⟩ v4).setCell ⟨w.heap.size + 1 + 1, 5, none⟩ v5) cX cL := ⟨set6_below _ _ _ _ _ _ h.b (by omega), set6_oth _ _ _ _ _ _ h.xr (by omega), set6_oth _ _ _ _ _ _ h.lr (by omega)⟩
theorem Kx.set9 {w x : World} {cX cL : Array Value} (h : Kx w x cX cL) (v0 v1 : Value) : Kx w ((x.setCell ⟨w.heap.size + 1 + 1 + 1, 0, none⟩ v0).setCell ⟨w.heap.size + 1 + 1 + 1, 1, none⟩ v1) cX cL := ⟨set2_below _ _ h.b (by omega), set2_oth _ _ h.xr (by omega), set2_oth _ _ h.lr (by omega)⟩
/-- What both sides answer. -/
def RE (M : List Fil) (z1 z2 z3 z4 : Int) (z5 : Bool) (l' s' zc : Int) (w : World) (e : Ending) (w' : World) : Prop := ∃ av cv, e = .returned (.tuple #[.agg #[.slice av M.length cv, .int .i64 z1, .int .i64 z2, .int .i64 z3, .int .i64 z4, .bool z5], .agg #[.int .i64 l', .int .i64 s'], .int .i64 zc]) ∧ OwnF w' w.heap.size (.slice av M.length cv) M.length (nthF M) ∧ Below w.heap.size w w'
theorem iFrameE (s f : ByteArray) (hf : frm s = f) (w : World) (hs : s.size ≤ 1048576) : Calls Tryd.prog 26 #[.string s] w fun e w' => e = .returned (.string f) ∧ Below w.heap.size w w' := by subst hf; exact iFrame s w hs
theorem sFrameE (s f : ByteArray) (hf : frm s = f) (w : World) (hs : s.size ≤ 1048576) : Calls Tryd.prog 20 #[.string s] w fun e w' => e = .returned (.string f) ∧ Below w.heap.size w w' := by subst hf; exact sFrame s w hs
theorem fin8 {w5 : World} {Q Q' : Nat} {t : TypeId} {z0 z1 z2 z3 z4 z5 : Value} (v0 v1 v2 v3 v4 v5 l0 l1 : Value) (h : w5.heap[Q]? = some (.cells #[z0, z1, z2, z3, z4, z5] t (0, 0))) (hne : Q ≠ Q') :
    ((((((((w5.setCell ⟨Q, 0, none⟩ v0).setCell ⟨Q, 1, none⟩ v1).setCell ⟨Q, 2, none⟩ v2).setCell ⟨Q, 3, none⟩ v3).setCell ⟨Q, 4, none⟩ v4).setCell ⟨Q, 5, none⟩ v5).setCell ⟨Q', 0, none⟩ l0).setCell ⟨Q', 1, none⟩ l1).heap[Q]? = some (.cells #[v0, v1, v2, v3, v4, v5] t (0, 0)) := set2_oth _ _ (set6_row _ _ _ _ _ _ h) hne
theorem fin9 {w5 : World} {Q Q' : Nat} {t : TypeId} {z0 z1 : Value} (v0 v1 v2 v3 v4 v5 l0 l1 : Value) (h : w5.heap[Q']? = some (.cells #[z0, z1] t (0, 0))) (hne : Q' ≠ Q) :
    ((((((((w5.setCell ⟨Q, 0, none⟩ v0).setCell ⟨Q, 1, none⟩ v1).setCell ⟨Q, 2, none⟩ v2).setCell ⟨Q, 3, none⟩ v3).setCell ⟨Q, 4, none⟩ v4).setCell ⟨Q, 5, none⟩ v5).setCell ⟨Q', 0, none⟩ l0).setCell ⟨Q', 1, none⟩ l1).heap[Q']? = some (.cells #[l0, l1] t (0, 0)) := set2_row _ _ (set6_oth _ _ _ _ _ _ h hne)
theorem finO {w5 : World} {Bo Q Q' : Nat} {v : Value} {L : List Fil} {X Y : Array Value} {fr fr' : Nat × Nat} {v0 v1 v2 v3 v4 v5 l0 l1 : Value} (h : OwnL w5 Bo v L) (hQ : w5.heap[Q]? = some (.cells X 30 fr)) (hQ' : w5.heap[Q']? = some (.cells Y 31 fr')) (hne : Q' ≠ Q) :
    OwnL ((((((((w5.setCell ⟨Q, 0, none⟩ v0).setCell ⟨Q, 1, none⟩ v1).setCell ⟨Q, 2, none⟩ v2).setCell ⟨Q, 3, none⟩ v3).setCell ⟨Q, 4, none⟩ v4).setCell ⟨Q, 5, none⟩ v5).setCell ⟨Q', 0, none⟩ l0).setCell ⟨Q', 1, none⟩ l1) Bo v L := keep2 (keep6 h hQ) (set6_oth _ _ _ _ _ _ hQ' hne)
theorem OwnL.wk {w : World} {B B' : Nat} {v : Value} {L : List Fil} (h : OwnL w B v L) (hB : B' ≤ B) : OwnL w B' v L :=
  ⟨h.1, h.2.imp id (fun ⟨g, cap, cur, e1, e2, e3⟩ => ⟨g, cap, cur, e1, Nat.le_trans hB e2, e3⟩)⟩
theorem Dk.set2 {w : World} {p B q : Nat} {L : List Fil} {x1 x2 x3 x4 : Int} {x5 : Bool} {X : Array Value} {fr : Nat × Nat} (h : Dk w p B L x1 x2 x3 x4 x5) (hq : w.heap[q]? = some (.cells X 31 fr)) (hne : p ≠ q) (v0 v1 : Value) : Dk ((w.setCell ⟨q, 0, none⟩ v0).setCell ⟨q, 1, none⟩ v1) p B L x1 x2 x3 x4 x5 := by
  obtain ⟨g, cap, h1, h2, h3⟩ := h
  exact ⟨g, cap, set2_oth _ _ h1 hne, keep2 h2 hq, h3⟩
theorem Dk.set1 {w : World} {p B q o : Nat} {L : List Fil} {x1 x2 x3 x4 : Int} {x5 : Bool} {X : Array Value} {fr : Nat × Nat} (h : Dk w p B L x1 x2 x3 x4 x5) (hq : w.heap[q]? = some (.cells X 31 fr)) (hne : p ≠ q) (v0 : Value) : Dk (w.setCell ⟨q, o, none⟩ v0) p B L x1 x2 x3 x4 x5 := by
  obtain ⟨g, cap, h1, h2, h3⟩ := h
  refine ⟨g, cap, rowO h1 hne, ?_, h3⟩
  rcases h2.2 with ⟨e, h0⟩ | ⟨g, cap', cur, e, hB, hg, h4⟩
  · exact ⟨h2.1, Or.inl ⟨e, h0⟩⟩
  · exact ⟨h2.1, Or.inr ⟨g, cap', cur, e, hB, rowO hg (fun e' => by subst e'; rw [hq] at hg; simp at hg), h4⟩⟩
theorem new2 (w5 : World) (z0 z1 v0 v1 : Value) (t : TypeId) : (((w5.alloc (.cells #[z0, z1] t)).setCell ⟨w5.heap.size, 0, none⟩ v0).setCell ⟨w5.heap.size, 1, none⟩ v1).heap[w5.heap.size]? = some (.cells #[v0, v1] t (0, 0)) ∧ Below w5.heap.size w5 (((w5.alloc (.cells #[z0, z1] t)).setCell ⟨w5.heap.size, 0, none⟩ v0).setCell ⟨w5.heap.size, 1, none⟩ v1) :=
  ⟨set2_row _ _ (heap_alloc_new w5 _), set2_below _ _ (bal _ _) (Nat.le_refl _)⟩
theorem iSegmentE (n : Nat) (z : Int) (hz : z = n) (w : World) (hn : n ≤ 9999) (hT : T10 w) (y : ByteArray) (hy : seg n = y) : Calls Tryd.prog 33 #[.int .i64 z] w fun e w' => e = .returned (.string y) ∧ Below w.heap.size w w' := by subst hz; exact iSegment n w hn hT y hy
theorem sSegmentE (n : Nat) (z : Int) (hz : z = n) (w : World) (hn : n ≤ 10000) (y : ByteArray) (hy : seg n = y) : Calls Tryd.prog 24 #[.int .i64 z] w fun e w' => e = .returned (.string y) ∧ Below w.heap.size w w' := by subst hz; exact sSegment n w hn y hy
end Go.Proofs.YtdbcihebhgpblaaDoor
