/-
  Recovery, the program's side: reading; what its walk shares.
-/
import Derived.Test.YtngppfjphbodcaaGreatDoorQh
import Derived.RangeFuncNested
import Derived.RangeFuncWrites
import Derived.RangeFuncLeaves
namespace Go.Proofs.YtngppfjphbodcaaGreatDoor
open Go.RowKit
theorem keepC {V V' : World} {row : Option Nat} {q : Nat} {X : Array Value} {t : TypeId} {fr : Nat × Nat} (hq : V.heap[q]? = some (.cells X t fr)) (hg : V.grownBy V' row) (hr : ∀ r, row = some r → ∃ o : Obj, V.heap[r]? = some o ∧ o.isCells = false) : V'.heap[q]? = some (.cells X t fr) :=
  rowGr hq hg (fun e => by
    obtain ⟨o, ho, hc⟩ := hr q e.symm
    rw [hq] at ho
    cases ho
    cases hc)
theorem ownC {V V' : World} {row : Option Nat} {B e size g n n' cap : Nat} {xs : List Value} (h : V.ownsRow B e size (.slice (some ⟨g, 0, none⟩) n cap) n' xs) (hg : V.grownBy V' row) (hr : ∀ r, row = some r → ∃ o : Obj, V.heap[r]? = some o ∧ o.isCells = false) : V'.ownsRow B e size (.slice (some ⟨g, 0, none⟩) n cap) n' xs := by
  obtain ⟨_, cur, hc⟩ := orw_in h
  exact orw_at h ((keepC hc hg hr).trans hc.symm)
/-- The boxes of reading: the two results that are not yet written, the log, the entries. -/
structure RS (w V : World) (l g : Int) (gE cE : Nat) (E : List ByteArray) : Prop where
  r1 : V.heap[w.heap.size]? = some (.cells #[.int .i64 0, .int .i64 0] 30 (0, 0))
  r2 : V.heap[w.heap.size + 1]? = some (.cells #[.slice none 0 0] 31 (0, 0))
  lg : V.heap[w.heap.size + 1 + 1 + 1]? = some (.cells #[.int .i64 l, .int .i64 g] 30 (0, 0))
  en : V.heap[w.heap.size + 1 + 1 + 1 + 1]? = some (.cells #[.slice (some ⟨gE, 0, none⟩) E.length cE] 31 (0, 0))
  ow : OwnS V w.heap.size gE cE E
  b : Below w.heap.size w V
theorem RS.later {w V V' : World} {l g : Int} {gE cE : Nat} {E : List ByteArray} (h : RS w V l g gE cE E) (hb : Below V.heap.size V V') : RS w V' l g gE cE E := ⟨rowL h.r1 hb, rowL h.r2 hb, rowL h.lg hb, rowL h.en hb, h.ow.later hb, bstep h.b hb⟩
theorem RS.gr {w V V' : World} {l g : Int} {gE cE : Nat} {E : List ByteArray} {row : Option Nat} (h : RS w V l g gE cE E) (hg : V.grownBy V' row) (hr : ∀ r, row = some r → ∃ o : Obj, V.heap[r]? = some o ∧ o.isCells = false) (hB : ∀ r, row = some r → w.heap.size ≤ r) : RS w V' l g gE cE E :=
  ⟨keepC h.r1 hg hr, keepC h.r2 hg hr, keepC h.lg hg hr, keepC h.en hg hr, ownC h.ow hg hr, h.b.grown hg h.b.size hB⟩
theorem RS.new (w : World) : RS w (((((w.alloc (.cells #[.int .i64 0, .int .i64 0] 30)).alloc (.cells #[.slice none 0 0] 31)).alloc (.cells #[] 9)).alloc (.cells #[.int .i64 0, .int .i64 0] 30)).alloc (.cells #[.slice (some ⟨w.heap.size + 1 + 1, 0, none⟩) 0 0] 31)) 0 0 (w.heap.size + 1 + 1) 0 [] := by
  obtain ⟨h1, h2, h3, h4, hb⟩ := four w (.cells #[.int .i64 0, .int .i64 0] 30) (.cells #[.slice none 0 0] 31) (.cells #[] 9) (.cells #[.int .i64 0, .int .i64 0] 30)
  have h5 := heap_alloc_new ((((w.alloc (.cells #[.int .i64 0, .int .i64 0] 30)).alloc (.cells #[.slice none 0 0] 31)).alloc (.cells #[] 9)).alloc (.cells #[.int .i64 0, .int .i64 0] 30)) (.cells #[.slice (some ⟨w.heap.size + 1 + 1, 0, none⟩) 0 0] 31)
  have h6 := own_nil ((w.alloc (.cells #[.int .i64 0, .int .i64 0] 30)).alloc (.cells #[.slice none 0 0] 31))
  simp only [World.size_alloc] at h5 h6
  exact ⟨rowL h1 (bal _ _), rowL h2 (bal _ _), rowL h4 (bal _ _), h5, ((h6.later (bal _ _)).later (bal _ _)).wk (by omega), bstep hb (bal _ _)⟩
/-- The results are written. -/
structure RZ (w V : World) (l g : Int) (gE cE : Nat) (E : List ByteArray) : Prop where
  r1 : V.heap[w.heap.size]? = some (.cells #[.int .i64 l, .int .i64 g] 30 (0, 0))
  r2 : V.heap[w.heap.size + 1]? = some (.cells #[.slice (some ⟨gE, 0, none⟩) E.length cE] 31 (0, 0))
  ow : OwnS V w.heap.size gE cE E
  b : Below w.heap.size w V
theorem RZ.later {w V V' : World} {l g : Int} {gE cE : Nat} {E : List ByteArray} (h : RZ w V l g gE cE E) (hb : Below V.heap.size V V') : RZ w V' l g gE cE E := ⟨rowL h.r1 hb, rowL h.r2 hb, h.ow.later hb, bstep h.b hb⟩
theorem RZ.gr {w V V' : World} {l g : Int} {gE cE : Nat} {E : List ByteArray} {row : Option Nat} (h : RZ w V l g gE cE E) (hg : V.grownBy V' row) (hr : ∀ r, row = some r → ∃ o : Obj, V.heap[r]? = some o ∧ o.isCells = false) (hB : ∀ r, row = some r → w.heap.size ≤ r) : RZ w V' l g gE cE E :=
  ⟨keepC h.r1 hg hr, keepC h.r2 hg hr, ownC h.ow hg hr, h.b.grown hg h.b.size hB⟩
theorem RS.ne {w V : World} {l g : Int} {gE cE : Nat} {E : List ByteArray} (h : RS w V l g gE cE E) : gE ≠ w.heap.size ∧ gE ≠ w.heap.size + 1 ∧ gE ≠ w.heap.size + 1 + 1 + 1 ∧ gE ≠ w.heap.size + 1 + 1 + 1 + 1 :=
  ⟨orw_ne h.ow h.r1 (by decide), orw_ne h.ow h.r2 (by decide), orw_ne h.ow h.lg (by decide), orw_ne h.ow h.en (by decide)⟩
theorem RS.fin {w V : World} {l g : Int} {gE cE : Nat} {E : List ByteArray} (h : RS w V l g gE cE E) : RZ w (((V.setCell ⟨w.heap.size, 0, none⟩ (.int .i64 l)).setCell ⟨w.heap.size, 1, none⟩ (.int .i64 g)).setCell ⟨w.heap.size + 1, 0, none⟩ (.slice (some ⟨gE, 0, none⟩) E.length cE)) l g gE cE E := by
  obtain ⟨n1, n2, _, _⟩ := h.ne
  exact ⟨rowO (set2_row _ _ h.r1) (by omega), heap_setCell_same _ _ 0 _ _ _ (set2_oth _ _ h.r2 (by omega)), orw_set (orw_set2 h.ow n1 _ _) n2 _ _, bset (set2_below _ _ h.b (by omega)) (by omega)⟩
theorem RS.log {w V : World} {l g : Int} {gE cE : Nat} {E : List ByteArray} (h : RS w V l g gE cE E) (l' g' : Int) : RS w ((V.setCell ⟨w.heap.size + 1 + 1 + 1, 0, none⟩ (.int .i64 l')).setCell ⟨w.heap.size + 1 + 1 + 1, 1, none⟩ (.int .i64 g')) l' g' gE cE E := by
  obtain ⟨_, _, n3, _⟩ := h.ne
  exact ⟨set2_oth _ _ h.r1 (by omega), set2_oth _ _ h.r2 (by omega), set2_row _ _ h.lg, set2_oth _ _ h.en (by omega), orw_set2 h.ow n3 _ _, set2_below _ _ h.b (by omega)⟩
theorem RS.siz {w V : World} {l g : Int} {gE cE : Nat} {E : List ByteArray} (h : RS w V l g gE cE E) (g' : Int) : RS w (V.setCell ⟨w.heap.size + 1 + 1 + 1, 1, none⟩ (.int .i64 g')) l g' gE cE E := by
  obtain ⟨_, _, n3, _⟩ := h.ne
  exact ⟨rowO h.r1 (by omega), rowO h.r2 (by omega), heap_setCell_same _ _ 1 _ _ _ h.lg, rowO h.en (by omega), orw_set h.ow n3 _ _, bset h.b (by omega)⟩
/-- The marks of the loops that ran. -/
def mk (D : Nat) : Deferred := { target := .collected D, args := #[] }
def Mk (w V : World) (Ds : List Nat) : Prop := ∀ D ∈ Ds, w.heap.size ≤ D ∧ V.heap[D]? = some (.deferred (some []))
theorem Mk.later {w V V' : World} {Ds : List Nat} (h : Mk w V Ds) (hb : Below V.heap.size V V') : Mk w V' Ds := fun D hD => ⟨(h D hD).1, rowL (h D hD).2 hb⟩
theorem Mk.lt {w V : World} {Ds : List Nat} (h : Mk w V Ds) {D : Nat} (hD : D ∈ Ds) : D < V.heap.size := (Array.getElem?_eq_some_iff.1 (h D hD).2).1
theorem Mk.set {w V : World} {Ds : List Nat} (h : Mk w V Ds) {Q : Nat} {X : Array Value} {t : TypeId} {fr : Nat × Nat} (hQ : V.heap[Q]? = some (.cells X t fr)) (o : Nat) (v : Value) : Mk w (V.setCell ⟨Q, o, none⟩ v) Ds := fun D hD => ⟨(h D hD).1, rowO (h D hD).2 (fun e => by
  have := (h D hD).2
  rw [e, hQ] at this
  cases this)⟩
theorem Mk.fin {w V : World} {Ds : List Nat} {l g : Int} {gE cE : Nat} {E : List ByteArray} (h : Mk w V Ds) (hS : RS w V l g gE cE E) (v0 v1 v2 : Value) : Mk w (((V.setCell ⟨w.heap.size, 0, none⟩ v0).setCell ⟨w.heap.size, 1, none⟩ v1).setCell ⟨w.heap.size + 1, 0, none⟩ v2) Ds :=
  ((h.set hS.r1 0 v0).set (heap_setCell_same _ _ 0 _ _ _ hS.r1) 1 v1).set (set2_oth _ _ hS.r2 (by omega)) 0 v2
theorem Mk.log {w V : World} {Ds : List Nat} {l g : Int} {gE cE : Nat} {E : List ByteArray} (h : Mk w V Ds) (hS : RS w V l g gE cE E) (v0 v1 : Value) : Mk w ((V.setCell ⟨w.heap.size + 1 + 1 + 1, 0, none⟩ v0).setCell ⟨w.heap.size + 1 + 1 + 1, 1, none⟩ v1) Ds :=
  (h.set hS.lg 0 v0).set (heap_setCell_same _ _ 0 _ _ _ hS.lg) 1 v1
/-- Where a function leaves over such marks. -/
theorem leaves_marks {F : Fence} {n : Nat} {fn : Func} {tmps : Array Value} {R : Ending → World → Prop} {w : World} {l g : Int} {gE cE : Nat} {E : List ByteArray} (hR : ∀ V, RZ w V l g gE cE E → ∃ v, (results fn tmps).run Tryz.prog V = .ok v V ∧ R (.returned v) V) :
    ∀ (Ds : List Nat) (V : World), Ds.Nodup → Mk w V Ds → RZ w V l g gE cE E → LeavesInM F n Tryz.prog fn tmps R (Ds.map mk) .returning V := by
  intro Ds
  induction Ds with
  | nil => intro V _ _ hZ; exact hR V hZ
  | cons D r ih =>
    intro V hN hM hZ
    obtain ⟨hD, hN2⟩ := List.nodup_cons.1 hN
    obtain ⟨h1, h2⟩ := hM D (by simp)
    refine ⟨by simp, .inl ⟨D, _, rfl, run_takeDeferred h2, ?_⟩⟩
    refine ih _ hN2 (fun D' hD' => ⟨(hM D' (by simp [hD'])).1, ?_⟩) ?_
    · exact (World.putObj_heap_other (fun e => hD (by rw [← e]; exact hD'))).trans (hM D' (by simp [hD'])).2
    · exact hZ.gr (grownBy_putObj' V D _) (fun r e => by cases e; exact ⟨_, h2, rfl⟩) (fun r e => by cases e; exact h1)
/-- What the rounds keep: all but logs, lists of texts and texts. -/
structure RK (W W' : World) : Prop where
  size : W.heap.size ≤ W'.heap.size
  k : ∀ (q : Nat) (o : Obj), W.heap[q]? = some o → (∀ X t fr, o = .cells X t fr → t ≠ 30 ∧ t ≠ 31 ∧ t ≠ 9) → W'.heap[q]? = some o
theorem RK.of {W W' : World} (hb : Below W.heap.size W W') : RK W W' := ⟨hb.size, fun _ _ h _ => rowL h hb⟩
theorem RK.trans {A B C : World} (h : RK A B) (k : RK B C) : RK A C := ⟨Nat.le_trans h.size k.size, fun q o h1 h2 => k.k q o (h.k q o h1 h2) h2⟩
theorem RK.set {W V : World} (h : RK W V) {Q : Nat} {X : Array Value} {t : TypeId} {fr : Nat × Nat} (hQ : W.heap[Q]? = some (.cells X t fr)) (ht : t = 30 ∨ t = 31 ∨ t = 9) (o : Nat) (v : Value) : RK W (V.setCell ⟨Q, o, none⟩ v) :=
  ⟨by have := h.size; simpa using this, fun q ob h1 h2 => rowO (h.k q ob h1 h2) (fun e => by
    subst e
    rw [hQ] at h1
    cases h1
    obtain ⟨a, b, c⟩ := h2 X t fr rfl
    rcases ht with ht | ht | ht
    · exact a ht
    · exact b ht
    · exact c ht)⟩
theorem RK.grown {W V V' : World} (h : RK W V) {g : Nat} (hg : V.grownBy V' (some g)) {X : Array Value} {fr : Nat × Nat} (hQ : W.heap[g]? = some (.cells X 9 fr)) : RK W V' :=
  ⟨Nat.le_trans h.size hg.size, fun q o h1 h2 => rowGr (h.k q o h1 h2) hg (fun e => by
    obtain rfl := Option.some.inj e
    rw [hQ] at h1
    cases h1
    exact (h2 X _ fr rfl).2.2 rfl)⟩
theorem RK.from {W W' : World} (h : RK W W') (B : Nat) : KeepsFrom B W W' := ⟨h.size, fun q o _ h1 h2 => h.k q o h1 (fun X t fr e => by subst e; cases h2)⟩
theorem RK.kt {W W' : World} (h : RK W W') : KT W W' := fun b X hX => h.k b _ hX (fun X' t fr e => by
  cases e
  exact ⟨by decide, by decide, by decide⟩)
theorem RK.mks {w W W' : World} {Ds : List Nat} (h : RK W W') (hM : Mk w W Ds) : Mk w W' Ds := fun D hD => ⟨(hM D hD).1, h.k D _ (hM D hD).2 (fun X t fr e => by cases e)⟩
theorem results_c2 {P : Program} {fn : Func} {p p' : Tmp} {ty ty' : TypeId} (h : fn.results = #[.cell p ty, .cell p' ty']) (tmps : Array Value) (w : World) (g : Nat) (t : TypeId) (cs : Array Value) (fr : Nat × Nat) (d : TypeDesc)
    (hp : tmps.getD p undef = .pointer (some ⟨g, 0, none⟩)) (hg : w.heap[g]? = some (.cells cs t fr))
    (hu : P.underlying ty = some d) (hd : (match d with | .struct _ | .array _ _ => true | _ => false) = true) (hi : (P.info? ty).map (·.size) = some cs.size)
    (g' : Nat) (t' : TypeId) (v' : Value) (fr' : Nat × Nat) (e' : TypeId)
    (hp' : tmps.getD p' undef = .pointer (some ⟨g', 0, none⟩)) (hg' : w.heap[g']? = some (.cells #[v'] t' fr'))
    (hu' : P.underlying ty' = some (.slice e')) :
    (results fn tmps).run P w = .ok (.tuple #[.agg cs, v']) w := by
  have hp1 : tmps[p]?.getD undef = .pointer (some ⟨g, 0, none⟩) := by simpa using hp
  have hp2 : tmps[p']?.getD undef = .pointer (some ⟨g', 0, none⟩) := by simpa using hp'
  have hc : w.cell? ⟨g', 0, none⟩ = some v' := (cell_of_row _ _ 0 _ _ _ hg').trans rfl
  have hl : (loadVar ty' ⟨g', 0, none⟩).run P w = .ok v' w := by
    have hagg : (isAgg ty').run P w = .ok false w := by
      unfold isAgg
      rw [Sem.run_bind, run_underlying hu' w]
      simp
    simp [loadVar, Sem.run_bind, hagg, hc, go_sem]
  simp [results, h, hp1, hp2, asAddr, run_loadVar_row w g t ty cs fr d hg hu hd hi, hl]
/-- One more entry. -/
theorem RS.mid {w V V1 : World} {l g : Int} {gE cE : Nat} {F : List ByteArray} {tmp : Obj} (h : RS w V l g gE cE F) (hg : (V.alloc tmp).grownBy V1 (some gE)) : V1.heap[w.heap.size]? = some (.cells #[.int .i64 0, .int .i64 0] 30 (0, 0)) ∧ V1.heap[w.heap.size + 1]? = some (.cells #[.slice none 0 0] 31 (0, 0)) ∧ V1.heap[w.heap.size + 1 + 1 + 1]? = some (.cells #[.int .i64 l, .int .i64 g] 30 (0, 0)) ∧ V1.heap[w.heap.size + 1 + 1 + 1 + 1]? = some (.cells #[.slice (some ⟨gE, 0, none⟩) F.length cE] 31 (0, 0)) := by
  obtain ⟨n1, n2, n3, n4⟩ := h.ne
  have ne : ∀ {k : Nat}, gE ≠ k → some k ≠ some gE := fun hk e => hk (Option.some.inj e).symm
  exact ⟨rowGr (rowL h.r1 (bal _ _)) hg (ne n1), rowGr (rowL h.r2 (bal _ _)) hg (ne n2), rowGr (rowL h.lg (bal _ _)) hg (ne n3), rowGr (rowL h.en (bal _ _)) hg (ne n4)⟩
theorem RS.app {w V V1 : World} {l g : Int} {gE cE : Nat} {F : List ByteArray} {tmp : Obj} {x : ByteArray} {g' cap' : Nat} (h : RS w V l g gE cE F) (hg : (V.alloc tmp).grownBy V1 (some gE)) (ho : V1.ownsRow w.heap.size 9 1 (.slice (some ⟨g', 0, none⟩) (F.length + 1) cap') (F.length + 1) (F.map Value.string ++ [.string x])) : RS w (V1.setCell ⟨w.heap.size + 1 + 1 + 1 + 1, 0, none⟩ (.slice (some ⟨g', 0, none⟩) (F.length + 1) cap')) l g g' cap' (F ++ [x]) := by
  obtain ⟨m1, m2, m3, m4⟩ := h.mid hg
  refine ⟨rowO m1 (by omega), rowO m2 (by omega), rowO m3 (by omega), ?_, ?_, ?_⟩
  · rw [show (F ++ [x]).length = F.length + 1 by simp]
    exact heap_setCell_same _ _ 0 _ _ _ m4
  · have h1 : OwnS V1 w.heap.size g' cap' (F ++ [x]) := by
      unfold OwnS
      simpa using ho
    exact orw_set h1 (orw_ne h1 m4 (by decide)) _ _
  · refine bset ?_ (by omega)
    exact (bstep h.b (bal V tmp)).grown hg (by have := h.b.size; simp; omega) (fun k e => by
      have := (orw_in h.ow).1
      have e2 := Option.some.inj e
      omega)
theorem RS.kept {w V V1 : World} {l g : Int} {gE cE : Nat} {F : List ByteArray} {tmp : Obj} (h : RS w V l g gE cE F) (hg : (V.alloc tmp).grownBy V1 (some gE)) (v v' : Value) : RK V ((V1.setCell ⟨w.heap.size + 1 + 1 + 1 + 1, 0, none⟩ v).setCell ⟨w.heap.size + 1 + 1 + 1, 1, none⟩ v') := by
  obtain ⟨_, cur, hc⟩ := orw_in h.ow
  exact (((RK.of (bal V tmp)).grown hg hc).set h.en (.inr (.inl rfl)) 0 v).set h.lg (.inl rfl) 1 v'
theorem RK.fin {w W V : World} {l g : Int} {gE cE : Nat} {E : List ByteArray} (h : RK W V) (hS : RS w W l g gE cE E) (v0 v1 v2 : Value) : RK W (((V.setCell ⟨w.heap.size, 0, none⟩ v0).setCell ⟨w.heap.size, 1, none⟩ v1).setCell ⟨w.heap.size + 1, 0, none⟩ v2) :=
  ((h.set hS.r1 (.inl rfl) 0 v0).set hS.r1 (.inl rfl) 1 v1).set hS.r2 (.inr (.inl rfl)) 0 v2
end Go.Proofs.YtngppfjphbodcaaGreatDoor
