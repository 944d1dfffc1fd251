/-
  A tree with one entry more: what stands while the program makes it.
-/
import Derived.Test.YtjbbbfplephkpaaGreatDoorTra
import Derived.Test.YtjbbbfplephkpaaGreatDoorGb
import Derived.Test.YtjbbbfplephkpaaGreatDoorMv
import Derived.Test.YtjbbbfplephkpaaGreatDoorIa
import Derived.Test.YtjbbbfplephkpaaGreatDoorMx
namespace Go.Proofs.YtjbbbfplephkpaaGreatDoor
open Go.RowKit
set_option maxRecDepth 20000 in
theorem append_none (W : World) (g cap c ty : Nat) (a : Option Addr) : (Builtin.append_ #[23, 23] ty #[.slice (some ⟨g, 0, none⟩) 0 cap, .slice a 0 c]).run Tryz.prog W = .ok (.slice (some ⟨g, 0, none⟩) 0 cap) W := by
  obtain ⟨i0, hi, hz0, hz1, hz2⟩ := info_parts Tryz.info9
  cases a <;> simp [Builtin.append_, run_underlying Tryz.underlying23, sizeOf, typeInfo, hi, Builtin.lenOf, Builtin.firstCells, Result.andThen, storeCells, loadCells, loadCellsFrom]
set_option maxRecDepth 20000 in
theorem append_zero (W : World) (g cap c ty n : Nat) (a : Option Addr) (hn : n = 0) : (Builtin.append_ #[23, 23] ty #[.slice (some ⟨g, 0, none⟩) 0 cap, .slice a n c]).run Tryz.prog W = .ok (.slice (some ⟨g, 0, none⟩) n cap) W := by
  subst hn
  exact append_none W g cap c ty a
theorem wpList_run_append {P : Program} {w : World} {ops : Array Oper} {rest : List Oper} {o : Oper} {a : Act} {Q : Exit → Act → World → Prop} (hg : o.guard = none) (x y : Operand) (t t' : TypeId) (hop : o.op = Op.call { callee := Callee.builtin Builtin.append, args := #[x, y], argTypes := #[t, t'] })
    (xv yv v : Value) (hx : a.eval x = xv) (hy : a.eval y = yv) (hrun : ∀ ty, (Builtin.append_ #[t, t'] ty #[xv, yv]).run P w = .ok v w) (hK : wpList P ops Q rest (a.put o.dst v) w) : wpList P ops Q (o :: rest) a w := by
  refine wpList_plain hg fun K' hK' => ?_
  unfold Oper.wp
  simp [execOp, hop, resolve, invoke, builtin, hx, hy, hrun, Result.andThen]
  exact hK' _ _ hK
/-- What stands while the specification's tree grows. -/
structure Gs (z : Int) (n g cap : Nat) (S : Nat → ByteArray) (w w' : World) : Prop where
  c0 : w'.cell? ⟨w.heap.size, 0, none⟩ = some (.int .i64 z)
  t : w'.there (w.heap.size + 1) 0 2
  own : w'.ownsRow (w.heap.size + 2) 9 1 (.slice (some ⟨g, 0, none⟩) n cap) n (strs S n)
  below : Below w.heap.size w w'
  lt2 : w.heap.size + 2 ≤ w'.heap.size
theorem Gs.call {z : Int} {n g cap : Nat} {S : Nat → ByteArray} {w w1 w2 : World} (h : Gs z n g cap S w w1) (hb : Below w1.heap.size w1 w2) : Gs z n g cap S w w2 :=
  ⟨keep hb h.c0, there_later h.t hb, own_later h.own hb, h.below.trans (hb.mono h.below.size), Nat.le_trans h.lt2 hb.size⟩
theorem Gs.drew1 {z : Int} {n g cap : Nat} {S : Nat → ByteArray} {w w1 : World} (h : Gs z n g cap S w w1) : Gs z n g cap S w w1.drew := ⟨h.c0, h.t, h.own, h.below.drew, h.lt2⟩
/-- What is left of it behind an append to the row. -/
structure Gt (z : Int) (w w' : World) : Prop where
  c0 : w'.cell? ⟨w.heap.size, 0, none⟩ = some (.int .i64 z)
  t : w'.there (w.heap.size + 1) 0 2
  below : Below w.heap.size w w'
theorem Gs.appended {z : Int} {n g cap : Nat} {S : Nat → ByteArray} {w w1 w2 : World} (h : Gs z n g cap S w w1) (hg : w1.grownBy w2 (some g)) : Gt z w w2 := by
  obtain ⟨h1, h2, h3, h4⟩ := own_cap h.own
  exact ⟨hg.cell h.c0 (by simp; omega), there_grown h.t hg (by omega), h.below.grown hg h.below.size (fun j hj => by simp at hj; omega)⟩
theorem own_setCells {w : World} {B g n cap : Nat} {xs : List Value} (h : w.ownsRow B 9 1 (.slice (some ⟨g, 0, none⟩) n cap) n xs) (b o : Nat) (vs : List Value) (hb : b < B) : (w.setCells b o vs).ownsRow B 9 1 (.slice (some ⟨g, 0, none⟩) n cap) n xs := by
  have hc := own_cap h
  refine h.kept (row := some b) ⟨?_, ?_, ?_, ?_, fun i hi hne => heap_setCells_other _ _ _ (fun e => hne (by rw [e])) _ _⟩ (Or.inr (by simp [Value.ownBlock]; omega))
  · clear h hc hb; induction vs generalizing o w with
    | nil => rfl
    | cons v r ih => exact (ih (w := w.setCell ⟨b, o, none⟩ v) (o + 1)).trans rfl
  · clear h hc hb; induction vs generalizing o w with
    | nil => rfl
    | cons v r ih => exact (ih (w := w.setCell ⟨b, o, none⟩ v) (o + 1)).trans rfl
  · clear h hc hb; induction vs generalizing o w with
    | nil => rfl
    | cons v r ih => exact (ih (w := w.setCell ⟨b, o, none⟩ v) (o + 1)).trans rfl
  · rw [size_setCells]; exact Nat.le_refl _
set_option maxRecDepth 20000 in
theorem Tryz.info28 : (Tryz.prog.info? 28).map (·.size) = some 2 := by kernel_rfl
end Go.Proofs.YtjbbbfplephkpaaGreatDoor
namespace Go.Proofs.YtjbbbfplephkpaaGreatDoor
open Go.RowKit Go.ChangeMaps
set_option maxRecDepth 20000 in
set_option maxHeartbeats 2000000 in
theorem jleaf_any (k : Int) (b : Nat) (x : ByteArray) (w : World) (hK : KeysAt w) (hx : x.size ≤ 4194304) (X : List Value) (hX : cells8 (pad (leafD k x)) = X) :
    Calls Tryz.prog 26 #[.agg #[.int .i64 k, .map (some b)], .string x] w fun e w' => e = .returned (.agg X.toArray) ∧ Below w.heap.size w w' := by
  obtain ⟨z, hz⟩ : ∃ z, leafD k x = z := ⟨_, rfl⟩
  have hzs : z.size ≤ 32 := by rw [← hz]; exact dg_le _ _
  rw [hz] at hX
  have HZ : Hid (leafD k x = z) := hz
  have HX : Hid (cells8 (pad z) = X) := hX
  have ln : X.length = 32 := by rw [← hX, cells8_len]; exact pad_len _ hzs
  have on3 : ∀ v ∈ X, v.oneCell' = true := by rw [← hX]; exact cells8_one _
  obtain ⟨hzr, hi⟩ := zero_of_info Tryz.info45
  have i3 : Hid ((Tryz.prog.info? 45).map (·.size) = some X.length) := by show (Tryz.prog.info? 45).map (·.size) = some X.length; rw [ln]; exact hi
  have t0 := there_row _ _ _ _ 32 zeros32_size (heap_alloc2_new w (.cells #[.int .i64 k, .map (some b)] 42) (.cells zeros32 45))
  have bK := keys_later hK (below2 w (.cells #[.int .i64 k, .map (some b)] 42) (.cells zeros32 45))
  have HK : Hid (KeysAt ((w.alloc (.cells #[.int .i64 k, .map (some b)] 42)).alloc (.cells zeros32 45))) := bK
  clear hi hz hX hK bK
  go_enter Tryz.func26, Tryz.ntmps26
  go_wp2_with (first | (go_at_call 38; refine (implLeaf_as k x _ HK.out hx z HZ.out).mono ?_; rintro e w1 ⟨rfl, hb1⟩) | (go_at_call 16; refine (markOf_as z _ hzs X HX.out).mono ?_; rintro e w2 ⟨rfl, hb2⟩; have t2 : w2.there (w.heap.size + 1) 0 X.toArray.size := by rw [show X.toArray.size = 32 from ln]; exact there_later (there_later t0 hb1) hb2) | (refine wpList_store_mid rfl 45 (.tmp 4) (.tmp 9) rfl (w.heap.size + 1) 0 X.toArray rfl rfl t2 i3.out (all_oneCell_toArray on3) ?_))
  have b2 : Below w.heap.size w w2 := ((below2 _ _ _).trans (hb1.mono (by simp; omega))).trans (hb2.mono (by have := hb1.size; simp at this; omega))
  exact bodyPost_ret (v := .agg X.toArray) (results_mid Tryz.results26 _ _ (w.heap.size + 1) 0 X _ rfl (World.rangeAt_setCells_same _ _ _ _ t2) Tryz.underlying45 rfl i3.out) rfl ⟨rfl, below_setCells _ _ b2 (by omega)⟩
/-- What stands at the loop's head. b: the map; J: the joiner's box; M: the mark's. -/
structure Gi (k z : Int) (b J M : Nat) (a : Option Addr) (n c : Nat) (S : Nat → ByteArray) (w : World) (X : List Value) (w' : World) : Prop where
  c0 : w'.cell? ⟨w.heap.size, 0, none⟩ = some (.int .i64 z)
  t1 : w'.there (w.heap.size + 1) 0 2
  sl : Sl w' a n S
  j0 : w'.cell? ⟨J, 0, none⟩ = some (.int .i64 k)
  j1 : w'.cell? ⟨J, 1, none⟩ = some (.map (some b))
  r : w'.rangeAt M 0 X
  t : w'.there M 0 32
  keys : KeysAt w'
  dbl : DblAt w' k b 64
  below : Below w.heap.size w w'
  hP : ∀ P off, a = some ⟨P, off, none⟩ → 0 < n → P < w.heap.size
  hb : w.heap.size + 1 < b
  hJ : b < J
  hM : J < M
  hs : M < w'.heap.size
theorem Gi.call {k z : Int} {b J M : Nat} {a : Option Addr} {n c : Nat} {S : Nat → ByteArray} {w w1 w2 : World} {X : List Value} (h : Gi k z b J M a n c S w X w1) (hb : Below w1.heap.size w1 w2) : Gi k z b J M a n c S w X w2 :=
  ⟨keep hb h.c0, there_later h.t1 hb, h.sl.later hb, keep hb h.j0, keep hb h.j1, range_later h.r hb, there_later h.t hb, keys_later h.keys hb, h.dbl.later hb, h.below.trans (hb.mono h.below.size), h.hP, h.hb, h.hJ, h.hM, Nat.lt_of_lt_of_le h.hs hb.size⟩
theorem Gi.drew1 {k z : Int} {b J M : Nat} {a : Option Addr} {n c : Nat} {S : Nat → ByteArray} {w w1 : World} {X : List Value} (h : Gi k z b J M a n c S w X w1) : Gi k z b J M a n c S w X w1.drew :=
  ⟨h.c0, h.t1, h.sl, h.j0, h.j1, h.r, h.t, h.keys, h.dbl, h.below.drew, h.hP, h.hb, h.hJ, h.hM, h.hs⟩
theorem sl_grown {w w' : World} {a : Option Addr} {n : Nat} {S : Nat → ByteArray} {r s : Nat} (h : Sl w a n S) (hP : ∀ P off, a = some ⟨P, off, none⟩ → 0 < n → P < s) (hg : w.grownBy w' (some r)) (hr : s ≤ r) : Sl w' a n S := by
  refine ⟨h.1, fun k hk => ⟨(h.2 k hk).1, ?_⟩⟩
  obtain ⟨b, o, e, hc⟩ := h.at k hk
  have := hP b o e (by omega)
  exact ⟨b, o, e, hg.cell hc (by simp; omega)⟩
theorem Gi.node {k z : Int} {b J M : Nat} {a : Option Addr} {n c : Nat} {S : Nat → ByteArray} {w w1 w2 : World} {X : List Value} (h : Gi k z b J M a n c S w X w1) (hd : DblAt w2 k b 64) (hg : w1.grownBy w2 (some b)) : Gi k z b J M a n c S w X w2 := by
  have h2 := h.hb
  have h3 := h.hJ
  have h4 := h.hM
  have h0 := h.dbl.not0 h.keys
  exact ⟨hg.cell h.c0 (by simp; omega), there_grown h.t1 hg (by omega), sl_grown h.sl h.hP hg (by omega), hg.cell h.j0 (by simp; omega), hg.cell h.j1 (by simp; omega), range_grown h.r hg (by omega), there_grown h.t hg (by omega), fun i hi => hg.cell (h.keys i hi) (by simp; omega), hd, h.below.grown hg h.below.size (fun j hj => by simp at hj; omega), h.hP, h2, h3, h4, Nat.lt_of_lt_of_le h.hs hg.size⟩
theorem Gi.stored {k z : Int} {b J M : Nat} {a : Option Addr} {n c : Nat} {S : Nat → ByteArray} {w w1 : World} {X : List Value} (h : Gi k z b J M a n c S w X w1) (Y : List Value) (hY : Y.length = 32) : Gi k z b J M a n c S w Y (w1.setCells M 0 Y) := by
  have h2 := h.hb
  have h3 := h.hJ
  have h4 := h.hM
  have ht : w1.there M 0 Y.length := by rw [hY]; exact h.t
  refine ⟨(World.cell?_setCells_out _ _ _ _ _ (fun e => by simp at e; omega)).trans h.c0, World.there_setCells h.t1 _ _ _, ⟨h.sl.1, fun i hi => ⟨(h.sl.2 i hi).1, ?_⟩⟩, (World.cell?_setCells_out _ _ _ _ _ (fun e => by simp at e; omega)).trans h.j0, (World.cell?_setCells_out _ _ _ _ _ (fun e => by simp at e; omega)).trans h.j1, World.rangeAt_setCells_same _ _ _ _ ht, World.there_setCells h.t _ _ _,
    fun i hi => (World.cell?_setCells_out _ _ _ _ _ (fun e => by simp at e; omega)).trans (h.keys i hi), ?_, below_setCells _ _ h.below (by omega), h.hP, h2, h3, h4, by rw [size_setCells]; exact h.hs⟩
  · obtain ⟨b', o, e, hc⟩ := h.sl.at i hi
    have := h.hP b' o e (by omega)
    exact ⟨b', o, e, (World.cell?_setCells_out _ _ _ _ _ (fun e => by simp at e; omega)).trans hc⟩
  · obtain ⟨es, clock, h5, h6, h7⟩ := h.dbl
    exact ⟨es, clock, (heap_setCells_other _ _ _ (by omega) _ _).trans h5, h6, h7⟩
/-- What stands ahead of the mark. -/
structure Gj (k z : Int) (b J : Nat) (a : Option Addr) (n c : Nat) (S : Nat → ByteArray) (w w' : World) : Prop where
  c0 : w'.cell? ⟨w.heap.size, 0, none⟩ = some (.int .i64 z)
  c1 : w'.cell? ⟨w.heap.size, 1, none⟩ = some (.slice a n c)
  t1 : w'.there (w.heap.size + 1) 0 2
  sl : Sl w' a n S
  j0 : w'.cell? ⟨J, 0, none⟩ = some (.int .i64 k)
  j1 : w'.cell? ⟨J, 1, none⟩ = some (.map (some b))
  keys : KeysAt w'
  dbl : DblAt w' k b 64
  below : Below w.heap.size w w'
  hP : ∀ P off, a = some ⟨P, off, none⟩ → 0 < n → P < w.heap.size
  hb : w.heap.size + 1 < b
  hJ : b < J
  hs : J < w'.heap.size
theorem Gj.call {k z : Int} {b J : Nat} {a : Option Addr} {n c : Nat} {S : Nat → ByteArray} {w w1 w2 : World} (h : Gj k z b J a n c S w w1) (hb : Below w1.heap.size w1 w2) : Gj k z b J a n c S w w2 :=
  ⟨keep hb h.c0, keep hb h.c1, there_later h.t1 hb, h.sl.later hb, keep hb h.j0, keep hb h.j1, keys_later h.keys hb, h.dbl.later hb, h.below.trans (hb.mono h.below.size), h.hP, h.hb, h.hJ, Nat.lt_of_lt_of_le h.hs hb.size⟩
theorem Gj.drew1 {k z : Int} {b J : Nat} {a : Option Addr} {n c : Nat} {S : Nat → ByteArray} {w w1 : World} (h : Gj k z b J a n c S w w1) : Gj k z b J a n c S w w1.drew :=
  ⟨h.c0, h.c1, h.t1, h.sl, h.j0, h.j1, h.keys, h.dbl, h.below.drew, h.hP, h.hb, h.hJ, h.hs⟩
/-- The mark is laid: the block M, which is new, holds it. -/
theorem Gj.marked {k z : Int} {b J M : Nat} {a : Option Addr} {n c : Nat} {S : Nat → ByteArray} {w w1 : World} (h : Gj k z b J a n c S w w1) (X : List Value) (hX : X.length = 32) (hM : J < M) (hMs : M < w1.heap.size) (ht : w1.there M 0 32) : Gi k z b J M a n c S w X (w1.setCells M 0 X) := by
  have h2 := h.hb
  have h3 := h.hJ
  have ht2 : w1.there M 0 X.length := by rw [hX]; exact ht
  refine ⟨(World.cell?_setCells_out _ _ _ _ _ (fun e => by simp at e; omega)).trans h.c0, World.there_setCells h.t1 _ _ _, ⟨h.sl.1, fun i hi => ⟨(h.sl.2 i hi).1, ?_⟩⟩, (World.cell?_setCells_out _ _ _ _ _ (fun e => by simp at e; omega)).trans h.j0, (World.cell?_setCells_out _ _ _ _ _ (fun e => by simp at e; omega)).trans h.j1, World.rangeAt_setCells_same _ _ _ _ ht2, World.there_setCells ht _ _ _,
    fun i hi => (World.cell?_setCells_out _ _ _ _ _ (fun e => by simp at e; omega)).trans (h.keys i hi), ?_, below_setCells _ _ h.below (by omega), h.hP, h2, h3, hM, by rw [size_setCells]; exact hMs⟩
  · obtain ⟨b', o, e, hc⟩ := h.sl.at i hi
    have := h.hP b' o e (by omega)
    exact ⟨b', o, e, (World.cell?_setCells_out _ _ _ _ _ (fun e => by simp at e; omega)).trans hc⟩
  · obtain ⟨es, clock, h5, h6, h7⟩ := h.dbl
    exact ⟨es, clock, (heap_setCells_other _ _ _ (by omega) _ _).trans h5, h6, h7⟩
end Go.Proofs.YtjbbbfplephkpaaGreatDoor
