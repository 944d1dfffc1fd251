/-
  The root of a tree: what stands while the program makes it.
-/
import Derived.Test.YtjbbbfplephkpaaGreatDoorTra
import Derived.Test.YtjbbbfplephkpaaGreatDoorMx
namespace Go.Proofs.YtjbbbfplephkpaaGreatDoor
open Go.RowKit Go.ChangeMaps
/-- What stands at the loop's head. w: the world of the call; b: the map; J: the joiner's box; M: the mark's; P, off: the Peaks' place. -/
structure Tr (k : Int) (b J M P off n c : Nat) (S : Nat → ByteArray) (w : World) (X : List Value) (w' : World) : Prop where
  q : w'.cell? ⟨w.heap.size, 1, none⟩ = some (.slice (some ⟨P, off, none⟩) n c)
  sl : Sl w' (some ⟨P, off, none⟩) n S
  c0 : w'.cell? ⟨J, 0, none⟩ = some (.int .i64 k)
  c1 : w'.cell? ⟨J, 1, none⟩ = some (.map (some b))
  r : w'.rangeAt M 0 X
  t : w'.there M 0 32
  keys : KeysAt w'
  dbl : DblAt w' k b 64
  below : Below w.heap.size w w'
  hP : P < w.heap.size
  hb : w.heap.size < b
  hJ : b < J
  hM : J < M
theorem Tr.call {k : Int} {b J M P off n c : Nat} {S : Nat → ByteArray} {w w1 w2 : World} {X : List Value} (h : Tr k b J M P off n c S w X w1) (hb : Below w1.heap.size w1 w2) : Tr k b J M P off n c S w X w2 :=
  ⟨keep hb h.q, h.sl.later hb, keep hb h.c0, keep hb h.c1, range_later h.r hb, there_later h.t hb, keys_later h.keys hb, h.dbl.later hb, h.below.trans (hb.mono h.below.size), h.hP, h.hb, h.hJ, h.hM⟩
theorem Sl.grown {w w' : World} {P off n : Nat} {S : Nat → ByteArray} {r : Nat} (h : Sl w (some ⟨P, off, none⟩) n S) (hg : w.grownBy w' (some r)) (hne : P ≠ r) : Sl w' (some ⟨P, off, none⟩) n S := by
  refine ⟨h.1, fun k hk => ⟨(h.2 k hk).1, ?_⟩⟩
  obtain ⟨b, o, e, hc⟩ := h.at k hk
  obtain ⟨rfl, rfl⟩ : P = b ∧ off = o := by simpa using e
  exact ⟨P, off, rfl, hg.cell hc (by simp; exact hne)⟩
theorem Tr.node {k : Int} {b J M P off n c : Nat} {S : Nat → ByteArray} {w w1 w2 : World} {X : List Value} (h : Tr k b J M P off n c S w X w1) (hd : DblAt w2 k b 64) (hg : w1.grownBy w2 (some b)) : Tr k b J M P off n c S w X w2 := by
  have h1 := h.hP
  have h2 := h.hb
  have h3 := h.hJ
  have h4 := h.hM
  have h0 := h.dbl.not0 h.keys
  refine ⟨hg.cell h.q (by simp; omega), h.sl.grown hg (by omega), hg.cell h.c0 (by simp; omega), hg.cell h.c1 (by simp; omega), range_grown h.r hg (by omega), there_grown h.t hg (by omega), fun i hi => hg.cell (h.keys i hi) (by simp; omega), hd, ?_, h1, h2, h3, h4⟩
  exact h.below.grown hg h.below.size (fun j hj => by simp at hj; omega)
theorem Tr.stored {k : Int} {b J M P off n c : Nat} {S : Nat → ByteArray} {w w1 : World} {X : List Value} (h : Tr k b J M P off n c S w X w1) (Y : List Value) (hY : Y.length = 32) : Tr k b J M P off n c S w Y (w1.setCells M 0 Y) := by
  have h1 := h.hP
  have h2 := h.hb
  have h3 := h.hJ
  have h4 := h.hM
  have ht : w1.there M 0 Y.length := by rw [hY]; exact h.t
  refine ⟨(World.cell?_setCells_out _ _ _ _ _ (fun e => by simp at e; omega)).trans h.q, ⟨h.sl.1, fun i hi => ⟨(h.sl.2 i hi).1, ?_⟩⟩, (World.cell?_setCells_out _ _ _ _ _ (fun e => by simp at e; omega)).trans h.c0, (World.cell?_setCells_out _ _ _ _ _ (fun e => by simp at e; omega)).trans h.c1, World.rangeAt_setCells_same _ _ _ _ ht, World.there_setCells h.t _ _ _,
    fun i hi => (World.cell?_setCells_out _ _ _ _ _ (fun e => by simp at e; omega)).trans (h.keys i hi), ?_, below_setCells _ _ h.below (by omega), h1, h2, h3, h4⟩
  · obtain ⟨b', o, e, hc⟩ := h.sl.at i hi
    obtain ⟨rfl, rfl⟩ : P = b' ∧ off = o := by simpa using e
    exact ⟨P, off, rfl, (World.cell?_setCells_out _ _ _ _ _ (fun e => by simp at e; omega)).trans hc⟩
  · obtain ⟨es, clock, h5, h6, h7⟩ := h.dbl
    exact ⟨es, clock, (heap_setCells_other _ _ _ (by omega) _ _).trans h5, h6, h7⟩
set_option maxRecDepth 20000 in
theorem markOf_at (s : ByteArray) (w : World) (hs : s.size ≤ 32) (X : List Value) (hX : cells8 (pad s) = X) :
    Calls Tryz.prog 16 #[.string s] w fun e w' => e = .returned (.agg X.toArray) ∧ Below w.heap.size w w' := markOf_as s w hs X hX
end Go.Proofs.YtjbbbfplephkpaaGreatDoor
