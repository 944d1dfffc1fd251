/-
  The root of a tree: the program's way.
-/
import Derived.Test.YtlbackkjjhpljaaGreatDoorMs
import Derived.Test.YtlbackkjjhpljaaGreatDoorMx
namespace Go.Proofs.YtlbackkjjhpljaaGreatDoor
open Go.RowKit
/-- The root of the Peaks from place i on (n of them): from right to left. -/
def fromR (k : Int) (S : Nat → ByteArray) (n : Nat) : Nat → ByteArray
  | 0 => S (n - 1)
  | j + 1 => nodeD k (S (n - 2 - j)) (fromR k S n j)
/-- What TreeRoot answers at a tree that is OK. -/
def rootD (k : Int) (n : Nat) (S : Nat → ByteArray) : ByteArray := if n = 0 then dg k ⟨#[]⟩ else fromR k S n (n - 1)
theorem cell_box (w : World) (x y : Value) (t : TypeId) : (w.alloc (.cells #[x, y] t)).cell? ⟨w.heap.size, 0, none⟩ = some x ∧ (w.alloc (.cells #[x, y] t)).cell? ⟨w.heap.size, 1, none⟩ = some y :=
  ⟨(cell_of_row _ _ 0 _ _ _ (heap_alloc_new w _)).trans rfl, (cell_of_row _ _ 1 _ _ _ (heap_alloc_new w _)).trans rfl⟩
theorem fromR_size (k : Int) (S : Nat → ByteArray) (n : Nat) (hs : ∀ i, i < n → (S i).size ≤ 32) (hn : 0 < n) : ∀ j, (fromR k S n j).size ≤ 32
  | 0 => hs _ (by omega)
  | _ + 1 => dg_le _ _
end Go.Proofs.YtlbackkjjhpljaaGreatDoor
namespace Go.Proofs.YtlbackkjjhpljaaGreatDoor
open Go.RowKit Go.ChangeMaps
/-- What stands at the loop's head. w: the world of the call; b: the map; J: the joiner's box; M: the mark's; P, off: the Peaks' place. -/
structure Tr (k : Int) (b J M P off n c : Nat) (S : Nat → ByteArray) (w : World) (X : List Value) (w' : World) : Prop where
  q : w'.cell? ⟨w.heap.size, 1, none⟩ = some (.slice (some ⟨P, off, none⟩) n c)
  sl : Sl w' (some ⟨P, off, none⟩) n S
  c0 : w'.cell? ⟨J, 0, none⟩ = some (.int .i64 k)
  c1 : w'.cell? ⟨J, 1, none⟩ = some (.map (some b))
  r : w'.rangeAt M 0 X
  t : w'.there M 0 32
  keys : KeysAt w'
  dbl : DblAt w' k b 64
  below : Below w.heap.size w w'
  hP : P < w.heap.size
  hb : w.heap.size < b
  hJ : b < J
  hM : J < M
theorem Tr.call {k : Int} {b J M P off n c : Nat} {S : Nat → ByteArray} {w w1 w2 : World} {X : List Value} (h : Tr k b J M P off n c S w X w1) (hb : Below w1.heap.size w1 w2) : Tr k b J M P off n c S w X w2 :=
  ⟨keep hb h.q, h.sl.later hb, keep hb h.c0, keep hb h.c1, range_later h.r hb, there_later h.t hb, keys_later h.keys hb, h.dbl.later hb, h.below.trans (hb.mono h.below.size), h.hP, h.hb, h.hJ, h.hM⟩
theorem Sl.grown {w w' : World} {P off n : Nat} {S : Nat → ByteArray} {r : Nat} (h : Sl w (some ⟨P, off, none⟩) n S) (hg : w.grownBy w' (some r)) (hne : P ≠ r) : Sl w' (some ⟨P, off, none⟩) n S := by
  refine ⟨h.1, fun k hk => ⟨(h.2 k hk).1, ?_⟩⟩
  obtain ⟨b, o, e, hc⟩ := h.at k hk
  obtain ⟨rfl, rfl⟩ : P = b ∧ off = o := by simpa using e
  exact ⟨P, off, rfl, hg.cell hc (by simp; exact hne)⟩
theorem Tr.node {k : Int} {b J M P off n c : Nat} {S : Nat → ByteArray} {w w1 w2 : World} {X : List Value} (h : Tr k b J M P off n c S w X w1) (hd : DblAt w2 k b 64) (hg : w1.grownBy w2 (some b)) : Tr k b J M P off n c S w X w2 := by
  have h1 := h.hP
  have h2 := h.hb
  have h3 := h.hJ
  have h4 := h.hM
  have h0 := h.dbl.not0 h.keys
  refine ⟨hg.cell h.q (by simp; omega), h.sl.grown hg (by omega), hg.cell h.c0 (by simp; omega), hg.cell h.c1 (by simp; omega), range_grown h.r hg (by omega), there_grown h.t hg (by omega), fun i hi => hg.cell (h.keys i hi) (by simp; omega), hd, ?_, h1, h2, h3, h4⟩
  exact h.below.grown hg h.below.size (fun j hj => by simp at hj; omega)
theorem Tr.stored {k : Int} {b J M P off n c : Nat} {S : Nat → ByteArray} {w w1 : World} {X : List Value} (h : Tr k b J M P off n c S w X w1) (Y : List Value) (hY : Y.length = 32) : Tr k b J M P off n c S w Y (w1.setCells M 0 Y) := by
  have h1 := h.hP
  have h2 := h.hb
  have h3 := h.hJ
  have h4 := h.hM
  have ht : w1.there M 0 Y.length := by rw [hY]; exact h.t
  refine ⟨(World.cell?_setCells_out _ _ _ _ _ (fun e => by simp at e; omega)).trans h.q, ⟨h.sl.1, fun i hi => ⟨(h.sl.2 i hi).1, ?_⟩⟩, (World.cell?_setCells_out _ _ _ _ _ (fun e => by simp at e; omega)).trans h.c0, (World.cell?_setCells_out _ _ _ _ _ (fun e => by simp at e; omega)).trans h.c1, World.rangeAt_setCells_same _ _ _ _ ht, World.there_setCells h.t _ _ _,
    fun i hi => (World.cell?_setCells_out _ _ _ _ _ (fun e => by simp at e; omega)).trans (h.keys i hi), ?_, below_setCells _ _ h.below (by omega), h1, h2, h3, h4⟩
  · obtain ⟨b', o, e, hc⟩ := h.sl.at i hi
    obtain ⟨rfl, rfl⟩ : P = b' ∧ off = o := by simpa using e
    exact ⟨P, off, rfl, (World.cell?_setCells_out _ _ _ _ _ (fun e => by simp at e; omega)).trans hc⟩
  · obtain ⟨es, clock, h5, h6, h7⟩ := h.dbl
    exact ⟨es, clock, (heap_setCells_other _ _ _ (by omega) _ _).trans h5, h6, h7⟩
set_option maxRecDepth 20000 in
theorem markOf_at (s : ByteArray) (w : World) (hs : s.size ≤ 32) (X : List Value) (hX : cells8 (pad s) = X) :
    Calls Tryz.prog 100 #[.string s] w fun e w' => e = .returned (.agg X.toArray) ∧ Below w.heap.size w w' := markOf_as s w hs X hX
end Go.Proofs.YtlbackkjjhpljaaGreatDoor
namespace Go.Proofs.YtlbackkjjhpljaaGreatDoor
open Go.RowKit Go.ChangeMaps
/-- What the loop's region reads. -/
def TrS (k : Int) (b J P off n c : Nat) (S : Nat → ByteArray) (w : World) (t : Nat) (w' : World) : Prop :=
  w'.cell? ⟨J, 0, none⟩ = some (.int .i64 k) ∧ w'.cell? ⟨J, 1, none⟩ = some (.map (some b)) ∧ w'.cell? ⟨w.heap.size, 1, none⟩ = some (.slice (some ⟨P, off, none⟩) n c) ∧ w'.cell? ⟨P, off + t, none⟩ = some (.string (S t))
theorem Tr.s' {k : Int} {b J M P off n c : Nat} {S : Nat → ByteArray} {w w1 : World} {X : List Value} (h : Tr k b J M P off n c S w X w1) (t : Nat) (ht : t < n) : TrS k b J P off n c S w t w1 := by
  obtain ⟨b', o, e, hc⟩ := h.sl.at t ht
  obtain ⟨rfl, rfl⟩ : P = b' ∧ off = o := by simpa using e
  exact ⟨h.c0, h.c1, h.q, hc⟩
theorem Tr.drew1 {k : Int} {b J M P off n c : Nat} {S : Nat → ByteArray} {w w1 : World} {X : List Value} (h : Tr k b J M P off n c S w X w1) : Tr k b J M P off n c S w X w1.drew :=
  ⟨h.q, h.sl, h.c0, h.c1, h.r, h.t, h.keys, h.dbl, h.below.drew, h.hP, h.hb, h.hJ, h.hM⟩
theorem fromR_wid (k : Int) (S : Nat → ByteArray) (n : Nat) (hk : k = 0 ∨ k = 1) (hs : ∀ i, i < n → (S i).size = wid k) (hn : 0 < n) : ∀ j, (fromR k S n j).size = wid k
  | 0 => hs _ (by omega)
  | _ + 1 => dg_size k _ hk
set_option maxRecDepth 20000 in
theorem text_as (k : Int) (b : Nat) (d : ByteArray) (w : World) (hk : k = 0 ∨ k = 1) (hd : d.size = wid k) (X : List Value) (hX : cells8 (pad d) = X) :
    Calls Tryz.prog 44 #[.agg #[.int .i64 k, .map (some b)], .agg X.toArray] w fun e w' => e = .returned (.string d) ∧ Below w.heap.size w w' :=
  joinText_as k b (pad d) w hk (pad_len d (by have := wid_le k; omega)) d (txt_pad k d hd) X hX
end Go.Proofs.YtlbackkjjhpljaaGreatDoor
