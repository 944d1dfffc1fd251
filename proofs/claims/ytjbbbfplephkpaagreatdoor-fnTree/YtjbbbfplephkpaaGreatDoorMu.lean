/-
  A node of two equal marks: found in the map, or kept there.
-/
import Derived.Test.YtjbbbfplephkpaaGreatDoorMs
namespace Go.Proofs.YtjbbbfplephkpaaGreatDoor
open Go.RowKit Go.ChangeMaps
theorem DblAt.not0 {w : World} {k : Int} {b n : Nat} (h : DblAt w k b n) (hK : KeysAt w) : b ≠ 0 := by
  obtain ⟨es, clock, h1, _⟩ := h
  rintro rfl
  have := hK 0 (by omega)
  simp [World.cell?, h1] at this
/-- What stands while a node is made. -/
structure Nd (k : Int) (b : Nat) (w : World) (X1 X2 : List Value) (n : Nat) (w' : World) : Prop where
  c0 : w'.cell? ⟨w.heap.size, 0, none⟩ = some (.int .i64 k)
  c1 : w'.cell? ⟨w.heap.size, 1, none⟩ = some (.map (some b))
  r1 : w'.rangeAt (w.heap.size + 1) 0 X1
  r2 : w'.rangeAt (w.heap.size + 1 + 1) 0 X2
  t3 : w'.there (w.heap.size + 1 + 1 + 1) 0 32
  keys : KeysAt w'
  dbl : DblAt w' k b n
  grown : w.grownBy w' (some b)
  lt : b < w.heap.size
theorem grown_then {w w1 w2 : World} {r : Option Nat} (h : w.grownBy w1 r) (hb : Below w1.heap.size w1 w2) : w.grownBy w2 r :=
  ⟨hb.os.trans h.os, hb.tape.trans h.tape, hb.output.trans h.output, Nat.le_trans h.size hb.size, fun k hk hr => (hb.block k (Nat.lt_of_lt_of_le hk h.size)).trans (h.block k hk hr)⟩
theorem grown_same {w w1 w2 : World} {r : Option Nat} (h : w.grownBy w1 r) (hb : w1.grownBy w2 r) : w.grownBy w2 r :=
  ⟨hb.os.trans h.os, hb.tape.trans h.tape, hb.output.trans h.output, Nat.le_trans h.size hb.size, fun k hk hr => (hb.block k (Nat.lt_of_lt_of_le hk h.size) hr).trans (h.block k hk hr)⟩
theorem grown_of_below {w w1 : World} {r : Option Nat} (hb : Below w.heap.size w w1) : w.grownBy w1 r :=
  ⟨hb.os, hb.tape, hb.output, hb.size, fun k hk _ => hb.block k hk⟩
theorem Nd.call {k : Int} {b n : Nat} {w w1 w2 : World} {X1 X2 : List Value} (h : Nd k b w X1 X2 n w1) (hb : Below w1.heap.size w1 w2) : Nd k b w X1 X2 n w2 :=
  ⟨keep hb h.c0, keep hb h.c1, range_later h.r1 hb, range_later h.r2 hb, there_later h.t3 hb, keys_later h.keys hb, h.dbl.later hb, grown_then h.grown hb, h.lt⟩
theorem heap_setCells_other (w : World) (g i : Nat) (h : i ≠ g) (o : Nat) (vs : List Value) : (w.setCells g o vs).heap[i]? = w.heap[i]? := by
  induction vs generalizing o w with
  | nil => rfl
  | cons v r ih => exact (ih _ _).trans (heap_setCell_other _ _ _ _ (by simpa using h))
theorem size_setCells (w : World) (g o : Nat) (vs : List Value) : (w.setCells g o vs).heap.size = w.heap.size := by
  induction vs generalizing o w with
  | nil => rfl
  | cons v r ih => exact (ih _ _).trans (by simp)
theorem grown_setCells {w w1 : World} {r : Option Nat} (h : w.grownBy w1 r) (g o : Nat) (vs : List Value) (hg : w.heap.size ≤ g) : w.grownBy (w1.setCells g o vs) r := by
  induction vs generalizing o w1 with
  | nil => exact h
  | cons v t ih => exact ih (w1 := w1.setCell ⟨g, o, none⟩ v) (o := o + 1) ⟨h.os, h.tape, h.output, by simpa using h.size, fun i hi hr => (heap_setCell_other w1 ⟨g, o, none⟩ i v (by simp; omega)).trans (h.block i hi hr)⟩
theorem Nd.stored {k : Int} {b n : Nat} {w w1 : World} {X1 X2 : List Value} (h : Nd k b w X1 X2 n w1) (g o : Nat) (vs : List Value) (hg : w.heap.size + 3 ≤ g) : Nd k b w X1 X2 n (w1.setCells g o vs) := by
  have hlt := h.lt
  refine ⟨(World.cell?_setCells_out _ _ _ _ _ (fun e => by simp at e; omega)).trans h.c0, (World.cell?_setCells_out _ _ _ _ _ (fun e => by simp at e; omega)).trans h.c1, World.rangeAt_setCells_apart h.r1 _ _ _ (Or.inl (by omega)), World.rangeAt_setCells_apart h.r2 _ _ _ (Or.inl (by omega)), World.there_setCells h.t3 _ _ _,
    fun i hi => (World.cell?_setCells_out _ _ _ _ _ (fun e => by simp at e; omega)).trans (h.keys i hi), ?_, grown_setCells h.grown _ _ _ (by omega), h.lt⟩
  obtain ⟨es, clock, h1, h2, h3⟩ := h.dbl
  exact ⟨es, clock, (heap_setCells_other _ _ _ (by omega) _ _).trans h1, h2, h3⟩
theorem range_grown {w w' : World} {g o r : Nat} {cs : List Value} (h : w.rangeAt g o cs) (hg : w.grownBy w' (some r)) (hne : g ≠ r) : w'.rangeAt g o cs := fun j v hv =>
  hg.cell (h j v hv) (by simp; exact hne)
theorem there_grown {w w' : World} {g o r m : Nat} (h : w.there g o m) (hg : w.grownBy w' (some r)) (hne : g ≠ r) : w'.there g o m := fun j hj => by
  obtain ⟨h1, h2⟩ := h j hj
  obtain ⟨u, hu⟩ := Option.isSome_iff_exists.1 h1
  have hlt := World.block_lt_of_cell? w _ hu
  have e := hg.block g hlt (by simp; exact hne)
  rw [World.cell?_of_block (w := w) (a := ⟨g, o + j, none⟩) e, World.frozen?_of_block (w := w) (a := ⟨g, o + j, none⟩) e]
  exact ⟨h1, h2⟩
theorem Nd.turned {k : Int} {b n : Nat} {w w1 w2 : World} {X1 X2 : List Value} {m : Nat} (h : Nd k b w X1 X2 n w1) (hg : w1.grownBy w2 (some b)) (hd : DblAt w2 k b m) : Nd k b w X1 X2 m w2 := by
  have hlt := h.lt
  have h0 := h.dbl.not0 h.keys
  exact ⟨hg.cell h.c0 (by simp; omega), hg.cell h.c1 (by simp; omega), range_grown h.r1 hg (by omega), range_grown h.r2 hg (by omega), there_grown h.t3 hg (by omega), fun i hi => hg.cell (h.keys i hi) (by simp; omega), hd, grown_same h.grown hg, h.lt⟩
theorem Nd.start {k : Int} {b n : Nat} {w : World} {X1 X2 : List Value} (hK : KeysAt w) (hD : DblAt w k b n) : Nd k b w X1 X2 n ((((w.alloc (.cells #[.int .i64 k, .map (some b)] 42)).alloc (.cells X1.toArray 45)).alloc (.cells X2.toArray 45)).alloc (.cells zeros32 45)) := by
  have hJ := JoinS.start (k := k) (b := b) (X1 := X1) (X2 := X2) hK
  exact ⟨hJ.1, hJ.2.1, hJ.2.2.1, hJ.2.2.2.1, hJ.2.2.2.2.1, hJ.2.2.2.2.2.1, hD.later hJ.2.2.2.2.2.2, grown_of_below hJ.2.2.2.2.2.2, hD.lt⟩
set_option maxRecDepth 20000 in
theorem join_as (k : Int) (b : Nat) (d1 d2 : ByteArray) (w : World) (hK : KeysAt w) (hk : k = 0 ∨ k = 1) (hd1 : d1.size = wid k) (hd2 : d2.size = wid k) (X1 X2 R : List Value) (hX1 : cells8 (pad d1) = X1) (hX2 : cells8 (pad d2) = X2) (hR : cells8 (pad (nodeD k d1 d2)) = R) :
    Calls Tryz.prog 36 #[.agg #[.int .i64 k, .map (some b)], .agg X1.toArray, .agg X2.toArray] w fun e w' => e = .returned (.agg R.toArray) ∧ Below w.heap.size w w' := by
  subst hX1 hX2 hR
  have hw := wid_le k
  exact join_any k b (pad d1) (pad d2) d1 d2 w hK hk (pad_len d1 (by omega)) (pad_len d2 (by omega)) (txt_pad k d1 hd1) (txt_pad k d2 hd2) (by omega) (by omega)
set_option maxRecDepth 20000 in
set_option maxHeartbeats 4000000 in
theorem node_apart (k : Int) (b n : Nat) (d1 d2 : ByteArray) (w : World) (hK : KeysAt w) (hk : k = 0 ∨ k = 1) (hd1 : d1.size = wid k) (hd2 : d2.size = wid k) (hD : DblAt w k b n) (X1 X2 R : List Value) (hX1 : cells8 (pad d1) = X1) (hX2 : cells8 (pad d2) = X2) (hR : cells8 (pad (nodeD k d1 d2)) = R) (hne : ¬ d1 = d2) :
    Calls Tryz.prog 17 #[.agg #[.int .i64 k, .map (some b)], .agg X1.toArray, .agg X2.toArray] w fun e w' => e = .returned (.agg R.toArray) ∧ DblAt w' k b n ∧ w.grownBy w' (some b) := by
  have hw := wid_le k
  have hcmp : ∀ W : World, (binOp .neq 45 (.agg X1.toArray) (.agg X2.toArray)).run Tryz.prog W = .ok (.bool true) W := by
    intro W
    have := run_differ W (pad d1) (pad d2) (pad_len d1 (by omega)) (pad_len d2 (by omega))
    have e : (pad d1 == pad d2) = false := by simpa using fun e => hne (pad_inj d1 d2 (by omega) e)
    rw [e] at this
    rw [← hX1, ← hX2]
    exact this
  have ln1 : X1.length = 32 := by rw [← hX1, cells8_len]; exact pad_len _ (by omega)
  have ln2 : X2.length = 32 := by rw [← hX2, cells8_len]; exact pad_len _ (by omega)
  have ln3 : R.length = 32 := by rw [← hR, cells8_len]; exact pad_len _ (dg_le _ _)
  have on3 : ∀ v ∈ R, v.oneCell' = true := by rw [← hR]; exact cells8_one _
  have hN : Hid (Nd k b w X1 X2 n ((((w.alloc (.cells #[.int .i64 k, .map (some b)] 42)).alloc (.cells X1.toArray 45)).alloc (.cells X2.toArray 45)).alloc (.cells zeros32 45))) := Nd.start hK hD
  obtain ⟨hzr, hi⟩ := zero_of_info Tryz.info45
  have i1 : (Tryz.prog.info? 45).map (·.size) = some X1.length := by rw [ln1]; exact hi
  have i2 : (Tryz.prog.info? 45).map (·.size) = some X2.length := by rw [ln2]; exact hi
  have i3 : (Tryz.prog.info? 45).map (·.size) = some R.length := by rw [ln3]; exact hi
  have HX1 : Hid (cells8 (pad d1) = X1) := hX1
  have HX2 : Hid (cells8 (pad d2) = X2) := hX2
  have HR : Hid (cells8 (pad (nodeD k d1 d2)) = R) := hR
  have I1 : Hid ((Tryz.prog.info? 45).map (·.size) = some X1.length) := i1
  have I2 : Hid ((Tryz.prog.info? 45).map (·.size) = some X2.length) := i2
  have I3 : Hid ((Tryz.prog.info? 45).map (·.size) = some R.length) := i3
  clear i1 i2 i3 hi hX1 hX2 hR hK hD
  go_enter Tryz.func17, Tryz.ntmps17
  go_wp2_with (first | (refine wpList_load_mid rfl 45 (.tmp 4) rfl _ _ rfl X1 _ hN.out.r1 Tryz.underlying45 rfl I1.out ?_) | (refine wpList_load_mid rfl 45 (.tmp 5) rfl _ _ rfl X2 _ hN.out.r2 Tryz.underlying45 rfl I2.out ?_) | (go_at_call 36; refine (join_as k b d1 d2 _ hN.out.keys hk hd1 hd2 X1 X2 R HX1.out HX2.out HR.out).mono ?_; rintro e w1 ⟨rfl, hb1⟩; have hN1 : Hid (Nd k b w X1 X2 n w1) := hN.out.call hb1) | (refine wpList_store_mid rfl 45 (.tmp 6) (.tmp 15) rfl (w.heap.size + 1 + 1 + 1) 0 R.toArray rfl rfl (by rw [show R.toArray.size = 32 from ln3]; exact hN1.out.t3) I3.out (all_oneCell_toArray on3) ?_))
  have hth : w1.there (w.heap.size + 1 + 1 + 1) 0 R.length := by rw [ln3]; exact hN1.out.t3
  have hN2 := hN1.out.stored (w.heap.size + 1 + 1 + 1) 0 R (by omega)
  exact bodyPost_ret (v := .agg R.toArray) (results_mid Tryz.results17 _ _ (w.heap.size + 1 + 1 + 1) 0 R _ rfl (World.rangeAt_setCells_same _ _ _ _ hth) Tryz.underlying45 rfl I3.out) rfl ⟨rfl, hN2.dbl, hN2.grown⟩
end Go.Proofs.YtjbbbfplephkpaaGreatDoor
namespace Go.Proofs.YtjbbbfplephkpaaGreatDoor
open Go.RowKit Go.ChangeMaps
theorem Nd.laid {k : Int} {b n : Nat} {w w1 : World} {X1 X2 : List Value} (h : Nd k b w X1 X2 n w1) (o : Obj) : Nd k b w X1 X2 n (w1.alloc o) := h.call (below1 _ _)
def Z32 : List Value := cells8 (List.replicate 32 0)
theorem Z32_len : Z32.length = 32 := by simp [Z32, cells8]
theorem Z32_one : ∀ v ∈ Z32, v.oneCell' = true := cells8_one _
theorem size4 (w : World) (A B C D : Obj) : ((((w.alloc A).alloc B).alloc C).alloc D).heap.size = w.heap.size + 1 + 1 + 1 + 1 := by simp
set_option maxRecDepth 20000 in
set_option maxHeartbeats 4000000 in
theorem node_found (k : Int) (b n : Nat) (d : ByteArray) (w : World) (hK : KeysAt w) (hd : d.size = wid k) (hD : DblAt w k b n) (X R : List Value) (hX : cells8 (pad d) = X) (hR : cells8 (pad (nodeD k d d)) = R)
    (hl : ∀ W, DblAt W k b n → W.heap[b]? = w.heap[b]? → (Instr.lookup 40 (.map (some b)) (mkV (pad d)) true).run Tryz.prog W = .ok (.tuple #[mkV (pad (nodeD k d d)), .bool true]) W) :
    Calls Tryz.prog 17 #[.agg #[.int .i64 k, .map (some b)], .agg X.toArray, .agg X.toArray] w fun e w' => e = .returned (.agg R.toArray) ∧ DblAt w' k b n ∧ w.grownBy w' (some b) := by
  have hw := wid_le k
  have hcmp : ∀ W : World, (binOp .neq 45 (.agg X.toArray) (.agg X.toArray)).run Tryz.prog W = .ok (.bool false) W := by
    intro W
    have := run_differ W (pad d) (pad d) (pad_len d (by omega)) (pad_len d (by omega))
    rw [show (pad d == pad d) = true by simp] at this
    rw [← hX]
    exact this
  have ln1 : X.length = 32 := by rw [← hX, cells8_len]; exact pad_len _ (by omega)
  have ln3 : R.length = 32 := by rw [← hR, cells8_len]; exact pad_len _ (dg_le _ _)
  have on3 : ∀ v ∈ R, v.oneCell' = true := by rw [← hR]; exact cells8_one _
  have hN : Hid (Nd k b w X X n ((((w.alloc (.cells #[.int .i64 k, .map (some b)] 42)).alloc (.cells X.toArray 45)).alloc (.cells X.toArray 45)).alloc (.cells zeros32 45))) := Nd.start hK hD
  have HL : Hid ((Instr.lookup 40 (.map (some b)) (.agg X.toArray) true).run Tryz.prog ((((w.alloc (.cells #[.int .i64 k, .map (some b)] 42)).alloc (.cells X.toArray 45)).alloc (.cells X.toArray 45)).alloc (.cells zeros32 45)) = .ok (.tuple #[.agg R.toArray, .bool true]) ((((w.alloc (.cells #[.int .i64 k, .map (some b)] 42)).alloc (.cells X.toArray 45)).alloc (.cells X.toArray 45)).alloc (.cells zeros32 45))) := by
    have := hl _ hN.out.dbl (by
      have hlt := hD.lt
      rw [heap_alloc_old _ _ (by simp; omega), heap_alloc_old _ _ (by simp; omega), heap_alloc_old _ _ (by simp; omega), heap_alloc_old _ _ hlt])
    have e1 : mkV (pad d) = .agg X.toArray := by rw [← hX]; rfl
    have e2 : mkV (pad (nodeD k d d)) = .agg R.toArray := by rw [← hR]; rfl
    rw [e1, e2] at this
    exact this
  obtain ⟨hzr, hi⟩ := zero_of_info Tryz.info45
  have i1 : (Tryz.prog.info? 45).map (·.size) = some X.length := by rw [ln1]; exact hi
  have i3 : (Tryz.prog.info? 45).map (·.size) = some R.length := by rw [ln3]; exact hi
  have I1 : Hid ((Tryz.prog.info? 45).map (·.size) = some X.length) := i1
  have I3 : Hid ((Tryz.prog.info? 45).map (·.size) = some R.length) := i3
  have hW4 := size4 w (.cells #[.int .i64 k, .map (some b)] 42) (.cells X.toArray 45) (.cells X.toArray 45) (.cells zeros32 45)
  have hNv : Hid (Nd k b w X X n (((((w.alloc (.cells #[.int .i64 k, .map (some b)] 42)).alloc (.cells X.toArray 45)).alloc (.cells X.toArray 45)).alloc (.cells zeros32 45)).alloc (.cells zeros32 45))) := hN.out.laid _
  have hT : Hid ((((((w.alloc (.cells #[.int .i64 k, .map (some b)] 42)).alloc (.cells X.toArray 45)).alloc (.cells X.toArray 45)).alloc (.cells zeros32 45)).alloc (.cells zeros32 45)).there (w.heap.size + 1 + 1 + 1 + 1) 0 R.length) := by
    have := there_row (((((w.alloc (.cells #[.int .i64 k, .map (some b)] 42)).alloc (.cells X.toArray 45)).alloc (.cells X.toArray 45)).alloc (.cells zeros32 45)).alloc (.cells zeros32 45)) (w.heap.size + 1 + 1 + 1 + 1) zeros32 45 32 zeros32_size (by rw [← hW4]; exact heap_alloc_new _ _)
    rw [ln3]; exact this
  have hN2 : Hid (Nd k b w X X n ((((((w.alloc (.cells #[.int .i64 k, .map (some b)] 42)).alloc (.cells X.toArray 45)).alloc (.cells X.toArray 45)).alloc (.cells zeros32 45)).alloc (.cells zeros32 45)).setCells (w.heap.size + 1 + 1 + 1 + 1) 0 R)) := hNv.out.stored _ 0 R (by omega)
  have hR2 : Hid (((((((w.alloc (.cells #[.int .i64 k, .map (some b)] 42)).alloc (.cells X.toArray 45)).alloc (.cells X.toArray 45)).alloc (.cells zeros32 45)).alloc (.cells zeros32 45)).setCells (w.heap.size + 1 + 1 + 1 + 1) 0 R).rangeAt (w.heap.size + 1 + 1 + 1 + 1) 0 R) := World.rangeAt_setCells_same _ _ _ _ hT.out
  have hT2 : Hid (((((((w.alloc (.cells #[.int .i64 k, .map (some b)] 42)).alloc (.cells X.toArray 45)).alloc (.cells X.toArray 45)).alloc (.cells zeros32 45)).alloc (.cells zeros32 45)).setCells (w.heap.size + 1 + 1 + 1 + 1) 0 R).there (w.heap.size + 1 + 1 + 1) 0 R.length) := by rw [ln3]; exact hN2.out.t3
  clear i1 i3 hi hX hR hK hD hl hW4
  go_enter Tryz.func17, Tryz.ntmps17
  go_wp2_with (first | (refine wpList_load_mid rfl 45 (.tmp 4) rfl _ _ rfl X _ hN.out.r1 Tryz.underlying45 rfl I1.out ?_) | (refine wpList_load_mid rfl 45 (.tmp 5) rfl _ _ rfl X _ hN.out.r2 Tryz.underlying45 rfl I1.out ?_) | (refine wpList_run_lookup rfl (.tmp 18) (.tmp 19) 40 true rfl _ _ _ rfl rfl HL.out ?_) | (refine wpList_store_mid rfl 45 (.tmp 7) (.tmp 21) rfl (w.heap.size + 1 + 1 + 1 + 1) 0 R.toArray rfl rfl hT.out I3.out (all_oneCell_toArray on3) ?_) | (refine wpList_load_mid rfl 45 (.tmp 7) rfl _ _ rfl R _ hR2.out Tryz.underlying45 rfl I3.out ?_) | (refine wpList_store_mid rfl 45 (.tmp 6) (.tmp 24) rfl (w.heap.size + 1 + 1 + 1) 0 R.toArray rfl rfl hT2.out I3.out (all_oneCell_toArray on3) ?_))
  have hN3 := hN2.out.stored (w.heap.size + 1 + 1 + 1) 0 R (by omega)
  exact bodyPost_ret (v := .agg R.toArray) (results_mid Tryz.results17 _ _ (w.heap.size + 1 + 1 + 1) 0 R _ rfl (World.rangeAt_setCells_same _ _ _ _ hT2.out) Tryz.underlying45 rfl I3.out) rfl ⟨rfl, hN3.dbl, hN3.grown⟩
end Go.Proofs.YtjbbbfplephkpaaGreatDoor
