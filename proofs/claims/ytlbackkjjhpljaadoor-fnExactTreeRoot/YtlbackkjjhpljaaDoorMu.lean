/-
  A node of two equal marks: found in the map, or kept there.
-/
import Derived.Test.YtlbackkjjhpljaaDoorMt
namespace Go.Proofs.YtlbackkjjhpljaaDoor
open Go.RowKit Go.ChangeMaps
theorem Nd.laid {k : Int} {b n : Nat} {w w1 : World} {X1 X2 : List Value} (h : Nd k b w X1 X2 n w1) (o : Obj) : Nd k b w X1 X2 n (w1.alloc o) := h.call (below1 _ _)
def Z32 : List Value := cells8 (List.replicate 32 0)
theorem Z32_len : Z32.length = 32 := by simp [Z32, cells8]
theorem Z32_one : ∀ v ∈ Z32, v.oneCell' = true := cells8_one _
theorem size4 (w : World) (A B C D : Obj) : ((((w.alloc A).alloc B).alloc C).alloc D).heap.size = w.heap.size + 1 + 1 + 1 + 1 := by simp
set_option maxRecDepth 20000 in
set_option maxHeartbeats 4000000 in
theorem node_found (k : Int) (b n : Nat) (d : ByteArray) (w : World) (hK : KeysAt w) (hd : d.size = wid k) (hD : DblAt w k b n) (X R : List Value) (hX : cells8 (pad d) = X) (hR : cells8 (pad (nodeD k d d)) = R)
    (hl : ∀ W, DblAt W k b n → W.heap[b]? = w.heap[b]? → (Instr.lookup 46 (.map (some b)) (mkV (pad d)) true).run Tryd.prog W = .ok (.tuple #[mkV (pad (nodeD k d d)), .bool true]) W) :
    Calls Tryd.prog 37 #[.agg #[.int .i64 k, .map (some b)], .agg X.toArray, .agg X.toArray] w fun e w' => e = .returned (.agg R.toArray) ∧ DblAt w' k b n ∧ w.grownBy w' (some b) := by
  have hw := wid_le k
  have hcmp : ∀ W : World, (binOp .neq 51 (.agg X.toArray) (.agg X.toArray)).run Tryd.prog W = .ok (.bool false) W := by
    intro W
    have := run_differ W (pad d) (pad d) (pad_len d (by omega)) (pad_len d (by omega))
    rw [show (pad d == pad d) = true by simp] at this
    rw [← hX]
    exact this
  have ln1 : X.length = 32 := by rw [← hX, cells8_len]; exact pad_len _ (by omega)
  have ln3 : R.length = 32 := by rw [← hR, cells8_len]; exact pad_len _ (dg_le _ _)
  have on3 : ∀ v ∈ R, v.oneCell' = true := by rw [← hR]; exact cells8_one _
  have hN : Hid (Nd k b w X X n ((((w.alloc (.cells #[.int .i64 k, .map (some b)] 48)).alloc (.cells X.toArray 51)).alloc (.cells X.toArray 51)).alloc (.cells zeros32 51))) := Nd.start hK hD
  have HL : Hid ((Instr.lookup 46 (.map (some b)) (.agg X.toArray) true).run Tryd.prog ((((w.alloc (.cells #[.int .i64 k, .map (some b)] 48)).alloc (.cells X.toArray 51)).alloc (.cells X.toArray 51)).alloc (.cells zeros32 51)) = .ok (.tuple #[.agg R.toArray, .bool true]) ((((w.alloc (.cells #[.int .i64 k, .map (some b)] 48)).alloc (.cells X.toArray 51)).alloc (.cells X.toArray 51)).alloc (.cells zeros32 51))) := by
    have := hl _ hN.out.dbl (by
      have hlt := hD.lt
      rw [heap_alloc_old _ _ (by simp; omega), heap_alloc_old _ _ (by simp; omega), heap_alloc_old _ _ (by simp; omega), heap_alloc_old _ _ hlt])
    have e1 : mkV (pad d) = .agg X.toArray := by rw [← hX]; rfl
    have e2 : mkV (pad (nodeD k d d)) = .agg R.toArray := by rw [← hR]; rfl
    rw [e1, e2] at this
    exact this
  obtain ⟨hzr, hi⟩ := zero_of_info Tryd.info51
  have i1 : (Tryd.prog.info? 51).map (·.size) = some X.length := by rw [ln1]; exact hi
  have i3 : (Tryd.prog.info? 51).map (·.size) = some R.length := by rw [ln3]; exact hi
  have I1 : Hid ((Tryd.prog.info? 51).map (·.size) = some X.length) := i1
  have I3 : Hid ((Tryd.prog.info? 51).map (·.size) = some R.length) := i3
  have hW4 := size4 w (.cells #[.int .i64 k, .map (some b)] 48) (.cells X.toArray 51) (.cells X.toArray 51) (.cells zeros32 51)
  have hNv : Hid (Nd k b w X X n (((((w.alloc (.cells #[.int .i64 k, .map (some b)] 48)).alloc (.cells X.toArray 51)).alloc (.cells X.toArray 51)).alloc (.cells zeros32 51)).alloc (.cells zeros32 51))) := hN.out.laid _
  have hT : Hid ((((((w.alloc (.cells #[.int .i64 k, .map (some b)] 48)).alloc (.cells X.toArray 51)).alloc (.cells X.toArray 51)).alloc (.cells zeros32 51)).alloc (.cells zeros32 51)).there (w.heap.size + 1 + 1 + 1 + 1) 0 R.length) := by
    have := there_row (((((w.alloc (.cells #[.int .i64 k, .map (some b)] 48)).alloc (.cells X.toArray 51)).alloc (.cells X.toArray 51)).alloc (.cells zeros32 51)).alloc (.cells zeros32 51)) (w.heap.size + 1 + 1 + 1 + 1) zeros32 51 32 zeros32_size (by rw [← hW4]; exact heap_alloc_new _ _)
    rw [ln3]; exact this
  have hN2 : Hid (Nd k b w X X n ((((((w.alloc (.cells #[.int .i64 k, .map (some b)] 48)).alloc (.cells X.toArray 51)).alloc (.cells X.toArray 51)).alloc (.cells zeros32 51)).alloc (.cells zeros32 51)).setCells (w.heap.size + 1 + 1 + 1 + 1) 0 R)) := hNv.out.stored _ 0 R (by omega)
  have hR2 : Hid (((((((w.alloc (.cells #[.int .i64 k, .map (some b)] 48)).alloc (.cells X.toArray 51)).alloc (.cells X.toArray 51)).alloc (.cells zeros32 51)).alloc (.cells zeros32 51)).setCells (w.heap.size + 1 + 1 + 1 + 1) 0 R).rangeAt (w.heap.size + 1 + 1 + 1 + 1) 0 R) := World.rangeAt_setCells_same _ _ _ _ hT.out
  have hT2 : Hid (((((((w.alloc (.cells #[.int .i64 k, .map (some b)] 48)).alloc (.cells X.toArray 51)).alloc (.cells X.toArray 51)).alloc (.cells zeros32 51)).alloc (.cells zeros32 51)).setCells (w.heap.size + 1 + 1 + 1 + 1) 0 R).there (w.heap.size + 1 + 1 + 1) 0 R.length) := by rw [ln3]; exact hN2.out.t3
  clear i1 i3 hi hX hR hK hD hl hW4
  go_enter Tryd.func37, Tryd.ntmps37
  go_wp2_with (first | (refine wpList_load_mid rfl 51 (.tmp 4) rfl _ _ rfl X _ hN.out.r1 Tryd.underlying51 rfl I1.out ?_) | (refine wpList_load_mid rfl 51 (.tmp 5) rfl _ _ rfl X _ hN.out.r2 Tryd.underlying51 rfl I1.out ?_) | (refine wpList_run_lookup rfl (.tmp 18) (.tmp 19) 46 true rfl _ _ _ rfl rfl HL.out ?_) | (refine wpList_store_mid rfl 51 (.tmp 7) (.tmp 21) rfl (w.heap.size + 1 + 1 + 1 + 1) 0 R.toArray rfl rfl hT.out I3.out (all_oneCell_toArray on3) ?_) | (refine wpList_load_mid rfl 51 (.tmp 7) rfl _ _ rfl R _ hR2.out Tryd.underlying51 rfl I3.out ?_) | (refine wpList_store_mid rfl 51 (.tmp 6) (.tmp 24) rfl (w.heap.size + 1 + 1 + 1) 0 R.toArray rfl rfl hT2.out I3.out (all_oneCell_toArray on3) ?_))
  have hN3 := hN2.out.stored (w.heap.size + 1 + 1 + 1) 0 R (by omega)
  exact bodyPost_ret (v := .agg R.toArray) (results_mid Tryd.results37 _ _ (w.heap.size + 1 + 1 + 1) 0 R _ rfl (World.rangeAt_setCells_same _ _ _ _ hT2.out) Tryd.underlying51 rfl I3.out) rfl ⟨rfl, hN3.dbl, hN3.grown⟩
end Go.Proofs.YtlbackkjjhpljaaDoor
