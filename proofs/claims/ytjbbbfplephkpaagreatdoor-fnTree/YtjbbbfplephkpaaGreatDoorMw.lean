/-
  A node of two equal marks that is new to the map: the walk.
-/
import Derived.Test.YtjbbbfplephkpaaGreatDoorMv
namespace Go.Proofs.YtjbbbfplephkpaaGreatDoor
open Go.RowKit Go.ChangeMaps
set_option maxRecDepth 20000 in
theorem fresh_tail {k : Int} {b m clock : Nat} {d : ByteArray} {w V w4 : World} {X R : List Value} {es : Array MapEntry} (hd : d.size = wid k) (hX : cells8 (pad d) = X) (hR : cells8 (pad (nodeD k d d)) = R)
    (hN : Nd k b w X X m V) (hT : V.there (w.heap.size + 1 + 1 + 1 + 1) 0 R.length) (hb : V.heap[b]? = some (.map es clock)) (hD : Dbls k es.toList) (hf : ∀ w, (Instr.findKey 45 (mkV (pad d)) es.toList).run Tryz.prog w = .ok none w) (hb4 : Below V.heap.size V w4) :
    w4.there (w.heap.size + 1 + 1 + 1 + 1) 0 R.length ∧ Nd k b w X X m (w4.setCells (w.heap.size + 1 + 1 + 1 + 1) 0 R) ∧ (w4.setCells (w.heap.size + 1 + 1 + 1 + 1) 0 R).rangeAt (w.heap.size + 1 + 1 + 1 + 1) 0 R ∧
      ∃ w6, (Instr.mapUpdate 40 (.map (some b)) (.agg X.toArray) (.agg R.toArray)).run Tryz.prog (w4.setCells (w.heap.size + 1 + 1 + 1 + 1) 0 R) = .ok () w6 ∧ Nd k b w X X (es.size + 1) w6 ∧ w6.rangeAt (w.heap.size + 1 + 1 + 1 + 1) 0 R := by
  have hlt := hN.lt
  have hT4 := there_later hT hb4
  have hN5 := (hN.call hb4).stored (w.heap.size + 1 + 1 + 1 + 1) 0 R (by omega)
  have hR5 := World.rangeAt_setCells_same _ _ _ _ hT4
  have hb5 : (w4.setCells (w.heap.size + 1 + 1 + 1 + 1) 0 R).heap[b]? = some (.map es clock) := (heap_setCells_other _ _ _ (by omega) _ _).trans ((hb4.block b (Nat.lt_of_lt_of_le hlt hN.grown.size)).trans hb)
  obtain ⟨w6, hrun, hD6, hg6⟩ := new_update k d hd es clock b _ hD hf hb5
  have e1 : mkV (pad d) = .agg X.toArray := by rw [← hX]; rfl
  have e2 : mkV (pad (nodeD k d d)) = .agg R.toArray := by rw [← hR]; rfl
  rw [e1, e2] at hrun
  exact ⟨hT4, hN5, hR5, w6, hrun, hN5.turned hg6 hD6, range_grown hR5 hg6 (by omega)⟩
set_option maxRecDepth 20000 in
set_option maxHeartbeats 8000000 in
theorem node_room (k : Int) (b clock : Nat) (d : ByteArray) (w : World) (hK : KeysAt w) (hk : k = 0 ∨ k = 1) (hd : d.size = wid k) (es : Array MapEntry) (hb : w.heap[b]? = some (.map es clock)) (hD : Dbls k es.toList) (hsz : es.size < 64) (hf : ∀ w, (Instr.findKey 45 (mkV (pad d)) es.toList).run Tryz.prog w = .ok none w) (X R : List Value) (hX : cells8 (pad d) = X) (hR : cells8 (pad (nodeD k d d)) = R) :
    Calls Tryz.prog 17 #[.agg #[.int .i64 k, .map (some b)], .agg X.toArray, .agg X.toArray] w fun e w' => e = .returned (.agg R.toArray) ∧ DblAt w' k b 64 ∧ w.grownBy w' (some b) := by
  obtain ⟨Z, hZ⟩ : ∃ Z, Z32 = Z := ⟨_, rfl⟩
  have lnZ : Z.length = 32 := by rw [← hZ]; exact Z32_len
  have onZ : ∀ v ∈ Z, v.oneCell' = true := by rw [← hZ]; exact Z32_one
  have hw := wid_le k
  have hcmp : ∀ W : World, (binOp .neq 45 (.agg X.toArray) (.agg X.toArray)).run Tryz.prog W = .ok (.bool false) W := by
    intro W
    have := run_differ W (pad d) (pad d) (pad_len d (by omega)) (pad_len d (by omega))
    rw [show (pad d == pad d) = true by simp] at this
    rw [← hX]
    exact this
  have ln1 : X.length = 32 := by rw [← hX, cells8_len]; exact pad_len _ (by omega)
  have ln3 : R.length = 32 := by rw [← hR, cells8_len]; exact pad_len _ (dg_le _ _)
  have on3 : ∀ v ∈ R, v.oneCell' = true := by rw [← hR]; exact cells8_one _
  have hDa : DblAt w k b es.size := ⟨es, clock, hb, Nat.le_refl _, hD⟩
  have hlt := hDa.lt
  have hN : Hid (Nd k b w X X es.size ((((w.alloc (.cells #[.int .i64 k, .map (some b)] 42)).alloc (.cells X.toArray 45)).alloc (.cells X.toArray 45)).alloc (.cells zeros32 45))) := Nd.start hK hDa
  have hbW : ((((w.alloc (.cells #[.int .i64 k, .map (some b)] 42)).alloc (.cells X.toArray 45)).alloc (.cells X.toArray 45)).alloc (.cells zeros32 45)).heap[b]? = some (.map es clock) := by
    rw [heap_alloc_old _ _ (by simp; omega), heap_alloc_old _ _ (by simp; omega), heap_alloc_old _ _ (by simp; omega), heap_alloc_old _ _ hlt]; exact hb
  have HL : Hid ((Instr.lookup 40 (.map (some b)) (.agg X.toArray) true).run Tryz.prog ((((w.alloc (.cells #[.int .i64 k, .map (some b)] 42)).alloc (.cells X.toArray 45)).alloc (.cells X.toArray 45)).alloc (.cells zeros32 45)) = .ok (.tuple #[.agg Z.toArray, .bool false]) ((((w.alloc (.cells #[.int .i64 k, .map (some b)] 42)).alloc (.cells X.toArray 45)).alloc (.cells X.toArray 45)).alloc (.cells zeros32 45))) := by
    have := new_look k d hd es clock b _ hf hbW
    have e1 : mkV (pad d) = .agg X.toArray := by rw [← hX]; rfl
    have e2 : mkV (List.replicate 32 0) = .agg Z.toArray := by rw [← hZ]; rfl
    rw [e1, e2] at this
    exact this
  obtain ⟨hzr, hi⟩ := zero_of_info Tryz.info45
  have i1 : (Tryz.prog.info? 45).map (·.size) = some X.length := by rw [ln1]; exact hi
  have i3 : (Tryz.prog.info? 45).map (·.size) = some R.length := by rw [ln3]; exact hi
  have i0 : (Tryz.prog.info? 45).map (·.size) = some Z.length := by rw [lnZ]; exact hi
  have I0 : Hid ((Tryz.prog.info? 45).map (·.size) = some Z.length) := i0
  have I1 : Hid ((Tryz.prog.info? 45).map (·.size) = some X.length) := i1
  have I3 : Hid ((Tryz.prog.info? 45).map (·.size) = some R.length) := i3
  have hW4 := size4 w (.cells #[.int .i64 k, .map (some b)] 42) (.cells X.toArray 45) (.cells X.toArray 45) (.cells zeros32 45)
  have hNv : Hid (Nd k b w X X es.size (((((w.alloc (.cells #[.int .i64 k, .map (some b)] 42)).alloc (.cells X.toArray 45)).alloc (.cells X.toArray 45)).alloc (.cells zeros32 45)).alloc (.cells zeros32 45))) := hN.out.laid _
  have hT : Hid ((((((w.alloc (.cells #[.int .i64 k, .map (some b)] 42)).alloc (.cells X.toArray 45)).alloc (.cells X.toArray 45)).alloc (.cells zeros32 45)).alloc (.cells zeros32 45)).there (w.heap.size + 1 + 1 + 1 + 1) 0 Z.length) := by
    have := there_row (((((w.alloc (.cells #[.int .i64 k, .map (some b)] 42)).alloc (.cells X.toArray 45)).alloc (.cells X.toArray 45)).alloc (.cells zeros32 45)).alloc (.cells zeros32 45)) (w.heap.size + 1 + 1 + 1 + 1) zeros32 45 32 zeros32_size (by rw [← hW4]; exact heap_alloc_new _ _)
    rw [lnZ]; exact this
  have hN2 : Nd k b w X X es.size ((((((w.alloc (.cells #[.int .i64 k, .map (some b)] 42)).alloc (.cells X.toArray 45)).alloc (.cells X.toArray 45)).alloc (.cells zeros32 45)).alloc (.cells zeros32 45)).setCells (w.heap.size + 1 + 1 + 1 + 1) 0 Z) := hNv.out.stored _ 0 Z (by omega)
  have hT2 : ((((((w.alloc (.cells #[.int .i64 k, .map (some b)] 42)).alloc (.cells X.toArray 45)).alloc (.cells X.toArray 45)).alloc (.cells zeros32 45)).alloc (.cells zeros32 45)).setCells (w.heap.size + 1 + 1 + 1 + 1) 0 Z).there (w.heap.size + 1 + 1 + 1 + 1) 0 R.length := by rw [ln3, ← lnZ]; exact World.there_setCells hT.out _ _ _
  have hb2 : ((((((w.alloc (.cells #[.int .i64 k, .map (some b)] 42)).alloc (.cells X.toArray 45)).alloc (.cells X.toArray 45)).alloc (.cells zeros32 45)).alloc (.cells zeros32 45)).setCells (w.heap.size + 1 + 1 + 1 + 1) 0 Z).heap[b]? = some (.map es clock) := by
    rw [heap_setCells_other _ _ _ (by omega), heap_alloc_old _ _ (by rw [hW4]; omega)]; exact hbW
  have hlen : Hid (∀ ty, (Builtin.len_ #[40] ty #[.map (some b)]).run Tryz.prog ((((((w.alloc (.cells #[.int .i64 k, .map (some b)] 42)).alloc (.cells X.toArray 45)).alloc (.cells X.toArray 45)).alloc (.cells zeros32 45)).alloc (.cells zeros32 45)).setCells (w.heap.size + 1 + 1 + 1 + 1) 0 Z) = .ok (.int .i64 (es.size : Nat)) ((((((w.alloc (.cells #[.int .i64 k, .map (some b)] 42)).alloc (.cells X.toArray 45)).alloc (.cells X.toArray 45)).alloc (.cells zeros32 45)).alloc (.cells zeros32 45)).setCells (w.heap.size + 1 + 1 + 1 + 1) 0 Z)) := len_at es clock b _ hb2
  have HN2 : Hid (Nd k b w X X es.size ((((((w.alloc (.cells #[.int .i64 k, .map (some b)] 42)).alloc (.cells X.toArray 45)).alloc (.cells X.toArray 45)).alloc (.cells zeros32 45)).alloc (.cells zeros32 45)).setCells (w.heap.size + 1 + 1 + 1 + 1) 0 Z)) := hN2
  have tail : Hid (∀ w4, Below ((((((w.alloc (.cells #[.int .i64 k, .map (some b)] 42)).alloc (.cells X.toArray 45)).alloc (.cells X.toArray 45)).alloc (.cells zeros32 45)).alloc (.cells zeros32 45)).setCells (w.heap.size + 1 + 1 + 1 + 1) 0 Z).heap.size ((((((w.alloc (.cells #[.int .i64 k, .map (some b)] 42)).alloc (.cells X.toArray 45)).alloc (.cells X.toArray 45)).alloc (.cells zeros32 45)).alloc (.cells zeros32 45)).setCells (w.heap.size + 1 + 1 + 1 + 1) 0 Z) w4 → _) := fun w4 hb4 => fresh_tail hd hX hR hN2 hT2 hb2 hD hf hb4
  have HX : Hid (cells8 (pad d) = X) := hX
  have HR : Hid (cells8 (pad (nodeD k d d)) = R) := hR
  obtain ⟨q, hq⟩ : ∃ q, es.size = q := ⟨_, rfl⟩
  rw [hq] at hlen hsz
  have c64 : ((q : Int) == 64) = false := by simpa using (by omega : ¬ (q : Int) = 64)
  have HQ : Hid (es.size = q) := hq
  clear hZ i0 i1 i3 hi hX hR hK hD hW4 hN2 hT2 hb2 hbW hb hf hDa hq
  have p2 := HN2.out.c0
  have q2 := HN2.out.c1
  go_enter Tryz.func17, Tryz.ntmps17
  go_wp2_with (first | (refine wpList_load_mid rfl 45 (.tmp 4) rfl _ _ rfl X _ hN.out.r1 Tryz.underlying45 rfl I1.out ?_) | (refine wpList_load_mid rfl 45 (.tmp 5) rfl _ _ rfl X _ hN.out.r2 Tryz.underlying45 rfl I1.out ?_) | (at_lookup; refine wpList_run_lookup rfl (.tmp 18) (.tmp 19) 40 true rfl _ _ _ rfl rfl HL.out ?_) | (refine wpList_store_mid rfl 45 (.tmp 7) (.tmp 21) rfl (w.heap.size + 1 + 1 + 1 + 1) 0 Z.toArray rfl rfl hT.out I0.out (all_oneCell_toArray onZ) ?_) | (refine wpList_run_len rfl (.tmp 26) 40 rfl _ _ rfl hlen.out ?_) | (refine wpList_load_mid rfl 45 (.tmp 4) rfl _ _ rfl X _ HN2.out.r1 Tryz.underlying45 rfl I1.out ?_) | (refine wpList_load_mid rfl 45 (.tmp 5) rfl _ _ rfl X _ HN2.out.r2 Tryz.underlying45 rfl I1.out ?_) | (go_at_call 36; refine (join_as k b d d _ HN2.out.keys hk hd hd X X R HX.out HX.out HR.out).mono ?_; rintro e w4 ⟨rfl, hb4⟩; obtain ⟨a4, a5, a6, w6, a7, a8, a9⟩ := tail.out w4 hb4; have A4 : Hid _ := a4; have A5 : Hid _ := a5; have p5 := a5.c0; have q5 := a5.c1; have A6 : Hid _ := a6; have A7 : Hid _ := a7; have A8 : Hid _ := a8; have A9 : Hid _ := a9; clear a4 a5 a6 a7 a8 a9) | (refine wpList_store_mid rfl 45 (.tmp 7) (.tmp 34) rfl (w.heap.size + 1 + 1 + 1 + 1) 0 R.toArray rfl rfl A4.out I3.out (all_oneCell_toArray on3) ?_) | (refine wpList_load_mid rfl 45 (.tmp 4) rfl _ _ rfl X _ A5.out.r1 Tryz.underlying45 rfl I1.out ?_) | (refine wpList_load_mid rfl 45 (.tmp 7) rfl _ _ rfl R _ A6.out Tryz.underlying45 rfl I3.out ?_) | (at_mapUpdate; refine wpList_run_update rfl (.tmp 36) (.tmp 37) (.tmp 38) 40 rfl _ _ _ rfl rfl rfl A7.out ?_) | (refine wpList_load_mid rfl 45 (.tmp 7) rfl _ _ rfl R _ A9.out Tryz.underlying45 rfl I3.out ?_) | (refine wpList_store_mid rfl 45 (.tmp 6) (.tmp 39) rfl (w.heap.size + 1 + 1 + 1) 0 R.toArray rfl rfl (by rw [show R.toArray.size = 32 from ln3]; exact A8.out.t3) I3.out (all_oneCell_toArray on3) ?_))
  have hth : w6.there (w.heap.size + 1 + 1 + 1) 0 R.length := by rw [ln3]; exact A8.out.t3
  have hN9 := A8.out.stored (w.heap.size + 1 + 1 + 1) 0 R (by omega)
  exact bodyPost_ret (v := .agg R.toArray) (results_mid Tryz.results17 _ _ (w.heap.size + 1 + 1 + 1) 0 R _ rfl (World.rangeAt_setCells_same _ _ _ _ hth) Tryz.underlying45 rfl I3.out) rfl ⟨rfl, hN9.dbl.mono (by have := HQ.out; omega), hN9.grown⟩
end Go.Proofs.YtjbbbfplephkpaaGreatDoor
