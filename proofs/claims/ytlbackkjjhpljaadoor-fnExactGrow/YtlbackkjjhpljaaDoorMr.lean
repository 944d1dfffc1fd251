/-
  Marks made of digests, and digests of marks; a joiner made.
-/
import Derived.Test.YtlbackkjjhpljaaDoorMq
import Derived.Deep.WholeRow
namespace Go.Proofs.YtlbackkjjhpljaaDoor
open Go.RowKit Go.ChangeMaps
theorem wpList_run_copy {P : Program} {w w' : World} {ops : Array Oper} {rest : List Oper} {o : Oper} {a : Act} {Q : Exit → Act → World → Prop} (hg : o.guard = none) (x y : Operand) (t t' : TypeId) (hop : o.op = Op.call { callee := Callee.builtin Builtin.copy, args := #[x, y], argTypes := #[t, t'] })
    (xv yv v : Value) (hx : a.eval x = xv) (hy : a.eval y = yv) (hrun : ∀ ty, (Builtin.copy_ #[t, t'] ty #[xv, yv]).run P w = .ok v w') (hK : wpList P ops Q rest (a.put o.dst v) w') : wpList P ops Q (o :: rest) a w := by
  refine wpList_plain hg fun K' hK' => ?_
  unfold Oper.wp
  simp [execOp, hop, resolve, invoke, builtin, hx, hy, hrun, Result.andThen]
  exact hK' _ _ hK
set_option maxRecDepth 20000 in
theorem Tryd.info51 : (Tryd.prog.info? 51).map (fun i => (i.zero, i.size)) = some (some (.agg zeros32), 32) := by kernel_rfl
set_option maxRecDepth 20000 in
theorem Tryd.size5 : (Tryd.prog.info? 5).map (·.size) = some 1 := by kernel_rfl
theorem zeros32_size : zeros32.size = 32 := by simp [zeros32]
theorem mark_copied (s : ByteArray) : (zeros32.toList.take 0 ++ Lib.byteCells s.data.toList ++ zeros32.toList.drop (0 + s.size)).toArray = mkA (pad s) := by
  have e : zeros32.toList = cells8 (List.replicate 32 0) := by rfl
  have e2 : Lib.byteCells s.data.toList = cells8 s.data.toList := rfl
  unfold mkA
  congr 1
  rw [e, e2, List.take_zero, List.nil_append, Nat.zero_add]
  unfold cells8 pad
  rw [List.map_append, ← List.map_drop, List.drop_replicate]
set_option maxRecDepth 20000 in
set_option maxHeartbeats 1000000 in
theorem markOf_any (s : ByteArray) (w : World) (hs : s.size ≤ 32) :
    Calls Tryd.prog 36 #[.string s] w fun e w' => e = .returned (mkV (pad s)) ∧ Below w.heap.size w w' := by
  obtain ⟨hz, hi⟩ := zero_of_info Tryd.info51
  have HI : Hid ((Tryd.prog.info? 51).map (·.size) = some 32) := hi
  clear hi
  have B0 : Hid (((w.alloc (.cells zeros32 51)).alloc (.cells zeros32 51)).heap[w.heap.size]? = some (.cells zeros32 51 (0, 0))) := heap_alloc2_old _ _ _
  have B1 : Hid (((w.alloc (.cells zeros32 51)).alloc (.cells zeros32 51)).heap[w.heap.size + 1]? = some (.cells zeros32 51 (0, 0))) := heap_alloc2_new _ _ _
  have hcp : Hid (∀ ty, (Builtin.copy_ #[75, 9] ty #[.slice (some ⟨w.heap.size + 1, 0, none⟩) 32 32, .string s]).run Tryd.prog ((w.alloc (.cells zeros32 51)).alloc (.cells zeros32 51)) = .ok (goInt s.size) (((w.alloc (.cells zeros32 51)).alloc (.cells zeros32 51)).setRow (w.heap.size + 1) (mkA (pad s)))) := by
    intro ty
    rw [← mark_copied s]
    exact Lib.run_copy_row_string _ 75 9 ty 5 (w.heap.size + 1) 0 32 32 s zeros32 51 Tryd.underlying75 Tryd.size5 B1.out hs (by rw [zeros32_size]; omega)
  have hb : Hid (Below w.heap.size w (((w.alloc (.cells zeros32 51)).alloc (.cells zeros32 51)).setRow (w.heap.size + 1) (mkA (pad s)))) := below_setRow (below2 _ _ _) (by omega) _
  have C1 : Hid ((((w.alloc (.cells zeros32 51)).alloc (.cells zeros32 51)).setRow (w.heap.size + 1) (mkA (pad s))).heap[w.heap.size + 1]? = some (.cells (mkA (pad s)) 51 (0, 0))) := setRow_heap _ _ _ _ _ _ B1.out
  have C0 : Hid ((((w.alloc (.cells zeros32 51)).alloc (.cells zeros32 51)).setRow (w.heap.size + 1) (mkA (pad s))).heap[w.heap.size]? = some (.cells zeros32 51 (0, 0))) := (setRow_other _ _ _ _ (by omega)).trans B0.out
  have HL : Hid ((mkA (pad s)).size = 32) := (mkA_size _).trans (pad_len s hs)
  obtain ⟨X, hX⟩ : ∃ X, mkA (pad s) = X := ⟨_, rfl⟩
  have HO : Hid (X.all (·.oneCell') = true) := by rw [← hX]; exact mkA_one _
  have HV : Hid (mkV (pad s) = .agg X) := by rw [← hX]; rfl
  rw [hX] at hcp hb C1 C0 HL
  rw [HV.out]
  clear hX
  go_enter Tryd.func36, Tryd.ntmps36
  go_wp2_with (first | (refine wpList_run_copy rfl (.tmp 4) (.tmp 5) 75 9 rfl _ _ _ rfl rfl hcp.out ?_) | (refine wpList_load_row rfl 51 (.tmp 3) rfl _ rfl 51 _ _ (.array 32 5) C1.out Tryd.underlying51 rfl (by rw [HL.out]; exact HI.out) ?_) | (refine wpList_store_row rfl 51 (.tmp 2) (.tmp 7) rfl _ _ rfl rfl 51 _ C0.out (by rw [HL.out]; exact HI.out) (by rw [HL.out, zeros32_size]) HO.out ?_))
  exact bodyPost_ret (v := .agg X) (results_cell_row Tryd.results36 _ _ w.heap.size 51 X (0, 0) (.array 32 5) rfl (setRow_heap _ _ _ _ _ _ C0.out) Tryd.underlying51 rfl (by rw [HL.out]; exact HI.out)) rfl ⟨rfl, below_setRow hb.out (Nat.le_refl _) _⟩
set_option maxRecDepth 20000 in
theorem conv_part (w : World) (g t : Nat) (l : List UInt8) (n c : Nat) (hn : n ≤ l.length) (h : w.heap[g]? = some (.cells (mkA l) t (0, 0))) :
    (convert 75 9 (.slice (some ⟨g, 0, none⟩) n c)).run Tryd.prog w = .ok (.string ⟨(l.take n).toArray⟩) w := by
  have hl : (l.take n).length = n := by simp; omega
  have := run_convert_bytes_back w 75 9 5 ⟨g, 0, none⟩ c (l.take n) Tryd.underlying75 Tryd.underlying5 Tryd.underlying9 ?_
  · rw [hl] at this; exact this
  · intro j hj
    have hadd : (⟨g, 0, none⟩ : Addr).add j = ⟨g, j, none⟩ := by unfold Addr.add; split <;> simp_all
    have hj2 : j < l.length := by simp at hj; omega
    rw [hadd, cell_of_row w g j _ t _ h, mkA_get l j hj2]
    simp
set_option maxRecDepth 20000 in
theorem slice_mark (k : Int) (hk : k = 0 ∨ k = 1) (g : Nat) (w : World) : (Instr.sliceAt 51 (.pointer (some ⟨g, 0, none⟩)) none (some (.int .i64 (wid k : Nat))) none).run Tryd.prog w = .ok (.slice (some ⟨g, 0, none⟩) (wid k) 32) w := by
  rcases hk with rfl | rfl
  · show (Instr.sliceAt 51 (.pointer (some ⟨g, 0, none⟩)) none (some (.int .i64 32)) none).run Tryd.prog w = .ok (.slice (some ⟨g, 0, none⟩) 32 32) w
    kernel_rfl
  · show (Instr.sliceAt 51 (.pointer (some ⟨g, 0, none⟩)) none (some (.int .i64 1)) none).run Tryd.prog w = .ok (.slice (some ⟨g, 0, none⟩) 1 32) w
    kernel_rfl
/-- The text of a mark. -/
def txt (k : Int) (l : List UInt8) : ByteArray := ⟨(l.take (wid k)).toArray⟩
theorem txt_pad (k : Int) (d : ByteArray) (h : d.size = wid k) : txt k (pad d) = d := by
  unfold txt
  rw [← h, pad_take, ba_list]
set_option maxRecDepth 20000 in
set_option maxHeartbeats 1000000 in
theorem joinText_any (k : Int) (b : Nat) (l : List UInt8) (w : World) (hk : k = 0 ∨ k = 1) (hl : l.length = 32) (d : ByteArray) (hd : txt k l = d) :
    Calls Tryd.prog 38 #[.agg #[.int .i64 k, .map (some b)], mkV l] w fun e w' => e = .returned (.string d) ∧ Below w.heap.size w w' := by
  have HD : Hid (txt k l = d) := hd
  have hw := wid_le k
  have hw1 : 0 < wid k := by unfold wid; split <;> omega
  have hcv := conv_part ((w.alloc (.cells #[.int .i64 k, .map (some b)] 48)).alloc (.cells (mkA l) 51)) (w.heap.size + 1) 51 l (wid k) 32 (by omega) (heap_alloc2_new _ _ _)
  have hcv2 : (convert 75 9 (.slice (some ⟨w.heap.size + 1, 0, none⟩) (wid k) 32)).run Tryd.prog ((w.alloc (.cells #[.int .i64 k, .map (some b)] 48)).alloc (.cells (mkA l) 51)) = .ok (.string d) ((w.alloc (.cells #[.int .i64 k, .map (some b)] 48)).alloc (.cells (mkA l) 51)) := by rw [hcv, ← hd]; rfl
  clear hcv hd
  have hb : Hid (Below w.heap.size w ((w.alloc (.cells #[.int .i64 k, .map (some b)] 48)).alloc (.cells (mkA l) 51))) := below2 _ _ _
  have HL : Hid ((mkA l).size = 32) := (mkA_size _).trans hl
  obtain ⟨X, hX⟩ : ∃ X, mkA l = X := ⟨_, rfl⟩
  have HV : Hid (mkV l = .agg X) := by rw [← hX]; rfl
  rw [hX] at hcv2 hb HL
  rw [HV.out]
  clear hX HV
  have hsl := slice_mark k hk
  obtain ⟨n, hn⟩ : ∃ n, wid k = n := ⟨_, rfl⟩
  have HN : Hid (wid k = n) := hn
  rw [hn] at hw hw1 hcv2 hsl
  clear hn
  go_enter Tryd.func38, Tryd.ntmps38
  go_wp2_with (go_at_call 42; refine (widthOf_yes _ _ hk).mono ?_; rw [HN.out]; rintro e w1 ⟨rfl, rfl⟩)
  go_ret
  exact ⟨rfl, hb.out⟩
set_option maxRecDepth 20000 in
set_option maxHeartbeats 1000000 in
theorem makeJoiner_any (k : Int) (w : World) :
    Calls Tryd.prog 35 #[.int .i64 k] w fun e w' => ∃ b, w.heap.size ≤ b ∧ e = .returned (.agg #[.int .i64 k, .map (some b)]) ∧ DblAt w' k b 0 ∧ Below w.heap.size w w' := by
  have hmm := @run_makeMap Tryd.prog
  go_enter Tryd.func35, Tryd.ntmps35
  go_wp2
  exact bodyPost_ret (v := .agg #[.int .i64 k, .map (some (w.heap.size + 1))]) (by simp [results, Tryd.results35, go_sem]) rfl ⟨w.heap.size + 1, by omega, rfl, by simpa using DblAt.made (w.alloc (.cells #[.int .i64 k, .map (some (w.heap.size + 1))] 48)) k, below2 _ _ _⟩
end Go.Proofs.YtlbackkjjhpljaaDoor
