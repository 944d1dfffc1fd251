/-
  Marks made of digests, and digests of marks; a joiner made.
-/
import Derived.Test.YtjbbbfplephkpaaGreatDoorTik
import Derived.Maps.OwnSet
import Derived.Stop.BytesEq
import Derived.Lib.BufferWrite
import Derived.Deep.WholeRow
namespace Go.Proofs.YtjbbbfplephkpaaGreatDoor
open Go.RowKit Go.ChangeMaps
/-- A digest, filled up to 32 bytes. -/
def pad (s : ByteArray) : List UInt8 := s.data.toList ++ List.replicate (32 - s.size) 0
theorem size_list (s : ByteArray) : s.data.toList.length = s.size := rfl
theorem pad_len (s : ByteArray) (h : s.size ≤ 32) : (pad s).length = 32 := by
  unfold pad
  rw [List.length_append, List.length_replicate, size_list]
  omega
theorem pad_take (s : ByteArray) : (pad s).take s.size = s.data.toList := by
  unfold pad
  rw [List.take_append_of_le_length (by rw [size_list]; exact Nat.le_refl _), List.take_of_length_le (by rw [size_list]; exact Nat.le_refl _)]
theorem ba_list (s : ByteArray) : (⟨s.data.toList.toArray⟩ : ByteArray) = s := by cases s; simp
theorem pad_inj (s t : ByteArray) (h : s.size = t.size) (e : pad s = pad t) : s = t := by
  have := pad_take s
  rw [e, h, pad_take] at this
  rw [← ba_list s, ← ba_list t, this]
def mkA (l : List UInt8) : Array Value := (cells8 l).toArray
def mkV (l : List UInt8) : Value := .agg (mkA l)
theorem mkA_size (l : List UInt8) : (mkA l).size = l.length := by simp [mkA, cells8]
theorem mkA_one (l : List UInt8) : (mkA l).all (·.oneCell') = true := by
  rw [Array.all_eq_true]
  intro i hi
  simp [mkA, cells8, Value.oneCell']
theorem mkA_get (l : List UInt8) (i : Nat) (h : i < l.length) : (mkA l)[i]? = some (.int .u8 ((l[i]).toNat : Int)) := by
  simp [mkA, cells8, h]
set_option maxRecDepth 20000 in
theorem sizeB (w : World) : (sizeOf 5).run Tryz.prog w = .ok 1 w := by kernel_rfl
set_option maxRecDepth 20000 in
theorem run_same (w : World) (xs ys : List UInt8) (hx : xs.length = 32) (hy : ys.length = 32) : (Op.equal 45 (mkV xs) (mkV ys)).run Tryz.prog w = .ok (xs == ys) w :=
  run_equalIn_bytes w 9998 45 5 32 Tryz.underlying45 Tryz.underlying5 sizeB xs ys hx hy
set_option maxRecDepth 20000 in
theorem run_differ (w : World) (xs ys : List UInt8) (hx : xs.length = 32) (hy : ys.length = 32) : (binOp .neq 45 (mkV xs) (mkV ys)).run Tryz.prog w = .ok (.bool (!(xs == ys))) w := by
  have h := run_same w xs ys hx hy
  unfold mkV at h ⊢
  rw [run_neq_struct]
  show ((Op.equal 45 _ _).run Tryz.prog w).andThen _ = _
  rw [h]; rfl
set_option maxRecDepth 20000 in
theorem run_check (w : World) (em : Bool) (l : List UInt8) (h : l.length = 32) : (Instr.checkKey em 10000 45 (mkV l)).run Tryz.prog w = .ok () w := by
  unfold mkV
  rw [Instr.checkKey]
  simp only [Sem.run_bind, run_underlying Tryz.underlying45, Result.andThen_ok, Std.Legacy.Range.forIn_eq_forIn_range', Std.Legacy.Range.size, Nat.sub_zero, Nat.add_sub_cancel, Nat.div_one]
  have hl : ∀ i ∈ List.range' 0 32 1, i < 32 := fun i hi => by simpa using (List.mem_range'_1.1 hi).2
  generalize List.range' 0 32 1 = r at hl ⊢
  induction r with
  | nil => simp
  | cons i r ih =>
    have hi : i < 32 := hl i (by simp)
    have px : (part 5 (mkA l) (i * 1)).run Tryz.prog w = .ok (.int .u8 ((l[i]'(by omega)).toNat : Int)) w := by
      simp [part, isAgg, run_underlying Tryz.underlying5, mkA_get l i (by omega)]
    have pc : ∀ x : Int, (Instr.checkKey em 9999 5 (.int .u8 x)).run Tryz.prog w = .ok () w := by
      intro x
      rw [Instr.checkKey]
      simp [run_underlying Tryz.underlying5]
    simp only [List.forIn_cons, Sem.run_bind, sizeB, Result.andThen_ok, px, pc, Sem.run_pure]
    exact ih fun j hj => hl j (by simp [hj])
end Go.Proofs.YtjbbbfplephkpaaGreatDoor
namespace Go.Proofs.YtjbbbfplephkpaaGreatDoor
open Go.RowKit Go.ChangeMaps
/-- The entries of a map of doubles. -/
def Dbls (k : Int) (es : List MapEntry) : Prop := ∀ e ∈ es, ∃ d : ByteArray, d.size = wid k ∧ e.key = mkV (pad d) ∧ e.val = mkV (pad (nodeD k d d))
/-- Block b is a map of at most n doubles. -/
def DblAt (w : World) (k : Int) (b n : Nat) : Prop := ∃ es clock, w.heap[b]? = some (.map es clock) ∧ es.size ≤ n ∧ Dbls k es.toList
theorem wid_le (k : Int) : wid k ≤ 32 := by unfold wid; split <;> omega
set_option maxRecDepth 20000 in
theorem run_findAsking (w : World) (k : Int) (d : ByteArray) (hd : d.size = wid k) : ∀ (es : List MapEntry) (i : Nat), Dbls k es →
    ((Instr.findAsking 45 (mkV (pad d)) es i).run Tryz.prog w = .ok none w) ∨ ∃ j, (Instr.findAsking 45 (mkV (pad d)) es i).run Tryz.prog w = .ok (some (j, mkV (pad (nodeD k d d)))) w
  | [], i, _ => Or.inl rfl
  | e :: es, i, h => by
    obtain ⟨d', hd', hk, hv⟩ := h e (by simp)
    have hw := wid_le k
    have he := run_same w (pad d) (pad d') (pad_len d (by omega)) (pad_len d' (by omega))
    rw [← hk] at he
    rw [Instr.findAsking]
    simp only [Sem.run_bind, he, Result.andThen_ok]
    by_cases e1 : pad d = pad d'
    · obtain rfl := pad_inj d d' (by omega) e1
      right
      exact ⟨i, by simp [hv]⟩
    · have : (pad d == pad d') = false := by simpa using e1
      rw [this]
      rcases run_findAsking w k d hd es (i + 1) (fun x hx => h x (by simp [hx])) with h1 | ⟨j, h1⟩
      · left; simpa using h1
      · right; exact ⟨j, by simpa using h1⟩
set_option maxRecDepth 20000 in
theorem run_find (w : World) (k : Int) (d : ByteArray) (hd : d.size = wid k) (es : List MapEntry) (h : Dbls k es) :
    ((Instr.findKey 45 (mkV (pad d)) es).run Tryz.prog w = .ok none w) ∨ ∃ j, (Instr.findKey 45 (mkV (pad d)) es).run Tryz.prog w = .ok (some (j, mkV (pad (nodeD k d d)))) w := by
  unfold Instr.findKey
  simp only [Sem.run_bind, run_underlying Tryz.underlying45, Result.andThen_ok]
  cases es with
  | nil => left; simp [Instr.findNow]
  | cons e es =>
    have : Instr.findNow (.array 32 5) (mkV (pad d)) (e :: es) 0 = none := by
      obtain ⟨d', _, hk, _⟩ := h e (by simp)
      simp [Instr.findNow, Instr.sameNow]
    rw [this]
    exact run_findAsking w k d hd _ 0 h
set_option maxRecDepth 20000 in
/-- What a look-up answers. -/
theorem DblAt.look {w : World} {k : Int} {b n : Nat} (h : DblAt w k b n) (d : ByteArray) (hd : d.size = wid k) :
    ((Instr.lookup 40 (.map (some b)) (mkV (pad d)) true).run Tryz.prog w = .ok (.tuple #[mkV (pad (nodeD k d d)), .bool true]) w) ∨
    ((Instr.lookup 40 (.map (some b)) (mkV (pad d)) true).run Tryz.prog w = .ok (.tuple #[mkV (List.replicate 32 0), .bool false]) w) := by
  obtain ⟨es, clock, hb, hn, hD⟩ := h
  have hw := wid_le k
  have hc := fun em => run_check w em (pad d) (pad_len d (by omega))
  rcases run_find w k d hd es.toList hD with hf | ⟨j, hf⟩
  · right
    simp [Instr.lookup, run_underlying Tryz.underlying40, MapKept.run_getObj_map hb, hc, hf, Result.andThen]
    rfl
  · left
    simp [Instr.lookup, run_underlying Tryz.underlying40, MapKept.run_getObj_map hb, hc, hf, Result.andThen]
set_option maxRecDepth 20000 in
/-- A double is kept. -/
theorem DblAt.keep {w : World} {k : Int} {b n : Nat} (h : DblAt w k b n) (d : ByteArray) (hd : d.size = wid k) (hl : (Instr.lookup 40 (.map (some b)) (mkV (pad d)) true).run Tryz.prog w = .ok (.tuple #[mkV (List.replicate 32 0), .bool false]) w) :
    ∃ w', (Instr.mapUpdate 40 (.map (some b)) (mkV (pad d)) (mkV (pad (nodeD k d d)))).run Tryz.prog w = .ok () w' ∧ DblAt w' k b (n + 1) ∧ w.grownBy w' (some b) := by
  obtain ⟨es, clock, hb, hn, hD⟩ := h
  have hw := wid_le k
  have hc := fun em => run_check w em (pad d) (pad_len d (by omega))
  rcases run_find w k d hd es.toList hD with hf | ⟨j, hf⟩
  · refine ⟨setBlock w b (.map (es.push { key := mkV (pad d), val := mkV (pad (nodeD k d d)), born := clock }) (clock + 1)), ?_, ⟨_, _, heap_setBlock_same hb _, by simp; omega, ?_⟩, ⟨rfl, rfl, rfl, by simp [setBlock], fun i _ hi => heap_setBlock_other hb _ (fun e => hi (by rw [e]))⟩⟩
    · simp [Instr.mapUpdate, run_underlying Tryz.underlying40, MapKept.run_getObj_map hb, hc, hf, Result.andThen, MapKept.run_setObj_map _ hb, setBlock]
    · intro e he
      rw [Array.toList_push, List.mem_append] at he
      rcases he with he | he
      · exact hD e he
      · simp only [List.mem_singleton] at he
        subst he
        exact ⟨d, hd, rfl, rfl⟩
  · exfalso
    simp [Instr.lookup, run_underlying Tryz.underlying40, MapKept.run_getObj_map hb, hc, hf, Result.andThen] at hl
set_option maxRecDepth 20000 in
theorem DblAt.len {w : World} {k : Int} {b n : Nat} (h : DblAt w k b n) : ∃ m, m ≤ n ∧ DblAt w k b m ∧ ∀ ty, (Builtin.len_ #[40] ty #[.map (some b)]).run Tryz.prog w = .ok (.int .i64 (m : Nat)) w := by
  obtain ⟨es, clock, hb, hn, hD⟩ := h
  refine ⟨es.size, hn, ⟨es, clock, hb, Nat.le_refl _, hD⟩, fun ty => ?_⟩
  simp [Builtin.len_, run_underlying Tryz.underlying40, MapKept.run_getObj_map hb, goInt, Result.andThen]
set_option maxRecDepth 20000 in
theorem DblAt.clear {w : World} {k : Int} {b n : Nat} (h : DblAt w k b n) : ∃ w', (∀ ty, (Builtin.clear_ #[40] ty #[.map (some b)]).run Tryz.prog w = .ok (.tuple #[]) w') ∧ DblAt w' k b 0 ∧ w.grownBy w' (some b) := by
  obtain ⟨es, clock, hb, hn, hD⟩ := h
  refine ⟨setBlock w b (.map #[] clock), fun ty => ?_, ⟨#[], clock, heap_setBlock_same hb _, by simp, fun e he => by simp at he⟩, ⟨rfl, rfl, rfl, by simp [setBlock], fun i _ hi => heap_setBlock_other hb _ (fun e => hi (by rw [e]))⟩⟩
  simp [Builtin.clear_, run_underlying Tryz.underlying40, MapKept.run_getObj_map hb, MapKept.run_setObj_map _ hb, Result.andThen, setBlock]
theorem DblAt.made (w : World) (k : Int) : DblAt (w.alloc (.map #[] 0)) k w.heap.size 0 :=
  ⟨#[], 0, (MapKept.heap_alloc w _).1, by simp, fun e he => by simp at he⟩
theorem DblAt.lt {w : World} {k : Int} {b n : Nat} (h : DblAt w k b n) : b < w.heap.size := by
  obtain ⟨es, clock, hb, _⟩ := h
  exact (Array.getElem?_eq_some_iff.1 hb).1
theorem DblAt.later {w w' : World} {k : Int} {b n : Nat} (h : DblAt w k b n) (hb : Below w.heap.size w w') : DblAt w' k b n := by
  have hlt := h.lt
  obtain ⟨es, clock, h1, h2, h3⟩ := h
  exact ⟨es, clock, (hb.block b hlt).trans h1, h2, h3⟩
theorem DblAt.other {w w' : World} {k : Int} {b n : Nat} {r : Option Nat} (h : DblAt w k b n) (hg : w.grownBy w' r) (hne : some b ≠ r) : DblAt w' k b n := by
  have hlt := h.lt
  obtain ⟨es, clock, h1, h2, h3⟩ := h
  exact ⟨es, clock, (hg.block b hlt hne).trans h1, h2, h3⟩
theorem DblAt.mono {w : World} {k : Int} {b n m : Nat} (h : DblAt w k b n) (hm : n ≤ m) : DblAt w k b m := by
  obtain ⟨es, clock, h1, h2, h3⟩ := h
  exact ⟨es, clock, h1, by omega, h3⟩
theorem wpList_run_lookup {P : Program} {w : World} {ops : Array Oper} {rest : List Oper} {o : Oper} {a : Act} {Q : Exit → Act → World → Prop} (hg : o.guard = none) (m x : Operand) (t : TypeId) (c : Bool) (hop : o.op = Op.lookup t m x c)
    (mv xv v : Value) (hm : a.eval m = mv) (hx : a.eval x = xv) (hrun : (Instr.lookup t mv xv c).run P w = .ok v w) (hK : wpList P ops Q rest (a.put o.dst v) w) : wpList P ops Q (o :: rest) a w := by
  refine wpList_plain hg fun K' hK' => ?_
  unfold Oper.wp
  simp [execOp, hop, hm, hx, hrun, Result.andThen]
  exact hK' _ _ hK
theorem wpList_run_update {P : Program} {w w' : World} {ops : Array Oper} {rest : List Oper} {o : Oper} {a : Act} {Q : Exit → Act → World → Prop} (hg : o.guard = none) (m x v : Operand) (t : TypeId) (hop : o.op = Op.mapUpdate t m x v)
    (mv xv vv : Value) (hm : a.eval m = mv) (hx : a.eval x = xv) (hv : a.eval v = vv) (hrun : (Instr.mapUpdate t mv xv vv).run P w = .ok () w') (hK : wpList P ops Q rest (a.put o.dst undef) w') : wpList P ops Q (o :: rest) a w := by
  refine wpList_plain hg fun K' hK' => ?_
  unfold Oper.wp
  simp [execOp, hop, hm, hx, hv, hrun, Result.andThen]
  exact hK' _ _ hK
theorem wpList_run_len {P : Program} {w : World} {ops : Array Oper} {rest : List Oper} {o : Oper} {a : Act} {Q : Exit → Act → World → Prop} (hg : o.guard = none) (m : Operand) (t : TypeId) (hop : o.op = Op.call { callee := Callee.builtin Builtin.len, args := #[m], argTypes := #[t] })
    (mv v : Value) (hm : a.eval m = mv) (hrun : ∀ ty, (Builtin.len_ #[t] ty #[mv]).run P w = .ok v w) (hK : wpList P ops Q rest (a.put o.dst v) w) : wpList P ops Q (o :: rest) a w := by
  refine wpList_plain hg fun K' hK' => ?_
  unfold Oper.wp
  simp [execOp, hop, resolve, invoke, builtin, hm, hrun, Result.andThen]
  exact hK' _ _ hK
theorem wpList_run_clear {P : Program} {w w' : World} {ops : Array Oper} {rest : List Oper} {o : Oper} {a : Act} {Q : Exit → Act → World → Prop} (hg : o.guard = none) (m : Operand) (t : TypeId) (hop : o.op = Op.call { callee := Callee.builtin Builtin.clear, args := #[m], argTypes := #[t] })
    (mv : Value) (hm : a.eval m = mv) (hrun : ∀ ty, (Builtin.clear_ #[t] ty #[mv]).run P w = .ok (.tuple #[]) w') (hK : wpList P ops Q rest (a.put o.dst (.tuple #[])) w') : wpList P ops Q (o :: rest) a w := by
  refine wpList_plain hg fun K' hK' => ?_
  unfold Oper.wp
  simp [execOp, hop, resolve, invoke, builtin, hm, hrun, Result.andThen]
  exact hK' _ _ hK
end Go.Proofs.YtjbbbfplephkpaaGreatDoor
namespace Go.Proofs.YtjbbbfplephkpaaGreatDoor
open Go.RowKit Go.ChangeMaps
theorem wpList_run_copy {P : Program} {w w' : World} {ops : Array Oper} {rest : List Oper} {o : Oper} {a : Act} {Q : Exit → Act → World → Prop} (hg : o.guard = none) (x y : Operand) (t t' : TypeId) (hop : o.op = Op.call { callee := Callee.builtin Builtin.copy, args := #[x, y], argTypes := #[t, t'] })
    (xv yv v : Value) (hx : a.eval x = xv) (hy : a.eval y = yv) (hrun : ∀ ty, (Builtin.copy_ #[t, t'] ty #[xv, yv]).run P w = .ok v w') (hK : wpList P ops Q rest (a.put o.dst v) w') : wpList P ops Q (o :: rest) a w := by
  refine wpList_plain hg fun K' hK' => ?_
  unfold Oper.wp
  simp [execOp, hop, resolve, invoke, builtin, hx, hy, hrun, Result.andThen]
  exact hK' _ _ hK
set_option maxRecDepth 20000 in
theorem Tryz.info45 : (Tryz.prog.info? 45).map (fun i => (i.zero, i.size)) = some (some (.agg zeros32), 32) := by kernel_rfl
set_option maxRecDepth 20000 in
theorem Tryz.size5 : (Tryz.prog.info? 5).map (·.size) = some 1 := by kernel_rfl
theorem zeros32_size : zeros32.size = 32 := by simp [zeros32]
theorem mark_copied (s : ByteArray) : (zeros32.toList.take 0 ++ Lib.byteCells s.data.toList ++ zeros32.toList.drop (0 + s.size)).toArray = mkA (pad s) := by
  have e : zeros32.toList = cells8 (List.replicate 32 0) := by rfl
  have e2 : Lib.byteCells s.data.toList = cells8 s.data.toList := rfl
  unfold mkA
  congr 1
  rw [e, e2, List.take_zero, List.nil_append, Nat.zero_add]
  unfold cells8 pad
  rw [List.map_append, ← List.map_drop, List.drop_replicate]
set_option maxRecDepth 20000 in
set_option maxHeartbeats 1000000 in
theorem markOf_any (s : ByteArray) (w : World) (hs : s.size ≤ 32) :
    Calls Tryz.prog 16 #[.string s] w fun e w' => e = .returned (mkV (pad s)) ∧ Below w.heap.size w w' := by
  obtain ⟨hz, hi⟩ := zero_of_info Tryz.info45
  have HI : Hid ((Tryz.prog.info? 45).map (·.size) = some 32) := hi
  clear hi
  have B0 : Hid (((w.alloc (.cells zeros32 45)).alloc (.cells zeros32 45)).heap[w.heap.size]? = some (.cells zeros32 45 (0, 0))) := heap_alloc2_old _ _ _
  have B1 : Hid (((w.alloc (.cells zeros32 45)).alloc (.cells zeros32 45)).heap[w.heap.size + 1]? = some (.cells zeros32 45 (0, 0))) := heap_alloc2_new _ _ _
  have hcp : Hid (∀ ty, (Builtin.copy_ #[22, 9] ty #[.slice (some ⟨w.heap.size + 1, 0, none⟩) 32 32, .string s]).run Tryz.prog ((w.alloc (.cells zeros32 45)).alloc (.cells zeros32 45)) = .ok (goInt s.size) (((w.alloc (.cells zeros32 45)).alloc (.cells zeros32 45)).setRow (w.heap.size + 1) (mkA (pad s)))) := by
    intro ty
    rw [← mark_copied s]
    exact Lib.run_copy_row_string _ 22 9 ty 5 (w.heap.size + 1) 0 32 32 s zeros32 45 Tryz.underlying22 Tryz.size5 B1.out hs (by rw [zeros32_size]; omega)
  have hb : Hid (Below w.heap.size w (((w.alloc (.cells zeros32 45)).alloc (.cells zeros32 45)).setRow (w.heap.size + 1) (mkA (pad s)))) := below_setRow (below2 _ _ _) (by omega) _
  have C1 : Hid ((((w.alloc (.cells zeros32 45)).alloc (.cells zeros32 45)).setRow (w.heap.size + 1) (mkA (pad s))).heap[w.heap.size + 1]? = some (.cells (mkA (pad s)) 45 (0, 0))) := setRow_heap _ _ _ _ _ _ B1.out
  have C0 : Hid ((((w.alloc (.cells zeros32 45)).alloc (.cells zeros32 45)).setRow (w.heap.size + 1) (mkA (pad s))).heap[w.heap.size]? = some (.cells zeros32 45 (0, 0))) := (setRow_other _ _ _ _ (by omega)).trans B0.out
  have HL : Hid ((mkA (pad s)).size = 32) := (mkA_size _).trans (pad_len s hs)
  obtain ⟨X, hX⟩ : ∃ X, mkA (pad s) = X := ⟨_, rfl⟩
  have HO : Hid (X.all (·.oneCell') = true) := by rw [← hX]; exact mkA_one _
  have HV : Hid (mkV (pad s) = .agg X) := by rw [← hX]; rfl
  rw [hX] at hcp hb C1 C0 HL
  rw [HV.out]
  clear hX
  go_enter Tryz.func16, Tryz.ntmps16
  go_wp2_with (first | (refine wpList_run_copy rfl (.tmp 4) (.tmp 5) 22 9 rfl _ _ _ rfl rfl hcp.out ?_) | (refine wpList_load_row rfl 45 (.tmp 3) rfl _ rfl 45 _ _ (.array 32 5) C1.out Tryz.underlying45 rfl (by rw [HL.out]; exact HI.out) ?_) | (refine wpList_store_row rfl 45 (.tmp 2) (.tmp 7) rfl _ _ rfl rfl 45 _ C0.out (by rw [HL.out]; exact HI.out) (by rw [HL.out, zeros32_size]) HO.out ?_))
  exact bodyPost_ret (v := .agg X) (results_cell_row Tryz.results16 _ _ w.heap.size 45 X (0, 0) (.array 32 5) rfl (setRow_heap _ _ _ _ _ _ C0.out) Tryz.underlying45 rfl (by rw [HL.out]; exact HI.out)) rfl ⟨rfl, below_setRow hb.out (Nat.le_refl _) _⟩
set_option maxRecDepth 20000 in
theorem conv_part (w : World) (g t : Nat) (l : List UInt8) (n c : Nat) (hn : n ≤ l.length) (h : w.heap[g]? = some (.cells (mkA l) t (0, 0))) :
    (convert 22 9 (.slice (some ⟨g, 0, none⟩) n c)).run Tryz.prog w = .ok (.string ⟨(l.take n).toArray⟩) w := by
  have hl : (l.take n).length = n := by simp; omega
  have := run_convert_bytes_back w 22 9 5 ⟨g, 0, none⟩ c (l.take n) Tryz.underlying22 Tryz.underlying5 Tryz.underlying9 ?_
  · rw [hl] at this; exact this
  · intro j hj
    have hadd : (⟨g, 0, none⟩ : Addr).add j = ⟨g, j, none⟩ := by unfold Addr.add; split <;> simp_all
    have hj2 : j < l.length := by simp at hj; omega
    rw [hadd, cell_of_row w g j _ t _ h, mkA_get l j hj2]
    simp
set_option maxRecDepth 20000 in
theorem slice_mark (k : Int) (hk : k = 0 ∨ k = 1) (g : Nat) (w : World) : (Instr.sliceAt 45 (.pointer (some ⟨g, 0, none⟩)) none (some (.int .i64 (wid k : Nat))) none).run Tryz.prog w = .ok (.slice (some ⟨g, 0, none⟩) (wid k) 32) w := by
  rcases hk with rfl | rfl
  · show (Instr.sliceAt 45 (.pointer (some ⟨g, 0, none⟩)) none (some (.int .i64 32)) none).run Tryz.prog w = .ok (.slice (some ⟨g, 0, none⟩) 32 32) w
    kernel_rfl
  · show (Instr.sliceAt 45 (.pointer (some ⟨g, 0, none⟩)) none (some (.int .i64 1)) none).run Tryz.prog w = .ok (.slice (some ⟨g, 0, none⟩) 1 32) w
    kernel_rfl
/-- The text of a mark. -/
def txt (k : Int) (l : List UInt8) : ByteArray := ⟨(l.take (wid k)).toArray⟩
theorem txt_pad (k : Int) (d : ByteArray) (h : d.size = wid k) : txt k (pad d) = d := by
  unfold txt
  rw [← h, pad_take, ba_list]
set_option maxRecDepth 20000 in
set_option maxHeartbeats 1000000 in
theorem joinText_any (k : Int) (b : Nat) (l : List UInt8) (w : World) (hk : k = 0 ∨ k = 1) (hl : l.length = 32) (d : ByteArray) (hd : txt k l = d) :
    Calls Tryz.prog 18 #[.agg #[.int .i64 k, .map (some b)], mkV l] w fun e w' => e = .returned (.string d) ∧ Below w.heap.size w w' := by
  have HD : Hid (txt k l = d) := hd
  have hw := wid_le k
  have hw1 : 0 < wid k := by unfold wid; split <;> omega
  have hcv := conv_part ((w.alloc (.cells #[.int .i64 k, .map (some b)] 42)).alloc (.cells (mkA l) 45)) (w.heap.size + 1) 45 l (wid k) 32 (by omega) (heap_alloc2_new _ _ _)
  have hcv2 : (convert 22 9 (.slice (some ⟨w.heap.size + 1, 0, none⟩) (wid k) 32)).run Tryz.prog ((w.alloc (.cells #[.int .i64 k, .map (some b)] 42)).alloc (.cells (mkA l) 45)) = .ok (.string d) ((w.alloc (.cells #[.int .i64 k, .map (some b)] 42)).alloc (.cells (mkA l) 45)) := by rw [hcv, ← hd]; rfl
  clear hcv hd
  have hb : Hid (Below w.heap.size w ((w.alloc (.cells #[.int .i64 k, .map (some b)] 42)).alloc (.cells (mkA l) 45))) := below2 _ _ _
  have HL : Hid ((mkA l).size = 32) := (mkA_size _).trans hl
  obtain ⟨X, hX⟩ : ∃ X, mkA l = X := ⟨_, rfl⟩
  have HV : Hid (mkV l = .agg X) := by rw [← hX]; rfl
  rw [hX] at hcv2 hb HL
  rw [HV.out]
  clear hX HV
  have hsl := slice_mark k hk
  obtain ⟨n, hn⟩ : ∃ n, wid k = n := ⟨_, rfl⟩
  have HN : Hid (wid k = n) := hn
  rw [hn] at hw hw1 hcv2 hsl
  clear hn
  go_enter Tryz.func18, Tryz.ntmps18
  go_wp2_with (go_at_call 27; refine (widthOf_yes _ _ hk).mono ?_; rw [HN.out]; rintro e w1 ⟨rfl, rfl⟩)
  go_ret
  exact ⟨rfl, hb.out⟩
set_option maxRecDepth 20000 in
set_option maxHeartbeats 1000000 in
theorem makeJoiner_any (k : Int) (w : World) :
    Calls Tryz.prog 15 #[.int .i64 k] w fun e w' => ∃ b, w.heap.size ≤ b ∧ e = .returned (.agg #[.int .i64 k, .map (some b)]) ∧ DblAt w' k b 0 ∧ Below w.heap.size w w' := by
  have hmm := @run_makeMap Tryz.prog
  go_enter Tryz.func15, Tryz.ntmps15
  go_wp2
  exact bodyPost_ret (v := .agg #[.int .i64 k, .map (some (w.heap.size + 1))]) (by simp [results, Tryz.results15, go_sem]) rfl ⟨w.heap.size + 1, by omega, rfl, by simpa using DblAt.made (w.alloc (.cells #[.int .i64 k, .map (some (w.heap.size + 1))] 42)) k, below2 _ _ _⟩
end Go.Proofs.YtjbbbfplephkpaaGreatDoor
