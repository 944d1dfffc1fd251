/-
  The map of doubles: its operations at the walk.
-/
import Derived.Test.YtlbackkjjhpljaaDoorMp
namespace Go.Proofs.YtlbackkjjhpljaaDoor
open Go.RowKit Go.ChangeMaps
/-- The entries of a map of doubles. -/
def Dbls (k : Int) (es : List MapEntry) : Prop := ∀ e ∈ es, ∃ d : ByteArray, d.size = wid k ∧ e.key = mkV (pad d) ∧ e.val = mkV (pad (nodeD k d d))
/-- Block b is a map of at most n doubles. -/
def DblAt (w : World) (k : Int) (b n : Nat) : Prop := ∃ es clock, w.heap[b]? = some (.map es clock) ∧ es.size ≤ n ∧ Dbls k es.toList
theorem wid_le (k : Int) : wid k ≤ 32 := by unfold wid; split <;> omega
theorem run_findAsking (w : World) (k : Int) (d : ByteArray) (hd : d.size = wid k) : ∀ (es : List MapEntry) (i : Nat), Dbls k es →
    ((Instr.findAsking 51 (mkV (pad d)) es i).run Tryd.prog w = .ok none w) ∨ ∃ j, (Instr.findAsking 51 (mkV (pad d)) es i).run Tryd.prog w = .ok (some (j, mkV (pad (nodeD k d d)))) w
  | [], i, _ => Or.inl rfl
  | e :: es, i, h => by
    obtain ⟨d', hd', hk, hv⟩ := h e (by simp)
    have hw := wid_le k
    have he := run_same w (pad d) (pad d') (pad_len d (by omega)) (pad_len d' (by omega))
    rw [← hk] at he
    rw [Instr.findAsking]
    simp only [Sem.run_bind, he, Result.andThen_ok]
    by_cases e1 : pad d = pad d'
    · obtain rfl := pad_inj d d' (by omega) e1
      right
      exact ⟨i, by simp [hv]⟩
    · have : (pad d == pad d') = false := by simpa using e1
      rw [this]
      rcases run_findAsking w k d hd es (i + 1) (fun x hx => h x (by simp [hx])) with h1 | ⟨j, h1⟩
      · left; simpa using h1
      · right; exact ⟨j, by simpa using h1⟩
theorem run_find (w : World) (k : Int) (d : ByteArray) (hd : d.size = wid k) (es : List MapEntry) (h : Dbls k es) :
    ((Instr.findKey 51 (mkV (pad d)) es).run Tryd.prog w = .ok none w) ∨ ∃ j, (Instr.findKey 51 (mkV (pad d)) es).run Tryd.prog w = .ok (some (j, mkV (pad (nodeD k d d)))) w := by
  unfold Instr.findKey
  simp only [Sem.run_bind, run_underlying Tryd.underlying51, Result.andThen_ok]
  cases es with
  | nil => left; simp [Instr.findNow]
  | cons e es =>
    have : Instr.findNow (.array 32 5) (mkV (pad d)) (e :: es) 0 = none := by
      obtain ⟨d', _, hk, _⟩ := h e (by simp)
      simp [Instr.findNow, Instr.sameNow]
    rw [this]
    exact run_findAsking w k d hd _ 0 h
/-- What a look-up answers. -/
theorem DblAt.look {w : World} {k : Int} {b n : Nat} (h : DblAt w k b n) (d : ByteArray) (hd : d.size = wid k) :
    ((Instr.lookup 46 (.map (some b)) (mkV (pad d)) true).run Tryd.prog w = .ok (.tuple #[mkV (pad (nodeD k d d)), .bool true]) w) ∨
    ((Instr.lookup 46 (.map (some b)) (mkV (pad d)) true).run Tryd.prog w = .ok (.tuple #[mkV (List.replicate 32 0), .bool false]) w) := by
  obtain ⟨es, clock, hb, hn, hD⟩ := h
  have hw := wid_le k
  have hc := fun em => run_check w em (pad d) (pad_len d (by omega))
  rcases run_find w k d hd es.toList hD with hf | ⟨j, hf⟩
  · right
    simp [Instr.lookup, run_underlying Tryd.underlying46, MapKept.run_getObj_map hb, hc, hf, Result.andThen]
    rfl
  · left
    simp [Instr.lookup, run_underlying Tryd.underlying46, MapKept.run_getObj_map hb, hc, hf, Result.andThen]
/-- A double is kept. -/
theorem DblAt.keep {w : World} {k : Int} {b n : Nat} (h : DblAt w k b n) (d : ByteArray) (hd : d.size = wid k) (hl : (Instr.lookup 46 (.map (some b)) (mkV (pad d)) true).run Tryd.prog w = .ok (.tuple #[mkV (List.replicate 32 0), .bool false]) w) :
    ∃ w', (Instr.mapUpdate 46 (.map (some b)) (mkV (pad d)) (mkV (pad (nodeD k d d)))).run Tryd.prog w = .ok () w' ∧ DblAt w' k b (n + 1) ∧ w.grownBy w' (some b) := by
  obtain ⟨es, clock, hb, hn, hD⟩ := h
  have hw := wid_le k
  have hc := fun em => run_check w em (pad d) (pad_len d (by omega))
  rcases run_find w k d hd es.toList hD with hf | ⟨j, hf⟩
  · refine ⟨setBlock w b (.map (es.push { key := mkV (pad d), val := mkV (pad (nodeD k d d)), born := clock }) (clock + 1)), ?_, ⟨_, _, heap_setBlock_same hb _, by simp; omega, ?_⟩, ⟨rfl, rfl, rfl, by simp [setBlock], fun i _ hi => heap_setBlock_other hb _ (fun e => hi (by rw [e]))⟩⟩
    · simp [Instr.mapUpdate, run_underlying Tryd.underlying46, MapKept.run_getObj_map hb, hc, hf, Result.andThen, MapKept.run_setObj_map _ hb, setBlock]
    · intro e he
      rw [Array.toList_push, List.mem_append] at he
      rcases he with he | he
      · exact hD e he
      · simp only [List.mem_singleton] at he
        subst he
        exact ⟨d, hd, rfl, rfl⟩
  · exfalso
    simp [Instr.lookup, run_underlying Tryd.underlying46, MapKept.run_getObj_map hb, hc, hf, Result.andThen] at hl
theorem DblAt.len {w : World} {k : Int} {b n : Nat} (h : DblAt w k b n) : ∃ m, m ≤ n ∧ DblAt w k b m ∧ ∀ ty, (Builtin.len_ #[46] ty #[.map (some b)]).run Tryd.prog w = .ok (.int .i64 (m : Nat)) w := by
  obtain ⟨es, clock, hb, hn, hD⟩ := h
  refine ⟨es.size, hn, ⟨es, clock, hb, Nat.le_refl _, hD⟩, fun ty => ?_⟩
  simp [Builtin.len_, run_underlying Tryd.underlying46, MapKept.run_getObj_map hb, goInt, Result.andThen]
theorem DblAt.clear {w : World} {k : Int} {b n : Nat} (h : DblAt w k b n) : ∃ w', (∀ ty, (Builtin.clear_ #[46] ty #[.map (some b)]).run Tryd.prog w = .ok (.tuple #[]) w') ∧ DblAt w' k b 0 ∧ w.grownBy w' (some b) := by
  obtain ⟨es, clock, hb, hn, hD⟩ := h
  refine ⟨setBlock w b (.map #[] clock), fun ty => ?_, ⟨#[], clock, heap_setBlock_same hb _, by simp, fun e he => by simp at he⟩, ⟨rfl, rfl, rfl, by simp [setBlock], fun i _ hi => heap_setBlock_other hb _ (fun e => hi (by rw [e]))⟩⟩
  simp [Builtin.clear_, run_underlying Tryd.underlying46, MapKept.run_getObj_map hb, MapKept.run_setObj_map _ hb, Result.andThen, setBlock]
theorem DblAt.made (w : World) (k : Int) : DblAt (w.alloc (.map #[] 0)) k w.heap.size 0 :=
  ⟨#[], 0, (MapKept.heap_alloc w _).1, by simp, fun e he => by simp at he⟩
theorem DblAt.lt {w : World} {k : Int} {b n : Nat} (h : DblAt w k b n) : b < w.heap.size := by
  obtain ⟨es, clock, hb, _⟩ := h
  exact (Array.getElem?_eq_some_iff.1 hb).1
theorem DblAt.later {w w' : World} {k : Int} {b n : Nat} (h : DblAt w k b n) (hb : Below w.heap.size w w') : DblAt w' k b n := by
  have hlt := h.lt
  obtain ⟨es, clock, h1, h2, h3⟩ := h
  exact ⟨es, clock, (hb.block b hlt).trans h1, h2, h3⟩
theorem DblAt.other {w w' : World} {k : Int} {b n : Nat} {r : Option Nat} (h : DblAt w k b n) (hg : w.grownBy w' r) (hne : some b ≠ r) : DblAt w' k b n := by
  have hlt := h.lt
  obtain ⟨es, clock, h1, h2, h3⟩ := h
  exact ⟨es, clock, (hg.block b hlt hne).trans h1, h2, h3⟩
theorem DblAt.mono {w : World} {k : Int} {b n m : Nat} (h : DblAt w k b n) (hm : n ≤ m) : DblAt w k b m := by
  obtain ⟨es, clock, h1, h2, h3⟩ := h
  exact ⟨es, clock, h1, by omega, h3⟩
theorem wpList_run_lookup {P : Program} {w : World} {ops : Array Oper} {rest : List Oper} {o : Oper} {a : Act} {Q : Exit → Act → World → Prop} (hg : o.guard = none) (m x : Operand) (t : TypeId) (c : Bool) (hop : o.op = Op.lookup t m x c)
    (mv xv v : Value) (hm : a.eval m = mv) (hx : a.eval x = xv) (hrun : (Instr.lookup t mv xv c).run P w = .ok v w) (hK : wpList P ops Q rest (a.put o.dst v) w) : wpList P ops Q (o :: rest) a w := by
  refine wpList_plain hg fun K' hK' => ?_
  unfold Oper.wp
  simp [execOp, hop, hm, hx, hrun, Result.andThen]
  exact hK' _ _ hK
theorem wpList_run_update {P : Program} {w w' : World} {ops : Array Oper} {rest : List Oper} {o : Oper} {a : Act} {Q : Exit → Act → World → Prop} (hg : o.guard = none) (m x v : Operand) (t : TypeId) (hop : o.op = Op.mapUpdate t m x v)
    (mv xv vv : Value) (hm : a.eval m = mv) (hx : a.eval x = xv) (hv : a.eval v = vv) (hrun : (Instr.mapUpdate t mv xv vv).run P w = .ok () w') (hK : wpList P ops Q rest (a.put o.dst undef) w') : wpList P ops Q (o :: rest) a w := by
  refine wpList_plain hg fun K' hK' => ?_
  unfold Oper.wp
  simp [execOp, hop, hm, hx, hv, hrun, Result.andThen]
  exact hK' _ _ hK
theorem wpList_run_len {P : Program} {w : World} {ops : Array Oper} {rest : List Oper} {o : Oper} {a : Act} {Q : Exit → Act → World → Prop} (hg : o.guard = none) (m : Operand) (t : TypeId) (hop : o.op = Op.call { callee := Callee.builtin Builtin.len, args := #[m], argTypes := #[t] })
    (mv v : Value) (hm : a.eval m = mv) (hrun : ∀ ty, (Builtin.len_ #[t] ty #[mv]).run P w = .ok v w) (hK : wpList P ops Q rest (a.put o.dst v) w) : wpList P ops Q (o :: rest) a w := by
  refine wpList_plain hg fun K' hK' => ?_
  unfold Oper.wp
  simp [execOp, hop, resolve, invoke, builtin, hm, hrun, Result.andThen]
  exact hK' _ _ hK
theorem wpList_run_clear {P : Program} {w w' : World} {ops : Array Oper} {rest : List Oper} {o : Oper} {a : Act} {Q : Exit → Act → World → Prop} (hg : o.guard = none) (m : Operand) (t : TypeId) (hop : o.op = Op.call { callee := Callee.builtin Builtin.clear, args := #[m], argTypes := #[t] })
    (mv : Value) (hm : a.eval m = mv) (hrun : ∀ ty, (Builtin.clear_ #[t] ty #[mv]).run P w = .ok (.tuple #[]) w') (hK : wpList P ops Q rest (a.put o.dst (.tuple #[])) w') : wpList P ops Q (o :: rest) a w := by
  refine wpList_plain hg fun K' hK' => ?_
  unfold Oper.wp
  simp [execOp, hop, resolve, invoke, builtin, hm, hrun, Result.andThen]
  exact hK' _ _ hK
end Go.Proofs.YtlbackkjjhpljaaDoor
