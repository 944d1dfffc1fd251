/-
  A node of two equal marks that is new to the map.
-/
import Derived.Test.YtjbbbfplephkpaaGreatDoorMu
namespace Go.Proofs.YtjbbbfplephkpaaGreatDoor
open Go.RowKit Go.ChangeMaps
set_option maxRecDepth 20000 in
theorem all_findAsking (k : Int) (d : ByteArray) (hd : d.size = wid k) : ∀ (es : List MapEntry) (i : Nat), Dbls k es →
    (∀ w, (Instr.findAsking 45 (mkV (pad d)) es i).run Tryz.prog w = .ok none w) ∨ ∃ j, ∀ w, (Instr.findAsking 45 (mkV (pad d)) es i).run Tryz.prog w = .ok (some (j, mkV (pad (nodeD k d d)))) w
  | [], i, _ => Or.inl fun _ => rfl
  | e :: es, i, h => by
    obtain ⟨d', hd', hk, hv⟩ := h e (by simp)
    have hw := wid_le k
    have he := fun w => run_same w (pad d) (pad d') (pad_len d (by omega)) (pad_len d' (by omega))
    rw [← hk] at he
    by_cases e1 : pad d = pad d'
    · obtain rfl := pad_inj d d' (by omega) e1
      right
      refine ⟨i, fun w => ?_⟩
      rw [Instr.findAsking]
      simp [Sem.run_bind, he, hv]
    · have e2 : (pad d == pad d') = false := by simpa using e1
      rcases all_findAsking k d hd es (i + 1) (fun x hx => h x (by simp [hx])) with h1 | ⟨j, h1⟩
      · left; intro w; rw [Instr.findAsking]; simp only [Sem.run_bind, he, Result.andThen_ok]; rw [e2]; simpa using h1 w
      · right; refine ⟨j, fun w => ?_⟩; rw [Instr.findAsking]; simp only [Sem.run_bind, he, Result.andThen_ok]; rw [e2]; simpa using h1 w
set_option maxRecDepth 20000 in
theorem all_find (k : Int) (d : ByteArray) (hd : d.size = wid k) (es : List MapEntry) (h : Dbls k es) :
    (∀ w, (Instr.findKey 45 (mkV (pad d)) es).run Tryz.prog w = .ok none w) ∨ ∃ j, ∀ w, (Instr.findKey 45 (mkV (pad d)) es).run Tryz.prog w = .ok (some (j, mkV (pad (nodeD k d d)))) w := by
  cases es with
  | nil => left; intro w; unfold Instr.findKey; simp [run_underlying Tryz.underlying45, Instr.findNow]
  | cons e es =>
    have e0 : Instr.findNow (.array 32 5) (mkV (pad d)) (e :: es) 0 = none := by simp [Instr.findNow, Instr.sameNow]
    rcases all_findAsking k d hd (e :: es) 0 h with h1 | ⟨j, h1⟩
    · left; intro w; unfold Instr.findKey; simp only [Sem.run_bind, run_underlying Tryz.underlying45, Result.andThen_ok]; rw [e0]; exact h1 w
    · right; refine ⟨j, fun w => ?_⟩; unfold Instr.findKey; simp only [Sem.run_bind, run_underlying Tryz.underlying45, Result.andThen_ok]; rw [e0]; exact h1 w
set_option maxRecDepth 20000 in
/-- An entry is new to the map in block b, whose entries are es. -/
theorem new_look (k : Int) (d : ByteArray) (hd : d.size = wid k) (es : Array MapEntry) (clock b : Nat) (w : World) (hf : ∀ w, (Instr.findKey 45 (mkV (pad d)) es.toList).run Tryz.prog w = .ok none w) (hb : w.heap[b]? = some (.map es clock)) :
    (Instr.lookup 40 (.map (some b)) (mkV (pad d)) true).run Tryz.prog w = .ok (.tuple #[mkV (List.replicate 32 0), .bool false]) w := by
  have hw := wid_le k
  have hc := fun em => run_check w em (pad d) (pad_len d (by omega))
  simp [Instr.lookup, run_underlying Tryz.underlying40, MapKept.run_getObj_map hb, hc, hf, Result.andThen]
  rfl
set_option maxRecDepth 20000 in
theorem old_look (k : Int) (d : ByteArray) (hd : d.size = wid k) (es : Array MapEntry) (clock b j : Nat) (w : World) (hf : ∀ w, (Instr.findKey 45 (mkV (pad d)) es.toList).run Tryz.prog w = .ok (some (j, mkV (pad (nodeD k d d)))) w) (hb : w.heap[b]? = some (.map es clock)) :
    (Instr.lookup 40 (.map (some b)) (mkV (pad d)) true).run Tryz.prog w = .ok (.tuple #[mkV (pad (nodeD k d d)), .bool true]) w := by
  have hw := wid_le k
  have hc := fun em => run_check w em (pad d) (pad_len d (by omega))
  simp [Instr.lookup, run_underlying Tryz.underlying40, MapKept.run_getObj_map hb, hc, hf, Result.andThen]
set_option maxRecDepth 20000 in
theorem new_update (k : Int) (d : ByteArray) (hd : d.size = wid k) (es : Array MapEntry) (clock b : Nat) (w : World) (hD : Dbls k es.toList) (hf : ∀ w, (Instr.findKey 45 (mkV (pad d)) es.toList).run Tryz.prog w = .ok none w) (hb : w.heap[b]? = some (.map es clock)) :
    ∃ w', (Instr.mapUpdate 40 (.map (some b)) (mkV (pad d)) (mkV (pad (nodeD k d d)))).run Tryz.prog w = .ok () w' ∧ DblAt w' k b (es.size + 1) ∧ w.grownBy w' (some b) :=
  DblAt.keep ⟨es, clock, hb, Nat.le_refl _, hD⟩ d hd (new_look k d hd es clock b w hf hb)
set_option maxRecDepth 20000 in
theorem len_at (es : Array MapEntry) (clock b : Nat) (w : World) (hb : w.heap[b]? = some (.map es clock)) (ty : TypeId) : (Builtin.len_ #[40] ty #[.map (some b)]).run Tryz.prog w = .ok (.int .i64 (es.size : Nat)) w := by
  simp [Builtin.len_, run_underlying Tryz.underlying40, MapKept.run_getObj_map hb, goInt, Result.andThen]
set_option maxRecDepth 20000 in
theorem clear_at (es : Array MapEntry) (clock b : Nat) (w : World) (hb : w.heap[b]? = some (.map es clock)) :
    ∃ w', (∀ ty, (Builtin.clear_ #[40] ty #[.map (some b)]).run Tryz.prog w = .ok (.tuple #[]) w') ∧ w'.heap[b]? = some (.map #[] clock) ∧ w.grownBy w' (some b) := by
  refine ⟨setBlock w b (.map #[] clock), fun ty => ?_, heap_setBlock_same hb _, ⟨rfl, rfl, rfl, by simp [setBlock], fun i _ hi => heap_setBlock_other hb _ (fun e => hi (by rw [e]))⟩⟩
  simp [Builtin.clear_, run_underlying Tryz.underlying40, MapKept.run_getObj_map hb, MapKept.run_setObj_map _ hb, Result.andThen, setBlock]
set_option maxRecDepth 20000 in
theorem find_empty (d : ByteArray) (w : World) : (Instr.findKey 45 (mkV (pad d)) (#[] : Array MapEntry).toList).run Tryz.prog w = .ok none w := by
  unfold Instr.findKey; simp [run_underlying Tryz.underlying45, Instr.findNow]
end Go.Proofs.YtjbbbfplephkpaaGreatDoor
