/-
  FsStep, the program's side: slices.Insert of one file.
-/
import Derived.Test.YtngppfjphbodcaaGreatDoorMa
import Derived.Test.YtngppfjphbodcaaGreatDoorMg
import Derived.Laws.CopyOwn
import Derived.Deep.RegionLaw
import Derived.Shelf.RegionOpenPlain
import Derived.Lib.AppendZerosOnto
import Derived.Lib.Overlaps
import Derived.Laws.NewBlocks
namespace Go.Proofs.YtngppfjphbodcaaGreatDoor
open Go.RowKit
theorem grown_setRow (w : World) (g : Nat) (cs : Array Value) : w.grownBy (w.setRow g cs) (some g) :=
  ⟨rfl, rfl, rfl, by simp [World.setRow], fun k hk hne => setRow_other w g k cs (fun e => hne (by rw [e]))⟩
theorem splice_take1 {α : Type} (L cs : List α) (o : Nat) (h : o ≤ L.length) : (splice L o cs).take (o + cs.length) = L.take o ++ cs := by
  unfold splice
  rw [← List.append_assoc, List.take_append_of_le_length (by simp; omega), List.take_of_length_le (by simp; omega)]
theorem splice_take2 {α : Type} (L cs : List α) (o k : Nat) (hk : k ≤ o) (h : o ≤ L.length) : (splice L o cs).take k = L.take k := by
  unfold splice
  rw [List.take_append_of_le_length (by simp; omega), List.take_take, Nat.min_eq_left hk]
/-- append with room, its run. -/
theorem run_append3 (w : World) (ty : TypeId) (g n cap : Nat) (cur : Array Value) (hg : w.heap[g]? = some (.cells cur 49 (0, 0))) (a : Addr) (m c : Nat) (news : List Value) (hl : news.length = m * 3) (hnews : ∀ j u, news[j]? = some u → w.cell? (a.add j) = some u) (h1 : ∀ u ∈ news, u.oneCell' = true) (hroom : n + m ≤ cap) (hfit : n * 3 + news.length ≤ cur.size) :
    (Builtin.append_ #[26, 26] ty #[.slice (some ⟨g, 0, none⟩) n cap, .slice (some a) m c]).run Tryz.prog w = .ok (.slice (some ⟨g, 0, none⟩) (n + m) cap) (w.setRow g (splice cur.toList (n * 3) news).toArray) := by
  obtain ⟨i0, hi, hz0, hz1, hz2⟩ := info_parts Tryz.infoFil
  have := run_append_room (P := Tryz.prog) w 26 ty 49 i0 Tryz.underlying26 hi g n cap cur hg a m c news (by rw [hz1]; exact hl) hnews h1 hroom (by rw [hz1]; exact hfit)
  rw [this, hz1]
  unfold splice
  rw [List.append_assoc]
theorem step_run_builtin {P : Program} {ops : Array Oper} {o : Oper} {a : Act} {w : World} {K : Act → World → Prop} {Q : Exit → Act → World → Prop} {E : Prop}
    (hg : o.guard = none) (d x : Operand) (dT sT : TypeId) (hop : o.op = Op.call { callee := Callee.builtin Builtin.append, args := #[d, x], argTypes := #[dT, sT] })
    (v u : Value) (hd : a.eval d = v) (hx : a.eval x = u) {v' : Value} {w' : World} (hr : (Builtin.append_ #[dT, sT] o.type #[v, u]).run P w = .ok v' w') (hK : K (a.put o.dst v') w') :
    if Region.wanted o (yielded ops a.tmps) = true then Oper.wp P o a w K Q else E := by
  have hw : Region.wanted o (yielded ops a.tmps) = true := by simp [Region.wanted, hg]
  rw [if_pos hw]
  unfold Oper.wp
  simp [execOp, hop, resolve, invoke, builtin, hd, hx, hr, Result.andThen]
  exact hK
theorem run_clear1 (w : World) (ty : TypeId) (g o c : Nat) (cur : Array Value) (hg : w.heap[g]? = some (.cells cur 49 (0, 0))) (hfit : o + 3 ≤ cur.size) :
    (Builtin.clear_ #[26] ty #[.slice (some ⟨g, o, none⟩) 1 c]).run Tryz.prog w = .ok (.tuple #[]) (w.setRow g (splice cur.toList o [.string ByteArray.empty, .string ByteArray.empty, .int .i64 0]).toArray) := by
  have hst := run_storeCells_at Tryz.prog g o 49 [.string ByteArray.empty, .string ByteArray.empty, .int .i64 0] 0 cur w hg (by simpa using hfit) (by simp [Value.oneCell'])
  simp only [Nat.add_zero] at hst
  obtain ⟨z, hv, hzc⟩ : ∃ z, (∀ W, (zeroValue 49).run Tryz.prog W = .ok z W) ∧ (Builtin.zeroCells z.cells 1).toList = [.string ByteArray.empty, .string ByteArray.empty, .int .i64 0] := ⟨.agg #[.string ByteArray.empty, .string ByteArray.empty, .int .i64 0], fun W => by kernel_rfl, by kernel_rfl⟩
  unfold splice
  rw [← List.append_assoc]
  obtain ⟨Z, hZ⟩ : ∃ Z : List Value, [.string ByteArray.empty, .string ByteArray.empty, .int .i64 0] = Z := ⟨_, rfl⟩
  rw [hZ] at hst hzc ⊢
  simp [Builtin.clear_, run_underlying Tryz.underlying26, hv, hzc, hst]
theorem cells_len (M : List Fil) : ((M.map cellsF).flatten).length = M.length * 3 := by
  induction M with
  | nil => rfl
  | cons f M ih => rw [List.map_cons, List.flatten_cons, List.length_append, ih, List.length_cons]; simp [cellsF]; omega
theorem cells_one (M : List Fil) : ∀ u ∈ (M.map cellsF).flatten, u.oneCell' = true := by
  intro u hu
  simp only [List.mem_flatten, List.mem_map] at hu
  obtain ⟨l, ⟨f, _, rfl⟩, hu⟩ := hu
  simp only [cellsF, List.mem_cons, List.not_mem_nil, or_false] at hu
  rcases hu with rfl | rfl | rfl <;> rfl
theorem cells_split (L : List Fil) (i : Nat) : (L.map cellsF).flatten = ((L.take i).map cellsF).flatten ++ ((L.drop i).map cellsF).flatten := by rw [← List.flatten_append, ← List.map_append, List.take_append_drop]
/-- The cells from a file on. -/
theorem cells_from {cur : List Value} {L : List Fil} (h : cur.take (L.length * 3) = (L.map cellsF).flatten) (i : Nat) (hi : i ≤ L.length) {t : Nat} {u : Value} (ht : (((L.drop i).map cellsF).flatten)[t]? = some u) : cur[i * 3 + t]? = some u := by
  have h1 : ((L.map cellsF).flatten)[i * 3 + t]? = some u := by
    rw [cells_split L i, List.getElem?_append_right (by rw [cells_len, List.length_take]; omega), cells_len, List.length_take, Nat.min_eq_left hi, Nat.add_sub_cancel_left]
    exact ht
  rw [← h, List.getElem?_take] at h1
  split at h1
  · exact h1
  · cases h1
/-- One file less. -/
theorem OwnL.cut {w' : World} {B g cap : Nat} {L : List Fil} (i : Nat) (hi : i < L.length) {cur : Array Value} (hcur : cur.toList.take (L.length * 3) = (L.map cellsF).flatten) (hcap : L.length ≤ cap) (hm : cap ≤ maxLen) (hs : cur.size = cap * 3) (hB : B ≤ g) (Z : List Value) (hZ : Z.length = 3)
    (hg : w'.heap[g]? = some (.cells (splice (splice cur.toList (i * 3) (((L.drop (i + 1)).map cellsF).flatten)) ((L.length - 1) * 3) Z).toArray 49 (0, 0))) : OwnL w' B (.slice (some ⟨g, 0, none⟩) (L.length - 1) cap) (L.eraseIdx i) := by
  have hfl := cells_len
  have hel : (L.eraseIdx i).length = L.length - 1 := by rw [List.length_eraseIdx_of_lt hi]
  have hdl : ((List.drop (i + 1) L).map cellsF).flatten.length = (L.length - 1 - i) * 3 := by rw [hfl, List.length_drop]; congr 1; omega
  have hcl : cur.toList.length = cap * 3 := by simpa using hs
  have hl1 := length_splice cur.toList (i * 3) (((L.drop (i + 1)).map cellsF).flatten) (by rw [hdl, hcl]; omega)
  refine ⟨hfl _, Or.inr ⟨g, cap, _, by rw [hel], hB, hg, by rw [hel]; omega, hm, ?_, ?_⟩⟩
  · rw [List.size_toArray, length_splice _ _ _ (by rw [hl1, hZ, hcl]; omega), hl1, hcl]
  · rw [hel, List.toList_toArray, splice_take2 _ _ _ _ (Nat.le_refl _) (by rw [hl1, hcl]; omega)]
    have e1 := splice_take1 cur.toList (((L.drop (i + 1)).map cellsF).flatten) (i * 3) (by rw [hcl]; omega)
    rw [hdl, show i * 3 + (L.length - 1 - i) * 3 = (L.length - 1) * 3 by omega] at e1
    rw [e1, List.eraseIdx_eq_take_drop_succ, List.map_append, List.flatten_append]
    congr 1
    have e2 := congrArg (List.take (i * 3)) hcur
    rw [List.take_take, Nat.min_eq_left (by omega)] at e2
    rw [e2]
    rw [cells_split L i, List.take_append_of_le_length (by rw [hfl, List.length_take]; omega), List.take_of_length_le (by rw [hfl, List.length_take]; omega)]
set_option maxRecDepth 20000 in
set_option maxHeartbeats 4000000 in
theorem iDelete (L : List Fil) (i j : Nat) (hi : i < L.length) (hj : j = i + 1) (g cap B : Nat) (w : World) (h : OwnL w B (.slice (some ⟨g, 0, none⟩) L.length cap) L) (hn : L.length ≤ 2097152) :
    Calls Tryz.prog 79 #[.slice (some ⟨g, 0, none⟩) L.length cap, .int .i64 (i : Int), .int .i64 (j : Int)] w fun e w' => e = .returned (.slice (some ⟨g, 0, none⟩) (L.length - 1) cap) ∧ OwnL w' B (.slice (some ⟨g, 0, none⟩) (L.length - 1) cap) (L.eraseIdx i) ∧ w.grownBy w' (some g) := by
  obtain ⟨hxl, h2⟩ := h
  rcases h2 with ⟨e, _⟩ | ⟨g', cap', cur, e, hB, hg, hc1, hc2, hs, hcur⟩
  · cases e
  obtain ⟨rfl, rfl⟩ : g = g' ∧ cap = cap' := by simpa using e
  obtain ⟨n, hnn⟩ : ∃ n, L.length = n := ⟨_, rfl⟩
  obtain ⟨news, hnews⟩ : ∃ news, ((L.drop (i + 1)).map cellsF).flatten = news := ⟨_, rfl⟩
  have hcut := fun w' => OwnL.cut (w' := w') (B := B) (g := g) i hi hcur hc1 hc2 hs hB
  rw [hnn, hnews] at hcut
  rw [hnn] at hi hn hc1 hcur ⊢
  have hnl : news.length = (n - j) * 3 := by rw [← hnews, cells_len, List.length_drop, hnn, hj]
  have hone : ∀ u ∈ news, u.oneCell' = true := by rw [← hnews]; exact cells_one _
  have hat : ∀ t u, news[t]? = some u → w.cell? ⟨g, j * 3 + t, none⟩ = some u := fun t u ht => by
    have := cells_from (by rw [hnn]; exact hcur) (i + 1) (by omega) (by rw [hnews]; exact ht)
    rw [← hj] at this
    simp only [World.cell?, hg]
    simpa using this
  have hjn : j ≤ n := by omega
  have hij : ¬ (i : Int) = (j : Int) := by omega
  have hic : i ≤ cap := by omega
  have hjc : j ≤ cap := by omega
  have hap : ∀ (A : Addr) (ty : TypeId) (c : Nat), (∀ t u, news[t]? = some u → w.drew.cell? (A.add t) = some u) → (Builtin.append_ #[26, 26] ty #[.slice (some ⟨g, 0, none⟩) i cap, .slice (some A) (n - j) c]).run Tryz.prog w.drew = .ok (.slice (some ⟨g, 0, none⟩) (n - 1) cap) (w.drew.setRow g (splice cur.toList (i * 3) news).toArray) := fun A ty c hA => by
    have := run_append3 w.drew ty g i cap cur hg A (n - j) c news hnl hA hone (by omega) (by rw [hnl, hs]; omega)
    rw [this, show i + (n - j) = n - 1 by omega]
  obtain ⟨W1, hW1⟩ : ∃ W1, w.drew.setRow g (splice cur.toList (i * 3) news).toArray = W1 := ⟨_, rfl⟩
  have hg1 : W1.heap[g]? = some (.cells (splice cur.toList (i * 3) news).toArray 49 (0, 0)) := by rw [← hW1]; exact setRow_heap _ g _ _ _ _ hg
  have hgr1 : w.grownBy W1 (some g) := by have := grown_setRow w.drew g (splice cur.toList (i * 3) news).toArray; rw [← hW1]; exact ⟨this.os, this.tape, this.output, this.size, this.block⟩
  have hcl := fun ty c => run_clear1 W1 ty g ((n - 1) * 3) c _ hg1 (by rw [List.size_toArray, length_splice _ _ _ (by simp only [Array.length_toList]; rw [hnl, hs]; omega), Array.length_toList, hs]; omega)
  rw [hW1] at hap
  obtain ⟨w2, hcl2, HO, HG⟩ : ∃ w2, (∀ ty, (Builtin.clear_ #[26] ty #[.slice (some ⟨g, (n - 1) * 3, none⟩) (n - (n - 1)) (cap - (n - 1))]).run Tryz.prog W1 = .ok (.tuple #[]) w2) ∧ Hid (OwnL w2 B (.slice (some ⟨g, 0, none⟩) (n - 1) cap) (L.eraseIdx i)) ∧ Hid (w.grownBy w2 (some g)) :=
    ⟨_, fun ty => by rw [show n - (n - 1) = 1 by omega]; exact hcl ty _, hcut _ _ rfl (setRow_heap _ g _ _ _ _ hg1), by
      have h2 := grown_setRow W1 g (splice (splice cur.toList (i * 3) news).toArray.toList ((n - 1) * 3) [.string ByteArray.empty, .string ByteArray.empty, .int .i64 0]).toArray
      exact ⟨h2.os.trans hgr1.os, h2.tape.trans hgr1.tape, h2.output.trans hgr1.output, Nat.le_trans hgr1.size h2.size, fun k hk hne => (h2.block k (Nat.lt_of_lt_of_le hk hgr1.size) hne).trans (hgr1.block k hk hne)⟩⟩
  obtain ⟨A, hA, hsrc⟩ : ∃ A : Addr, (if cap = j then some (⟨g, 0, none⟩ : Addr) else some ⟨g, j * 3, none⟩) = some A ∧ Hid (∀ t u, news[t]? = some u → w.drew.cell? (A.add t) = some u) := by
    by_cases h : cap = j
    · refine ⟨⟨g, 0, none⟩, by simp [h], fun t u hu => ?_⟩
      have h0 : news.length = 0 := by rw [hnl]; omega
      rw [List.length_eq_zero_iff.1 h0] at hu
      simp at hu
    · refine ⟨⟨g, j * 3, none⟩, by simp [h], fun t u hu => ?_⟩
      rw [Addr.add_lit]
      exact hat t u hu
  have HAP : Hid (∀ (ty : TypeId) (c : Nat), (Builtin.append_ #[26, 26] ty #[.slice (some ⟨g, 0, none⟩) i cap, .slice (some A) (n - j) c]).run Tryz.prog w.drew = .ok (.slice (some ⟨g, 0, none⟩) (n - 1) cap) W1) := fun ty c => hap A ty c hsrc.out
  have hn1 : ¬ cap = n - 1 := by omega
  have hn3 : n - 1 ≤ n := by omega
  have hij2 : i ≤ j := by omega
  clear hcut hcl hap hat hsrc hg1 hgr1 hW1 hone hnl hnews hg hs hcur hxl e hj
  go_enter Tryz.func79, Tryz.ntmps79
  go_wp2_with fail
  go_region_law (refine step_run_builtin rfl (.tmp 22) (.tmp 25) 26 26 rfl (.slice (some ⟨g, 0, none⟩) i cap) (.slice (some A) (n - j) (cap - j)) (by simp [Act.eval, Act.put]) (by simp [Act.eval, Act.put]) (HAP.out _ (cap - j)) ?_)
  go_wp2
  go_ret
  exact ⟨rfl, HO.out, HG.out⟩
theorem run_copy3 (w : World) (ty : TypeId) (g o dLen dCap : Nat) (a : Addr) (sLen sCap : Nat) (cur : Array Value) (cs : List Value) (m : Nat) (hm : Nat.min sLen dLen = m) (hg : w.heap[g]? = some (.cells cur 49 (0, 0))) (hn : cs.length = m * 3) (hsrc : ∀ j v, cs[j]? = some v → w.cell? (a.add j) = some v) (hfit : o + cs.length ≤ cur.size) (h1 : ∀ v ∈ cs, v.oneCell' = true) :
    (Builtin.copy_ #[26, 26] ty #[.slice (some ⟨g, o, none⟩) dLen dCap, .slice (some a) sLen sCap]).run Tryz.prog w = .ok (goInt m) (w.setRow g (splice cur.toList o cs).toArray) := by
  obtain ⟨i0, hi, hz0, hz1, hz2⟩ := info_parts Tryz.infoFil
  have hf := run_firstCells_some (P := Tryz.prog) w 3 m a sLen sCap cs hn hsrc
  have hst := run_storeCells_at Tryz.prog g o 49 cs 0 cur w hg (by simpa using hfit) h1
  simp only [Nat.add_zero, List.append_assoc] at hst
  unfold splice
  simp [Builtin.copy_, run_underlying Tryz.underlying26, Builtin.lenOf, sizeOf, typeInfo, hi, hz1, hm, hf, hst]
theorem wp_copy_run {P : Program} (w : World) {o : Oper} {a : Act} {K : Act → World → Prop} {Q : Exit → Act → World → Prop} (d s : Operand) (t t' : TypeId)
    (ho : o.op = .call { callee := .builtin .copy, args := #[d, s], argTypes := #[t, t'] }) (v u : Value) (hd : a.eval d = v) (hs : a.eval s = u) {v' : Value} {w' : World}
    (hr : (Builtin.copy_ #[t, t'] o.type #[v, u]).run P w = .ok v' w') (h : K (a.put o.dst v') w') : o.wp P a w K Q := by
  unfold Oper.wp execOp
  simp only [ho, resolve, invoke, builtin, Sem.run_bind, Sem.run_pure, Result.andThen_ok, List.map_toArray, List.map_cons, List.map_nil, hd, hs, hr]
  exact h
theorem wpList_copy_run {P : Program} (w : World) {ops : Array Oper} {rest : List Oper} {o : Oper} {a : Act} {Q : Exit → Act → World → Prop} (hgd : o.guard = none) (d s : Operand) (t t' : TypeId)
    (ho : o.op = .call { callee := .builtin .copy, args := #[d, s], argTypes := #[t, t'] }) (v u : Value) (hd : a.eval d = v) (hs : a.eval s = u) {v' : Value} {w' : World}
    (hr : (Builtin.copy_ #[t, t'] o.type #[v, u]).run P w = .ok v' w') (h : wpList P ops Q rest (a.put o.dst v') w') : wpList P ops Q (o :: rest) a w :=
  wpList_plain hgd fun _ hK => wp_copy_run w d s t t' ho v u hd hs hr (hK _ _ h)
theorem step_run_copy {P : Program} {ops : Array Oper} {o : Oper} {a : Act} {w : World} {K : Act → World → Prop} {Q : Exit → Act → World → Prop} {E : Prop}
    (hg : o.guard = none) (d x : Operand) (dT sT : TypeId) (hop : o.op = Op.call { callee := Callee.builtin Builtin.copy, args := #[d, x], argTypes := #[dT, sT] })
    (v u : Value) (hd : a.eval d = v) (hx : a.eval x = u) {v' : Value} {w' : World} (hr : (Builtin.copy_ #[dT, sT] o.type #[v, u]).run P w = .ok v' w') (hK : K (a.put o.dst v') w') :
    if Region.wanted o (yielded ops a.tmps) = true then Oper.wp P o a w K Q else E := by
  have hw : Region.wanted o (yielded ops a.tmps) = true := by simp [Region.wanted, hg]
  rw [if_pos hw]
  exact wp_copy_run w d x dT sT hop v u hd hx hr hK
theorem splice_in {α : Type} (cur V C : List α) (k : Nat) (hk : k + V.length + C.length ≤ cur.length) : (splice (splice cur (k + V.length) C) k V).take (k + V.length + C.length) = cur.take k ++ (V ++ C) := by
  have e : splice (splice cur (k + V.length) C) k V = (cur.take k ++ (V ++ C)) ++ cur.drop (k + V.length + C.length) := by
    unfold splice
    rw [List.take_append_of_le_length (by simp; omega), List.take_take, Nat.min_eq_left (by omega), List.drop_left' (by simp; omega)]
    simp only [List.append_assoc]
  rw [e, List.take_left' (by simp; omega)]
set_option maxRecDepth 20000 in
set_option maxHeartbeats 2000000 in
/-- One file more, at the end. -/
theorem iInsEnd (L : List Fil) (f : Fil) (g cap B vb : Nat) (w : World) (h : OwnL w B (.slice (some ⟨g, 0, none⟩) L.length cap) L) (hv : w.heap[vb]? = some (.cells (cellsF f).toArray 49 (0, 0))) (hB : B ≤ w.heap.size) (hn : L.length ≤ 2097152) :
    Calls Tryz.prog 87 #[.slice (some ⟨g, 0, none⟩) L.length cap, .int .i64 (L.length : Int), .slice (some ⟨vb, 0, none⟩) 1 1] w fun e w' => ∃ g' cap', e = .returned (.slice (some ⟨g', 0, none⟩) (L.length + 1) cap') ∧ OwnL w' B (.slice (some ⟨g', 0, none⟩) (L.length + 1) cap') (L ++ [f]) ∧ w.grownBy w' (some g) := by
  obtain ⟨i0, hi, hz0, hz1, hz2⟩ := info_parts Tryz.infoFil
  have HI : Hid (Tryz.prog.info? 49 = some i0) := hi
  clear hi
  have hsrc : ∀ j u, (cellsF f)[j]? = some u → w.cell? ((⟨vb, 0, none⟩ : Addr).add j) = some u := fun j u hj => by
    rw [Addr.add_lit, Nat.zero_add]; simp only [World.cell?, hv]; simpa using hj
  have HN : Hid (∀ j u, (cellsF f)[j]? = some u → w.cell? ((⟨vb, 0, none⟩ : Addr).add j) = some u) := hsrc
  clear hsrc hv
  have hone : ∀ u ∈ cellsF f, u.oneCell' = true := by simp [cellsF, Value.oneCell']
  have hO : w.ownsRow B 49 3 (.slice (some ⟨g, 0, none⟩) L.length cap) L.length ((L.map cellsF).flatten) := h
  have hfl : ((L ++ [f]).map cellsF).flatten = (L.map cellsF).flatten ++ cellsF f := by simp
  have hcap : L.length ≤ cap := by
    rcases h.2 with ⟨e, _⟩ | ⟨g', cap', cur, e, _, _, hc1, _⟩
    · cases e
    · obtain ⟨rfl, rfl⟩ : g = g' ∧ cap = cap' := by simpa using e
      exact hc1
  obtain ⟨n, hnn⟩ : ∃ n, L.length = n := ⟨_, rfl⟩
  rw [hnn] at hO hn hcap ⊢
  clear h
  go_enter Tryz.func87, Tryz.ntmps87
  go_wp2_with (at_builtin; refine wpList_append_own _ rfl _ _ 26 rfl B 49 i0 _ 3 40 Tryz.underlying26 HI.out hz0 hz1 hz2 rfl (by omega) _ n _ rfl hO ⟨vb, 0, none⟩ 1 1 (cellsF f) rfl rfl HN.out hone (by unfold maxLen; omega) (by omega) hB ?_; intro v' w1 hown1 hgrow hnil)
  all_goals
    replace hgrow : w.grownBy w1 (some g) := hgrow
    obtain ⟨g', cap', rfl⟩ : ∃ g' cap', v' = .slice (some ⟨g', 0, none⟩) (n + 1) cap' := by
      rcases hown1.2 with ⟨_, e⟩ | ⟨g', cap', _, e, _⟩
      · omega
      · exact ⟨g', cap', e⟩
    go_wp2
    go_ret
    refine ⟨g', cap', rfl, ?_, hgrow⟩
    unfold OwnL
    rw [hfl, List.length_append, hnn]
    exact hown1
theorem OwnL.put {w' : World} {B g cap : Nat} {L : List Fil} (f : Fil) (i : Nat) (hi : i ≤ L.length) {row : Array Value} (hg : w'.heap[g]? = some (.cells row 49 (0, 0))) (hB : B ≤ g) (hcap : L.length + 1 ≤ cap) (hm : cap ≤ maxLen) (hs : row.size = cap * 3)
    (hrow : row.toList.take ((L.length + 1) * 3) = ((L.take i).map cellsF).flatten ++ (cellsF f ++ ((L.drop i).map cellsF).flatten)) : OwnL w' B (.slice (some ⟨g, 0, none⟩) (L.length + 1) cap) (L.take i ++ f :: L.drop i) := by
  have hl : (L.take i ++ f :: L.drop i).length = L.length + 1 := by simp; omega
  refine ⟨cells_len _, Or.inr ⟨g, cap, row, by rw [hl], hB, hg, by rw [hl]; exact hcap, hm, hs, ?_⟩⟩
  rw [hl, hrow]
  simp
set_option maxRecDepth 20000 in
set_option maxHeartbeats 4000000 in
theorem iInsRoom (L : List Fil) (f : Fil) (i g cap B vb : Nat) (w : World) (hi : i < L.length) (h : OwnL w B (.slice (some ⟨g, 0, none⟩) L.length cap) L) (hv : w.heap[vb]? = some (.cells (cellsF f).toArray 49 (0, 0))) (hne : vb ≠ g) (hn : L.length ≤ 2097152) (hroom : L.length + 1 ≤ cap) :
    Calls Tryz.prog 87 #[.slice (some ⟨g, 0, none⟩) L.length cap, .int .i64 (i : Int), .slice (some ⟨vb, 0, none⟩) 1 1] w fun e w' => ∃ g' cap', e = .returned (.slice (some ⟨g', 0, none⟩) (L.length + 1) cap') ∧ OwnL w' B (.slice (some ⟨g', 0, none⟩) (L.length + 1) cap') (L.take i ++ f :: L.drop i) ∧ w.grownBy w' (some g) := by
  obtain ⟨hxl, h2⟩ := h
  rcases h2 with ⟨e, _⟩ | ⟨g', cap', cur, e, hB, hg, hc1, hc2, hs, hcur⟩
  · cases e
  obtain ⟨rfl, rfl⟩ : g = g' ∧ cap = cap' := by simpa using e
  obtain ⟨n, hnn⟩ : ∃ n, L.length = n := ⟨_, rfl⟩
  obtain ⟨C, hC⟩ : ∃ C, ((L.drop i).map cellsF).flatten = C := ⟨_, rfl⟩
  have hput := fun w' row => OwnL.put (w' := w') (B := B) (g := g) (cap := cap) (L := L) f i (Nat.le_of_lt hi) (row := row)
  have hfrom := fun t u => cells_from (t := t) (u := u) hcur i (Nat.le_of_lt hi)
  have hCl : C.length = (n - i) * 3 := by rw [← hC, cells_len, List.length_drop, hnn]
  have hCo : ∀ u ∈ C, u.oneCell' = true := by rw [← hC]; exact cells_one _
  have htk : cur.toList.take (i * 3) = ((L.take i).map cellsF).flatten := by
    have e2 := congrArg (List.take (i * 3)) hcur
    rw [List.take_take, Nat.min_eq_left (by omega), cells_split L i, List.take_left' (by rw [cells_len, List.length_take]; omega)] at e2
    exact e2
  rw [hnn, hC] at hput
  rw [hC] at hfrom
  rw [hnn] at hi hn hc1 hcur hroom ⊢
  have hVo : ∀ u ∈ cellsF f, u.oneCell' = true := by simp [cellsF, Value.oneCell']
  have hVl : (cellsF f).length = 1 * 3 := rfl
  have hcsz : cur.toList.length = cap * 3 := by simpa using hs
  have hov : ∀ lb cb, (callFunc 92 #[.slice (some ⟨vb, 0, none⟩) 1 1, .slice (some ⟨g, (i + 1) * 3, none⟩) lb cb]).run Tryz.prog w = .ok (.value (.bool false)) w := fun lb cb => by
    rw [run_callFunc_extern Tryz.func92 (by kernel_rfl) (by kernel_rfl) (by kernel_rfl) (e := Extern.SlicesOverlaps.overlaps #[26, 26] #[4]) (by kernel_rfl),
      Lib.run_overlaps_apart w 26 4 49 Tryz.underlying26 3 (fun w => by kernel_rfl) ⟨vb, 0, none⟩ ⟨g, (i + 1) * 3, none⟩ 1 1 lb cb hne 49 49 3 (cap * 3) (by simp [World.shape?, hv, cellsF]) (by simp [World.shape?, hg, hs]) (by omega) (by simp [World.frozen?, hv]) (by simp [World.frozen?, hv])]
    rfl
  have hcp1 : ∀ ty dc sc, (Builtin.copy_ #[26, 26] ty #[.slice (some ⟨g, (i + 1) * 3, none⟩) (n + 1 - (i + 1)) dc, .slice (some ⟨g, i * 3, none⟩) (n + 1 - i) sc]).run Tryz.prog w.drew = .ok (goInt (n - i : Nat)) (w.drew.setRow g (splice cur.toList ((i + 1) * 3) C).toArray) := fun ty dc sc =>
    run_copy3 w.drew ty g ((i + 1) * 3) _ dc ⟨g, i * 3, none⟩ _ sc cur C (n - i) (by simp only [Nat.min_def]; split <;> omega) hg hCl (fun j u hj => by
      rw [Addr.add_lit]
      show w.cell? _ = _
      simp only [World.cell?, hg]
      simpa using hfrom j u hj) (by rw [hCl, hs]; omega) hCo
  obtain ⟨W1, hW1⟩ : ∃ W1, w.drew.setRow g (splice cur.toList ((i + 1) * 3) C).toArray = W1 := ⟨_, rfl⟩
  have hg1 : W1.heap[g]? = some (.cells (splice cur.toList ((i + 1) * 3) C).toArray 49 (0, 0)) := by rw [← hW1]; exact setRow_heap _ g _ _ _ _ hg
  have hgr1 : w.grownBy W1 (some g) := by have := grown_setRow w.drew g (splice cur.toList ((i + 1) * 3) C).toArray; rw [← hW1]; exact ⟨this.os, this.tape, this.output, this.size, this.block⟩
  have hv1 : W1.heap[vb]? = some (.cells (cellsF f).toArray 49 (0, 0)) := by rw [← hW1, setRow_other _ g vb _ hne]; exact hv
  rw [hW1] at hcp1
  have hl1 : (splice cur.toList ((i + 1) * 3) C).length = cap * 3 := by rw [length_splice _ _ _ (by rw [hCl, hcsz]; omega), hcsz]
  obtain ⟨w2, hcp2, HO, HG⟩ : ∃ w2, (∀ ty dc, (Builtin.copy_ #[26, 26] ty #[.slice (some ⟨g, i * 3, none⟩) (n + 1 - i) dc, .slice (some ⟨vb, 0, none⟩) 1 1]).run Tryz.prog W1 = .ok (goInt (1 : Nat)) w2) ∧ Hid (OwnL w2 B (.slice (some ⟨g, 0, none⟩) (n + 1) cap) (L.take i ++ f :: L.drop i)) ∧ Hid (w.grownBy w2 (some g)) := by
    refine ⟨_, fun ty dc => run_copy3 W1 ty g (i * 3) _ dc ⟨vb, 0, none⟩ 1 1 _ (cellsF f) 1 (by simp only [Nat.min_def]; split <;> omega) hg1 hVl (fun j u hj => by
      rw [Addr.add_lit, Nat.zero_add]
      simp only [World.cell?, hv1]
      simpa using hj) (by rw [hVl, List.size_toArray, hl1]; omega) hVo, hput _ _ (setRow_heap _ g _ _ _ _ hg1) hB hroom hc2 ?_ ?_, ?_⟩
    · rw [List.size_toArray, length_splice _ _ _ (by rw [hVl, List.toList_toArray, hl1]; omega), List.toList_toArray, hl1]
    · have e1 := splice_in cur.toList (cellsF f) C (i * 3) (by rw [hVl, hCl, hcsz]; omega)
      rw [htk, hVl, hCl, show i * 3 + 1 * 3 + (n - i) * 3 = (n + 1) * 3 by omega, show i * 3 + 1 * 3 = (i + 1) * 3 by omega] at e1
      simpa using e1
    · have h2 := grown_setRow W1 g (splice (splice cur.toList ((i + 1) * 3) C).toArray.toList (i * 3) (cellsF f)).toArray
      exact ⟨h2.os.trans hgr1.os, h2.tape.trans hgr1.tape, h2.output.trans hgr1.output, Nat.le_trans hgr1.size h2.size, fun k hk hne => (h2.block k (Nat.lt_of_lt_of_le hk hgr1.size) hne).trans (hgr1.block k hk hne)⟩
  clear hput hfrom hCl hCo htk hxl hg hs hcur hcsz hW1 hg1 hgr1 hv1 hl1 hVo hVl e hv hC
  have a1 : ¬ (i : Int) = (n : Int) := by omega
  have a2 : ¬ cap = i := by omega
  have a3 : ¬ cap = i + 1 := by omega
  have a4 : ¬ (cap : Int) < (n : Int) + 1 := by omega
  have a5 : IntKind.i64.wrap ((i : Int) + 1) = (i : Int) + 1 := by rw [IntKind.wrap_i64]; omega
  have a6 : (i : Int) ≤ (n : Int) + 1 := by omega
  have a7 : i ≤ n := by omega
  have a8 : IntKind.i64.wrap ((n : Int) + 1) = (n : Int) + 1 := by rw [IntKind.wrap_i64]; omega
  have a9 : ((i : Int) + 1).toNat = i + 1 := by omega
  have a10 : (0 : Int) ≤ (i : Int) + 1 := by omega
  have a11 : n + 1 ≤ cap := hroom
  go_enter Tryz.func87, Tryz.ntmps87
  go_wp2_with (simp only [hov])
  go_region_law (refine step_run_copy rfl _ _ 26 26 rfl _ _ (by simp [Act.eval, Act.put]) (by simp [Act.eval, Act.put]) (hcp1 _ (cap - (i + 1)) (cap - i)) ?_)
  go_wp2_with (at_builtin; refine wpList_copy_run _ rfl _ _ 26 26 rfl _ _ rfl rfl (hcp2 _ _) ?_)
  go_ret
  exact ⟨g, cap, rfl, HO.out, HG.out⟩
end Go.Proofs.YtngppfjphbodcaaGreatDoor
