/-
  FsStep, the program's side: slices.Insert of one file into a full row.
-/
import Derived.Test.YtdbcihebhgpblaaDoorOe
namespace Go.Proofs.YtdbcihebhgpblaaDoor
open Go.RowKit
set_option maxRecDepth 20000 in
set_option maxHeartbeats 4000000 in
theorem iInsGrow (L : List Fil) (f : Fil) (i g cap B vb : Nat) (w : World) (hi : i < L.length) (h : OwnL w B (.slice (some ⟨g, 0, none⟩) L.length cap) L) (hv : w.heap[vb]? = some (.cells (cellsF f).toArray 92 (0, 0))) (hBw : B ≤ w.heap.size) (hn : L.length ≤ 2097152) (hroom : cap < L.length + 1) :
    Calls Tryd.prog 100 #[.slice (some ⟨g, 0, none⟩) L.length cap, .int .i64 (i : Int), .slice (some ⟨vb, 0, none⟩) 1 1] w fun e w' => ∃ g' cap', e = .returned (.slice (some ⟨g', 0, none⟩) (L.length + 1) cap') ∧ OwnL w' B (.slice (some ⟨g', 0, none⟩) (L.length + 1) cap') (L.take i ++ f :: L.drop i) ∧ w.grownBy w' (some g) := by
  obtain ⟨hxl, h2⟩ := h
  rcases h2 with ⟨e, _⟩ | ⟨g', cap', cur, e, hB, hg, hc1, hc2, hs, hcur⟩
  · cases e
  obtain ⟨rfl, rfl⟩ : g = g' ∧ cap = cap' := by simpa using e
  obtain ⟨n, hnn⟩ : ∃ n, L.length = n := ⟨_, rfl⟩
  obtain ⟨C, hC⟩ : ∃ C, ((L.drop i).map cellsF).flatten = C := ⟨_, rfl⟩
  obtain ⟨X, hX⟩ : ∃ X, ((L.take i).map cellsF).flatten = X := ⟨_, rfl⟩
  have hput := fun w' g cap row => OwnL.put (w' := w') (B := B) (g := g) (cap := cap) (L := L) f i (Nat.le_of_lt hi) (row := row)
  have hfrom := fun t u => cells_from (t := t) (u := u) hcur i (Nat.le_of_lt hi)
  have hCl : C.length = (n - i) * 3 := by rw [← hC, cells_len, List.length_drop, hnn]
  have hCo : ∀ u ∈ C, u.oneCell' = true := by rw [← hC]; exact cells_one _
  have hXl : X.length = i * 3 := by rw [← hX, cells_len, List.length_take]; omega
  have htk : cur.toList.take (i * 3) = X := by
    have e2 := congrArg (List.take (i * 3)) hcur
    rw [List.take_take, Nat.min_eq_left (by omega), cells_split L i, List.take_left' (by rw [cells_len, List.length_take]; omega)] at e2
    rw [e2, hX]
  rw [hnn, hC, hX] at hput
  rw [hC] at hfrom
  rw [hnn] at hi hn hc1 hcur hroom ⊢
  have hVo : ∀ u ∈ cellsF f, u.oneCell' = true := by simp [cellsF, Value.oneCell']
  have hVl : (cellsF f).length = 1 * 3 := rfl
  have hgw : g < w.heap.size := (Array.getElem?_eq_some_iff.1 hg).1
  have hvw : vb < w.heap.size := (Array.getElem?_eq_some_iff.1 hv).1
  obtain ⟨i0, hi0, hz0, hz1, hz2⟩ := info_parts Tryd.infoFil
  obtain ⟨G, W1, ROW, hrz, hg1, hb1, hRs, hRt, hG1, hG2⟩ : ∃ (G : Nat) (W1 : World) (ROW : Array Value), (∀ ty, (Builtin.append_ #[28, 3] ty #[.slice (some ⟨g, 0, none⟩) i cap, .int .i64 ((n : Int) + 1 - (i : Int))]).run Tryd.prog w = .ok (.slice (some ⟨w.heap.size, 0, none⟩) (n + 1) G) W1) ∧ W1.heap[w.heap.size]? = some (.cells ROW 92 (0, 0)) ∧ Below w.heap.size w W1 ∧ ROW.size = G * 3 ∧ ROW.toList.take (i * 3) = X ∧ n + 1 ≤ G ∧ G ≤ maxLen := by
    have hold : (Builtin.firstCells i0.size i (.slice (some ⟨g, 0, none⟩) i cap)).run Tryd.prog w.drew = .ok X.toArray w.drew := by
      rw [hz1]
      exact run_firstCells_some w.drew 3 i ⟨g, 0, none⟩ i cap X hXl (fun j u hj => by
        rw [Addr.add_lit, Nat.zero_add]
        show w.cell? _ = _
        simp only [World.cell?, hg]
        rw [← htk, List.getElem?_take] at hj
        split at hj
        · simpa using hj
        · cases hj)
    have hr := fun ty => Lib.run_append_grow_zeros w 28 3 ty 92 i0 _ .i64 .i64 Tryd.underlying28 Tryd.underlying3 hi0 hz0 (some ⟨g, 0, none⟩) i cap X hold (n + 1 - i) (by omega) (by omega) (by omega) (by omega) (by rw [hz2]; omega) (by rw [hz2, show i + (n + 1 - i) = n + 1 by omega]; exact growslice_fits hroom (by omega))
    rw [show i + (n + 1 - i) = n + 1 by omega] at hr
    have hge := grownCap_ge w (n + 1) cap 92
    have hle := grownCap_le_maxLen w (n + 1) cap 92 (by unfold maxLen; omega)
    obtain ⟨G, hG⟩ : ∃ G, grownCap w (n + 1) cap 92 = G := ⟨_, rfl⟩
    rw [hG] at hr hge hle
    rw [show ((n + 1 - i : Nat) : Int) = (n : Int) + 1 - (i : Int) by omega] at hr
    refine ⟨G, _, _, hr, heap_alloc_new w.drew _, bstep (bdrew1 _) (bal _ _), ?_, ?_, hge, hle⟩
    · simp only [Array.size_append, size_zeroCells, List.size_toArray, hXl, show (Value.agg #[.string ByteArray.empty, .string ByteArray.empty, .int .i64 0]).cells.size = 3 from rfl]
      omega
    · rw [Array.append_assoc, Array.toList_append, List.take_append_of_le_length (by simp [hXl]), List.toList_toArray, List.take_of_length_le (by omega)]
  have hrz' : Hid (∀ ty, (Builtin.append_ #[28, 3] ty #[.slice (some ⟨g, 0, none⟩) i cap, .int .i64 ((n : Int) + 1 - (i : Int))]).run Tryd.prog w = .ok (.slice (some ⟨w.heap.size, 0, none⟩) (n + 1) G) W1) := hrz
  obtain ⟨N, hN⟩ : ∃ N, w.heap.size = N := ⟨_, rfl⟩
  rw [hN] at hrz' hg1 hb1 hgw hvw hBw
  clear hrz
  have hRl : ROW.toList.length = G * 3 := by simpa using hRs
  obtain ⟨W2, hcpA, hg2, hb2⟩ : ∃ W2, (∀ ty dc, (Builtin.copy_ #[28, 28] ty #[.slice (some ⟨N, i * 3, none⟩) (n + 1 - i) dc, .slice (some ⟨vb, 0, none⟩) 1 1]).run Tryd.prog W1 = .ok (goInt (1 : Nat)) W2) ∧ W2.heap[N]? = some (.cells (splice ROW.toList (i * 3) (cellsF f)).toArray 92 (0, 0)) ∧ Below N w W2 :=
    ⟨_, fun ty dc => run_copy3 W1 ty N (i * 3) _ dc ⟨vb, 0, none⟩ 1 1 _ (cellsF f) 1 (by simp only [Nat.min_def]; split <;> omega) hg1 hVl (fun j u hj => by
      rw [Addr.add_lit, Nat.zero_add]
      simp only [World.cell?, hb1.block vb hvw, hv]
      simpa using hj) (by rw [hVl, hRs]; omega) hVo, setRow_heap _ N _ _ _ _ hg1, below_setRow hb1 (Nat.le_refl _) _⟩
  have hl2 : (splice ROW.toList (i * 3) (cellsF f)).length = G * 3 := by rw [length_splice _ _ _ (by rw [hVl, hRl]; omega), hRl]
  obtain ⟨W3, hcpB, HO, HG⟩ : ∃ W3, (∀ ty dc sc, (Builtin.copy_ #[28, 28] ty #[.slice (some ⟨N, (i + 1) * 3, none⟩) (n + 1 - (i + 1)) dc, .slice (some ⟨g, i * 3, none⟩) (n - i) sc]).run Tryd.prog W2.drew = .ok (goInt (n - i : Nat)) W3) ∧ Hid (OwnL W3 B (.slice (some ⟨N, 0, none⟩) (n + 1) G) (L.take i ++ f :: L.drop i)) ∧ Hid (w.grownBy W3 (some g)) := by
    refine ⟨_, fun ty dc sc => run_copy3 W2.drew ty N ((i + 1) * 3) _ dc ⟨g, i * 3, none⟩ _ sc _ C (n - i) (by simp only [Nat.min_def]; split <;> omega) hg2 hCl (fun j u hj => by
      rw [Addr.add_lit]
      show W2.cell? _ = _
      simp only [World.cell?, hb2.block g hgw, hg]
      simpa using hfrom j u hj) (by rw [hCl, List.size_toArray, hl2]; omega) hCo, hput _ N G _ (setRow_heap W2.drew N _ _ _ _ hg2) hBw hG1 hG2 ?_ ?_, ?_⟩
    · rw [List.size_toArray, length_splice _ _ _ (by rw [hCl, List.toList_toArray, hl2]; omega), List.toList_toArray, hl2]
    · have e1 := splice_take1 (splice ROW.toList (i * 3) (cellsF f)) C ((i + 1) * 3) (by rw [hl2]; omega)
      have e2 := splice_take1 ROW.toList (cellsF f) (i * 3) (by rw [hRl]; omega)
      rw [hVl, show i * 3 + 1 * 3 = (i + 1) * 3 by omega, hRt] at e2
      rw [e2, hCl, show (i + 1) * 3 + (n - i) * 3 = (n + 1) * 3 by omega, List.append_assoc] at e1
      simpa using e1
    · have h3 := below_setRow (hb2.trans ((bdrew1 W2).mono (by have := hb2.size; omega))) (Nat.le_refl N) (splice (splice ROW.toList (i * 3) (cellsF f)).toArray.toList ((i + 1) * 3) C).toArray
      exact ⟨h3.os, h3.tape, h3.output, h3.size, fun k hk _ => h3.block k (by omega)⟩
  clear hput hfrom hCl hCo hXl htk hxl hg hs hcur hVo hVl e hv hC hX hg1 hg2 hb1 hb2 hRs hRl hRt hl2 hi0 hz0 hz1 hz2 hN
  have a1 : ¬ (i : Int) = (n : Int) := by omega
  have a2 : ¬ cap = i := by omega
  have a3 : ¬ G = i + 1 := by omega
  have a3' : ¬ G = i := by omega
  have a4 : (cap : Int) < (n : Int) + 1 := by omega
  have a5 : IntKind.i64.wrap ((i : Int) + 1) = (i : Int) + 1 := by rw [IntKind.wrap_i64]; omega
  have a6 : (i : Int) ≤ (n : Int) + 1 := by omega
  have a7 : i ≤ n := by omega
  have a8 : IntKind.i64.wrap ((n : Int) + 1) = (n : Int) + 1 := by rw [IntKind.wrap_i64]; omega
  have a9 : ((i : Int) + 1).toNat = i + 1 := by omega
  have a10 : (0 : Int) ≤ (i : Int) + 1 := by omega
  have a12 : i ≤ cap := by omega
  have a13 : IntKind.i64.wrap ((n : Int) + 1 - (i : Int)) = (n : Int) + 1 - (i : Int) := by rw [IntKind.wrap_i64]; omega
  have a14 : G ≤ 9223372036854775807 := by unfold maxLen at hG2; omega
  go_enter Tryd.func100, Tryd.ntmps100
  go_wp2_with (first
    | (at_builtin; refine Lib.wpList_append_run _ rfl _ _ _ _ rfl _ _ rfl rfl _ _ (hrz'.out _) ?_)
    | (at_builtin; refine wpList_copy_run _ rfl _ _ 28 28 rfl _ _ rfl rfl (hcpA _ _) ?_))
  go_region_law (refine step_run_copy rfl _ _ 28 28 rfl _ _ (by simp [Act.eval, Act.put]) (by simp [Act.eval, Act.put]) (hcpB _ (G - (i + 1)) (cap - i)) ?_)
  go_wp2
  go_ret
  exact ⟨N, G, rfl, HO.out, HG.out⟩
/-- slices.Insert of one file. -/
theorem iInsert (L : List Fil) (f : Fil) (i g cap B vb : Nat) (w : World) (hi : i ≤ L.length) (h : OwnL w B (.slice (some ⟨g, 0, none⟩) L.length cap) L) (hv : w.heap[vb]? = some (.cells (cellsF f).toArray 92 (0, 0))) (hne : vb ≠ g) (hBw : B ≤ w.heap.size) (hn : L.length ≤ 2097152) :
    Calls Tryd.prog 100 #[.slice (some ⟨g, 0, none⟩) L.length cap, .int .i64 (i : Int), .slice (some ⟨vb, 0, none⟩) 1 1] w fun e w' => ∃ g' cap', e = .returned (.slice (some ⟨g', 0, none⟩) (L.length + 1) cap') ∧ OwnL w' B (.slice (some ⟨g', 0, none⟩) (L.length + 1) cap') (L.take i ++ f :: L.drop i) ∧ w.grownBy w' (some g) := by
  rcases Nat.lt_or_ge i L.length with h1 | h1
  · rcases Nat.lt_or_ge cap (L.length + 1) with h2 | h2
    · exact iInsGrow L f i g cap B vb w h1 h hv hBw hn h2
    · exact iInsRoom L f i g cap B vb w h1 h hv hne hn h2
  · obtain rfl : i = L.length := by omega
    rw [List.take_length, List.drop_length]
    exact iInsEnd L f g cap B vb w h hv hBw hn
end Go.Proofs.YtdbcihebhgpblaaDoor
