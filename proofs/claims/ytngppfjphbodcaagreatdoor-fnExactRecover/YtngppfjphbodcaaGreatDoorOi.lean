/-
  FsStep, the program's side: step.
-/
import Derived.Test.YtngppfjphbodcaaGreatDoorOe
namespace Go.Proofs.YtngppfjphbodcaaGreatDoor
open Go.RowKit
set_option maxRecDepth 20000 in
set_option maxHeartbeats 4000000 in
theorem iInsGrow (L : List Fil) (f : Fil) (i g cap B vb : Nat) (w : World) (hi : i < L.length) (h : OwnL w B (.slice (some ⟨g, 0, none⟩) L.length cap) L) (hv : w.heap[vb]? = some (.cells (cellsF f).toArray 49 (0, 0))) (hBw : B ≤ w.heap.size) (hn : L.length ≤ 2097152) (hroom : cap < L.length + 1) :
    Calls Tryz.prog 87 #[.slice (some ⟨g, 0, none⟩) L.length cap, .int .i64 (i : Int), .slice (some ⟨vb, 0, none⟩) 1 1] w fun e w' => ∃ g' cap', e = .returned (.slice (some ⟨g', 0, none⟩) (L.length + 1) cap') ∧ OwnL w' B (.slice (some ⟨g', 0, none⟩) (L.length + 1) cap') (L.take i ++ f :: L.drop i) ∧ w.grownBy w' (some g) := by
  obtain ⟨hxl, h2⟩ := h
  rcases h2 with ⟨e, _⟩ | ⟨g', cap', cur, e, hB, hg, hc1, hc2, hs, hcur⟩
  · cases e
  obtain ⟨rfl, rfl⟩ : g = g' ∧ cap = cap' := by simpa using e
  obtain ⟨n, hnn⟩ : ∃ n, L.length = n := ⟨_, rfl⟩
  obtain ⟨C, hC⟩ : ∃ C, ((L.drop i).map cellsF).flatten = C := ⟨_, rfl⟩
  obtain ⟨X, hX⟩ : ∃ X, ((L.take i).map cellsF).flatten = X := ⟨_, rfl⟩
  have hput := fun w' g cap row => OwnL.put (w' := w') (B := B) (g := g) (cap := cap) (L := L) f i (Nat.le_of_lt hi) (row := row)
  have hfrom := fun t u => cells_from (t := t) (u := u) hcur i (Nat.le_of_lt hi)
  have hCl : C.length = (n - i) * 3 := by rw [← hC, cells_len, List.length_drop, hnn]
  have hCo : ∀ u ∈ C, u.oneCell' = true := by rw [← hC]; exact cells_one _
  have hXl : X.length = i * 3 := by rw [← hX, cells_len, List.length_take]; omega
  have htk : cur.toList.take (i * 3) = X := by
    have e2 := congrArg (List.take (i * 3)) hcur
    rw [List.take_take, Nat.min_eq_left (by omega), cells_split L i, List.take_left' (by rw [cells_len, List.length_take]; omega)] at e2
    rw [e2, hX]
  rw [hnn, hC, hX] at hput
  rw [hC] at hfrom
  rw [hnn] at hi hn hc1 hcur hroom ⊢
  have hVo : ∀ u ∈ cellsF f, u.oneCell' = true := by simp [cellsF, Value.oneCell']
  have hVl : (cellsF f).length = 1 * 3 := rfl
  have hgw : g < w.heap.size := (Array.getElem?_eq_some_iff.1 hg).1
  have hvw : vb < w.heap.size := (Array.getElem?_eq_some_iff.1 hv).1
  obtain ⟨i0, hi0, hz0, hz1, hz2⟩ := info_parts Tryz.infoFil
  obtain ⟨G, W1, ROW, hrz, hg1, hb1, hRs, hRt, hG1, hG2⟩ : ∃ (G : Nat) (W1 : World) (ROW : Array Value), (∀ ty, (Builtin.append_ #[26, 3] ty #[.slice (some ⟨g, 0, none⟩) i cap, .int .i64 ((n : Int) + 1 - (i : Int))]).run Tryz.prog w = .ok (.slice (some ⟨w.heap.size, 0, none⟩) (n + 1) G) W1) ∧ W1.heap[w.heap.size]? = some (.cells ROW 49 (0, 0)) ∧ Below w.heap.size w W1 ∧ ROW.size = G * 3 ∧ ROW.toList.take (i * 3) = X ∧ n + 1 ≤ G ∧ G ≤ maxLen := by
    have hold : (Builtin.firstCells i0.size i (.slice (some ⟨g, 0, none⟩) i cap)).run Tryz.prog w.drew = .ok X.toArray w.drew := by
      rw [hz1]
      exact run_firstCells_some w.drew 3 i ⟨g, 0, none⟩ i cap X hXl (fun j u hj => by
        rw [Addr.add_lit, Nat.zero_add]
        show w.cell? _ = _
        simp only [World.cell?, hg]
        rw [← htk, List.getElem?_take] at hj
        split at hj
        · simpa using hj
        · cases hj)
    have hr := fun ty => Lib.run_append_grow_zeros w 26 3 ty 49 i0 _ .i64 .i64 Tryz.underlying26 Tryz.underlying3 hi0 hz0 (some ⟨g, 0, none⟩) i cap X hold (n + 1 - i) (by omega) (by omega) (by omega) (by omega) (by rw [hz2]; omega) (by rw [hz2, show i + (n + 1 - i) = n + 1 by omega]; exact growslice_fits hroom (by omega))
    rw [show i + (n + 1 - i) = n + 1 by omega] at hr
    have hge := grownCap_ge w (n + 1) cap 49
    have hle := grownCap_le_maxLen w (n + 1) cap 49 (by unfold maxLen; omega)
    obtain ⟨G, hG⟩ : ∃ G, grownCap w (n + 1) cap 49 = G := ⟨_, rfl⟩
    rw [hG] at hr hge hle
    rw [show ((n + 1 - i : Nat) : Int) = (n : Int) + 1 - (i : Int) by omega] at hr
    refine ⟨G, _, _, hr, heap_alloc_new w.drew _, bstep (bdrew1 _) (bal _ _), ?_, ?_, hge, hle⟩
    · simp only [Array.size_append, size_zeroCells, List.size_toArray, hXl, show (Value.agg #[.string ByteArray.empty, .string ByteArray.empty, .int .i64 0]).cells.size = 3 from rfl]
      omega
    · rw [Array.append_assoc, Array.toList_append, List.take_append_of_le_length (by simp [hXl]), List.toList_toArray, List.take_of_length_le (by omega)]
  have hrz' : Hid (∀ ty, (Builtin.append_ #[26, 3] ty #[.slice (some ⟨g, 0, none⟩) i cap, .int .i64 ((n : Int) + 1 - (i : Int))]).run Tryz.prog w = .ok (.slice (some ⟨w.heap.size, 0, none⟩) (n + 1) G) W1) := hrz
  obtain ⟨N, hN⟩ : ∃ N, w.heap.size = N := ⟨_, rfl⟩
  rw [hN] at hrz' hg1 hb1 hgw hvw hBw
  clear hrz
  have hRl : ROW.toList.length = G * 3 := by simpa using hRs
  obtain ⟨W2, hcpA, hg2, hb2⟩ : ∃ W2, (∀ ty dc, (Builtin.copy_ #[26, 26] ty #[.slice (some ⟨N, i * 3, none⟩) (n + 1 - i) dc, .slice (some ⟨vb, 0, none⟩) 1 1]).run Tryz.prog W1 = .ok (goInt (1 : Nat)) W2) ∧ W2.heap[N]? = some (.cells (splice ROW.toList (i * 3) (cellsF f)).toArray 49 (0, 0)) ∧ Below N w W2 :=
    ⟨_, fun ty dc => run_copy3 W1 ty N (i * 3) _ dc ⟨vb, 0, none⟩ 1 1 _ (cellsF f) 1 (by simp only [Nat.min_def]; split <;> omega) hg1 hVl (fun j u hj => by
      rw [Addr.add_lit, Nat.zero_add]
      simp only [World.cell?, hb1.block vb hvw, hv]
      simpa using hj) (by rw [hVl, hRs]; omega) hVo, setRow_heap _ N _ _ _ _ hg1, below_setRow hb1 (Nat.le_refl _) _⟩
  have hl2 : (splice ROW.toList (i * 3) (cellsF f)).length = G * 3 := by rw [length_splice _ _ _ (by rw [hVl, hRl]; omega), hRl]
  obtain ⟨W3, hcpB, HO, HG⟩ : ∃ W3, (∀ ty dc sc, (Builtin.copy_ #[26, 26] ty #[.slice (some ⟨N, (i + 1) * 3, none⟩) (n + 1 - (i + 1)) dc, .slice (some ⟨g, i * 3, none⟩) (n - i) sc]).run Tryz.prog W2.drew = .ok (goInt (n - i : Nat)) W3) ∧ Hid (OwnL W3 B (.slice (some ⟨N, 0, none⟩) (n + 1) G) (L.take i ++ f :: L.drop i)) ∧ Hid (w.grownBy W3 (some g)) := by
    refine ⟨_, fun ty dc sc => run_copy3 W2.drew ty N ((i + 1) * 3) _ dc ⟨g, i * 3, none⟩ _ sc _ C (n - i) (by simp only [Nat.min_def]; split <;> omega) hg2 hCl (fun j u hj => by
      rw [Addr.add_lit]
      show W2.cell? _ = _
      simp only [World.cell?, hb2.block g hgw, hg]
      simpa using hfrom j u hj) (by rw [hCl, List.size_toArray, hl2]; omega) hCo, hput _ N G _ (setRow_heap W2.drew N _ _ _ _ hg2) hBw hG1 hG2 ?_ ?_, ?_⟩
    · rw [List.size_toArray, length_splice _ _ _ (by rw [hCl, List.toList_toArray, hl2]; omega), List.toList_toArray, hl2]
    · have e1 := splice_take1 (splice ROW.toList (i * 3) (cellsF f)) C ((i + 1) * 3) (by rw [hl2]; omega)
      have e2 := splice_take1 ROW.toList (cellsF f) (i * 3) (by rw [hRl]; omega)
      rw [hVl, show i * 3 + 1 * 3 = (i + 1) * 3 by omega, hRt] at e2
      rw [e2, hCl, show (i + 1) * 3 + (n - i) * 3 = (n + 1) * 3 by omega, List.append_assoc] at e1
      simpa using e1
    · have h3 := below_setRow (hb2.trans ((bdrew1 W2).mono (by have := hb2.size; omega))) (Nat.le_refl N) (splice (splice ROW.toList (i * 3) (cellsF f)).toArray.toList ((i + 1) * 3) C).toArray
      exact ⟨h3.os, h3.tape, h3.output, h3.size, fun k hk _ => h3.block k (by omega)⟩
  clear hput hfrom hCl hCo hXl htk hxl hg hs hcur hVo hVl e hv hC hX hg1 hg2 hb1 hb2 hRs hRl hRt hl2 hi0 hz0 hz1 hz2 hN
  have a1 : ¬ (i : Int) = (n : Int) := by omega
  have a2 : ¬ cap = i := by omega
  have a3 : ¬ G = i + 1 := by omega
  have a3' : ¬ G = i := by omega
  have a4 : (cap : Int) < (n : Int) + 1 := by omega
  have a5 : IntKind.i64.wrap ((i : Int) + 1) = (i : Int) + 1 := by rw [IntKind.wrap_i64]; omega
  have a6 : (i : Int) ≤ (n : Int) + 1 := by omega
  have a7 : i ≤ n := by omega
  have a8 : IntKind.i64.wrap ((n : Int) + 1) = (n : Int) + 1 := by rw [IntKind.wrap_i64]; omega
  have a9 : ((i : Int) + 1).toNat = i + 1 := by omega
  have a10 : (0 : Int) ≤ (i : Int) + 1 := by omega
  have a12 : i ≤ cap := by omega
  have a13 : IntKind.i64.wrap ((n : Int) + 1 - (i : Int)) = (n : Int) + 1 - (i : Int) := by rw [IntKind.wrap_i64]; omega
  have a14 : G ≤ 9223372036854775807 := by unfold maxLen at hG2; omega
  go_enter Tryz.func87, Tryz.ntmps87
  go_wp2_with (first
    | (at_builtin; refine Lib.wpList_append_run _ rfl _ _ _ _ rfl _ _ rfl rfl _ _ (hrz'.out _) ?_)
    | (at_builtin; refine wpList_copy_run _ rfl _ _ 26 26 rfl _ _ rfl rfl (hcpA _ _) ?_))
  go_region_law (refine step_run_copy rfl _ _ 26 26 rfl _ _ (by simp [Act.eval, Act.put]) (by simp [Act.eval, Act.put]) (hcpB _ (G - (i + 1)) (cap - i)) ?_)
  go_wp2
  go_ret
  exact ⟨N, G, rfl, HO.out, HG.out⟩
/-- slices.Insert of one file. -/
theorem iInsert (L : List Fil) (f : Fil) (i g cap B vb : Nat) (w : World) (hi : i ≤ L.length) (h : OwnL w B (.slice (some ⟨g, 0, none⟩) L.length cap) L) (hv : w.heap[vb]? = some (.cells (cellsF f).toArray 49 (0, 0))) (hne : vb ≠ g) (hBw : B ≤ w.heap.size) (hn : L.length ≤ 2097152) :
    Calls Tryz.prog 87 #[.slice (some ⟨g, 0, none⟩) L.length cap, .int .i64 (i : Int), .slice (some ⟨vb, 0, none⟩) 1 1] w fun e w' => ∃ g' cap', e = .returned (.slice (some ⟨g', 0, none⟩) (L.length + 1) cap') ∧ OwnL w' B (.slice (some ⟨g', 0, none⟩) (L.length + 1) cap') (L.take i ++ f :: L.drop i) ∧ w.grownBy w' (some g) := by
  rcases Nat.lt_or_ge i L.length with h1 | h1
  · rcases Nat.lt_or_ge cap (L.length + 1) with h2 | h2
    · exact iInsGrow L f i g cap B vb w h1 h hv hBw hn h2
    · exact iInsRoom L f i g cap B vb w h1 h hv hne hn h2
  · obtain rfl : i = L.length := by omega
    rw [List.take_length, List.drop_length]
    exact iInsEnd L f g cap B vb w h hv hBw hn
theorem less_total (x y : List UInt8) (h1 : Op.bytesLess x y = false) (h2 : Op.bytesLess y x = false) : x = y := by
  induction x generalizing y with
  | nil =>
    cases y with
    | nil => rfl
    | cons b y => simp [Op.bytesLess] at h1
  | cons a x ih =>
    cases y with
    | nil => simp [Op.bytesLess] at h2
    | cons b y =>
      simp only [Op.bytesLess, Bool.or_eq_false_iff, decide_eq_false_iff_not, Bool.and_eq_false_iff, beq_eq_false_iff_ne] at h1 h2
      have hab : a = b := by
        have l1 := h1.1; have l2 := h2.1
        exact UInt8.le_antisymm (UInt8.not_lt.1 l2) (UInt8.not_lt.1 l1)
      subst hab
      have e1 : Op.bytesLess x y = false := by rcases h1.2 with h | h; exact absurd rfl h; exact h
      have e2 : Op.bytesLess y x = false := by rcases h2.2 with h | h; exact absurd rfl h; exact h
      rw [ih y e1 e2]
theorem less_asym (x y : List UInt8) (h : Op.bytesLess x y = true) : Op.bytesLess y x = false := by
  rcases h2 : Op.bytesLess y x
  · rfl
  · have := less_trans x y x h h2
    rw [less_irr] at this; cases this
theorem wth_tail (nm : ByteArray) (f : Fil) (A : List Fil) (h : ∀ g ∈ A, g.s ≠ nm) : wth nm f A true = A := by
  induction A with
  | nil => rfl
  | cons g A ih => simp [wth, h g (by simp), ih (fun x hx => h x (by simp [hx]))]
theorem wth_skip (nm : ByteArray) (f : Fil) (A C : List Fil) (h : ∀ g ∈ A, g.s ≠ nm ∧ Op.bytesLess f.s.toList g.s.toList = false) : wth nm f (A ++ C) false = A ++ wth nm f C false := by
  induction A with
  | nil => rfl
  | cons g A ih =>
    have hg := h g (by simp)
    simp [wth, hg.1, hg.2, ih (fun x hx => h x (by simp [hx]))]
theorem wth_skip1 (nm : ByteArray) (f : Fil) (A C : List Fil) (h : ∀ g ∈ A, g.s ≠ nm) : wth nm f (A ++ C) true = A ++ wth nm f C true := by
  induction A with
  | nil => rfl
  | cons g A ih => simp [wth, h g (by simp), ih (fun x hx => h x (by simp [hx]))]
theorem wth_front (nm : ByteArray) (f : Fil) (C : List Fil) (h : ∀ g ∈ C, g.s ≠ nm ∧ Op.bytesLess f.s.toList g.s.toList = true) : wth nm f C false = f :: C := by
  cases C with
  | nil => rfl
  | cons g C =>
    have hg := h g (by simp)
    simp [wth, hg.1, hg.2, wth_tail nm f C (fun x hx => (h x (by simp [hx])).1)]
/-- Files sorted by name. -/
def Srt (L : List Fil) : Prop := ∀ j k, j < k → k < L.length → Op.bytesLess (nthF L j).s.toList (nthF L k).s.toList = true
theorem mem_take {L : List Fil} {i : Nat} {g : Fil} (h : g ∈ L.take i) : ∃ k, k < i ∧ k < L.length ∧ nthF L k = g := by
  obtain ⟨k, hk, e⟩ := List.getElem_of_mem h
  have hk' : k < L.length := by rw [List.length_take] at hk; omega
  exact ⟨k, by rw [List.length_take] at hk; omega, hk', by rw [nthF_at L k hk', ← e, List.getElem_take]⟩
theorem mem_drop {L : List Fil} {i : Nat} {g : Fil} (h : g ∈ L.drop i) : ∃ k, i ≤ k ∧ k < L.length ∧ nthF L k = g := by
  obtain ⟨k, hk, e⟩ := List.getElem_of_mem h
  rw [List.length_drop] at hk
  exact ⟨i + k, by omega, by omega, by rw [nthF_at L (i + k) (by omega), ← e, List.getElem_drop]⟩
theorem Srt.mono {L : List Fil} (h : Srt L) (nm : ByteArray) : ∀ j k, j < k → k < L.length → Op.bytesLess (nthF L k).s.toList nm.toList = true → Op.bytesLess (nthF L j).s.toList nm.toList = true :=
  fun j k hjk hk hl => less_trans _ _ _ (h j k hjk hk) hl
theorem toList_inj {a b : ByteArray} (h : a.toList = b.toList) : a = b := by
  have := eqS a b
  rw [h] at this
  simpa using this
theorem lo_before {L : List Fil} {nm : ByteArray} {i : Nat} (h : LoB (nthF L) L.length nm i) {g : Fil} (hg : g ∈ L.take i) : g.s ≠ nm ∧ Op.bytesLess nm.toList g.s.toList = false := by
  obtain ⟨k, hk, _, rfl⟩ := mem_take hg
  have := h.2.1 k hk
  exact ⟨fun e => (by rw [e, less_irr] at this; cases this), less_asym _ _ this⟩
theorem lo_behind {L : List Fil} {nm : ByteArray} {i : Nat} (h : LoB (nthF L) L.length nm i) (hs : Srt L) {g : Fil} (hg : g ∈ L.drop (i + 1)) : g.s ≠ nm ∧ Op.bytesLess nm.toList g.s.toList = true := by
  obtain ⟨k, hk, hkl, rfl⟩ := mem_drop hg
  have h1 := h.2.2 i (Nat.le_refl _) (by omega)
  have h2 := hs i k (by omega) hkl
  have h3 : (nthF L k).s ≠ nm := fun e => by rw [e, h1] at h2; cases h2
  refine ⟨h3, ?_⟩
  rcases h4 : Op.bytesLess nm.toList (nthF L k).s.toList
  · exact absurd (toList_inj (less_total _ _ (h.2.2 k (by omega) hkl) h4)) h3
  · rfl
theorem lo_at {L : List Fil} {nm : ByteArray} {i : Nat} (h : LoB (nthF L) L.length nm i) (hn : hitB (nthF L) L.length nm i = false) (hs : Srt L) {g : Fil} (hg : g ∈ L.drop i) : g.s ≠ nm ∧ Op.bytesLess nm.toList g.s.toList = true := by
  obtain ⟨k, hk, hkl, rfl⟩ := mem_drop hg
  have h3 : (nthF L k).s ≠ nm := fun e => by
    rcases Nat.lt_or_ge i k with h4 | h4
    · have h1 := h.2.2 i (Nat.le_refl _) (by omega)
      have h2 := hs i k h4 hkl
      rw [e, h1] at h2; cases h2
    · obtain rfl : k = i := by omega
      unfold hitB at hn
      simp [hkl, e] at hn
  refine ⟨h3, ?_⟩
  rcases h4 : Op.bytesLess nm.toList (nthF L k).s.toList
  · exact absurd (toList_inj (less_total _ _ (h.2.2 k hk hkl) h4)) h3
  · rfl
theorem hit_at {L : List Fil} {nm : ByteArray} {i : Nat} (h : hitB (nthF L) L.length nm i = true) : i < L.length ∧ (nthF L i).s = nm := by
  unfold hitB at h
  simpa using h
theorem fd_hit {L : List Fil} {nm : ByteArray} {i : Nat} (h : LoB (nthF L) L.length nm i) (hh : hitB (nthF L) L.length nm i = true) : FdAt L nm (i : Int) := by
  obtain ⟨h1, h2⟩ := hit_at hh
  refine Or.inr ⟨i, h1, rfl, h2, fun j hj e => ?_⟩
  have := h.2.1 j hj
  rw [e, less_irr] at this; cases this
theorem fd_miss {L : List Fil} {nm : ByteArray} {i : Nat} (h : LoB (nthF L) L.length nm i) (hh : hitB (nthF L) L.length nm i = false) (hs : Srt L) : FdAt L nm (-1) := by
  refine Or.inl ⟨rfl, fun k hk e => ?_⟩
  rcases Nat.lt_or_ge k i with h1 | h1
  · have := h.2.1 k h1
    rw [e, less_irr] at this; cases this
  · exact (lo_at h hh hs (List.mem_drop_iff_getElem.2 ⟨k - i, by omega, rfl⟩)).1 (by rw [← e, nthF_at L k hk]; congr 1; congr 1; omega)
theorem wth_ins {L : List Fil} {nm : ByteArray} {i : Nat} (h : LoB (nthF L) L.length nm i) (hh : hitB (nthF L) L.length nm i = false) (hs : Srt L) (f : Fil) (hf : f.s = nm) (e : ByteArray) (hne : ∀ g ∈ L, g.s ≠ e) : wth e f L false = L.take i ++ f :: L.drop i := by
  subst hf
  conv => lhs; rw [← List.take_append_drop i L]
  rw [wth_skip e f _ _ (fun g hg => ⟨hne g (List.mem_of_mem_take hg), (lo_before h hg).2⟩), wth_front e f _ (fun g hg => ⟨hne g (List.mem_of_mem_drop hg), (lo_at h hh hs hg).2⟩)]
theorem wth_set {L : List Fil} {nm : ByteArray} {i : Nat} (h : LoB (nthF L) L.length nm i) (hh : hitB (nthF L) L.length nm i = true) (hs : Srt L) (f : Fil) (hf : f.s = nm) : wth nm f L false = L.set i f := by
  subst hf
  obtain ⟨h1, h2⟩ := hit_at hh
  rw [List.set_eq_take_append_cons_drop, if_pos h1]
  conv => lhs; rw [← List.take_append_drop i L]
  rw [wth_skip f.s f _ _ (fun g hg => lo_before h hg), List.drop_eq_getElem_cons h1]
  rw [nthF_at L i h1] at h2
  rw [wth, h2, less_irr]
  simp [wth_front f.s f _ (fun g hg => lo_behind h hs hg)]
theorem wth_del {L : List Fil} {nm : ByteArray} {i : Nat} (h : LoB (nthF L) L.length nm i) (hh : hitB (nthF L) L.length nm i = true) (hs : Srt L) (f : Fil) : wth nm f L true = L.eraseIdx i := by
  obtain ⟨h1, h2⟩ := hit_at hh
  rw [List.eraseIdx_eq_take_drop_succ]
  conv => lhs; rw [← List.take_append_drop i L]
  rw [wth_skip1 nm f _ _ (fun g hg => (lo_before h hg).1), List.drop_eq_getElem_cons h1]
  rw [nthF_at L i h1] at h2
  simp [wth, h2, wth_tail nm f _ (fun g hg => (lo_behind h hs hg).1)]
/-- A disk at p with these files. -/
def Dk (w : World) (p B : Nat) (L : List Fil) (x1 x2 x3 x4 : Int) (x5 : Bool) : Prop := ∃ g cap, DkAt w p (.slice (some ⟨g, 0, none⟩) L.length cap) x1 x2 x3 x4 x5 ∧ OwnL w B (.slice (some ⟨g, 0, none⟩) L.length cap) L ∧ B ≤ p
theorem OwnL.in {w : World} {B g n cap : Nat} {L : List Fil} (h : OwnL w B (.slice (some ⟨g, 0, none⟩) n cap) L) : B ≤ g ∧ ∃ cur, w.heap[g]? = some (.cells cur 49 (0, 0)) := by
  rcases h.2 with ⟨e, _⟩ | ⟨g', cap', cur, e, hB, hg, _⟩
  · cases e
  · obtain ⟨rfl, _⟩ : g = g' ∧ _ := by simpa using e
    exact ⟨hB, cur, hg⟩
theorem OwnL.at_ {w w' : World} {B g n cap : Nat} {L : List Fil} (h : OwnL w B (.slice (some ⟨g, 0, none⟩) n cap) L) (hk : w'.heap[g]? = w.heap[g]?) : OwnL w' B (.slice (some ⟨g, 0, none⟩) n cap) L := by
  refine ⟨h.1, ?_⟩
  rcases h.2 with ⟨e, _⟩ | ⟨g', cap', cur, e, hB, hg, hr⟩
  · cases e
  · obtain ⟨rfl, rfl, rfl⟩ : g = g' ∧ n = L.length ∧ cap = cap' := by simpa using e
    exact Or.inr ⟨g, cap, cur, rfl, hB, hk.trans hg, hr⟩
theorem OwnL.later {w w' : World} {B g n cap : Nat} {L : List Fil} (h : OwnL w B (.slice (some ⟨g, 0, none⟩) n cap) L) (hb : Below w.heap.size w w') : OwnL w' B (.slice (some ⟨g, 0, none⟩) n cap) L := by
  obtain ⟨_, cur, hg⟩ := h.in
  exact h.at_ (hb.block g (Array.getElem?_eq_some_iff.1 hg).1)
theorem DkAt.apart {w : World} {p B g n cap : Nat} {v : Value} {L : List Fil} {x1 x2 x3 x4 : Int} {x5 : Bool} (h : DkAt w p v x1 x2 x3 x4 x5) (hO : OwnL w B (.slice (some ⟨g, 0, none⟩) n cap) L) : g ≠ p := by
  rintro rfl
  obtain ⟨_, cur, hg⟩ := hO.in
  unfold DkAt at h
  rw [h] at hg
  cases hg
theorem Dk.put {W : World} {p B g cap : Nat} {v : Value} {L : List Fil} {x1 x2 x3 x4 : Int} {x5 : Bool} (hd : DkAt W p v x1 x2 x3 x4 x5) (hO : OwnL W B (.slice (some ⟨g, 0, none⟩) L.length cap) L) (hB : B ≤ p) : Dk (W.setCell ⟨p, 4, none⟩ (.slice (some ⟨g, 0, none⟩) L.length cap)) p B L x1 x2 x3 x4 x5 := by
  refine ⟨g, cap, ?_, hO.at_ ?_, hB⟩
  · exact heap_setCell_same _ _ 4 _ _ _ hd
  · exact Below.heap_setCell W _ _ g (hd.apart hO)
def FRow (w : World) (g : Nat) : Prop := ∃ cur, w.heap[g]? = some (.cells cur 49 (0, 0))
theorem FRow.set {w : World} {g o : Nat} {v : Value} (h : FRow w g) : FRow (w.setCell ⟨g, o, none⟩ v) g := by
  obtain ⟨cur, h⟩ := h
  exact ⟨_, heap_setCell_same _ _ o _ _ _ h⟩
theorem OwnL.row {w : World} {B g n cap : Nat} {L : List Fil} (h : OwnL w B (.slice (some ⟨g, 0, none⟩) n cap) L) : FRow w g := by
  obtain ⟨_, cur, h⟩ := h.in
  exact ⟨cur, h⟩
/-- Blocks below B stay, and so do those behind it that are no row of files and not the disk. -/
structure BK (B p : Nat) (w w' : World) : Prop where
  b : Below B w w'
  k : ∀ q X t fr, q ≠ p → t ≠ 49 → w.heap[q]? = some (.cells X t fr) → w'.heap[q]? = some (.cells X t fr)
theorem BK.of {B p : Nat} {w w' : World} (hb : Below w.heap.size w w') (hB : B ≤ w.heap.size) : BK B p w w' := ⟨hb.mono hB, fun _ _ _ _ _ _ h => rowL h hb⟩
theorem BK.trans {B p : Nat} {a b c : World} (h : BK B p a b) (k : BK B p b c) : BK B p a c := ⟨h.b.trans k.b, fun q X t fr h1 h2 h3 => k.k q X t fr h1 h2 (h.k q X t fr h1 h2 h3)⟩
theorem BK.set {B p g : Nat} {w w' : World} (h : BK B p w w') (hB : B ≤ g) (hr : FRow w' g) (o : Nat) (v : Value) : BK B p w (w'.setCell ⟨g, o, none⟩ v) := ⟨h.b.setCell hB v, fun q X t fr h1 h2 h3 => rowO (h.k q X t fr h1 h2 h3) (by
  rintro rfl
  obtain ⟨cur, h4⟩ := hr
  rw [h.k q X t fr h1 h2 h3] at h4
  simp at h4
  exact h2 h4.2.1)⟩
theorem BK.setP {B p : Nat} {w w' : World} (h : BK B p w w') (hB : B ≤ p) (o : Nat) (v : Value) : BK B p w (w'.setCell ⟨p, o, none⟩ v) := ⟨h.b.setCell hB v, fun q X t fr h1 h2 h3 => rowO (h.k q X t fr h1 h2 h3) h1⟩
theorem BK.drew {B p : Nat} {w w' : World} (h : BK B p w w') : BK B p w w'.drew := ⟨h.b.drew, h.k⟩
theorem BK.grownP {B p : Nat} {w w' w'' : World} (h : BK B p w w') (hg : w'.grownBy w'' (some p)) (hB : B ≤ w'.heap.size) (hp : B ≤ p) : BK B p w w'' := ⟨Below.grown h.b hg hB (fun k e => by cases e; exact hp), fun q X t fr h1 h2 h3 => rowG (h.k q X t fr h1 h2 h3) hg (fun e => h1 (Option.some.inj e))⟩
theorem BK.grownG {B p g : Nat} {w w' w'' : World} (h : BK B p w w') (hg : w'.grownBy w'' (some g)) (hB : B ≤ w'.heap.size) (hgB : B ≤ g) (hr : FRow w' g) : BK B p w w'' := ⟨Below.grown h.b hg hB (fun k e => by cases e; exact hgB), fun q X t fr h1 h2 h3 => rowG (h.k q X t fr h1 h2 h3) hg (fun e => by
  obtain rfl := Option.some.inj e
  obtain ⟨cur, h4⟩ := hr
  rw [h.k q X t fr h1 h2 h3] at h4
  simp at h4
  exact h2 h4.2.1)⟩
set_option maxRecDepth 20000 in
set_option maxHeartbeats 4000000 in
theorem iCreate (p B : Nat) (L : List Fil) (x1 x2 x3 x4 : Int) (x5 : Bool) (nm dt : ByteArray) (sz r : Int) (w : World) (h : Dk w p B L x1 x2 x3 x4 x5) (hs : Srt L) (hne : ∀ g ∈ L, g.s ≠ ⟨#[]⟩) (hn : L.length ≤ 300) (hr : FdAt L nm r) :
    Calls Tryz.prog 75 #[.pointer (some ⟨p, 0, none⟩), .string nm] w fun e w' => e = .returned (.int .i64 (doS L x1 1 nm dt sz r).2) ∧ Dk w' p B (doS L x1 1 nm dt sz r).1 x1 x2 x3 x4 x5 ∧ BK B p w w' := by
  obtain ⟨g, cap, hd, hO, hB⟩ := h
  have hpw : p < w.heap.size := (Array.getElem?_eq_some_iff.1 hd).1
  obtain ⟨n, hLn⟩ : ∃ n, L.length = n := ⟨_, rfl⟩
  have hfl : FL w (some ⟨g, 0, none⟩) n (nthF L) := by rw [← hLn]; exact hO.f.fl
  have hmm := hs.mono nm
  rw [hLn] at hd hO hn hmm
  go_enter Tryz.func75, Tryz.ntmps75
  go_upto_region 2 with (go_at_call 55; refine (iPlace p _ n cap (nthF L) nm x1 x2 x3 x4 x5 _ hd hfl (by omega) hmm).mono ?_; rintro e w1 ⟨i, rfl, hlo, hb1⟩)
  have hd1 := hd.later hb1
  have hO1 := hO.later hb1
  have hpw1 := Nat.lt_of_lt_of_le hpw hb1.size
  have hbB : BK B p w w1 := BK.of hb1 (by omega)
  have hlo' : LoB (nthF L) L.length nm i := by rw [hLn]; exact hlo
  obtain ⟨hc0, hc1, hc2, hc3, hc4, hc5⟩ := hd1.box
  have hf4 : w1.frozen? ⟨p, 4, none⟩ = false := frozen_of_row _ _ 4 _ _ hd1
  rcases hh : hitB (nthF L) n nm i
  · have hh' : hitB (nthF L) L.length nm i = false := by rw [hLn]; exact hh
    obtain rfl : r = -1 := fd_same hr (fd_miss hlo' hh' hs)
    by_cases h3 : n = 300
    · have hD : Hid (doS L x1 1 nm dt sz (-1) = (L, 13)) := by show _ = _; unfold doS; rw [if_pos rfl, if_neg (by omega), if_pos (by omega)]
      have h3' : ((n : Int) == 300) = true := by simp [h3]
      clear h3
      go_wp2
      go_ret
      rw [hD.out]
      exact ⟨rfl, ⟨g, cap, by rw [hLn]; exact hd1, by rw [hLn]; exact hO1, hB⟩, hbB⟩
    · have hD : Hid (doS L x1 1 nm dt sz (-1) = (L.take i ++ (⟨nm, ⟨#[]⟩, 0⟩ : Fil) :: L.drop i, 0)) := by
        show _ = _; unfold doS; rw [if_pos rfl, if_neg (by omega), if_neg (by omega), wth_ins hlo' hh' hs ⟨nm, ⟨#[]⟩, 0⟩ rfl ⟨#[]⟩ hne]
      have h3' : ((n : Int) == 300) = false := by simp; omega
      have hba := bal w1 (.cells #[.string nm, .string ⟨#[]⟩, .int .i64 0] 49)
      have hins := iInsert L ⟨nm, ⟨#[]⟩, 0⟩ i g cap B w1.heap.size (w1.alloc (.cells #[.string nm, .string ⟨#[]⟩, .int .i64 0] 49)) (by have := hlo.1; omega) (by rw [hLn]; exact hO1.later hba) (heap_alloc_new w1 _) (by obtain ⟨_, cur, hg⟩ := hO1.in; have := (Array.getElem?_eq_some_iff.1 hg).1; omega) (by have := hba.size; omega) (by omega)
      rw [hLn] at hins
      have hlen : (L.take i ++ (⟨nm, ⟨#[]⟩, 0⟩ : Fil) :: L.drop i).length = n + 1 := by have := hlo.1; simp; omega
      have hgp : some p ≠ some g := fun e => hd1.apart hO1 (Option.some.inj e).symm
      have hd1' := hd1.later hba
      have hBg := hO1.in.1
      clear h3
      go_wp2_with (go_at_call 87; refine hins.mono ?_; rintro e w2 ⟨g', cap', rfl, hO2, hgr2⟩; have hd2 : DkAt w2 p _ x1 x2 x3 x4 x5 := rowG hd1' hgr2 hgp; have hc4' : w2.cell? ⟨p, 4, none⟩ = some _ := hd2.box.c4; have hf4' : w2.frozen? ⟨p, 4, none⟩ = false := frozen_of_row _ _ 4 _ _ hd2)
      go_ret
      rw [hD.out]
      refine ⟨rfl, ?_, ?_⟩
      · rw [← hlen] at hO2 ⊢
        exact Dk.put hd2 hO2 hB
      · exact ((hbB.trans (BK.of hba (by omega))).grownG hgr2 (by have := hba.size; omega) hBg (hO1.later hba).row).setP hB _ _
  · have hh' : hitB (nthF L) L.length nm i = true := by rw [hLn]; exact hh
    obtain rfl : r = (i : Int) := fd_same hr (fd_hit hlo' hh')
    have hD : Hid (doS L x1 1 nm dt sz (i : Int) = (L, 15)) := by show _ = _; unfold doS; rw [if_pos rfl, if_pos (by omega)]
    go_wp2
    go_ret
    rw [hD.out]
    exact ⟨rfl, ⟨g, cap, by rw [hLn]; exact hd1, by rw [hLn]; exact hO1, hB⟩, hbB⟩
theorem tk_or (L : List Fil) (x1 x2 x3 x4 : Int) (x5 : Bool) (kd : Int) (nm dt : ByteArray) (sz r : Int) (h0 : 0 ≤ x2) :
    (∃ c d cd, tk x2 x3 x4 x5 = (c, d, cd) ∧ cd ≠ 0 ∧ stS L x1 x2 x3 x4 x5 kd nm dt sz r = (L, c, d, cd)) ∨ (tk x2 x3 x4 x5 = (x2 + 1, x5, 0) ∧ stS L x1 x2 x3 x4 x5 kd nm dt sz r = ((doS L x1 kd nm dt sz r).1, x2 + 1, x5, (doS L x1 kd nm dt sz r).2)) := by
  unfold tk stS
  by_cases h1 : x5 = true
  · rw [if_pos h1, if_pos h1]; exact Or.inl ⟨_, _, _, rfl, by omega, rfl⟩
  rw [if_neg h1, if_neg h1]
  by_cases h2 : x2 = 1000000000000000
  · rw [if_pos h2, if_pos h2]; exact Or.inl ⟨_, _, _, rfl, by omega, rfl⟩
  rw [if_neg h2, if_neg h2]
  by_cases h3 : x2 + 1 = x3
  · rw [if_pos h3, if_pos ⟨by omega, h3⟩]; exact Or.inl ⟨_, _, _, rfl, by omega, rfl⟩
  rw [if_neg h3, if_neg (show ¬ (x3 ≠ 0 ∧ x2 + 1 = x3) from fun h => h3 h.2)]
  by_cases h4 : x2 + 1 = x4
  · rw [if_pos h4, if_pos ⟨by omega, h4⟩]; exact Or.inl ⟨_, _, _, rfl, by omega, rfl⟩
  rw [if_neg h4, if_neg (show ¬ (x4 ≠ 0 ∧ x2 + 1 = x4) from fun h => h4 h.2)]
  exact Or.inr ⟨rfl, rfl⟩
theorem cells_setd (L : List Fil) (i : Nat) (h : i < L.length) (d : ByteArray) : ((L.map cellsF).flatten).set (i * 3 + 1) (.string d) = ((L.set i ⟨(nthF L i).s, d, (nthF L i).y⟩).map cellsF).flatten := by
  induction L generalizing i with
  | nil => simp at h
  | cons g L ih =>
    cases i with
    | zero => simp [cellsF, nthF]
    | succ i =>
      have := ih i (by simpa using h)
      rw [show (i + 1) * 3 + 1 = (i * 3 + 1) + 3 by omega]
      simp [cellsF, nthF] at this ⊢
      exact this
theorem cells_sety (L : List Fil) (i : Nat) (h : i < L.length) (y : Int) : ((L.map cellsF).flatten).set (i * 3 + 2) (.int .i64 y) = ((L.set i ⟨(nthF L i).s, (nthF L i).d, y⟩).map cellsF).flatten := by
  induction L generalizing i with
  | nil => simp at h
  | cons g L ih =>
    cases i with
    | zero => simp [cellsF, nthF]
    | succ i =>
      have := ih i (by simpa using h)
      rw [show (i + 1) * 3 + 2 = (i * 3 + 2) + 3 by omega]
      simp [cellsF, nthF] at this ⊢
      exact this
theorem OwnL.set_ {w : World} {B g cap o : Nat} {v : Value} {L M : List Fil} (h : OwnL w B (.slice (some ⟨g, 0, none⟩) L.length cap) L) (hM : M.length = L.length) (he : ((L.map cellsF).flatten).set o v = (M.map cellsF).flatten) : OwnL (w.setCell ⟨g, o, none⟩ v) B (.slice (some ⟨g, 0, none⟩) L.length cap) M := by
  rcases h.2 with ⟨e, _⟩ | ⟨g', cap', cur, e, hB, hg, h1, h2, h3, h4⟩
  · cases e
  · obtain ⟨rfl, rfl⟩ : g = g' ∧ cap = cap' := by simpa using e
    refine ⟨cells_len _, Or.inr ⟨g, cap, _, by rw [hM], hB, heap_setCell_same _ _ o _ _ _ hg, by omega, h2, by simpa using h3, ?_⟩⟩
    rw [hM, Array.toList_setIfInBounds, List.take_set, h4, he]
theorem OwnL.setd {w : World} {B g cap i : Nat} {L : List Fil} (h : OwnL w B (.slice (some ⟨g, 0, none⟩) L.length cap) L) (hi : i < L.length) (d : ByteArray) : OwnL (w.setCell ⟨g, i * 3 + 1, none⟩ (.string d)) B (.slice (some ⟨g, 0, none⟩) L.length cap) (L.set i ⟨(nthF L i).s, d, (nthF L i).y⟩) :=
  h.set_ (by simp) (cells_setd L i hi d)
theorem OwnL.sety {w : World} {B g cap i : Nat} {L : List Fil} (h : OwnL w B (.slice (some ⟨g, 0, none⟩) L.length cap) L) (hi : i < L.length) (y : Int) : OwnL (w.setCell ⟨g, i * 3 + 2, none⟩ (.int .i64 y)) B (.slice (some ⟨g, 0, none⟩) L.length cap) (L.set i ⟨(nthF L i).s, (nthF L i).d, y⟩) :=
  h.set_ (by simp) (cells_sety L i hi y)
theorem OwnL.fz {w : World} {B g n cap o : Nat} {L : List Fil} (h : OwnL w B (.slice (some ⟨g, 0, none⟩) n cap) L) : w.frozen? ⟨g, o, none⟩ = false := by
  obtain ⟨_, cur, hg⟩ := h.in
  exact frozen_of_row _ _ o _ _ hg
/-- What a step leaves. -/
def StI (w w' : World) (p B : Nat) (x1 x3 x4 : Int) (S : List Fil × Int × Bool × Int) (e : Ending) : Prop := e = .returned (.int .i64 S.2.2.2) ∧ Dk w' p B S.1 x1 S.2.1 x3 x4 S.2.2.1 ∧ BK B p w w'
set_option maxRecDepth 20000 in
set_option maxHeartbeats 4000000 in
theorem iStep0 (p B : Nat) (L : List Fil) (x1 x2 x3 x4 : Int) (x5 : Bool) (kd : Int) (nm dt : ByteArray) (sz r c : Int) (d : Bool) (cd : Int) (w : World) (h : Dk w p B L x1 x2 x3 x4 x5) (hx0 : 0 ≤ x2) (hx1 : x2 ≤ 1000000000000000) (ht : tk x2 x3 x4 x5 = (c, d, cd)) (hcd : cd ≠ 0) (hst : stS L x1 x2 x3 x4 x5 kd nm dt sz r = (L, c, d, cd)) :
    Calls Tryz.prog 59 #[.pointer (some ⟨p, 0, none⟩), .agg #[.int .i64 kd, .string nm, .string dt, .int .i64 sz]] w fun e w' => StI w w' p B x1 x3 x4 (stS L x1 x2 x3 x4 x5 kd nm dt sz r) e := by
  obtain ⟨g, cap, hd, hO, hB⟩ := h
  have HT : Hid (tk x2 x3 x4 x5 = (c, d, cd)) := ht
  have HS : Hid (stS L x1 x2 x3 x4 x5 kd nm dt sz r = (L, c, d, cd)) := hst
  clear ht hst
  have hba := bal w (.cells #[.int .i64 kd, .string nm, .string dt, .int .i64 sz] 53)
  have hda := hd.later hba
  have hOa := hO.later hba
  have hpw : p < w.heap.size := (Array.getElem?_eq_some_iff.1 hd).1
  have hgp : some g ≠ some p := fun e => hd.apart hO (Option.some.inj e)
  have hcd' : (cd == 0) = false := by simp [hcd]
  clear hcd
  go_enter Tryz.func59, Tryz.ntmps59
  go_wp2_with (go_at_call 74; refine (iTick p _ x1 x2 x3 x4 x5 _ hda hx0 hx1).mono ?_; rw [HT.out]; rintro e w1 ⟨rfl, hd1, hg1⟩)
  go_ret
  rw [HS.out]
  obtain ⟨_, cur, hgb⟩ := hOa.in
  exact ⟨rfl, ⟨g, cap, hd1, hOa.at_ (hg1.block g (Array.getElem?_eq_some_iff.1 hgb).1 hgp), hB⟩, (BK.of hba (by omega)).grownP hg1 (by have := hba.size; omega) hB⟩
end Go.Proofs.YtngppfjphbodcaaGreatDoor
