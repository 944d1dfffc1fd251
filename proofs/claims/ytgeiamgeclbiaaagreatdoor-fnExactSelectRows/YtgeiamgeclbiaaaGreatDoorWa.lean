/-
  The law's marks: texts.
-/
import Derived.Test.YtgeiamgeclbiaaaGreatDoorVl
import Derived.RegionCalls
namespace Go.Proofs.YtgeiamgeclbiaaaGreatDoor
open Go.RowKit Go.Maps Go.WideMaps
theorem okTd_good {d : Td} (h : okTd d = true) : ∀ k, k < d.r → goodR d.n d.C (d.R k) := fun k hk j hj => by
  obtain ⟨-, -, -, -, h5, h6⟩ := okTd_out h
  have h1 := h6 k hk
  have h2 := (okTd_nice h).txt k hk j hj
  unfold okRowAt at h1
  simp only [Bool.and_eq_true, decide_eq_true_eq] at h1
  have h3 := allN_at h1.1.2 (j := j) (by omega)
  have h4 := allN_at h5 hj
  simp only [rightB, Bool.and_eq_true, beq_iff_eq] at h3
  simp only [okColAt, Bool.and_eq_true] at h4
  have h7 := h4.1.2
  simp only [isTyp, Bool.or_eq_true, beq_iff_eq] at h7
  refine ⟨h2, ?_, h3.1⟩
  unfold goodV
  rcases h7 with e | e
  · left
    rw [e] at h3
    simp only [if_true, decide_eq_true_eq] at h3
    exact ⟨h3.1, by
      have := h3.2
      rcases hs : (d.R k j).s with ⟨⟨L⟩⟩
      rw [hs] at this
      cases L
      · rfl
      · simp [ByteArray.size] at this⟩
  · right
    rw [e] at h3
    simp at h3
    exact ⟨h3.1, h3.2.1⟩
theorem sel_ce {n : Nat} {T : Nat → Td} {D : St} (hk : D.k = 5) (h1 : okDb n T = true) (h2 : okStm D = true) : (¬ (ceA n T D).2 = 0 → selA n T D = ([], (ceA n T D).2)) ∧ ((ceA n T D).2 = 0 → ∃ j, j < n ∧ tabI T D.tb n = some j ∧ (ceA n T D).1 = (j : Int) ∧ selA n T D = selC (T j).C (T j).n (T j).R D.W D.n6 D.m7 D.O D.n7 (T j).r ∧ soC (T j).C (T j).n D.m7 D.O D.n7 = 0 ∧ cwR (T j).C (T j).n D.W D.n6 = 0) := by
  have hap : (apA n T D).2 = (ceA n T D).2 := by
    unfold apA ceA
    rw [h1, h2, if_neg (by simp), if_neg (by simp), if_neg (by omega)]
    rcases tabI T D.tb n with _ | j
    · rfl
    · simp only
      rw [if_neg (by omega), if_neg (by omega), if_neg (by omega)]
  refine ⟨fun h => ?_, fun h => ?_⟩
  · unfold selA
    rw [if_neg (by simpa using hk), hap, if_pos h]
  · obtain ⟨j, e1, e2, -, -, e3, e4⟩ := sel_ok hk (hap.trans h)
    refine ⟨j, e2, e1, by unfold ceA; rw [e1], ?_, e3, e4⟩
    unfold selA selC
    rw [if_neg (by simpa using hk), hap, if_neg (by simpa using h), e1]
theorem sel_7 {n : Nat} {T : Nat → Td} {D : St} (h : ¬ D.k = 5 ∨ okDb n T = false ∨ okStm D = false) : selA n T D = ([], 7) := by
  unfold selA
  by_cases hk : D.k = 5
  · have : (apA n T D).2 = 7 := by
      unfold apA
      by_cases h1 : okDb n T = false
      · rw [if_pos h1]
      · rw [if_neg h1, if_pos (by rcases h with h | h | h; exact absurd hk h; exact absurd h h1; exact h)]
    rw [if_neg (by simpa using hk), this, if_pos (by omega)]
  · rw [if_pos hk]
set_option maxRecDepth 20000 in
set_option maxHeartbeats 16000000 in
theorem iSelect (a : Option Addr) (n c : Nat) (T : Nat → Td) (k0 : Int) (tb : ByteArray) (a2 : Option Addr) (n2 c2 : Nat) (a3 : Option Addr) (n3 c3 : Nat) (col : ByteArray) (a5 : Option Addr) (n5 c5 : Nat) (a6 : Option Addr) (n6 c6 : Nat) (a7 : Option Addr) (n7 c7 : Nat) (C : Nat → Clm) (V E W : Nat → Itm) (m7 : Nat → Nat) (O : Nat → Nat → Itm) (D : St) (hD : (⟨k0, tb, n2, C, n3, V, col, n5, E, n6, W, n7, m7, O⟩ : St) = D) (w : World) (hSp : SpT w) (hT : TL w a n T) (hS : SM w ⟨k0, tb, n2, C, n3, V, col, n5, E, n6, W, n7, m7, O⟩ ⟨a2, c2, a3, c3, a5, c5, a6, c6, a7, c7⟩) (hn : n ≤ 1048576) :
    Calls Tryz.prog 10 #[.agg #[.slice a n c], .agg #[.int .i64 k0, .string tb, .slice a2 n2 c2, .slice a3 n3 c3, .string col, .slice a5 n5 c5, .slice a6 n6 c6, .slice a7 n7 c7]] w (RApt w (selA n T D).1 (selA n T D).2) := by
  by_cases hk : k0 = 5
  rotate_left
  · have HA : Hid (selA n T D = ([], 7)) := sel_7 (Or.inl (by rw [← hD]; exact hk))
    have n5_ : (k0 != 5) = true := by simpa using hk
    have hbU : Below w.heap.size w ((w.alloc (.cells #[.slice a n c] 38)).alloc (.cells #[.int .i64 k0, .string tb, .slice a2 n2 c2, .slice a3 n3 c3, .string col, .slice a5 n5 c5, .slice a6 n6 c6, .slice a7 n7 c7] 45)) := bstep (bal _ _) (bal _ _)
    clear hk
    go_enter Tryz.func10, Tryz.ntmps10
    go_wp2
    refine bodyPost_ret (results_tmp2 rfl _ _ _) rfl ?_
    rw [HA.out]
    exact ⟨_, _, rfl, fun k hk => absurd hk (Nat.not_lt_zero k), Or.inl rfl, bstep hbU (bal _ _)⟩
  subst hk
  have hbU : Below w.heap.size w ((w.alloc (.cells #[.slice a n c] 38)).alloc (.cells #[.int .i64 5, .string tb, .slice a2 n2 c2, .slice a3 n3 c3, .string col, .slice a5 n5 c5, .slice a6 n6 c6, .slice a7 n7 c7] 45)) := bstep (bal _ _) (bal _ _)
  have hq0 : ((w.alloc (.cells #[.slice a n c] 38)).alloc (.cells #[.int .i64 5, .string tb, .slice a2 n2 c2, .slice a3 n3 c3, .string col, .slice a5 n5 c5, .slice a6 n6 c6, .slice a7 n7 c7] 45)).heap[w.heap.size]? = some (.cells #[.slice a n c] 38 (0, 0)) := rowL (heap_alloc_new w _) (bal _ _)
  have hq1 : ((w.alloc (.cells #[.slice a n c] 38)).alloc (.cells #[.int .i64 5, .string tb, .slice a2 n2 c2, .slice a3 n3 c3, .string col, .slice a5 n5 c5, .slice a6 n6 c6, .slice a7 n7 c7] 45)).heap[w.heap.size + 1]? = some (.cells #[.int .i64 5, .string tb, .slice a2 n2 c2, .slice a3 n3 c3, .string col, .slice a5 n5 c5, .slice a6 n6 c6, .slice a7 n7 c7] 45 (0, 0)) := by
    have q := heap_alloc_new (w.alloc (.cells #[.slice a n c] 38)) (.cells #[.int .i64 5, .string tb, .slice a2 n2 c2, .slice a3 n3 c3, .string col, .slice a5 n5 c5, .slice a6 n6 c6, .slice a7 n7 c7] 45)
    rw [World.size_alloc] at q
    exact q
  obtain ⟨p0, -⟩ := box1 hq0
  obtain ⟨b0_, b1_, b2_, b3_, b4_, b5_, b6_, b7_⟩ := box8 hq1
  have HDB := iDb a n c T _ (hSp.later hbU) (hT.later hbU) hn
  rcases hdb : okDb n T with _ | _
  · have HA : Hid (selA n T D = ([], 7)) := sel_7 (Or.inr (Or.inl hdb))
    rw [hdb] at HDB
    clear hdb
    go_enter Tryz.func10, Tryz.ntmps10
    go_wp2_with (go_at_call 34; refine HDB.mono ?_; rintro e w1 ⟨rfl, hb1⟩)
    refine bodyPost_ret (results_tmp2 rfl _ _ _) rfl ?_
    rw [HA.out]
    exact ⟨_, _, rfl, fun k hk => absurd hk (Nat.not_lt_zero k), Or.inl rfl, bstep hbU (bstep hb1 (bal _ _))⟩
  rw [hdb] at HDB
  have HDBK : Hid (okDb n T = true) := hdb
  clear hdb
  have HST : Hid (∀ W', Below w.heap.size w W' → Calls Tryz.prog 35 #[.agg #[.int .i64 5, .string tb, .slice a2 n2 c2, .slice a3 n3 c3, .string col, .slice a5 n5 c5, .slice a6 n6 c6, .slice a7 n7 c7]] W' fun e w' => e = .returned (.bool (okStm D)) ∧ Below W'.heap.size W' w') := fun W' h => iStm5 tb n2 C n3 V col n5 E n6 W n7 m7 O a2 c2 a3 c3 a5 c5 a6 c6 a7 c7 D hD W' (hS.later h) (hSp.later h)
  rcases hst : okStm D with _ | _
  · have HA : Hid (selA n T D = ([], 7)) := sel_7 (Or.inr (Or.inr hst))
    have HST2 : Hid (∀ W', Below w.heap.size w W' → Calls Tryz.prog 35 #[.agg #[.int .i64 5, .string tb, .slice a2 n2 c2, .slice a3 n3 c3, .string col, .slice a5 n5 c5, .slice a6 n6 c6, .slice a7 n7 c7]] W' fun e w' => e = .returned (.bool false) ∧ Below W'.heap.size W' w') := by rw [← hst]; exact HST
    clear hst HST
    go_enter Tryz.func10, Tryz.ntmps10
    go_wp2_with (first | (go_at_call 35; refine (HST2.out _ (bstep hbU hb1)).mono ?_; rintro e w2 ⟨rfl, hb2⟩) | (go_at_call 34; refine HDB.mono ?_; rintro e w1 ⟨rfl, hb1⟩; obtain ⟨b0, b1, b2, b3, b4, b5, b6, b7⟩ := box8 (rowL hq1 hb1)))
    refine bodyPost_ret (results_tmp2 rfl _ _ _) rfl ?_
    rw [HA.out]
    exact ⟨_, _, rfl, fun k hk => absurd hk (Nat.not_lt_zero k), Or.inl rfl, bstep hbU (bstep hb1 (bstep hb2 (bal _ _)))⟩
  have HST2 : Hid (∀ W', Below w.heap.size w W' → Calls Tryz.prog 35 #[.agg #[.int .i64 5, .string tb, .slice a2 n2 c2, .slice a3 n3 c3, .string col, .slice a5 n5 c5, .slice a6 n6 c6, .slice a7 n7 c7]] W' fun e w' => e = .returned (.bool true) ∧ Below W'.heap.size W' w') := by rw [← hst]; exact HST
  have HSTK : Hid (okStm D = true) := hst
  clear HST hst
  obtain ⟨hA1, hA2⟩ := sel_ce (D := D) (by rw [← hD]) HDBK.out HSTK.out
  have HCE : Hid (∀ W', Below w.heap.size w W' → Calls Tryz.prog 36 #[.agg #[.slice a n c], .agg #[.int .i64 5, .string tb, .slice a2 n2 c2, .slice a3 n3 c3, .string col, .slice a5 n5 c5, .slice a6 n6 c6, .slice a7 n7 c7]] W' fun e w' => e = .returned (.tuple #[.int .i64 (ceA n T D).1, .int .i64 (ceA n T D).2]) ∧ Below W'.heap.size W' w') := fun W' h => by
    have := iChecked5 a n c T tb a2 n2 c2 a3 n3 c3 col a5 n5 c5 a6 n6 c6 a7 n7 c7 C V E W m7 O W' (hT.later h) (hS.later h) hn HDBK.out (by rw [hD]; exact HSTK.out)
    rw [hD] at this
    exact this
  obtain ⟨x, y, hxy⟩ : ∃ x y, ceA n T D = (x, y) := ⟨_, _, rfl⟩
  rw [hxy] at hA1 hA2 HCE
  simp only at hA1 hA2 HCE
  clear hxy
  by_cases hy : y = 0
  rotate_left
  · have HA : Hid (selA n T D = ([], y)) := hA1 hy
    have ny : (y != 0) = true := by simpa using hy
    clear hA1 hA2 hy
    go_enter Tryz.func10, Tryz.ntmps10
    go_wp2_with (first | (go_at_call 36; refine (HCE.out _ (bstep hbU (bstep hb1 hb2))).mono ?_; rintro e w3 ⟨rfl, hb3⟩) | (go_at_call 35; refine (HST2.out _ (bstep hbU hb1)).mono ?_; rintro e w2 ⟨rfl, hb2⟩; obtain ⟨d0_, -⟩ := box1 (rowL (rowL hq0 hb1) hb2); obtain ⟨e0, e1, e2, e3, e4, e5, e6, e7⟩ := box8 (rowL (rowL hq1 hb1) hb2)) | (go_at_call 34; refine HDB.mono ?_; rintro e w1 ⟨rfl, hb1⟩; obtain ⟨b0, b1, b2, b3, b4, b5, b6, b7⟩ := box8 (rowL hq1 hb1)))
    refine bodyPost_ret (results_tmp2 rfl _ _ _) rfl ?_
    rw [HA.out]
    exact ⟨_, _, rfl, fun k hk => absurd hk (Nat.not_lt_zero k), Or.inl rfl, bstep hbU (bstep hb1 (bstep hb2 (bstep hb3 (bal _ _))))⟩
  subst hy
  obtain ⟨j, hj, -, rfl, hA, hso, hcw⟩ := hA2 rfl
  clear hA1
  have hokj := (okDb_out HDBK.out).2 j hj
  have hdj := okTd_dif hokj
  have hNj := okTd_nice hokj
  have hGj := okTd_good hokj
  obtain ⟨-, -, h7c, h7d⟩ := rest5 HSTK.out (by rw [← hD])
  obtain ⟨ds, dn, dC, dr, dm, dR, hTj⟩ : ∃ ds dn dC dr dm dR, T j = ⟨ds, dn, dC, dr, dm, dR⟩ := ⟨_, _, _, _, _, _, rfl⟩
  have HTJ : Hid (T j = ⟨ds, dn, dC, dr, dm, dR⟩) := hTj
  rw [hTj] at hdj hNj hGj hA hso hcw
  rw [← hD] at h7c h7d hA hso hcw
  simp only at hdj hNj hGj hA hso hcw h7c h7d
  rw [hD] at hA
  have HA : Hid (selA n T D = selC dC dn dR W n6 m7 O n7 dr) := hA
  have HDJ : Hid (∀ k, k < dn → hasCol dC (dC k).s k = false) := hdj
  have HWH : Hid (okWhere W n6 = true ∧ cwR dC dn W n6 = 0) := ⟨h7d, hcw⟩
  have HEX : Hid (∀ i, i < n7 → okExp (O i) (m7 i) = true ∧ (ck dC dn (O i) (m7 i)).2 = 0) := fun i hi => ⟨h7c i hi, ckR_ok (soC_at hso i hi)⟩
  have HN : Hid (Nice dn dr dm dR) := hNj
  have HG : Hid (∀ k, k < dr → goodR dn dC (dR k)) := hGj
  have hn1 := hNj.n1
  clear hTj hdj hNj hGj hA hso hcw h7c h7d hokj
  have hjn : (j : Int) < n := by omega
  have hj0 : (0 : Int) ≤ j := by omega
  obtain ⟨bt, offt, ac, cc, ar, cr, rfl, e0, e1, e2, hC, hR, -⟩ := hT j hj
  rw [HTJ.out] at e0 e1 e2 hC hR
  simp only at e0 e1 e2 hC hR
  go_enter Tryz.func10, Tryz.ntmps10
  go_upto_region 7 with (first | (go_at_call 36; refine (HCE.out _ (bstep hbU (bstep hb1 hb2'))).mono ?_; rintro e w2 ⟨rfl, hb2⟩; have t0 := keepB (bstep hbU (bstep hb1 (bstep hb2' hb2))) e0; have t1 := keepB (bstep hbU (bstep hb1 (bstep hb2' hb2))) e1; have t2 := keepB (bstep hbU (bstep hb1 (bstep hb2' hb2))) e2; obtain ⟨g0_, -⟩ := box1 (rowL (rowL (rowL hq0 hb1) hb2') hb2)) | (go_at_call 35; refine (HST2.out _ (bstep hbU hb1)).mono ?_; rintro e w2' ⟨rfl, hb2'⟩; obtain ⟨d0_, -⟩ := box1 (rowL (rowL hq0 hb1) hb2'); obtain ⟨f0, f1, f2, f3, f4, f5, f6, f7⟩ := box8 (rowL (rowL hq1 hb1) hb2')) | (go_at_call 34; refine HDB.mono ?_; rintro e w1 ⟨rfl, hb1⟩; obtain ⟨b0, b1, b2, b3, b4, b5, b6, b7⟩ := box8 (rowL hq1 hb1)))
  have hqT : (w2.alloc (.cells #[.string ds, .slice ac dn cc, .slice ar dr cr] 62)).heap[w2.heap.size]? = some (.cells #[.string ds, .slice ac dn cc, .slice ar dr cr] 62 (0, 0)) := heap_alloc_new w2 _
  have hbT : Below w2.heap.size w2 (w2.alloc (.cells #[.string ds, .slice ac dn cc, .slice ar dr cr] 62)) := bal w2 _
  have hb3 := bstep hbU (bstep hb1 (bstep hb2' (bstep hb2 hbT)))
  have r1 := rowL (rowL (rowL (rowL hq1 hb1) hb2') hb2) hbT
  generalize (w2.alloc (.cells #[.string ds, .slice ac dn cc, .slice ar dr cr] 62)) = w3 at hqT hbT hb3 r1 ⊢
  have hC3 := hC.later hb3
  have hR3 := hR.later hb3
  have hs3 := hb3.size
  clear hbT
  refine wp_region_held_drew (S := fun x => Below w3.heap.size w3 x) (by kernel_rfl) (bdrV _) (fun hHeld => ?_)
  refine' takeF (i := 0) (oi := ({ dst := some 38, op := Op.fieldAddr 62 (Operand.tmp 8) 1, type := 0, pos := "l5_replay.go:70", after := #[], guard := none } : Oper)) rfl ⟨by rfl, fun x hSw => ?h1⟩ hHeld ?r1
  case h1 =>
    go_simp
    try with_reducible rfl
  try simp only [Act.put, List.setIfInBounds_toArray, List.set_cons_zero, List.set_cons_succ]
  refine' takeF (i := 1) (oi := ({ dst := some 39, op := Op.load 40 (Operand.tmp 38), type := 40, pos := "l5_replay.go:70", after := #[{ on := 0, ground := Ground.data }], guard := none } : Oper)) rfl ⟨by rfl, fun x hSw => ?h2⟩ hHeld ?r2
  case h2 =>
    obtain ⟨k0_, k1_, k2_, -⟩ := box3 (rowL hqT hSw); obtain ⟨j0_, j1_, j2_, j3_, j4_, j5_, j6_, j7_⟩ := box8 (rowL r1 hSw)
    go_simp
    try with_reducible rfl
  try simp only [Act.put, List.setIfInBounds_toArray, List.set_cons_zero, List.set_cons_succ]
  refine' takeF (i := 3) (oi := ({ dst := some 41, op := Op.fieldAddr 62 (Operand.tmp 8) 2, type := 0, pos := "l5_replay.go:70", after := #[], guard := none } : Oper)) rfl ⟨by rfl, fun x hSw => ?h3⟩ hHeld ?r3
  case h3 =>
    go_simp
    try with_reducible rfl
  try simp only [Act.put, List.setIfInBounds_toArray, List.set_cons_zero, List.set_cons_succ]
  refine' takeF (i := 4) (oi := ({ dst := some 42, op := Op.load 33 (Operand.tmp 41), type := 33, pos := "l5_replay.go:70", after := #[{ on := 3, ground := Ground.data }], guard := none } : Oper)) rfl ⟨by rfl, fun x hSw => ?h4⟩ hHeld ?r4
  case h4 =>
    obtain ⟨k0_, k1_, k2_, -⟩ := box3 (rowL hqT hSw); obtain ⟨j0_, j1_, j2_, j3_, j4_, j5_, j6_, j7_⟩ := box8 (rowL r1 hSw)
    go_simp
    try with_reducible rfl
  try simp only [Act.put, List.setIfInBounds_toArray, List.set_cons_zero, List.set_cons_succ]
  refine' takeF (i := 5) (oi := ({ dst := some 43, op := Op.load 45 (Operand.tmp 3), type := 45, pos := "l5_replay.go:70", after := #[], guard := none } : Oper)) rfl ⟨by rfl, fun x hSw => ?h5⟩ hHeld ?r5
  case h5 =>
    obtain ⟨k0_, k1_, k2_, -⟩ := box3 (rowL hqT hSw); obtain ⟨j0_, j1_, j2_, j3_, j4_, j5_, j6_, j7_⟩ := box8 (rowL r1 hSw)
    go_simp
    try with_reducible rfl
  try simp only [Act.put, List.setIfInBounds_toArray, List.set_cons_zero, List.set_cons_succ]
  refine wpAnyH_ready (rs := [2]) (by kernel_rfl) (by simp) ?_
  refine AllReadyH.cons (o := ({ dst := some 40, op := Op.call { callee := Callee.value (Operand.func 37), args := #[Operand.tmp 39], argTypes := #[40] }, type := 79, pos := "l5_replay.go:70", after := #[{ on := 1, ground := Ground.data }], guard := none } : Oper)) rfl (fun K hK => ?_) AllReadyH.nil
  go_simp
  refine (iScope ac dn cc dC _ (hC3.later hHeld) hn1).mono ?_
  rintro e w4 ⟨rfl, hP4, hb4⟩; have hH4 := bstep hHeld hb4
  refine hK.out _ _ (hH4) (fun hHeld => ?_)
  clear hK K
  try simp only [Act.put, List.setIfInBounds_toArray, List.set_cons_zero, List.set_cons_succ]
  refine wpAnyH_ready (rs := [6]) (by kernel_rfl) (by simp) ?_
  refine AllReadyH.cons (o := ({ dst := some 44, op := Op.call { callee := Callee.value (Operand.func 38), args := #[Operand.tmp 40, Operand.tmp 42, Operand.tmp 43], argTypes := #[79, 33, 45] }, type := 34, pos := "l5_replay.go:70", after := #[{ on := 2, ground := Ground.data }, { on := 4, ground := Ground.data }, { on := 5, ground := Ground.data }, { on := 2, ground := Ground.chain }], guard := none } : Oper)) rfl (fun K hK => ?_) AllReadyH.nil
  go_simp
  refine (iChosen ac dn cc dC _ ar dr cr dm dR 5 tb a2 n2 c2 a3 n3 c3 col a5 n5 c5 a6 n6 c6 a7 n7 c7 W m7 O _ hP4 HDJ.out (hR3.later hHeld) (hS.wh.later (bstep hb3 hHeld)) (hS.ou.later (bstep hb3 hHeld)) HWH.out.1 HWH.out.2 HEX.out HN.out HG.out hS.l7).mono ?_
  rintro e w5 ⟨a5_, c5_, rfl, hOD, hAp, hb5⟩; have hH5 := bstep hHeld hb5; have hsH := hHeld.size
  refine hK.out _ _ (hH5) (fun hHeld => ?_)
  clear hK K
  try simp only [Act.put, List.setIfInBounds_toArray, List.set_cons_zero, List.set_cons_succ]
  refine' takeF (i := 7) (oi := ({ dst := some 45, op := Op.extract (Operand.tmp 44) 0, type := 33, pos := "l5_replay.go:70", after := #[{ on := 6, ground := Ground.data }], guard := none } : Oper)) rfl ⟨by rfl, fun x hSw => ?h6⟩ hHeld ?r6
  case h6 =>
    go_simp
    try with_reducible rfl
  try simp only [Act.put, List.setIfInBounds_toArray, List.set_cons_zero, List.set_cons_succ]
  refine' takeF (i := 8) (oi := ({ dst := some 46, op := Op.extract (Operand.tmp 44) 1, type := 3, pos := "l5_replay.go:70", after := #[{ on := 6, ground := Ground.data }], guard := none } : Oper)) rfl ⟨by rfl, fun x hSw => ?h7⟩ hHeld ?r7
  case h7 =>
    go_simp
    try with_reducible rfl
  try simp only [Act.put, List.setIfInBounds_toArray, List.set_cons_zero, List.set_cons_succ]
  refine' takeF (i := 9) (oi := ({ dst := some 4, op := Op.assign (Operand.tmp 45), type := 33, pos := "l5_replay.go:70", after := #[{ on := 7, ground := Ground.data }, { on := 6, ground := Ground.chain }, { on := 0, ground := Ground.phase }, { on := 1, ground := Ground.phase }, { on := 2, ground := Ground.phase }, { on := 3, ground := Ground.phase }, { on := 4, ground := Ground.phase }, { on := 5, ground := Ground.phase }, { on := 6, ground := Ground.phase }, { on := 7, ground := Ground.phase }, { on := 8, ground := Ground.phase }], guard := none } : Oper)) rfl ⟨by rfl, fun x hSw => ?h8⟩ hHeld ?r8
  case h8 =>
    go_simp
    try with_reducible rfl
  try simp only [Act.put, List.setIfInBounds_toArray, List.set_cons_zero, List.set_cons_succ]
  refine' takeF (i := 10) (oi := ({ dst := some 5, op := Op.assign (Operand.tmp 46), type := 3, pos := "l5_replay.go:70", after := #[{ on := 8, ground := Ground.data }, { on := 9, ground := Ground.chain }, { on := 0, ground := Ground.phase }, { on := 1, ground := Ground.phase }, { on := 2, ground := Ground.phase }, { on := 3, ground := Ground.phase }, { on := 4, ground := Ground.phase }, { on := 5, ground := Ground.phase }, { on := 6, ground := Ground.phase }, { on := 7, ground := Ground.phase }, { on := 8, ground := Ground.phase }, { on := 9, ground := Ground.phase }], guard := none } : Oper)) rfl ⟨by rfl, fun x hSw => ?h9⟩ hHeld ?r9
  case h9 =>
    go_simp
    try with_reducible rfl
  try simp only [Act.put, List.setIfInBounds_toArray, List.set_cons_zero, List.set_cons_succ]
  refine wpAnyH_done (by kernel_rfl) ?_ _
  go_wp2
  refine bodyPost_ret (results_tmp2 rfl _ _ _) rfl ?_
  rw [HA.out]
  exact ⟨_, _, rfl, hOD.wide (fun b h => by omega), hAp.later (Below.refl _ _) (by omega), bstep hb3 hHeld⟩
end Go.Proofs.YtgeiamgeclbiaaaGreatDoor
namespace Go.Proofs.YtgeiamgeclbiaaaGreatDoor
open Go.RowKit Go.Maps Go.WideMaps
theorem size1 (b : UInt8) (x : ByteArray) : ((⟨#[b]⟩ : ByteArray) ++ x).size = x.size + 1 := by
  have : (⟨#[b]⟩ : ByteArray).size = 1 := rfl
  rw [ByteArray.size_append]; omega
def dgs : Nat → Nat → ByteArray → ByteArray
  | 0, _, acc => acc
  | f + 1, i, acc => if i = 0 then acc else dgs f (i / 10) (⟨#[UInt8.ofNat (48 + i % 10)]⟩ ++ acc)
theorem dgs_zero (f : Nat) (acc : ByteArray) : dgs f 0 acc = acc := by cases f <;> simp [dgs]
theorem dgs_more (f i : Nat) (acc : ByteArray) (h : i < 10 ^ f) : dgs (f + 1) i acc = dgs f i acc := by
  induction f generalizing i acc with
  | zero => have : i = 0 := by simpa using h
            subst this; simp [dgs]
  | succ f ih =>
    by_cases hi : i = 0
    · subst hi; simp [dgs]
    · have h' : i / 10 < 10 ^ f := by rw [Nat.pow_succ] at h; omega
      have e1 : dgs (f + 1 + 1) i acc = dgs (f + 1) (i / 10) (⟨#[UInt8.ofNat (48 + i % 10)]⟩ ++ acc) := by simp [dgs, hi]
      have e2 : dgs (f + 1) i acc = dgs f (i / 10) (⟨#[UInt8.ofNat (48 + i % 10)]⟩ ++ acc) := by simp [dgs, hi]
      rw [e1, e2, ih _ _ h']
/-- The text that marks number i. -/
def mtx (i : Nat) : ByteArray := ⟨#[109]⟩ ++ dgs 20 i ⟨#[]⟩
theorem dgs_step (i : Nat) (acc : ByteArray) (h0 : 0 < i) (h : i < 9200000000000000000) : dgs 20 i acc = dgs 20 (i / 10) (⟨#[UInt8.ofNat (48 + i % 10)]⟩ ++ acc) := by
  have e : dgs 20 i acc = dgs 19 (i / 10) (⟨#[UInt8.ofNat (48 + i % 10)]⟩ ++ acc) := by
    rw [dgs, if_neg (by omega)]
  rw [e, dgs_more 19 _ _ (by omega)]
theorem conv1 (w : World) (x : Int) (hx : 48 ≤ x) (hx2 : x ≤ 57) :
    (convert 180 9 (.slice (some ⟨w.heap.size, 0, none⟩) 1 1)).run Tryz.prog (w.alloc (.cells #[.int .u8 x] 5)) = .ok (.string ⟨#[UInt8.ofNat x.toNat]⟩) (w.alloc (.cells #[.int .u8 x] 5)) := by
  refine run_convert_bytes_back _ 180 9 5 ⟨w.heap.size, 0, none⟩ _ [UInt8.ofNat x.toNat] Tryz.underlying180 Tryz.underlying5 Tryz.underlying9 ?_
  intro j hj
  obtain rfl : j = 0 := by simpa using hj
  have hadd : (⟨w.heap.size, 0, none⟩ : Addr).add 0 = ⟨w.heap.size, 0, none⟩ := rfl
  rw [hadd, cell_of_row _ _ 0 _ 5 _ (heap_alloc_new w _)]
  have : ((UInt8.ofNat x.toNat).toNat : Int) = x := by simp; omega
  have e2 : (List.toArray [Value.int .u8 x])[0]? = some (.int .u8 x) := rfl
  simp only [List.length_cons, List.length_nil] at hj
  show some (Value.int .u8 x) = some (Value.int .u8 ((UInt8.ofNat x.toNat).toNat : Int))
  rw [this]
set_option maxRecDepth 20000 in
set_option maxHeartbeats 1000000 in
theorem markText_any (i : Nat) (w : World) (h0 : 0 < i) (h1 : i < 9200000000000000000) (y : ByteArray) (hy : mtx i = y) :
    Calls Tryz.prog 96 #[.int .i64 i] w fun e w' => e = .returned (.string y) ∧ Below w.heap.size w w' := by
  have HY : Hid (mtx i = y) := hy
  clear hy
  have hd0 : decide (i = 0) = false := by simpa using (by omega : ¬ i = 0)
  go_enter Tryz.func96, Tryz.ntmps96
  go_wp2
  go_loopw [0, 3] (fun x s wr => ∃ (j : Nat) (acc : ByteArray), acc.size + j ≤ 9200000000000000000 ∧ j < 9200000000000000000 ∧ x = .int .i64 j ∧ s = .string acc ∧ dgs 20 j acc = dgs 20 i ⟨#[]⟩ ∧ Below w.heap.size w wr) (fun x _ _ => (intOf x).toNat)
  case atStart => exact ⟨i, ⟨#[]⟩, (show 0 + i ≤ 9200000000000000000 by omega), h1, rfl, rfl, rfl, Below.refl _ _⟩
  case round =>
    obtain ⟨j, acc, hsz, hj, rfl, rfl, hd, hb⟩ := hrel
    have HD : Hid (dgs 20 j acc = dgs 20 i ⟨#[]⟩) := hd
    clear hd
    by_cases hlt : 0 < j
    · have HS : Hid (dgs 20 j acc = dgs 20 (j / 10) (⟨#[UInt8.ofNat (48 + j % 10)]⟩ ++ acc)) := dgs_step j acc hlt hj
      have hx1 : (48 : Int) ≤ 48 + (j : Int) % 10 := by omega
      have hx2 : 48 + (j : Int) % 10 ≤ 57 := by omega
      have hcv := conv1 wr (48 + (j : Int) % 10) hx1 hx2
      have e : (48 + (j : Int) % 10).toNat = 48 + j % 10 := by omega
      rw [e] at hcv
      have hw8 : IntKind.u8.wrap (48 + (j : Int) % 10) = 48 + (j : Int) % 10 := by rw [IntKind.wrap_u8']; omega
      clear e
      obtain ⟨c8, hc8⟩ : ∃ c, UInt8.ofNat (48 + j % 10) = c := ⟨_, rfl⟩
      rw [hc8] at hcv HS
      clear hc8
      go_wp2
      go_roundw
      case rel => exact ⟨j / 10, _, by have := size1 c8 acc; omega, by omega, by go_num, rfl, by rw [← HS.out]; exact HD.out, hb.alloc hb.size _⟩
      case measure => simp [intOf]; omega
    · obtain rfl : j = 0 := by omega
      have HE : Hid (⟨#[109]⟩ ++ acc = y) := by show ⟨#[109]⟩ ++ acc = y; rw [← HY.out]; unfold mtx; rw [← HD.out, dgs_zero]
      go_wp2
      go_ret
      exact ⟨by rw [← HE.out]; rfl, hb⟩
theorem markText_as (i : Nat) (w : World) (z : Int) (hz : z = i) (h0 : 0 < i) (h1 : i < 9200000000000000000) (y : ByteArray) (hy : mtx i = y) :
    Calls Tryz.prog 96 #[.int .i64 z] w fun e w' => e = .returned (.string y) ∧ Below w.heap.size w w' := by
  subst hz
  exact markText_any i w h0 h1 y hy
theorem rowG' {w w' : World} {q : Nat} {r : Option Nat} {o : Obj} (h : w.heap[q]? = some o) (hg : w.grownBy w' r) (hne : some q ≠ r) : w'.heap[q]? = some o := (hg.block q (Array.getElem?_eq_some_iff.1 h).1 hne).trans h
end Go.Proofs.YtgeiamgeclbiaaaGreatDoor
