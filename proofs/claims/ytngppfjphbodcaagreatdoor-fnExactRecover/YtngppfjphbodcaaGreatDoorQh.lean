/-
  Recovery, the program's side: settle.
-/
import Derived.Test.YtngppfjphbodcaaGreatDoorQg
namespace Go.Proofs.YtngppfjphbodcaaGreatDoor
open Go.RowKit
theorem run_app (x1 x3 x4 : Int) (A C : List Op3) : ∀ (L : List Fil) (x2 : Int) (x5 : Bool), runO x1 x3 x4 (A ++ C) L x2 x5 = if (runO x1 x3 x4 A L x2 x5).2.2.2 = 0 then runO x1 x3 x4 C (runO x1 x3 x4 A L x2 x5).1 (runO x1 x3 x4 A L x2 x5).2.1 (runO x1 x3 x4 A L x2 x5).2.2.1 else runO x1 x3 x4 A L x2 x5 := by
  induction A with
  | nil => intro L x2 x5; simp [runO]
  | cons o r ih =>
    intro L x2 x5
    rw [List.cons_append, runO, runO]
    split
    · exact ih _ _ _
    · rename_i h
      first | rfl | rw [if_neg h]
theorem run_one (x1 x3 x4 : Int) (o : Op3) (L : List Fil) (x2 : Int) (x5 : Bool) : runO x1 x3 x4 [o] L x2 x5 = stS L x1 x2 x3 x4 x5 o.kd o.nm ⟨#[]⟩ o.sz (fdI L o.nm) := by
  rw [runO]
  generalize stS L x1 x2 x3 x4 x5 o.kd o.nm ⟨#[]⟩ o.sz (fdI L o.nm) = S
  obtain ⟨a, b, c, d⟩ := S
  split
  · rename_i h
    simp only at h
    subst h
    rfl
  · rfl
/-- The box of the log, and the disk. -/
structure Se (w V : World) (p B : Nat) (l g : Int) (M : List Fil) (x1 x2 x3 x4 : Int) (x5 : Bool) : Prop where
  d : Dk V p B M x1 x2 x3 x4 x5
  lg : V.heap[w.heap.size]? = some (.cells #[.int .i64 l, .int .i64 g] 30 (0, 0))
  k : BK B p w V
theorem Se.later {w V V' : World} {p B : Nat} {l g : Int} {M : List Fil} {x1 x2 x3 x4 : Int} {x5 : Bool} (h : Se w V p B l g M x1 x2 x3 x4 x5) (hb : Below V.heap.size V V') : Se w V' p B l g M x1 x2 x3 x4 x5 := ⟨h.d.later hb, rowL h.lg hb, h.k.trans (BK.of hb (by have := h.d.lt; omega))⟩
/-- A file of the disk, by its number. -/
theorem Dk.file {V : World} {p B : Nat} {M : List Fil} {x1 x2 x3 x4 : Int} {x5 : Bool} (h : Dk V p B M x1 x2 x3 x4 x5) (n : Nat) (hn : M.length = n) (i : Nat) (hi : i < n) : ∃ g cap, V.cell? ⟨p, 4, none⟩ = some (.slice (some ⟨g, 0, none⟩) n cap) ∧ V.cell? ⟨g, i * 3, none⟩ = some (.string (nthF M i).s) ∧ V.cell? ⟨g, i * 3 + 1, none⟩ = some (.string (nthF M i).d) ∧ V.cell? ⟨g, i * 3 + 2, none⟩ = some (.int .i64 (nthF M i).y) := by
  subst hn
  obtain ⟨g, cap, hA, hO, _⟩ := h
  obtain ⟨b', off', e, c0, c1, c2⟩ := hO.f.fl i hi
  injection e with e
  injection e with e1 e2
  subst e1 e2
  simp only [Nat.zero_add] at c0 c1 c2
  exact ⟨_, cap, hA.box.c4, c0, c1, c2⟩
theorem iPlaceE (p B : Nat) (M : List Fil) (x1 x2 x3 x4 : Int) (x5 : Bool) (nm : ByteArray) (w : World) (h : Dk w p B M x1 x2 x3 x4 x5) (hs : Srt M) (hn : M.length ≤ 300) :
    Calls Tryz.prog 55 #[.pointer (some ⟨p, 0, none⟩), .string nm] w fun e w' => ∃ i : Nat, e = .returned (.tuple #[.int .i64 i, .bool (decide (fdN M nm < M.length))]) ∧ (fdN M nm < M.length → i = fdN M nm) ∧ Below w.heap.size w w' := by
  obtain ⟨g, cap, hA, hO, _⟩ := id h
  refine (iPlace p _ M.length cap (nthF M) nm x1 x2 x3 x4 x5 w hA hO.f.fl (by omega) (hs.mono nm)).mono ?_
  rintro e w' ⟨i, rfl, hlo, hb⟩
  cases hh : hitB (nthF M) M.length nm i with
  | true =>
    have h1 := fd_same (fd_at M nm) (fd_hit hlo hh)
    have h2 : fdN M nm < M.length := by
      unfold fdI at h1
      split at h1
      · assumption
      · omega
    rw [fd_of h2] at h1
    exact ⟨i, by simp [h2], fun _ => by omega, hb⟩
  | false =>
    have h1 := fd_same (fd_at M nm) (fd_miss hlo hh hs)
    have h2 : ¬ fdN M nm < M.length := by
      intro h2
      rw [fd_of h2] at h1
      omega
    exact ⟨i, by simp [h2], fun h3 => absurd h3 h2, hb⟩
set_option maxRecDepth 20000 in
set_option maxHeartbeats 8000000 in
theorem iSettle (p B : Nat) (L : List Fil) (x1 x2 x3 x4 : Int) (l g : Nat) (w : World) (h : Dk w p B L x1 x2 x3 x4 false) (hok : Ok6 L x1 x2 1048576) (hT : ∀ w', Below B w w' → T10 w') (hl : l ≤ 300) (hp : 1 ≤ l → fdN L (seg l) < L.length) (M : List Fil) (y2 : Int) (y5 : Bool) (yc : Int) (hR : runO x1 x3 x4 (delO L l ++ tailO L l g) L x2 false = (M, y2, y5, yc)) :
    Calls Tryz.prog 46 #[.pointer (some ⟨p, 0, none⟩), .agg #[.int .i64 (l : Int), .int .i64 (g : Int)]] w fun e w' => e = .returned (.int .i64 yc) ∧ Dk w' p B M x1 y2 x3 x4 y5 ∧ BK B p w w' := by
  have hlt := h.lt
  obtain ⟨M1, z2, z5, c1, hR1⟩ : ∃ M1 z2 z5 c1, runO x1 x3 x4 (delO L l) L x2 false = (M1, z2, z5, c1) := ⟨_, _, _, _, rfl⟩
  rw [run_app, hR1] at hR
  simp only at hR
  have hS0 : Se w (w.alloc (.cells #[.int .i64 (l : Int), .int .i64 (g : Int)] 30)) p B (l : Int) (g : Int) L x1 x2 x3 x4 false := ⟨h.later (bal _ _), heap_alloc_new _ _, BK.of (bal _ _) (by omega)⟩
  obtain ⟨b0, b1⟩ := B2.of hS0.lg
  have HR : Hid ((if c1 = 0 then runO x1 x3 x4 (tailO L l g) M1 z2 z5 else (M1, z2, z5, c1)) = (M, y2, y5, yc)) := hR
  have HR1 : Hid (runO x1 x3 x4 (delO L l) L x2 false = (M1, z2, z5, c1)) := hR1
  clear hR hR1
  go_enter Tryz.func46, Tryz.ntmps46
  go_upto_region 2 with (go_at_call 58; refine (iDelAbove p B L x1 x2 x3 x4 false l _ hS0.d hok M1 z2 z5 c1 HR1.out).mono ?_; rintro e w1 ⟨rfl, hD1, hK1, hM1⟩)
  have hS1 : Se w w1 p B (l : Int) (g : Int) M1 x1 z2 x3 x4 z5 := ⟨hD1, hK1.k _ _ _ _ (by omega) (by decide) hS0.lg, hS0.k.trans hK1⟩
  clear hS0 b0 b1 hD1 hK1
  by_cases hc : c1 = 0
  · subst hc
    obtain ⟨hsv, hok1⟩ := hM1 rfl
    clear hM1
    have hR2 := HR.out
    rw [if_pos rfl] at hR2
    have HR2 : Hid (runO x1 x3 x4 (tailO L l g) M1 z2 z5 = (M, y2, y5, yc)) := hR2
    clear hR2 HR
    obtain ⟨b0, b1⟩ := B2.of hS1.lg
    have hs1 := hok1.good.pw.srt
    have hn1 := hok1.good.len
    by_cases hl0 : l = 0
    · subst hl0
      have hno : ¬ fdN M1 (seg 1) < M1.length := by
        rw [fdN_mem]
        rintro ⟨f, hf, e⟩
        rw [hsv] at hf
        have h1 := ((sv_zero L 0 f).1 hf).2
        rw [e, segN_seg 1 (by omega)] at h1
        omega
      have hst := HR2.out
      rw [show tailO L 0 g = [⟨1, seg 1, 0⟩] from rfl, run_one] at hst
      have HST : Hid (stS M1 x1 z2 x3 x4 z5 1 (seg 1) ByteArray.empty 0 (fdI M1 (seg 1)) = (M, y2, y5, yc)) := hst
      clear hst
      go_upto_region 5 with (go_at_call 56; refine (iSegmentE 1 _ (by first | rfl | simp | omega) _ (by omega) (hT _ hS1.k.b) (seg 1) rfl).mono ?_; rintro e w2 ⟨rfl, hb2⟩)
      have hS2 := hS1.later hb2
      clear b0 b1
      go_upto_region 6 with (go_at_call 55; refine (iPlaceE p B M1 x1 z2 x3 x4 z5 (seg 1) _ hS2.d hs1 hn1).mono ?_; rw [decide_eq_false hno]; rintro e w3 ⟨i, rfl, -, hb3⟩)
      have hS4 := hS2.later hb3
      go_wp2_with (go_at_call 59; refine (iStepE p B M1 x1 z2 x3 x4 z5 1 (seg 1) ByteArray.empty 0 (fdI M1 (seg 1)) M y2 y5 yc 1048576 _ hS4.d hok1 (by omega) (by omega) (by omega) (seg_ok _) (by decide) (fd_at _ _) HST.out).mono ?_; rintro e w5 ⟨rfl, hD5, hK5⟩)
      go_ret
      exact ⟨rfl, hD5, hS4.k.trans hK5⟩
    · have hfd := hp (by omega)
      obtain ⟨k, hk⟩ : ∃ k, fdN L (seg l) = k := ⟨_, rfl⟩
      have hnk := fdN_at L (seg l) hfd
      have hmk := nth_mem L _ hfd
      obtain ⟨m, hm⟩ : ∃ m, M1.length = m := ⟨_, rfl⟩
      have hye : fdN M1 (seg l) < M1.length := by
        rw [fdN_mem]
        refine ⟨nthF L (fdN L (seg l)), ?_, hnk⟩
        rw [hsv, sv_zero]
        exact ⟨hmk, by rw [hnk, segN_seg l (by omega)]; omega⟩
      have hsame : nthF M1 (fdN M1 (seg l)) = nthF L (fdN L (seg l)) := by
        refine same_name hok.good.pw ?_ hmk ((fdN_at M1 (seg l) hye).trans hnk.symm)
        have := nth_mem M1 _ hye
        have e : M1 = sv L l 0 := hsv
        rw [e] at this
        have h2 := ((sv_zero L l _).1 this).1
        rw [← e] at h2
        exact h2
      obtain ⟨d, hd⟩ : ∃ d, (nthF L k).d = d := ⟨_, rfl⟩
      obtain ⟨y, hy⟩ : ∃ y, (nthF L k).y = y := ⟨_, rfl⟩
      have hst := HR2.out
      unfold tailO at hst
      rw [if_neg hl0, hk, hd, hy] at hst
      have HST0 : Hid (runO x1 x3 x4 (if g < d.size then [⟨4, seg l, (g : Int)⟩] else if y < (d.size : Int) then [⟨3, seg l, 0⟩] else []) M1 z2 z5 = (M, y2, y5, yc)) := hst
      clear hst HR2
      obtain ⟨j, hj⟩ : ∃ j, fdN M1 (seg l) = j := ⟨_, rfl⟩
      rw [hj, hk] at hsame
      have hjm : j < m := by rw [← hj, ← hm]; exact hye
      have hdm : (nthF M1 j).d = d := by rw [hsame]; exact hd
      have hym : (nthF M1 j).y = y := by rw [hsame]; exact hy
      have hye' : fdN M1 (seg l) < M1.length := hye
      have HM : Hid (M1.length = m) := hm
      have HJ : Hid (fdN M1 (seg l) < M1.length → fdN M1 (seg l) = j) := fun _ => hj
      have hj0 : (0 : Int) ≤ (j : Int) := by omega
      have hj1 : (j : Int) < (m : Int) := by omega
      have hds : d.size ≤ 1048576 := by
        rw [← hdm]
        exact Nat.le_trans (sumL_one M1 j (by rw [hm]; exact hjm)) hok1.sum
      clear hsame hd hy hk hj hm hmk hnk hfd hsv
      have hmx : max (l : Int) 1 = (l : Int) := by omega
      go_upto_region 5 with (go_at_call 56; refine (iSegmentE l _ (by first | rfl | exact hmx | (simp; omega)) _ (by omega) (hT _ hS1.k.b) (seg l) rfl).mono ?_; rintro e w2 ⟨rfl, hb2⟩)
      have hS2 := hS1.later hb2
      clear b0 b1
      go_upto_region 6 with (go_at_call 55; refine (iPlaceE p B M1 x1 z2 x3 x4 z5 (seg l) _ hS2.d hs1 hn1).mono ?_; rw [decide_eq_true hye']; rintro e w3 ⟨i, rfl, hi, hb3⟩; have HIJ : Hid (i = j) := (hi hye').trans (HJ.out hye'); clear hi)
      have hij : i = j := HIJ.out
      clear HIJ HJ hye hye'
      subst hij
      have hS3 := hS2.later hb3
      obtain ⟨gF, cF, c4, -, c1, c2⟩ := hS3.d.file m HM.out i hjm
      rw [hdm] at c1
      rw [hym] at c2
      have HC : ∀ x, Below w3.heap.size w3 x → x.cell? ⟨p, 4, none⟩ = some (.slice (some ⟨gF, 0, none⟩) m cF) ∧ x.cell? ⟨gF, i * 3 + 1, none⟩ = some (.string d) ∧ x.cell? ⟨gF, i * 3 + 2, none⟩ = some (.int .i64 y) := fun x hb => ⟨keepB hb c4, keepB hb c1, keepB hb c2⟩
      clear c4 c1 c2
      go_upto_region 8 with (fail)
      refine wp_region_held_drew (S := fun x => Se w x p B (l : Int) (g : Int) M1 x1 z2 x3 x4 z5 ∧ Below w3.heap.size w3 x) (by kernel_rfl) (⟨hS3.later (bdrew1 _), bdrew1 _⟩) (fun hHeld => ?_)
      refine' wpAnyH_take (i := 0) (oi := ({ dst := some 34, op := Op.fieldAddr 30 (Operand.tmp 3) 1, type := 0, pos := "l6_journal.go:408", after := #[], guard := none } : Oper)) (v := _) rfl (by kernel_rfl) (by kernel_rfl) (by kernel_rfl) (fun _ _ _ h => h) (Or.inl ⟨by rfl, fun x hSw => ?hyz1_0⟩) hHeld ?restz1_0
      case hyz1_0 =>
        obtain ⟨b0, b1⟩ := B2.of hSw.1.lg; obtain ⟨c4, c1, c2⟩ := HC x hSw.2
        go_simp
        try with_reducible rfl
      try simp only [Act.put, List.setIfInBounds_toArray, List.set_cons_zero, List.set_cons_succ]
      refine' wpAnyH_take (i := 1) (oi := ({ dst := some 35, op := Op.load 3 (Operand.tmp 34), type := 3, pos := "l6_journal.go:408", after := #[{ on := 0, ground := Ground.data }], guard := none } : Oper)) (v := _) rfl (by kernel_rfl) (by kernel_rfl) (by kernel_rfl) (fun _ _ _ h => h) (Or.inl ⟨by rfl, fun x hSw => ?hyz1_1⟩) hHeld ?restz1_1
      case hyz1_1 =>
        obtain ⟨b0, b1⟩ := B2.of hSw.1.lg; obtain ⟨c4, c1, c2⟩ := HC x hSw.2
        go_simp
        try with_reducible rfl
      try simp only [Act.put, List.setIfInBounds_toArray, List.set_cons_zero, List.set_cons_succ]
      refine' wpAnyH_take (i := 2) (oi := ({ dst := some 36, op := Op.move (Operand.tmp 0), type := 57, pos := "l6_journal.go:408", after := #[], guard := none } : Oper)) (v := _) rfl (by kernel_rfl) (by kernel_rfl) (by kernel_rfl) (fun _ _ _ h => h) (Or.inl ⟨by rfl, fun x hSw => ?hyz1_2⟩) hHeld ?restz1_2
      case hyz1_2 =>
        obtain ⟨b0, b1⟩ := B2.of hSw.1.lg; obtain ⟨c4, c1, c2⟩ := HC x hSw.2
        go_simp
        try with_reducible rfl
      try simp only [Act.put, List.setIfInBounds_toArray, List.set_cons_zero, List.set_cons_succ]
      refine' wpAnyH_take (i := 3) (oi := ({ dst := some 37, op := Op.nilCheck (Operand.tmp 36), type := 0, pos := "l6_journal.go:408", after := #[{ on := 2, ground := Ground.data }], guard := none } : Oper)) (v := _) rfl (by kernel_rfl) (by kernel_rfl) (by kernel_rfl) (fun _ _ _ h => h) (Or.inl ⟨by rfl, fun x hSw => ?hyz1_3⟩) hHeld ?restz1_3
      case hyz1_3 =>
        obtain ⟨b0, b1⟩ := B2.of hSw.1.lg; obtain ⟨c4, c1, c2⟩ := HC x hSw.2
        go_simp
        try with_reducible rfl
      try simp only [Act.put, List.setIfInBounds_toArray, List.set_cons_zero, List.set_cons_succ]
      refine' wpAnyH_take (i := 4) (oi := ({ dst := some 38, op := Op.fieldAddr 80 (Operand.tmp 37) 1, type := 0, pos := "l6_journal.go:408", after := #[{ on := 3, ground := Ground.data }], guard := none } : Oper)) (v := _) rfl (by kernel_rfl) (by kernel_rfl) (by kernel_rfl) (fun _ _ _ h => h) (Or.inl ⟨by rfl, fun x hSw => ?hyz1_4⟩) hHeld ?restz1_4
      case hyz1_4 =>
        obtain ⟨b0, b1⟩ := B2.of hSw.1.lg; obtain ⟨c4, c1, c2⟩ := HC x hSw.2
        go_simp
        try with_reducible rfl
      try simp only [Act.put, List.setIfInBounds_toArray, List.set_cons_zero, List.set_cons_succ]
      refine' wpAnyH_take (i := 5) (oi := ({ dst := some 39, op := Op.load 26 (Operand.tmp 38), type := 26, pos := "l6_journal.go:408", after := #[{ on := 4, ground := Ground.data }], guard := none } : Oper)) (v := _) rfl (by kernel_rfl) (by kernel_rfl) (by kernel_rfl) (fun _ _ _ h => h) (Or.inl ⟨by rfl, fun x hSw => ?hyz1_5⟩) hHeld ?restz1_5
      case hyz1_5 =>
        obtain ⟨b0, b1⟩ := B2.of hSw.1.lg; obtain ⟨c4, c1, c2⟩ := HC x hSw.2
        go_simp
        try with_reducible rfl
      try simp only [Act.put, List.setIfInBounds_toArray, List.set_cons_zero, List.set_cons_succ]
      refine' wpAnyH_take (i := 6) (oi := ({ dst := some 40, op := Op.move (Operand.tmp 7), type := 3, pos := "l6_journal.go:408", after := #[], guard := none } : Oper)) (v := _) rfl (by kernel_rfl) (by kernel_rfl) (by kernel_rfl) (fun _ _ _ h => h) (Or.inl ⟨by rfl, fun x hSw => ?hyz1_6⟩) hHeld ?restz1_6
      case hyz1_6 =>
        obtain ⟨b0, b1⟩ := B2.of hSw.1.lg; obtain ⟨c4, c1, c2⟩ := HC x hSw.2
        go_simp
        try with_reducible rfl
      try simp only [Act.put, List.setIfInBounds_toArray, List.set_cons_zero, List.set_cons_succ]
      refine' wpAnyH_take (i := 7) (oi := ({ dst := some 41, op := Op.indexAddr 26 (Operand.tmp 39) (Operand.tmp 40), type := 0, pos := "l6_journal.go:408", after := #[{ on := 5, ground := Ground.data }, { on := 6, ground := Ground.data }], guard := none } : Oper)) (v := _) rfl (by kernel_rfl) (by kernel_rfl) (by kernel_rfl) (fun _ _ _ h => h) (Or.inl ⟨by rfl, fun x hSw => ?hyz1_7⟩) hHeld ?restz1_7
      case hyz1_7 =>
        obtain ⟨b0, b1⟩ := B2.of hSw.1.lg; obtain ⟨c4, c1, c2⟩ := HC x hSw.2
        go_simp
        try with_reducible rfl
      try simp only [Act.put, List.setIfInBounds_toArray, List.set_cons_zero, List.set_cons_succ]
      refine' wpAnyH_take (i := 8) (oi := ({ dst := some 42, op := Op.fieldAddr 49 (Operand.tmp 41) 1, type := 0, pos := "l6_journal.go:408", after := #[{ on := 7, ground := Ground.data }], guard := none } : Oper)) (v := _) rfl (by kernel_rfl) (by kernel_rfl) (by kernel_rfl) (fun _ _ _ h => h) (Or.inl ⟨by rfl, fun x hSw => ?hyz1_8⟩) hHeld ?restz1_8
      case hyz1_8 =>
        obtain ⟨b0, b1⟩ := B2.of hSw.1.lg; obtain ⟨c4, c1, c2⟩ := HC x hSw.2
        go_simp
        try with_reducible rfl
      try simp only [Act.put, List.setIfInBounds_toArray, List.set_cons_zero, List.set_cons_succ]
      refine' wpAnyH_take (i := 9) (oi := ({ dst := some 43, op := Op.load 9 (Operand.tmp 42), type := 9, pos := "l6_journal.go:408", after := #[{ on := 8, ground := Ground.data }], guard := none } : Oper)) (v := _) rfl (by kernel_rfl) (by kernel_rfl) (by kernel_rfl) (fun _ _ _ h => h) (Or.inl ⟨by rfl, fun x hSw => ?hyz1_9⟩) hHeld ?restz1_9
      case hyz1_9 =>
        obtain ⟨b0, b1⟩ := B2.of hSw.1.lg; obtain ⟨c4, c1, c2⟩ := HC x hSw.2
        go_simp
        try with_reducible rfl
      try simp only [Act.put, List.setIfInBounds_toArray, List.set_cons_zero, List.set_cons_succ]
      refine' wpAnyH_take (i := 10) (oi := ({ dst := some 44, op := Op.call { callee := Callee.builtin Builtin.len, args := #[Operand.tmp 43], argTypes := #[9] }, type := 3, pos := "l6_journal.go:408", after := #[{ on := 9, ground := Ground.data }], guard := none } : Oper)) (v := _) rfl (by kernel_rfl) (by kernel_rfl) (by kernel_rfl) (fun _ _ _ h => h) (Or.inl ⟨by rfl, fun x hSw => ?hyz1_10⟩) hHeld ?restz1_10
      case hyz1_10 =>
        obtain ⟨b0, b1⟩ := B2.of hSw.1.lg; obtain ⟨c4, c1, c2⟩ := HC x hSw.2
        go_simp
        try with_reducible rfl
      try simp only [Act.put, List.setIfInBounds_toArray, List.set_cons_zero, List.set_cons_succ]
      refine' wpAnyH_take (i := 11) (oi := ({ dst := some 45, op := Op.binOp BinOp.lss 3 (Operand.tmp 35) (Operand.tmp 44) 3, type := 4, pos := "l6_journal.go:408", after := #[{ on := 1, ground := Ground.data }, { on := 10, ground := Ground.data }], guard := none } : Oper)) (v := _) rfl (by kernel_rfl) (by kernel_rfl) (by kernel_rfl) (fun _ _ _ h => h) (Or.inl ⟨by rfl, fun x hSw => ?hyz1_11⟩) hHeld ?restz1_11
      case hyz1_11 =>
        obtain ⟨b0, b1⟩ := B2.of hSw.1.lg; obtain ⟨c4, c1, c2⟩ := HC x hSw.2
        go_simp
        try with_reducible rfl
      try simp only [Act.put, List.setIfInBounds_toArray, List.set_cons_zero, List.set_cons_succ]
      refine' wpAnyH_take (i := 12) (oi := ({ dst := some 33, op := Op.assign (Operand.tmp 45), type := 4, pos := "l6_journal.go:408", after := #[{ on := 11, ground := Ground.data }], guard := none } : Oper)) (v := _) rfl (by kernel_rfl) (by kernel_rfl) (by kernel_rfl) (fun _ _ _ h => h) (Or.inl ⟨by rfl, fun x hSw => ?hyz1_12⟩) hHeld ?restz1_12
      case hyz1_12 =>
        obtain ⟨b0, b1⟩ := B2.of hSw.1.lg; obtain ⟨c4, c1, c2⟩ := HC x hSw.2
        go_simp
        try with_reducible rfl
      try simp only [Act.put, List.setIfInBounds_toArray, List.set_cons_zero, List.set_cons_succ]
      refine wpAnyH_done (by kernel_rfl) ?_ _
      by_cases hg1 : g < d.size
      · have hgi : (g : Int) < (d.size : Int) := by omega
        have hst := HST0.out
        rw [if_pos hg1, run_one] at hst
        have HST : Hid (stS M1 x1 z2 x3 x4 z5 4 (seg l) ByteArray.empty (g : Int) (fdI M1 (seg l)) = (M, y2, y5, yc)) := hst
        clear hst
        have hS4 := hHeld.1
        obtain ⟨b0, b1⟩ := B2.of hS4.lg
        go_wp2_with (go_at_call 59; refine (iStepE p B M1 x1 z2 x3 x4 z5 4 (seg l) ByteArray.empty (g : Int) (fdI M1 (seg l)) M y2 y5 yc 1048576 _ hS4.d hok1 (by omega) (by omega) (by omega) (seg_ok _) (by decide) (fd_at _ _) HST.out).mono ?_; rintro e w5 ⟨rfl, hD5, hK5⟩)
        go_ret
        exact ⟨rfl, hD5, hS4.k.trans hK5⟩
      · have hgi : ¬ (g : Int) < (d.size : Int) := by omega
        go_upto_region 10 with (fail)
        refine wp_region_held_drew (S := fun x => Se w x p B (l : Int) (g : Int) M1 x1 z2 x3 x4 z5 ∧ Below w3.heap.size w3 x) (by kernel_rfl) (⟨hHeld.1.later (bdrew1 _), bstep hHeld.2 (bdrew1 _)⟩) (fun hHeld => ?_)
        refine' wpAnyH_take (i := 0) (oi := ({ dst := some 53, op := Op.move (Operand.tmp 0), type := 57, pos := "l6_journal.go:411", after := #[], guard := none } : Oper)) (v := _) rfl (by kernel_rfl) (by kernel_rfl) (by kernel_rfl) (fun _ _ _ h => h) (Or.inl ⟨by rfl, fun x hSw => ?hyz2_0⟩) hHeld ?restz2_0
        case hyz2_0 =>
          obtain ⟨b0, b1⟩ := B2.of hSw.1.lg; obtain ⟨c4, c1, c2⟩ := HC x hSw.2
          go_simp
          try with_reducible rfl
        try simp only [Act.put, List.setIfInBounds_toArray, List.set_cons_zero, List.set_cons_succ]
        refine' wpAnyH_take (i := 1) (oi := ({ dst := some 54, op := Op.nilCheck (Operand.tmp 53), type := 0, pos := "l6_journal.go:411", after := #[{ on := 0, ground := Ground.data }], guard := none } : Oper)) (v := _) rfl (by kernel_rfl) (by kernel_rfl) (by kernel_rfl) (fun _ _ _ h => h) (Or.inl ⟨by rfl, fun x hSw => ?hyz2_1⟩) hHeld ?restz2_1
        case hyz2_1 =>
          obtain ⟨b0, b1⟩ := B2.of hSw.1.lg; obtain ⟨c4, c1, c2⟩ := HC x hSw.2
          go_simp
          try with_reducible rfl
        try simp only [Act.put, List.setIfInBounds_toArray, List.set_cons_zero, List.set_cons_succ]
        refine' wpAnyH_take (i := 2) (oi := ({ dst := some 55, op := Op.fieldAddr 80 (Operand.tmp 54) 1, type := 0, pos := "l6_journal.go:411", after := #[{ on := 1, ground := Ground.data }], guard := none } : Oper)) (v := _) rfl (by kernel_rfl) (by kernel_rfl) (by kernel_rfl) (fun _ _ _ h => h) (Or.inl ⟨by rfl, fun x hSw => ?hyz2_2⟩) hHeld ?restz2_2
        case hyz2_2 =>
          obtain ⟨b0, b1⟩ := B2.of hSw.1.lg; obtain ⟨c4, c1, c2⟩ := HC x hSw.2
          go_simp
          try with_reducible rfl
        try simp only [Act.put, List.setIfInBounds_toArray, List.set_cons_zero, List.set_cons_succ]
        refine' wpAnyH_take (i := 3) (oi := ({ dst := some 56, op := Op.load 26 (Operand.tmp 55), type := 26, pos := "l6_journal.go:411", after := #[{ on := 2, ground := Ground.data }], guard := none } : Oper)) (v := _) rfl (by kernel_rfl) (by kernel_rfl) (by kernel_rfl) (fun _ _ _ h => h) (Or.inl ⟨by rfl, fun x hSw => ?hyz2_3⟩) hHeld ?restz2_3
        case hyz2_3 =>
          obtain ⟨b0, b1⟩ := B2.of hSw.1.lg; obtain ⟨c4, c1, c2⟩ := HC x hSw.2
          go_simp
          try with_reducible rfl
        try simp only [Act.put, List.setIfInBounds_toArray, List.set_cons_zero, List.set_cons_succ]
        refine' wpAnyH_take (i := 4) (oi := ({ dst := some 57, op := Op.move (Operand.tmp 7), type := 3, pos := "l6_journal.go:411", after := #[], guard := none } : Oper)) (v := _) rfl (by kernel_rfl) (by kernel_rfl) (by kernel_rfl) (fun _ _ _ h => h) (Or.inl ⟨by rfl, fun x hSw => ?hyz2_4⟩) hHeld ?restz2_4
        case hyz2_4 =>
          obtain ⟨b0, b1⟩ := B2.of hSw.1.lg; obtain ⟨c4, c1, c2⟩ := HC x hSw.2
          go_simp
          try with_reducible rfl
        try simp only [Act.put, List.setIfInBounds_toArray, List.set_cons_zero, List.set_cons_succ]
        refine' wpAnyH_take (i := 5) (oi := ({ dst := some 58, op := Op.indexAddr 26 (Operand.tmp 56) (Operand.tmp 57), type := 0, pos := "l6_journal.go:411", after := #[{ on := 3, ground := Ground.data }, { on := 4, ground := Ground.data }], guard := none } : Oper)) (v := _) rfl (by kernel_rfl) (by kernel_rfl) (by kernel_rfl) (fun _ _ _ h => h) (Or.inl ⟨by rfl, fun x hSw => ?hyz2_5⟩) hHeld ?restz2_5
        case hyz2_5 =>
          obtain ⟨b0, b1⟩ := B2.of hSw.1.lg; obtain ⟨c4, c1, c2⟩ := HC x hSw.2
          go_simp
          try with_reducible rfl
        try simp only [Act.put, List.setIfInBounds_toArray, List.set_cons_zero, List.set_cons_succ]
        refine' wpAnyH_take (i := 6) (oi := ({ dst := some 59, op := Op.fieldAddr 49 (Operand.tmp 58) 2, type := 0, pos := "l6_journal.go:411", after := #[{ on := 5, ground := Ground.data }], guard := none } : Oper)) (v := _) rfl (by kernel_rfl) (by kernel_rfl) (by kernel_rfl) (fun _ _ _ h => h) (Or.inl ⟨by rfl, fun x hSw => ?hyz2_6⟩) hHeld ?restz2_6
        case hyz2_6 =>
          obtain ⟨b0, b1⟩ := B2.of hSw.1.lg; obtain ⟨c4, c1, c2⟩ := HC x hSw.2
          go_simp
          try with_reducible rfl
        try simp only [Act.put, List.setIfInBounds_toArray, List.set_cons_zero, List.set_cons_succ]
        refine' wpAnyH_take (i := 7) (oi := ({ dst := some 60, op := Op.load 3 (Operand.tmp 59), type := 3, pos := "l6_journal.go:411", after := #[{ on := 6, ground := Ground.data }], guard := none } : Oper)) (v := _) rfl (by kernel_rfl) (by kernel_rfl) (by kernel_rfl) (fun _ _ _ h => h) (Or.inl ⟨by rfl, fun x hSw => ?hyz2_7⟩) hHeld ?restz2_7
        case hyz2_7 =>
          obtain ⟨b0, b1⟩ := B2.of hSw.1.lg; obtain ⟨c4, c1, c2⟩ := HC x hSw.2
          go_simp
          try with_reducible rfl
        try simp only [Act.put, List.setIfInBounds_toArray, List.set_cons_zero, List.set_cons_succ]
        refine' wpAnyH_take (i := 8) (oi := ({ dst := some 61, op := Op.move (Operand.tmp 0), type := 57, pos := "l6_journal.go:411", after := #[], guard := none } : Oper)) (v := _) rfl (by kernel_rfl) (by kernel_rfl) (by kernel_rfl) (fun _ _ _ h => h) (Or.inl ⟨by rfl, fun x hSw => ?hyz2_8⟩) hHeld ?restz2_8
        case hyz2_8 =>
          obtain ⟨b0, b1⟩ := B2.of hSw.1.lg; obtain ⟨c4, c1, c2⟩ := HC x hSw.2
          go_simp
          try with_reducible rfl
        try simp only [Act.put, List.setIfInBounds_toArray, List.set_cons_zero, List.set_cons_succ]
        refine' wpAnyH_take (i := 9) (oi := ({ dst := some 62, op := Op.nilCheck (Operand.tmp 61), type := 0, pos := "l6_journal.go:411", after := #[{ on := 8, ground := Ground.data }], guard := none } : Oper)) (v := _) rfl (by kernel_rfl) (by kernel_rfl) (by kernel_rfl) (fun _ _ _ h => h) (Or.inl ⟨by rfl, fun x hSw => ?hyz2_9⟩) hHeld ?restz2_9
        case hyz2_9 =>
          obtain ⟨b0, b1⟩ := B2.of hSw.1.lg; obtain ⟨c4, c1, c2⟩ := HC x hSw.2
          go_simp
          try with_reducible rfl
        try simp only [Act.put, List.setIfInBounds_toArray, List.set_cons_zero, List.set_cons_succ]
        refine' wpAnyH_take (i := 10) (oi := ({ dst := some 63, op := Op.fieldAddr 80 (Operand.tmp 62) 1, type := 0, pos := "l6_journal.go:411", after := #[{ on := 9, ground := Ground.data }], guard := none } : Oper)) (v := _) rfl (by kernel_rfl) (by kernel_rfl) (by kernel_rfl) (fun _ _ _ h => h) (Or.inl ⟨by rfl, fun x hSw => ?hyz2_10⟩) hHeld ?restz2_10
        case hyz2_10 =>
          obtain ⟨b0, b1⟩ := B2.of hSw.1.lg; obtain ⟨c4, c1, c2⟩ := HC x hSw.2
          go_simp
          try with_reducible rfl
        try simp only [Act.put, List.setIfInBounds_toArray, List.set_cons_zero, List.set_cons_succ]
        refine' wpAnyH_take (i := 11) (oi := ({ dst := some 64, op := Op.load 26 (Operand.tmp 63), type := 26, pos := "l6_journal.go:411", after := #[{ on := 10, ground := Ground.data }], guard := none } : Oper)) (v := _) rfl (by kernel_rfl) (by kernel_rfl) (by kernel_rfl) (fun _ _ _ h => h) (Or.inl ⟨by rfl, fun x hSw => ?hyz2_11⟩) hHeld ?restz2_11
        case hyz2_11 =>
          obtain ⟨b0, b1⟩ := B2.of hSw.1.lg; obtain ⟨c4, c1, c2⟩ := HC x hSw.2
          go_simp
          try with_reducible rfl
        try simp only [Act.put, List.setIfInBounds_toArray, List.set_cons_zero, List.set_cons_succ]
        refine' wpAnyH_take (i := 12) (oi := ({ dst := some 65, op := Op.move (Operand.tmp 7), type := 3, pos := "l6_journal.go:411", after := #[], guard := none } : Oper)) (v := _) rfl (by kernel_rfl) (by kernel_rfl) (by kernel_rfl) (fun _ _ _ h => h) (Or.inl ⟨by rfl, fun x hSw => ?hyz2_12⟩) hHeld ?restz2_12
        case hyz2_12 =>
          obtain ⟨b0, b1⟩ := B2.of hSw.1.lg; obtain ⟨c4, c1, c2⟩ := HC x hSw.2
          go_simp
          try with_reducible rfl
        try simp only [Act.put, List.setIfInBounds_toArray, List.set_cons_zero, List.set_cons_succ]
        refine' wpAnyH_take (i := 13) (oi := ({ dst := some 66, op := Op.indexAddr 26 (Operand.tmp 64) (Operand.tmp 65), type := 0, pos := "l6_journal.go:411", after := #[{ on := 11, ground := Ground.data }, { on := 12, ground := Ground.data }], guard := none } : Oper)) (v := _) rfl (by kernel_rfl) (by kernel_rfl) (by kernel_rfl) (fun _ _ _ h => h) (Or.inl ⟨by rfl, fun x hSw => ?hyz2_13⟩) hHeld ?restz2_13
        case hyz2_13 =>
          obtain ⟨b0, b1⟩ := B2.of hSw.1.lg; obtain ⟨c4, c1, c2⟩ := HC x hSw.2
          go_simp
          try with_reducible rfl
        try simp only [Act.put, List.setIfInBounds_toArray, List.set_cons_zero, List.set_cons_succ]
        refine' wpAnyH_take (i := 14) (oi := ({ dst := some 67, op := Op.fieldAddr 49 (Operand.tmp 66) 1, type := 0, pos := "l6_journal.go:411", after := #[{ on := 13, ground := Ground.data }], guard := none } : Oper)) (v := _) rfl (by kernel_rfl) (by kernel_rfl) (by kernel_rfl) (fun _ _ _ h => h) (Or.inl ⟨by rfl, fun x hSw => ?hyz2_14⟩) hHeld ?restz2_14
        case hyz2_14 =>
          obtain ⟨b0, b1⟩ := B2.of hSw.1.lg; obtain ⟨c4, c1, c2⟩ := HC x hSw.2
          go_simp
          try with_reducible rfl
        try simp only [Act.put, List.setIfInBounds_toArray, List.set_cons_zero, List.set_cons_succ]
        refine' wpAnyH_take (i := 15) (oi := ({ dst := some 68, op := Op.load 9 (Operand.tmp 67), type := 9, pos := "l6_journal.go:411", after := #[{ on := 14, ground := Ground.data }], guard := none } : Oper)) (v := _) rfl (by kernel_rfl) (by kernel_rfl) (by kernel_rfl) (fun _ _ _ h => h) (Or.inl ⟨by rfl, fun x hSw => ?hyz2_15⟩) hHeld ?restz2_15
        case hyz2_15 =>
          obtain ⟨b0, b1⟩ := B2.of hSw.1.lg; obtain ⟨c4, c1, c2⟩ := HC x hSw.2
          go_simp
          try with_reducible rfl
        try simp only [Act.put, List.setIfInBounds_toArray, List.set_cons_zero, List.set_cons_succ]
        refine' wpAnyH_take (i := 16) (oi := ({ dst := some 69, op := Op.call { callee := Callee.builtin Builtin.len, args := #[Operand.tmp 68], argTypes := #[9] }, type := 3, pos := "l6_journal.go:411", after := #[{ on := 15, ground := Ground.data }], guard := none } : Oper)) (v := _) rfl (by kernel_rfl) (by kernel_rfl) (by kernel_rfl) (fun _ _ _ h => h) (Or.inl ⟨by rfl, fun x hSw => ?hyz2_16⟩) hHeld ?restz2_16
        case hyz2_16 =>
          obtain ⟨b0, b1⟩ := B2.of hSw.1.lg; obtain ⟨c4, c1, c2⟩ := HC x hSw.2
          go_simp
          try with_reducible rfl
        try simp only [Act.put, List.setIfInBounds_toArray, List.set_cons_zero, List.set_cons_succ]
        refine' wpAnyH_take (i := 17) (oi := ({ dst := some 70, op := Op.binOp BinOp.lss 3 (Operand.tmp 60) (Operand.tmp 69) 3, type := 4, pos := "l6_journal.go:411", after := #[{ on := 7, ground := Ground.data }, { on := 16, ground := Ground.data }], guard := none } : Oper)) (v := _) rfl (by kernel_rfl) (by kernel_rfl) (by kernel_rfl) (fun _ _ _ h => h) (Or.inl ⟨by rfl, fun x hSw => ?hyz2_17⟩) hHeld ?restz2_17
        case hyz2_17 =>
          obtain ⟨b0, b1⟩ := B2.of hSw.1.lg; obtain ⟨c4, c1, c2⟩ := HC x hSw.2
          go_simp
          try with_reducible rfl
        try simp only [Act.put, List.setIfInBounds_toArray, List.set_cons_zero, List.set_cons_succ]
        refine' wpAnyH_take (i := 18) (oi := ({ dst := some 52, op := Op.assign (Operand.tmp 70), type := 4, pos := "l6_journal.go:411", after := #[{ on := 17, ground := Ground.data }], guard := none } : Oper)) (v := _) rfl (by kernel_rfl) (by kernel_rfl) (by kernel_rfl) (fun _ _ _ h => h) (Or.inl ⟨by rfl, fun x hSw => ?hyz2_18⟩) hHeld ?restz2_18
        case hyz2_18 =>
          obtain ⟨b0, b1⟩ := B2.of hSw.1.lg; obtain ⟨c4, c1, c2⟩ := HC x hSw.2
          go_simp
          try with_reducible rfl
        try simp only [Act.put, List.setIfInBounds_toArray, List.set_cons_zero, List.set_cons_succ]
        refine wpAnyH_done (by kernel_rfl) ?_ _
        by_cases hy1 : y < (d.size : Int)
        · have hst := HST0.out
          rw [if_neg hg1, if_pos hy1, run_one] at hst
          have HST : Hid (stS M1 x1 z2 x3 x4 z5 3 (seg l) ByteArray.empty 0 (fdI M1 (seg l)) = (M, y2, y5, yc)) := hst
          clear hst
          have hS4 := hHeld.1
          go_wp2_with (go_at_call 59; refine (iStepE p B M1 x1 z2 x3 x4 z5 3 (seg l) ByteArray.empty 0 (fdI M1 (seg l)) M y2 y5 yc 1048576 _ hS4.d hok1 (by omega) (by omega) (by omega) (seg_ok _) (by decide) (fd_at _ _) HST.out).mono ?_; rintro e w5 ⟨rfl, hD5, hK5⟩)
          go_ret
          exact ⟨rfl, hD5, hS4.k.trans hK5⟩
        · have hst := HST0.out
          rw [if_neg hg1, if_neg hy1] at hst
          simp only [runO, Prod.mk.injEq] at hst
          obtain ⟨rfl, rfl, rfl, rfl⟩ := hst
          go_wp2
          go_ret
          exact ⟨rfl, hHeld.1.d, hHeld.1.k⟩
  · have hR2 := HR.out
    rw [if_neg hc] at hR2
    simp only [Prod.mk.injEq] at hR2
    obtain ⟨rfl, rfl, rfl, rfl⟩ := hR2
    go_wp2
    go_ret
    exact ⟨rfl, hS1.d, hS1.k⟩
end Go.Proofs.YtngppfjphbodcaaGreatDoor
