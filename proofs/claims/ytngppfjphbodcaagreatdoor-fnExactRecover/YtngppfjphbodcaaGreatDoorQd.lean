/-
  Recovery, the specification's side.
-/
import Derived.Test.YtngppfjphbodcaaGreatDoorQg
namespace Go.Proofs.YtngppfjphbodcaaGreatDoor
open Go.RowKit
set_option maxRecDepth 20000 in
set_option maxHeartbeats 16000000 in
theorem sRecGo (b off n c : Nat) (L : List Fil) (hL : L.length = n) (x1 x2 x3 x4 : Int) (w : World) (h : FL w (some ⟨b, off, none⟩) n (nthF L)) (hok : okFs n (nthF L) x1 x2 x3 x4 = true) (hs : sumL L ≤ 1048576) (A : An) (hA : recA L x1 x2 x3 x4 false = A) :
    Calls Tryz.prog 5 #[.agg #[.slice (some ⟨b, off, none⟩) n c, .int .i64 x1, .int .i64 x2, .int .i64 x3, .int .i64 x4, .bool false]] w fun e w' => RDone w w' x1 x3 x4 A e := by
  obtain ⟨hG, ⟨hx10, hx11⟩, ⟨hx20, hx21⟩, hx3, hx4⟩ := (okFs_iff L x1 x2 x3 x4).1 (by rw [hL]; exact hok)
  have hn : n ≤ 300 := by rw [← hL]; exact hG.len
  have hsm : Small n (nthF L) := by rw [← hL]; exact hG.small (by omega)
  have hO6 : Ok6 L x1 x2 1048576 := ⟨hG, hx11, hx20, hx21, hs⟩
  have HL : Hid (L.length = n) := hL
  have HA : Hid (recA L x1 x2 x3 x4 false = A) := hA
  clear hL hA
  obtain ⟨io, hio, ho0, ho1, ho2⟩ := info_parts Tryz.infoOp
  have HIO : Hid (Tryz.prog.info? 53 = some io) := hio
  obtain ⟨i0, hi0, hz0, hz1, hz2⟩ := info_parts Tryz.infoS
  have HI : Hid (Tryz.prog.info? 9 = some i0) := hi0
  clear hio hi0
  have ones4 : ∀ (a d : Int) (b c : ByteArray), ∀ u ∈ [Value.int .i64 a, .string b, .string c, .int .i64 d], u.oneCell' = true := by
    intro a d b c u hu
    simp at hu
    rcases hu with rfl | rfl | rfl | rfl <;> rfl
  have hN := SW.new w (.slice (some ⟨b, off, none⟩) n c) x1 x2 x3 x4 false
  obtain ⟨k0, k1, k2, k3, k4, k5⟩ := B6.of hN.fs
  go_enter Tryz.func5, Tryz.ntmps5
  go_upto_region 4 with (go_at_call 16; refine (sValid _ n c (nthF L) x1 x2 x3 x4 false _ (h.later hN.b) hsm).mono ?_; rw [hok]; rintro e w1 ⟨rfl, hb1⟩)
  have hN1 := hN.later hb1
  clear k0 k1 k2 k3 k4 k5
  obtain ⟨k0, k1, k2, k3, k4, k5⟩ := B6.of hN1.fs
  obtain ⟨kf0, kf1, kf2, kf3, kf4, kf5⟩ := F6.of hN1.fs
  go_upto_region 7 with (go_at_call 17; refine (sCopy b off n c (nthF L) x1 x2 x3 x4 false _ (h.later hN1.b) (by omega)).mono ?_; rintro e w2 ⟨gM, cM, rfl, hM2, hb2⟩; have hN2 := hN1.later hb2; clear k0 k1 k2 k3 k4 k5 kf0 kf1 kf2 kf3 kf4 kf5; obtain ⟨k0, k1, k2, k3, k4, k5⟩ := B6.of hN2.fs; obtain ⟨kf0, kf1, kf2, kf3, kf4, kf5⟩ := F6.of hN2.fs)
  have hO2 : OwnL w2 w.heap.size (.slice (some ⟨gM, 0, none⟩) n cM) L := by
    have h1 := OwnF.wk hM2 hN1.b.size
    have h2 := HL.out
    subst h2
    exact h1.l
  have hH3 : HS w ((((((w2.setCell ⟨w.heap.size, 0, none⟩ (.slice (some ⟨gM, 0, none⟩) n cM)).setCell ⟨w.heap.size, 1, none⟩ (.int .i64 x1)).setCell ⟨w.heap.size, 2, none⟩ (.int .i64 x2)).setCell ⟨w.heap.size, 3, none⟩ (.int .i64 x3)).setCell ⟨w.heap.size, 4, none⟩ (.int .i64 x4)).setCell ⟨w.heap.size, 5, none⟩ (.bool false)) gM n cM L x1 x2 x3 x4 false := ⟨hN2.set (.slice (some ⟨gM, 0, none⟩) n cM) x1 x2 x3 x4 false, keep6 hO2 hN2.fs⟩
  clear hO2 hM2 hN2 hN1 hN hb2 hb1 k0 k1 k2 k3 k4 k5 kf0 kf1 kf2 kf3 kf4 kf5
  generalize ((((((w2.setCell ⟨w.heap.size, 0, none⟩ (.slice (some ⟨gM, 0, none⟩) n cM)).setCell ⟨w.heap.size, 1, none⟩ (.int .i64 x1)).setCell ⟨w.heap.size, 2, none⟩ (.int .i64 x2)).setCell ⟨w.heap.size, 3, none⟩ (.int .i64 x3)).setCell ⟨w.heap.size, 4, none⟩ (.int .i64 x4)).setCell ⟨w.heap.size, 5, none⟩ (.bool false)) = w3 at hH3 ⊢
  clear w2 w1
  have hno := orw_lt hH3.sw.no
  go_upto_region 10 with (fail)
  have hE4 : OwnS (w3.alloc (.cells #[] 9)) (w.heap.size + 1 + 1 + 1 + 1) w3.heap.size 0 [] := (own_nil w3).wk (by omega)
  have hH4 := hH3.later (bal w3 (.cells #[] 9))
  generalize w3.heap.size = gE at hE4 hno ⊢
  generalize w3.alloc (.cells #[] 9) = w4 at hE4 hH4 ⊢
  clear hH3 w3
  refine wp_region_held_drew (S := fun x => HS w x gM n cM L x1 x2 x3 x4 false ∧ OwnS x (w.heap.size + 1 + 1 + 1 + 1) gE 0 []) (by kernel_rfl) (⟨hH4.later (bdrew1 _), hE4.later (bdrew1 _)⟩) (fun hHeld => ?_)
  refine' wpAnyH_take (i := 0) (oi := ({ dst := some 35, op := Op.load 28 (Operand.tmp 1), type := 28, pos := "l6_journal.go:227", after := #[], guard := none } : Oper)) (v := _) rfl (by kernel_rfl) (by kernel_rfl) (by kernel_rfl) (fun _ _ _ h => h) (Or.inl ⟨by rfl, fun x hSw => ?hyz1_0⟩) hHeld ?restz1_0
  case hyz1_0 =>
    obtain ⟨k0, k1, k2, k3, k4, k5⟩ := B6.of hSw.1.sw.fs
    go_simp
    try with_reducible rfl
  try simp only [Act.put, List.setIfInBounds_toArray, List.set_cons_zero, List.set_cons_succ]
  refine wpAnyH_ready (rs := [1]) (by kernel_rfl) (by simp) ?_
  refine AllReadyH.cons (o := ({ dst := some 36, op := Op.call { callee := Callee.value (Operand.func 19), args := #[Operand.const (Value.int IntKind.i64 1)], argTypes := #[3] }, type := 9, pos := "l6_journal.go:227", after := #[], guard := none } : Oper)) rfl (fun K hK => ?_) AllReadyH.nil
  go_simp
  refine (sSegmentE 1 1 rfl _ (by omega) (seg 1) rfl).mono ?_
  rintro e wy ⟨rfl, hby⟩
  refine hK.out _ _ (⟨hHeld.1.later hby, hHeld.2.later hby⟩) (fun hHeld => ?_)
  clear hK K
  try simp only [Act.put, List.setIfInBounds_toArray, List.set_cons_zero, List.set_cons_succ]
  refine wpAnyH_ready (rs := [2]) (by kernel_rfl) (by simp) ?_
  refine AllReadyH.cons (o := ({ dst := some 37, op := Op.call { callee := Callee.value (Operand.func 18), args := #[Operand.tmp 35, Operand.tmp 36], argTypes := #[28, 9] }, type := 3, pos := "l6_journal.go:227", after := #[{ on := 0, ground := Ground.data }, { on := 1, ground := Ground.data }, { on := 1, ground := Ground.chain }], guard := none } : Oper)) rfl (fun K hK => ?_) AllReadyH.nil
  go_simp
  refine (sFindE gM n cM L HL.out x1 x2 x3 x4 false (seg 1) _ (hHeld.1.fl HL.out) hn _ rfl).mono ?_
  rintro e w5 ⟨rfl, hb5⟩
  refine hK.out _ _ (⟨hHeld.1.later hb5, hHeld.2.later hb5⟩) (fun hHeld => ?_)
  clear hK K
  try simp only [Act.put, List.setIfInBounds_toArray, List.set_cons_zero, List.set_cons_succ]
  refine' wpAnyH_take (i := 3) (oi := ({ dst := some 10, op := Op.assign (Operand.tmp 37), type := 3, pos := "l6_journal.go:227", after := #[{ on := 2, ground := Ground.data }, { on := 2, ground := Ground.chain }, { on := 0, ground := Ground.phase }, { on := 1, ground := Ground.phase }, { on := 2, ground := Ground.phase }], guard := none } : Oper)) (v := _) rfl (by kernel_rfl) (by kernel_rfl) (by kernel_rfl) (fun _ _ _ h => h) (Or.inl ⟨by rfl, fun x hSw => ?hyz1_3⟩) hHeld ?restz1_3
  case hyz1_3 =>
    obtain ⟨k0, k1, k2, k3, k4, k5⟩ := B6.of hSw.1.sw.fs
    go_simp
    try with_reducible rfl
  try simp only [Act.put, List.setIfInBounds_toArray, List.set_cons_zero, List.set_cons_succ]
  refine wpAnyH_done (by kernel_rfl) ?_ _
  have hR0 := ReadI.start L (by rw [HL.out]; exact hn)
  generalize fdI L (seg 1) = at0 at hR0 ⊢
  go_wp2
  go_loopw [7, 8, 9, 10] (fun ev lv gv av wr => ∃ (E : List ByteArray) (l g gE cE : Nat) (at_ : Int), ev = .slice (some ⟨gE, 0, none⟩) E.length cE ∧ lv = .int .i64 (l : Int) ∧ gv = .int .i64 (g : Int) ∧ av = .int .i64 at_ ∧ ReadI L l E g at_ ∧ l ≤ 300 ∧ E.length ≤ l * 1048576 ∧ OwnS wr (w.heap.size + 1 + 1 + 1 + 1) gE cE E ∧ HS w wr gM n cM L x1 x2 x3 x4 false) (fun _ lv _ av _ => mu1 av lv)
  case atStart => exact ⟨[], 0, 0, gE, 0, at0, rfl, rfl, rfl, rfl, hR0, by omega, by simp, hHeld.2, hHeld.1⟩
  case round =>
    clear hHeld hR0 hH4 hE4
    obtain ⟨E, l, g, gE, cE, at_, rfl, rfl, rfl, rfl, hR, hl3, hEl, hE, hH⟩ := hrel
    rcases hR with ⟨rfl, hrd⟩ | ⟨rfl, hfd, f, hrf, hab, habl⟩
    · clear hEl
      have hS := hH.sw
      have hO := hH.own

      by_cases hm : 2000 < E.length
      · have hm1 : (2000 : Int) < (E.length : Int) := by omega
        obtain ⟨k0, k1, k2, k3, k4, k5⟩ := B6.of hS.fs
        obtain ⟨kf0, kf1, kf2, kf3, kf4, kf5⟩ := F6.of hS.fs
        obtain ⟨p0, p1, p2, p3, p4, p5⟩ := B6.of hS.r1
        obtain ⟨q0, q1, q2, q3, q4, q5⟩ := F6.of hS.r1
        obtain ⟨r0, r1⟩ := B2.of hS.r2
        obtain ⟨s0, s1⟩ := F2.of hS.r2
        go_wp2
        refine bodyPost_ret (results_c2t2 Tryz.results5 _ _ (w.heap.size + 1) 28 _ (0, 0) _ rfl (fin8 _ _ _ _ _ _ _ _ hS.r1 (by omega)) Tryz.underlying28 rfl (by kernel_rfl) (w.heap.size + 1 + 1) 30 _ (0, 0) _ rfl (fin9 _ _ _ _ _ _ _ _ hS.r2 (by omega)) Tryz.underlying30 rfl (by kernel_rfl)) rfl ?_
        have hL := HL.out
        subst hL
        rw [← HA.out, recA_many hrd hm]
        exact hS.done hO hS.no 0 0 22 _ _ _ _ _ _ _ _
      · have hm1 : ¬ (2000 : Int) < (E.length : Int) := by omega
        obtain ⟨k0, k1, k2, k3, k4, k5⟩ := B6.of hS.fs
        have hKb := keepB (bal wr (.cells #[] 53)) k0
        have hno' := orw_lt hS.no
        go_wp2
        go_loopw [13, 14] (fun ov iv wr => ∃ (i : Nat) (O : List Op3) (gO cO : Nat), i ≤ n ∧ iv = .int .i64 ((i : Int) - 1) ∧ ov = .slice (some ⟨gO, 0, none⟩) O.length cO ∧ O ++ delO (L.take i) l = delO L l ∧ O.length + i ≤ n ∧ OwnO wr (w.heap.size + 1 + 1 + 1 + 1) gO cO O ∧ OwnS wr (w.heap.size + 1 + 1 + 1 + 1) gE cE E ∧ HS w wr gM n cM L x1 x2 x3 x4 false) (fun _ iv _ => (intOf iv + 1).toNat)
        case atStart => exact ⟨n, [], wr.heap.size, 0, Nat.le_refl _, by go_num, rfl, by rw [← HL.out, List.take_length]; rfl, by simp, orw_wk (OwnO.new wr) (by omega), hE.later (bal _ _), hH.later (bal _ _)⟩
        case round =>
          clear hE hH hS hO k0 k1 k2 k3 k4 k5 hKb hno'
          obtain ⟨i, O, gO, cO, hi, rfl, rfl, hO1, hOl, hOO, hE2, hH2⟩ := hrel
          cases i with
          | zero =>
            have hOd : O = delO L l := by
              rw [← hO1, del_zero, List.append_nil]
            have HOd : Hid (O = delO L l) := hOd
            clear hO1 hOd
            have hsz := hH2.sw.b.size
            have hno2 := orw_lt hH2.sw.no
            have hgO := orw_in hOO
            by_cases hl0 : l = 0
            · subst hl0
              go_upto_region 35 with (first | (go_at_call 19; refine (sSegmentE 1 1 rfl _ (by omega) (seg 1) rfl).mono ?_; rintro e w1 ⟨rfl, hb1⟩; have hO3 := hOO.later hb1; have hsz1 := hb1.size) | (at_builtin; refine wpList_append_lies _ rfl _ _ _ rfl (w.heap.size + 1 + 1 + 1 + 1) 53 io _ 4 48 Tryz.underlying50 HIO.out ho0 ho1 ho2 rfl (by omega) (.slice (some ⟨gO, 0, none⟩) O.length cO) O.length _ rfl (own_below hO3 (bal _ _)) ⟨w1.heap.size, 0, none⟩ 1 1 [.int .i64 1, .string (seg 1), .string ByteArray.empty, .int .i64 0] rfl rfl (World.news_of_block (heap_alloc_new w1 (.cells #[.int .i64 1, .string (seg 1), .string ByteArray.empty, .int .i64 0] 53))) (ones4 _ _ _ _) (by omega) (by unfold maxLen; omega) (by omega) (by simp; omega) _ rfl ?_; intro g1 cap1 w2 hown2 hgrow hat hlt1))
              have hH3 := hH2.later hb1
              have hE3 := hE2.later hb1
              obtain ⟨X, hX⟩ := (orw_in hO3).2
              have hX2 := rowL hX (bal w1 (.cells #[.int .i64 1, .string (seg 1), .string ByteArray.empty, .int .i64 0] 53))
              have hH4 := (hH3.later (bal _ _)).grown (q := gO) hgrow (by omega) hX2 (by decide)
              have hE4 : OwnS w2 (w.heap.size + 1 + 1 + 1 + 1) gE cE E := orw_grown (hE3.later (bal _ _)) hgrow (fun e => orw_ne (hE3.later (bal _ _)) hX2 (by decide) (Option.some.inj e))
              obtain ⟨O2, hO2⟩ : ∃ O2, O ++ [⟨1, seg 1, 0⟩] = O2 := ⟨_, rfl⟩
              have hO4 : OwnO w2 (w.heap.size + 1 + 1 + 1 + 1) g1 cap1 O2 := by rw [← hO2]; exact OwnO.snoc (o := ⟨1, seg 1, 0⟩) hown2
              obtain ⟨N, hN⟩ : ∃ N, O.length + 1 = N := ⟨_, rfl⟩
              rw [hN]
              have HN : Hid (O2.length = N) := by show _ = _; rw [← hO2, ← hN]; simp
              have hN4 : N ≤ 302 := by omega
              have HR : Hid (delO L 0 ++ tailO L 0 g = O2) := by show _ = _; rw [← hO2, HOd.out]; rfl
              have HOK : Hid (OkO O2) := by show OkO O2; rw [← HR.out]; exact (del_ok hG _).app (tail_ok _ _ _)
              clear hX hX2 hown2 hgrow hat hlt1 hH3 hE3 hO3 hO2 hN
              have HMX : Hid (max 0 1 = 1) := rfl
              go_wp2
              go_loopw [17, 18, 19, 154] (fun _ _ _ iv wr => ∃ (q gM cM : Nat) (M : List Fil) (z2 : Int) (z5 : Bool), q ≤ N ∧ iv = .int .i64 (q : Int) ∧ HS w wr gM M.length cM M x1 z2 x3 x4 z5 ∧ Ok6 M x1 z2 1048576 ∧ Hid (runO x1 x3 x4 (O2.drop q) M z2 z5 = runO x1 x3 x4 O2 L x2 false) ∧ OwnS wr (w.heap.size + 1 + 1 + 1 + 1) gE cE E ∧ OwnO wr (w.heap.size + 1 + 1 + 1 + 1) g1 cap1 O2) (fun _ _ _ iv _ => N - (intOf iv).toNat)
              case atStart => exact ⟨0, gM, cM, L, x2, false, by omega, rfl, by rw [HL.out]; exact hH4, hO6, rfl, hE4, hO4⟩
              case round =>
                clear hH4 hE4 hO4
                obtain ⟨q, gN, cN, M, z2, z5, hq, rfl, hH5, hOk, HRun, hE5, hO5⟩ := hrel
                by_cases hqN : q < N
                · have hqi : (q : Int) < (N : Int) := by omega
                  have hq0 : (0 : Int) ≤ (q : Int) := by omega
                  obtain ⟨o, ho⟩ : ∃ o, O2[q]'(by rw [HN.out]; exact hqN) = o := ⟨_, rfl⟩
                  obtain ⟨o0, o1, o2, o3⟩ := own_op hO5 q (by rw [HN.out]; exact hqN)
                  rw [ho] at o0 o1 o3
                  obtain ⟨hk1, hk5, hnm⟩ := HOK.out o (by rw [← ho]; exact List.getElem_mem _)
                  have HD : Hid (O2.drop q = o :: O2.drop (q + 1)) := by show _ = _; rw [List.drop_eq_getElem_cons (by rw [HN.out]; exact hqN), ho]
                  clear ho
                  obtain ⟨kd, nm, sz⟩ := o
                  simp only at o0 o1 o3 hk1 hk5 hnm
                  obtain ⟨M', y2, y5, zc, hst⟩ : ∃ M' y2 y5 zc, stS M x1 z2 x3 x4 z5 kd nm ByteArray.empty sz (fdI M nm) = (M', y2, y5, zc) := ⟨_, _, _, _, rfl⟩
                  have hOk2 : Ok6 M' x1 y2 1048576 := hOk.step (fd_at M nm) hnm hst
                  have HST : Hid (stS M x1 z2 x3 x4 z5 kd nm ByteArray.empty sz (fdI M nm) = (M', y2, y5, zc)) := hst
                  clear hst
                  have hsz5 := hH5.sw.b.size
                  have hno5 := orw_lt hH5.sw.no
                  obtain ⟨k0, k1, k2, k3, k4, k5⟩ := B6.of hH5.sw.fs
                  go_upto_region 38 with (fail)
                  have hQ := heap_alloc_new wr (.cells #[.int .i64 kd, .string nm, .string ByteArray.empty, .int .i64 sz] 53)
                  have hb6 := bal wr (.cells #[.int .i64 kd, .string nm, .string ByteArray.empty, .int .i64 sz] 53)
                  have hH6 := hH5.later hb6
                  have hE6 := hE5.later hb6
                  have hO6' := hO5.later hb6
                  clear k0 k1 k2 k3 k4 k5 o0 o1 o2 o3 hb6 hH5 hE5 hO5
                  generalize wr.heap.size = Bq at hQ ⊢
                  generalize wr.alloc (.cells #[.int .i64 kd, .string nm, .string ByteArray.empty, .int .i64 sz] 53) = w6 at hQ hH6 hE6 hO6' ⊢
                  obtain ⟨k0, k1, k2, k3, k4, k5⟩ := B6.of hH6.sw.fs
                  obtain ⟨t0, t1, t2, t3⟩ := B4.of hQ
                  go_upto_region 39 with (go_at_call 22; refine (sStepE gN 0 cN M x1 z2 x3 x4 z5 kd nm ByteArray.empty sz (fdI M nm) M' y2 y5 zc 1048576 _ hH6.own.f.fl hOk (by omega) hk1 hk5 hnm (by decide) hx3 hx4 (fd_at M nm) HST.out).mono ?_; rintro e w7 ⟨gR, cR, rfl, hOR, hb7⟩)
                  have hQ7 := heap_alloc_new w7 (.cells #[.slice (some ⟨gR, 0, none⟩) M'.length cR, .int .i64 x1, .int .i64 y2, .int .i64 x3, .int .i64 x4, .bool y5] 28)
                  have hb8 := bstep hb7 (bal w7 (.cells #[.slice (some ⟨gR, 0, none⟩) M'.length cR, .int .i64 x1, .int .i64 y2, .int .i64 x3, .int .i64 x4, .bool y5] 28))
                  have hS8 := hH6.sw.later hb8
                  have hE8 := hE6.later hb8
                  have hO8 := hO6'.later hb8
                  have hM8 := (hOR.wk hH6.sw.b.size).later (bal w7 (.cells #[.slice (some ⟨gR, 0, none⟩) M'.length cR, .int .i64 x1, .int .i64 y2, .int .i64 x3, .int .i64 x4, .bool y5] 28))
                  clear k0 k1 k2 k3 k4 k5 t0 t1 t2 t3 hQ hb8 hb7 hOR hH6 hE6 hO6'
                  generalize w7.heap.size = Bt at hQ7 ⊢
                  generalize w7.alloc (.cells #[.slice (some ⟨gR, 0, none⟩) M'.length cR, .int .i64 x1, .int .i64 y2, .int .i64 x3, .int .i64 x4, .bool y5] 28) = w8 at hQ7 hS8 hE8 hO8 hM8 ⊢
                  obtain ⟨k0, k1, k2, k3, k4, k5⟩ := B6.of hS8.fs
                  obtain ⟨kf0, kf1, kf2, kf3, kf4, kf5⟩ := F6.of hS8.fs
                  obtain ⟨t0, t1, t2, t3, t4, t5⟩ := B6.of hQ7
                  go_upto_region 40 with (fail)
                  have hS9 := hS8.set (.slice (some ⟨gR, 0, none⟩) M'.length cR) x1 y2 x3 x4 y5
                  have hE9 := orw_set6 hE8 (orw_ne hE8 hS8.fs (by decide)) (.slice (some ⟨gR, 0, none⟩) M'.length cR) (.int .i64 x1) (.int .i64 y2) (.int .i64 x3) (.int .i64 x4) (.bool y5)
                  have hO9 := orw_set6 hO8 (orw_ne hO8 hS8.fs (by decide)) (.slice (some ⟨gR, 0, none⟩) M'.length cR) (.int .i64 x1) (.int .i64 y2) (.int .i64 x3) (.int .i64 x4) (.bool y5)
                  have hM9 : OwnL ((((((w8.setCell ⟨w.heap.size, 0, none⟩ (.slice (some ⟨gR, 0, none⟩) M'.length cR)).setCell ⟨w.heap.size, 1, none⟩ (.int .i64 x1)).setCell ⟨w.heap.size, 2, none⟩ (.int .i64 y2)).setCell ⟨w.heap.size, 3, none⟩ (.int .i64 x3)).setCell ⟨w.heap.size, 4, none⟩ (.int .i64 x4)).setCell ⟨w.heap.size, 5, none⟩ (.bool y5)) w.heap.size (.slice (some ⟨gR, 0, none⟩) M'.length cR) M' := keep6 hM8 hS8.fs
                  clear k0 k1 k2 k3 k4 k5 kf0 kf1 kf2 kf3 kf4 kf5 t0 t1 t2 t3 t4 t5 hQ7 hS8 hE8 hO8 hM8
                  generalize ((((((w8.setCell ⟨w.heap.size, 0, none⟩ (.slice (some ⟨gR, 0, none⟩) M'.length cR)).setCell ⟨w.heap.size, 1, none⟩ (.int .i64 x1)).setCell ⟨w.heap.size, 2, none⟩ (.int .i64 y2)).setCell ⟨w.heap.size, 3, none⟩ (.int .i64 x3)).setCell ⟨w.heap.size, 4, none⟩ (.int .i64 x4)).setCell ⟨w.heap.size, 5, none⟩ (.bool y5)) = w9 at hS9 hE9 hO9 hM9 ⊢
                  by_cases hc : zc = 0
                  · subst hc
                    go_wp2
                    go_roundw
                    case rel => exact ⟨q + 1, gR, cR, M', y2, y5, by omega, by go_num, ⟨hS9, hM9⟩, hOk2, by
                      show _ = _
                      rw [← HRun.out, HD.out]
                      exact (run_go (o := ⟨kd, nm, sz⟩) HST.out).symm, hE9, hO9⟩
                    case measure => first | (simp [intOf]; done) | (simp [intOf]; omega)
                  · have HC : Hid (zc ≠ 0) := hc
                    obtain ⟨k0, k1, k2, k3, k4, k5⟩ := B6.of hS9.fs
                    obtain ⟨kf0, kf1, kf2, kf3, kf4, kf5⟩ := F6.of hS9.fs
                    obtain ⟨p0, p1, p2, p3, p4, p5⟩ := B6.of hS9.r1
                    obtain ⟨q0, q1, q2, q3, q4, q5⟩ := F6.of hS9.r1
                    obtain ⟨r0, r1⟩ := B2.of hS9.r2
                    obtain ⟨s0, s1⟩ := F2.of hS9.r2
                    go_wp2
                    refine bodyPost_ret (results_c2t2 Tryz.results5 _ _ (w.heap.size + 1) 28 _ (0, 0) _ rfl (fin8 _ _ _ _ _ _ _ _ hS9.r1 (by omega)) Tryz.underlying28 rfl (by kernel_rfl) (w.heap.size + 1 + 1) 30 _ (0, 0) _ rfl (fin9 _ _ _ _ _ _ _ _ hS9.r2 (by omega)) Tryz.underlying30 rfl (by kernel_rfl)) rfl ?_
                    have hrun := HRun.out
                    rw [HD.out, run_stop (o := ⟨kd, nm, sz⟩) HST.out HC.out] at hrun
                    rw [← HA.out, recA_code hrd hm (by rw [HR.out]; exact hrun.symm) HC.out]
                    exact hS9.done hM9 hS9.no 0 0 zc _ _ _ _ _ _ _ _
                · obtain rfl : q = N := by omega
                  obtain ⟨k0, k1, k2, k3, k4, k5⟩ := B6.of hH5.sw.fs
                  obtain ⟨kf0, kf1, kf2, kf3, kf4, kf5⟩ := F6.of hH5.sw.fs
                  obtain ⟨p0, p1, p2, p3, p4, p5⟩ := B6.of hH5.sw.r1
                  obtain ⟨q0, q1, q2, q3, q4, q5⟩ := F6.of hH5.sw.r1
                  obtain ⟨r0, r1⟩ := B2.of hH5.sw.r2
                  obtain ⟨s0, s1⟩ := F2.of hH5.sw.r2
                  have hE5' := hE5.wk (B' := w.heap.size) (by omega)
                  go_wp2
                  refine bodyPost_ret (results_c2t2 Tryz.results5 _ _ (w.heap.size + 1) 28 _ (0, 0) _ rfl (fin8 _ _ _ _ _ _ _ _ hH5.sw.r1 (by omega)) Tryz.underlying28 rfl (by kernel_rfl) (w.heap.size + 1 + 1) 30 _ (0, 0) _ rfl (fin9 _ _ _ _ _ _ _ _ hH5.sw.r2 (by omega)) Tryz.underlying30 rfl (by kernel_rfl)) rfl ?_
                  have hrun := HRun.out
                  rw [← HN.out, List.drop_length] at hrun
                  rw [← HA.out, recA_ok hrd hm (by rw [HR.out]; exact hrun.symm), HMX.out]
                  exact hH5.sw.done hH5.own hE5' 1 (g : Int) 0 _ _ _ _ _ _ _ _
            · have hl0i : ¬ (l : Int) = 0 := by omega
              have hRd := rd_is L (by rw [HL.out]; exact hn)
              rw [hrd] at hRd
              obtain ⟨hfd, -⟩ := hRd.pos (by show 1 ≤ l; omega)
              have hfd : fdN L (seg l) < L.length := hfd
              clear hRd
              obtain ⟨k, hk⟩ : ∃ k, fdN L (seg l) = k := ⟨_, rfl⟩
              have hkn : k < n := by rw [← hk, ← HL.out]; exact hfd
              have hfk : fdI L (seg l) = (k : Int) := by rw [fd_of hfd, hk]
              have hkm : (nthF L k).s = seg l := by rw [← hk]; exact fdN_at L (seg l) hfd
              obtain ⟨d, hd⟩ : ∃ d, (nthF L k).d = d := ⟨_, rfl⟩
              obtain ⟨y, hy⟩ : ∃ y, (nthF L k).y = y := ⟨_, rfl⟩
              have HT : Hid (tailO L l g = if g < d.size then [⟨4, seg l, (g : Int)⟩] else if y < (d.size : Int) then [⟨3, seg l, 0⟩] else []) := by
                show _ = _
                unfold tailO
                rw [if_neg hl0, hk, hd, hy]
              have hds : d.size ≤ 1048576 := by rw [← hd]; exact Nat.le_trans (sumL_one L k (by rw [HL.out]; exact hkn)) hs
              have HMX : Hid (max l 1 = l) := by show _ = _; omega
              have hk0 : (0 : Int) ≤ (k : Int) := by omega
              have hk1 : (k : Int) < (n : Int) := by omega
              clear hfd hk
              go_upto_region 30 with (fail)
              refine' cut2 (F := fun v B => HS w v gM n cM L x1 x2 x3 x4 false ∧ OwnS v (w.heap.size + 1 + 1 + 1 + 1) gE cE E ∧ OwnO v (w.heap.size + 1 + 1 + 1 + 1) gO cO O ∧ v.heap[B]? = some (.cells #[.string (seg l), .string d, .int .i64 y] 49 (0, 0))) _ ?main ?rest
              case main =>
                intro H
                refine wp_region_held_drew (S := fun x => Below wr.heap.size wr x) (by kernel_rfl) (bdrew1 _) (fun hHeld => ?_)
                generalize wr.drew = v at hHeld ⊢
                refine' wpAnyH_take (i := 0) (oi := ({ dst := some 118, op := Op.fieldAddr 28 (Operand.tmp 1) 0, type := 0, pos := "l6_journal.go:250", after := #[], guard := none } : Oper)) (v := _) rfl (by kernel_rfl) (by kernel_rfl) (by kernel_rfl) (fun _ _ _ h => h) (Or.inl ⟨by rfl, fun x hSw => ?hyw1_1⟩) hHeld ?restw1_1
                case hyw1_1 =>
                  obtain ⟨k0, k1, k2, k3, k4, k5⟩ := B6.of (hH2.later hSw).sw.fs; obtain ⟨c0, c1, c2⟩ := (hH2.later hSw).file HL.out k hkn; rw [hkm] at c0; rw [hd] at c1; rw [hy] at c2
                  go_simp
                  try with_reducible rfl
                try simp only [Act.put, List.setIfInBounds_toArray, List.set_cons_zero, List.set_cons_succ]
                refine' wpAnyH_take (i := 1) (oi := ({ dst := some 119, op := Op.load 26 (Operand.tmp 118), type := 26, pos := "l6_journal.go:250", after := #[{ on := 0, ground := Ground.data }], guard := none } : Oper)) (v := _) rfl (by kernel_rfl) (by kernel_rfl) (by kernel_rfl) (fun _ _ _ h => h) (Or.inl ⟨by rfl, fun x hSw => ?hyw1_2⟩) hHeld ?restw1_2
                case hyw1_2 =>
                  obtain ⟨k0, k1, k2, k3, k4, k5⟩ := B6.of (hH2.later hSw).sw.fs; obtain ⟨c0, c1, c2⟩ := (hH2.later hSw).file HL.out k hkn; rw [hkm] at c0; rw [hd] at c1; rw [hy] at c2
                  go_simp
                  try with_reducible rfl
                try simp only [Act.put, List.setIfInBounds_toArray, List.set_cons_zero, List.set_cons_succ]
                refine' wpAnyH_take (i := 2) (oi := ({ dst := some 120, op := Op.load 28 (Operand.tmp 1), type := 28, pos := "l6_journal.go:250", after := #[], guard := none } : Oper)) (v := _) rfl (by kernel_rfl) (by kernel_rfl) (by kernel_rfl) (fun _ _ _ h => h) (Or.inl ⟨by rfl, fun x hSw => ?hyw1_3⟩) hHeld ?restw1_3
                case hyw1_3 =>
                  obtain ⟨k0, k1, k2, k3, k4, k5⟩ := B6.of (hH2.later hSw).sw.fs; obtain ⟨c0, c1, c2⟩ := (hH2.later hSw).file HL.out k hkn; rw [hkm] at c0; rw [hd] at c1; rw [hy] at c2
                  go_simp
                  try with_reducible rfl
                try simp only [Act.put, List.setIfInBounds_toArray, List.set_cons_zero, List.set_cons_succ]
                refine' wpAnyH_take (i := 3) (oi := ({ dst := some 121, op := Op.move (Operand.tmp 8), type := 3, pos := "l6_journal.go:250", after := #[], guard := none } : Oper)) (v := _) rfl (by kernel_rfl) (by kernel_rfl) (by kernel_rfl) (fun _ _ _ h => h) (Or.inl ⟨by rfl, fun x hSw => ?hyw1_4⟩) hHeld ?restw1_4
                case hyw1_4 =>
                  obtain ⟨k0, k1, k2, k3, k4, k5⟩ := B6.of (hH2.later hSw).sw.fs; obtain ⟨c0, c1, c2⟩ := (hH2.later hSw).file HL.out k hkn; rw [hkm] at c0; rw [hd] at c1; rw [hy] at c2
                  go_simp
                  try with_reducible rfl
                try simp only [Act.put, List.setIfInBounds_toArray, List.set_cons_zero, List.set_cons_succ]
                refine wpAnyH_ready (rs := [4, 8]) (by kernel_rfl) (by simp) ?_
                refine (AllReadyH.cons (o := ({ dst := some 122, op := Op.call { callee := Callee.value (Operand.func 19), args := #[Operand.tmp 121], argTypes := #[3] }, type := 9, pos := "l6_journal.go:250", after := #[{ on := 3, ground := Ground.data }], guard := none } : Oper)) rfl (fun K hK => ?w1_c2) (AllReadyH.cons (o := ({ dst := some 15, op := Op.alloc 49, type := 0, pos := "l6_journal.go:250", after := #[], guard := none } : Oper)) rfl (fun K hK => ?w1_c1) AllReadyH.nil))
                case' w1_c2 =>
                 go_simp
                 refine (sSegmentE l _ rfl _ (by omega) (seg l) rfl).mono ?_
                 rintro e v ⟨rfl, hby⟩
                 refine hK.out _ _ (bstep hHeld hby) (fun hHeld => ?_)
                 clear hK K
                 try simp only [Act.put, List.setIfInBounds_toArray, List.set_cons_zero, List.set_cons_succ]
                 refine wpAnyH_ready (rs := [5, 8]) (by kernel_rfl) (by simp) ?_
                 refine (AllReadyH.cons (o := ({ dst := some 123, op := Op.call { callee := Callee.value (Operand.func 18), args := #[Operand.tmp 120, Operand.tmp 122], argTypes := #[28, 9] }, type := 3, pos := "l6_journal.go:250", after := #[{ on := 2, ground := Ground.data }, { on := 4, ground := Ground.data }, { on := 4, ground := Ground.chain }], guard := none } : Oper)) rfl (fun K hK => ?w1_c4) (AllReadyH.cons (o := ({ dst := some 15, op := Op.alloc 49, type := 0, pos := "l6_journal.go:250", after := #[], guard := none } : Oper)) rfl (fun K hK => ?w1_c3) AllReadyH.nil))
                 case' w1_c4 =>
                  go_simp
                  refine (sFindE gM n cM L HL.out x1 x2 x3 x4 false (seg l) _ ((hH2.later hHeld).fl HL.out) hn _ hfk).mono ?_
                  rintro e v ⟨rfl, hby⟩
                  refine hK.out _ _ (bstep hHeld hby) (fun hHeld => ?_)
                  clear hK K
                  try simp only [Act.put, List.setIfInBounds_toArray, List.set_cons_zero, List.set_cons_succ]
                  refine' wpAnyH_take (i := 6) (oi := ({ dst := some 124, op := Op.indexAddr 26 (Operand.tmp 119) (Operand.tmp 123), type := 0, pos := "l6_journal.go:250", after := #[{ on := 1, ground := Ground.data }, { on := 5, ground := Ground.data }], guard := none } : Oper)) (v := _) rfl (by kernel_rfl) (by kernel_rfl) (by kernel_rfl) (fun _ _ _ h => h) (Or.inl ⟨by rfl, fun x hSw => ?hyw1_5⟩) hHeld ?restw1_5
                  case hyw1_5 =>
                    obtain ⟨k0, k1, k2, k3, k4, k5⟩ := B6.of (hH2.later hSw).sw.fs; obtain ⟨c0, c1, c2⟩ := (hH2.later hSw).file HL.out k hkn; rw [hkm] at c0; rw [hd] at c1; rw [hy] at c2
                    go_simp
                    try with_reducible rfl
                  try simp only [Act.put, List.setIfInBounds_toArray, List.set_cons_zero, List.set_cons_succ]
                  refine' wpAnyH_take (i := 7) (oi := ({ dst := some 125, op := Op.load 49 (Operand.tmp 124), type := 49, pos := "l6_journal.go:250", after := #[{ on := 6, ground := Ground.data }], guard := none } : Oper)) (v := _) rfl (by kernel_rfl) (by kernel_rfl) (by kernel_rfl) (fun _ _ _ h => h) (Or.inl ⟨by rfl, fun x hSw => ?hyw1_6⟩) hHeld ?restw1_6
                  case hyw1_6 =>
                    obtain ⟨k0, k1, k2, k3, k4, k5⟩ := B6.of (hH2.later hSw).sw.fs; obtain ⟨c0, c1, c2⟩ := (hH2.later hSw).file HL.out k hkn; rw [hkm] at c0; rw [hd] at c1; rw [hy] at c2
                    go_simp
                    try with_reducible rfl
                  try simp only [Act.put, List.setIfInBounds_toArray, List.set_cons_zero, List.set_cons_succ]
                  refine wpAnyH_ready (rs := [8]) (by kernel_rfl) (by simp) ?_
                  refine AllReadyH.cons (o := ({ dst := some 15, op := Op.alloc 49, type := 0, pos := "l6_journal.go:250", after := #[], guard := none } : Oper)) rfl (fun K hK => ?_) AllReadyH.nil
                  have hqB := heap_alloc_new v (.cells #[.string { data := #[] }, .string { data := #[] }, .int .i64 0] 49)
                  have hbB := bal v (.cells #[.string { data := #[] }, .string { data := #[] }, .int .i64 0] 49)
                  have hsB := hHeld.size
                  go_simp
                  refine hK.out _ _ (bstep hHeld (bal _ _)) (fun hHeld => ?_)
                  clear hK K
                  try simp only [Act.put, List.setIfInBounds_toArray, List.set_cons_zero, List.set_cons_succ]
                  generalize v.heap.size = BB at hqB hsB ⊢
                  generalize v.alloc (.cells #[.string { data := #[] }, .string { data := #[] }, .int .i64 0] 49) = v at hqB hbB  hHeld ⊢
                  clear hbB
                  refine wpAnyH_ready (rs := [9]) (by kernel_rfl) (by simp) ?_
                  refine AllReadyH.cons (o := ({ dst := none, op := Op.store 49 (Operand.tmp 15) (Operand.tmp 125), type := 0, pos := "l6_journal.go:250", after := #[{ on := 8, ground := Ground.data }, { on := 7, ground := Ground.data }, { on := 5, ground := Ground.chain }, { on := 0, ground := Ground.phase }, { on := 1, ground := Ground.phase }, { on := 2, ground := Ground.phase }, { on := 3, ground := Ground.phase }, { on := 4, ground := Ground.phase }, { on := 5, ground := Ground.phase }, { on := 6, ground := Ground.phase }, { on := 7, ground := Ground.phase }, { on := 8, ground := Ground.phase }], guard := none } : Oper)) rfl (fun K hK => ?_) AllReadyH.nil
                  obtain ⟨z0, z1, z2⟩ := B3.of hqB
                  have y0 := frozen_of_row _ _ 0 _ _ hqB
                  have y1 := frozen_of_row _ _ 1 _ _ hqB
                  have y2 := frozen_of_row _ _ 2 _ _ hqB
                  go_simp
                  refine hK.out _ _ (bset (bset (bset hHeld hsB) hsB) hsB) (fun hHeld => ?_)
                  clear hK K
                  try simp only [Act.put, List.setIfInBounds_toArray, List.set_cons_zero, List.set_cons_succ]
                  replace hqB := set3_row (.string (seg l)) (.string d) (.int .i64 y) hqB
                  clear z0 z1 z2 y0 y1 y2
                  generalize (((v.setCell ⟨BB, 0, none⟩ (.string (seg l))).setCell ⟨BB, 1, none⟩ (.string d)).setCell ⟨BB, 2, none⟩ (.int .i64 y)) = v at hqB hHeld ⊢
                  refine wpAnyH_done (by kernel_rfl) ?_ _
                 case' w1_c3 =>
                  have hqB := heap_alloc_new v (.cells #[.string { data := #[] }, .string { data := #[] }, .int .i64 0] 49)
                  have hbB := bal v (.cells #[.string { data := #[] }, .string { data := #[] }, .int .i64 0] 49)
                  have hsB := hHeld.size
                  go_simp
                  refine hK.out _ _ (bstep hHeld (bal _ _)) (fun hHeld => ?_)
                  clear hK K
                  try simp only [Act.put, List.setIfInBounds_toArray, List.set_cons_zero, List.set_cons_succ]
                  generalize v.heap.size = BB at hqB hsB ⊢
                  generalize v.alloc (.cells #[.string { data := #[] }, .string { data := #[] }, .int .i64 0] 49) = v at hqB hbB  hHeld ⊢
                  clear hbB
                  refine wpAnyH_ready (rs := [5]) (by kernel_rfl) (by simp) ?_
                  refine AllReadyH.cons (o := ({ dst := some 123, op := Op.call { callee := Callee.value (Operand.func 18), args := #[Operand.tmp 120, Operand.tmp 122], argTypes := #[28, 9] }, type := 3, pos := "l6_journal.go:250", after := #[{ on := 2, ground := Ground.data }, { on := 4, ground := Ground.data }, { on := 4, ground := Ground.chain }], guard := none } : Oper)) rfl (fun K hK => ?_) AllReadyH.nil
                  go_simp
                  refine (sFindE gM n cM L HL.out x1 x2 x3 x4 false (seg l) _ ((hH2.later hHeld).fl HL.out) hn _ hfk).mono ?_
                  rintro e v ⟨rfl, hby⟩
                  refine hK.out _ _ (bstep hHeld hby) (fun hHeld => ?_)
                  clear hK K
                  try simp only [Act.put, List.setIfInBounds_toArray, List.set_cons_zero, List.set_cons_succ]
                  replace hqB := rowL hqB hby
                  refine' wpAnyH_take (i := 6) (oi := ({ dst := some 124, op := Op.indexAddr 26 (Operand.tmp 119) (Operand.tmp 123), type := 0, pos := "l6_journal.go:250", after := #[{ on := 1, ground := Ground.data }, { on := 5, ground := Ground.data }], guard := none } : Oper)) (v := _) rfl (by kernel_rfl) (by kernel_rfl) (by kernel_rfl) (fun _ _ _ h => h) (Or.inl ⟨by rfl, fun x hSw => ?hyw1_7⟩) hHeld ?restw1_7
                  case hyw1_7 =>
                    obtain ⟨k0, k1, k2, k3, k4, k5⟩ := B6.of (hH2.later hSw).sw.fs; obtain ⟨c0, c1, c2⟩ := (hH2.later hSw).file HL.out k hkn; rw [hkm] at c0; rw [hd] at c1; rw [hy] at c2
                    go_simp
                    try with_reducible rfl
                  try simp only [Act.put, List.setIfInBounds_toArray, List.set_cons_zero, List.set_cons_succ]
                  refine' wpAnyH_take (i := 7) (oi := ({ dst := some 125, op := Op.load 49 (Operand.tmp 124), type := 49, pos := "l6_journal.go:250", after := #[{ on := 6, ground := Ground.data }], guard := none } : Oper)) (v := _) rfl (by kernel_rfl) (by kernel_rfl) (by kernel_rfl) (fun _ _ _ h => h) (Or.inl ⟨by rfl, fun x hSw => ?hyw1_8⟩) hHeld ?restw1_8
                  case hyw1_8 =>
                    obtain ⟨k0, k1, k2, k3, k4, k5⟩ := B6.of (hH2.later hSw).sw.fs; obtain ⟨c0, c1, c2⟩ := (hH2.later hSw).file HL.out k hkn; rw [hkm] at c0; rw [hd] at c1; rw [hy] at c2
                    go_simp
                    try with_reducible rfl
                  try simp only [Act.put, List.setIfInBounds_toArray, List.set_cons_zero, List.set_cons_succ]
                  refine wpAnyH_ready (rs := [9]) (by kernel_rfl) (by simp) ?_
                  refine AllReadyH.cons (o := ({ dst := none, op := Op.store 49 (Operand.tmp 15) (Operand.tmp 125), type := 0, pos := "l6_journal.go:250", after := #[{ on := 8, ground := Ground.data }, { on := 7, ground := Ground.data }, { on := 5, ground := Ground.chain }, { on := 0, ground := Ground.phase }, { on := 1, ground := Ground.phase }, { on := 2, ground := Ground.phase }, { on := 3, ground := Ground.phase }, { on := 4, ground := Ground.phase }, { on := 5, ground := Ground.phase }, { on := 6, ground := Ground.phase }, { on := 7, ground := Ground.phase }, { on := 8, ground := Ground.phase }], guard := none } : Oper)) rfl (fun K hK => ?_) AllReadyH.nil
                  obtain ⟨z0, z1, z2⟩ := B3.of hqB
                  have y0 := frozen_of_row _ _ 0 _ _ hqB
                  have y1 := frozen_of_row _ _ 1 _ _ hqB
                  have y2 := frozen_of_row _ _ 2 _ _ hqB
                  go_simp
                  refine hK.out _ _ (bset (bset (bset hHeld hsB) hsB) hsB) (fun hHeld => ?_)
                  clear hK K
                  try simp only [Act.put, List.setIfInBounds_toArray, List.set_cons_zero, List.set_cons_succ]
                  replace hqB := set3_row (.string (seg l)) (.string d) (.int .i64 y) hqB
                  clear z0 z1 z2 y0 y1 y2
                  generalize (((v.setCell ⟨BB, 0, none⟩ (.string (seg l))).setCell ⟨BB, 1, none⟩ (.string d)).setCell ⟨BB, 2, none⟩ (.int .i64 y)) = v at hqB hHeld ⊢
                  refine wpAnyH_done (by kernel_rfl) ?_ _
                case' w1_c1 =>
                 have hqB := heap_alloc_new v (.cells #[.string { data := #[] }, .string { data := #[] }, .int .i64 0] 49)
                 have hbB := bal v (.cells #[.string { data := #[] }, .string { data := #[] }, .int .i64 0] 49)
                 have hsB := hHeld.size
                 go_simp
                 refine hK.out _ _ (bstep hHeld (bal _ _)) (fun hHeld => ?_)
                 clear hK K
                 try simp only [Act.put, List.setIfInBounds_toArray, List.set_cons_zero, List.set_cons_succ]
                 generalize v.heap.size = BB at hqB hsB ⊢
                 generalize v.alloc (.cells #[.string { data := #[] }, .string { data := #[] }, .int .i64 0] 49) = v at hqB hbB  hHeld ⊢
                 clear hbB
                 refine wpAnyH_ready (rs := [4]) (by kernel_rfl) (by simp) ?_
                 refine AllReadyH.cons (o := ({ dst := some 122, op := Op.call { callee := Callee.value (Operand.func 19), args := #[Operand.tmp 121], argTypes := #[3] }, type := 9, pos := "l6_journal.go:250", after := #[{ on := 3, ground := Ground.data }], guard := none } : Oper)) rfl (fun K hK => ?_) AllReadyH.nil
                 go_simp
                 refine (sSegmentE l _ rfl _ (by omega) (seg l) rfl).mono ?_
                 rintro e v ⟨rfl, hby⟩
                 refine hK.out _ _ (bstep hHeld hby) (fun hHeld => ?_)
                 clear hK K
                 try simp only [Act.put, List.setIfInBounds_toArray, List.set_cons_zero, List.set_cons_succ]
                 replace hqB := rowL hqB hby
                 refine wpAnyH_ready (rs := [5]) (by kernel_rfl) (by simp) ?_
                 refine AllReadyH.cons (o := ({ dst := some 123, op := Op.call { callee := Callee.value (Operand.func 18), args := #[Operand.tmp 120, Operand.tmp 122], argTypes := #[28, 9] }, type := 3, pos := "l6_journal.go:250", after := #[{ on := 2, ground := Ground.data }, { on := 4, ground := Ground.data }, { on := 4, ground := Ground.chain }], guard := none } : Oper)) rfl (fun K hK => ?_) AllReadyH.nil
                 go_simp
                 refine (sFindE gM n cM L HL.out x1 x2 x3 x4 false (seg l) _ ((hH2.later hHeld).fl HL.out) hn _ hfk).mono ?_
                 rintro e v ⟨rfl, hby⟩
                 refine hK.out _ _ (bstep hHeld hby) (fun hHeld => ?_)
                 clear hK K
                 try simp only [Act.put, List.setIfInBounds_toArray, List.set_cons_zero, List.set_cons_succ]
                 replace hqB := rowL hqB hby
                 refine' wpAnyH_take (i := 6) (oi := ({ dst := some 124, op := Op.indexAddr 26 (Operand.tmp 119) (Operand.tmp 123), type := 0, pos := "l6_journal.go:250", after := #[{ on := 1, ground := Ground.data }, { on := 5, ground := Ground.data }], guard := none } : Oper)) (v := _) rfl (by kernel_rfl) (by kernel_rfl) (by kernel_rfl) (fun _ _ _ h => h) (Or.inl ⟨by rfl, fun x hSw => ?hyw1_9⟩) hHeld ?restw1_9
                 case hyw1_9 =>
                   obtain ⟨k0, k1, k2, k3, k4, k5⟩ := B6.of (hH2.later hSw).sw.fs; obtain ⟨c0, c1, c2⟩ := (hH2.later hSw).file HL.out k hkn; rw [hkm] at c0; rw [hd] at c1; rw [hy] at c2
                   go_simp
                   try with_reducible rfl
                 try simp only [Act.put, List.setIfInBounds_toArray, List.set_cons_zero, List.set_cons_succ]
                 refine' wpAnyH_take (i := 7) (oi := ({ dst := some 125, op := Op.load 49 (Operand.tmp 124), type := 49, pos := "l6_journal.go:250", after := #[{ on := 6, ground := Ground.data }], guard := none } : Oper)) (v := _) rfl (by kernel_rfl) (by kernel_rfl) (by kernel_rfl) (fun _ _ _ h => h) (Or.inl ⟨by rfl, fun x hSw => ?hyw1_10⟩) hHeld ?restw1_10
                 case hyw1_10 =>
                   obtain ⟨k0, k1, k2, k3, k4, k5⟩ := B6.of (hH2.later hSw).sw.fs; obtain ⟨c0, c1, c2⟩ := (hH2.later hSw).file HL.out k hkn; rw [hkm] at c0; rw [hd] at c1; rw [hy] at c2
                   go_simp
                   try with_reducible rfl
                 try simp only [Act.put, List.setIfInBounds_toArray, List.set_cons_zero, List.set_cons_succ]
                 refine wpAnyH_ready (rs := [9]) (by kernel_rfl) (by simp) ?_
                 refine AllReadyH.cons (o := ({ dst := none, op := Op.store 49 (Operand.tmp 15) (Operand.tmp 125), type := 0, pos := "l6_journal.go:250", after := #[{ on := 8, ground := Ground.data }, { on := 7, ground := Ground.data }, { on := 5, ground := Ground.chain }, { on := 0, ground := Ground.phase }, { on := 1, ground := Ground.phase }, { on := 2, ground := Ground.phase }, { on := 3, ground := Ground.phase }, { on := 4, ground := Ground.phase }, { on := 5, ground := Ground.phase }, { on := 6, ground := Ground.phase }, { on := 7, ground := Ground.phase }, { on := 8, ground := Ground.phase }], guard := none } : Oper)) rfl (fun K hK => ?_) AllReadyH.nil
                 obtain ⟨z0, z1, z2⟩ := B3.of hqB
                 have y0 := frozen_of_row _ _ 0 _ _ hqB
                 have y1 := frozen_of_row _ _ 1 _ _ hqB
                 have y2 := frozen_of_row _ _ 2 _ _ hqB
                 go_simp
                 refine hK.out _ _ (bset (bset (bset hHeld hsB) hsB) hsB) (fun hHeld => ?_)
                 clear hK K
                 try simp only [Act.put, List.setIfInBounds_toArray, List.set_cons_zero, List.set_cons_succ]
                 replace hqB := set3_row (.string (seg l)) (.string d) (.int .i64 y) hqB
                 clear z0 z1 z2 y0 y1 y2
                 generalize (((v.setCell ⟨BB, 0, none⟩ (.string (seg l))).setCell ⟨BB, 1, none⟩ (.string d)).setCell ⟨BB, 2, none⟩ (.int .i64 y)) = v at hqB hHeld ⊢
                 refine wpAnyH_done (by kernel_rfl) ?_ _
                all_goals
                  exact H v BB ⟨hH2.later hHeld, hE2.later hHeld, hOO.later hHeld, hqB⟩
              case rest =>
                clear hH2 hE2 hOO
                rintro v B ⟨hH3, hE3, hO3, hqB⟩
                obtain ⟨z0, z1, z2⟩ := B3.of hqB
                have hszv := hH3.sw.b.size
                have hnov := orw_lt hH3.sw.no
                clear hqB
                by_cases hg1 : g < d.size
                · have hgi : (g : Int) < (d.size : Int) := by omega
                  go_upto_region 35 with (at_builtin; refine wpList_append_lies _ rfl _ _ _ rfl (w.heap.size + 1 + 1 + 1 + 1) 53 io _ 4 48 Tryz.underlying50 HIO.out ho0 ho1 ho2 rfl (by omega) (.slice (some ⟨gO, 0, none⟩) O.length cO) O.length _ rfl (own_below hO3 (bal _ _)) ⟨v.heap.size, 0, none⟩ 1 1 [.int .i64 4, .string (seg l), .string ByteArray.empty, .int .i64 (g : Int)] rfl rfl (World.news_of_block (heap_alloc_new v (.cells #[.int .i64 4, .string (seg l), .string ByteArray.empty, .int .i64 (g : Int)] 53))) (ones4 _ _ _ _) (by omega) (by unfold maxLen; omega) (by omega) (by simp; omega) _ rfl ?_; intro g1 cap1 w2 hown2 hgrow hat hlt1)
                  clear z0 z1 z2
                  obtain ⟨X, hX⟩ := (orw_in hO3).2
                  have hX2 := rowL hX (bal v (.cells #[.int .i64 4, .string (seg l), .string ByteArray.empty, .int .i64 (g : Int)] 53))
                  have hH4 := (hH3.later (bal _ _)).grown (q := gO) hgrow (by omega) hX2 (by decide)
                  have hE4 : OwnS w2 (w.heap.size + 1 + 1 + 1 + 1) gE cE E := orw_grown (hE3.later (bal _ _)) hgrow (fun e => orw_ne (hE3.later (bal _ _)) hX2 (by decide) (Option.some.inj e))
                  obtain ⟨O2, hO2⟩ : ∃ O2, O ++ [⟨4, seg l, (g : Int)⟩] = O2 := ⟨_, rfl⟩
                  have hO4 : OwnO w2 (w.heap.size + 1 + 1 + 1 + 1) g1 cap1 O2 := by rw [← hO2]; exact OwnO.snoc (o := ⟨4, seg l, (g : Int)⟩) hown2
                  obtain ⟨N, hN⟩ : ∃ N, O.length + 1 = N := ⟨_, rfl⟩
                  rw [hN]
                  have HN : Hid (O2.length = N) := by show _ = _; rw [← hO2, ← hN]; simp
                  have hN4 : N ≤ 302 := by omega
                  have HR : Hid (delO L l ++ tailO L l g = O2) := by show _ = _; rw [← hO2, HOd.out]; rw [HT.out, if_pos hg1]
                  have HOK : Hid (OkO O2) := by show OkO O2; rw [← HR.out]; exact (del_ok hG _).app (tail_ok _ _ _)
                  clear hX hX2 hown2 hgrow hat hlt1 hH3 hE3 hO3 hO2 hN
                  go_wp2
                  go_loopw [17, 18, 19, 154] (fun _ _ _ iv wr => ∃ (q gM cM : Nat) (M : List Fil) (z2 : Int) (z5 : Bool), q ≤ N ∧ iv = .int .i64 (q : Int) ∧ HS w wr gM M.length cM M x1 z2 x3 x4 z5 ∧ Ok6 M x1 z2 1048576 ∧ Hid (runO x1 x3 x4 (O2.drop q) M z2 z5 = runO x1 x3 x4 O2 L x2 false) ∧ OwnS wr (w.heap.size + 1 + 1 + 1 + 1) gE cE E ∧ OwnO wr (w.heap.size + 1 + 1 + 1 + 1) g1 cap1 O2) (fun _ _ _ iv _ => N - (intOf iv).toNat)
                  case atStart => exact ⟨0, gM, cM, L, x2, false, by omega, rfl, by rw [HL.out]; exact hH4, hO6, rfl, hE4, hO4⟩
                  case round =>
                    clear hH4 hE4 hO4
                    obtain ⟨q, gN, cN, M, z2, z5, hq, rfl, hH5, hOk, HRun, hE5, hO5⟩ := hrel
                    by_cases hqN : q < N
                    · have hqi : (q : Int) < (N : Int) := by omega
                      have hq0 : (0 : Int) ≤ (q : Int) := by omega
                      obtain ⟨o, ho⟩ : ∃ o, O2[q]'(by rw [HN.out]; exact hqN) = o := ⟨_, rfl⟩
                      obtain ⟨o0, o1, o2, o3⟩ := own_op hO5 q (by rw [HN.out]; exact hqN)
                      rw [ho] at o0 o1 o3
                      obtain ⟨hk1, hk5, hnm⟩ := HOK.out o (by rw [← ho]; exact List.getElem_mem _)
                      have HD : Hid (O2.drop q = o :: O2.drop (q + 1)) := by show _ = _; rw [List.drop_eq_getElem_cons (by rw [HN.out]; exact hqN), ho]
                      clear ho
                      obtain ⟨kd, nm, sz⟩ := o
                      simp only at o0 o1 o3 hk1 hk5 hnm
                      obtain ⟨M', y2, y5, zc, hst⟩ : ∃ M' y2 y5 zc, stS M x1 z2 x3 x4 z5 kd nm ByteArray.empty sz (fdI M nm) = (M', y2, y5, zc) := ⟨_, _, _, _, rfl⟩
                      have hOk2 : Ok6 M' x1 y2 1048576 := hOk.step (fd_at M nm) hnm hst
                      have HST : Hid (stS M x1 z2 x3 x4 z5 kd nm ByteArray.empty sz (fdI M nm) = (M', y2, y5, zc)) := hst
                      clear hst
                      have hsz5 := hH5.sw.b.size
                      have hno5 := orw_lt hH5.sw.no
                      obtain ⟨k0, k1, k2, k3, k4, k5⟩ := B6.of hH5.sw.fs
                      go_upto_region 38 with (fail)
                      have hQ := heap_alloc_new wr (.cells #[.int .i64 kd, .string nm, .string ByteArray.empty, .int .i64 sz] 53)
                      have hb6 := bal wr (.cells #[.int .i64 kd, .string nm, .string ByteArray.empty, .int .i64 sz] 53)
                      have hH6 := hH5.later hb6
                      have hE6 := hE5.later hb6
                      have hO6' := hO5.later hb6
                      clear k0 k1 k2 k3 k4 k5 o0 o1 o2 o3 hb6 hH5 hE5 hO5
                      generalize wr.heap.size = Bq at hQ ⊢
                      generalize wr.alloc (.cells #[.int .i64 kd, .string nm, .string ByteArray.empty, .int .i64 sz] 53) = w6 at hQ hH6 hE6 hO6' ⊢
                      obtain ⟨k0, k1, k2, k3, k4, k5⟩ := B6.of hH6.sw.fs
                      obtain ⟨t0, t1, t2, t3⟩ := B4.of hQ
                      go_upto_region 39 with (go_at_call 22; refine (sStepE gN 0 cN M x1 z2 x3 x4 z5 kd nm ByteArray.empty sz (fdI M nm) M' y2 y5 zc 1048576 _ hH6.own.f.fl hOk (by omega) hk1 hk5 hnm (by decide) hx3 hx4 (fd_at M nm) HST.out).mono ?_; rintro e w7 ⟨gR, cR, rfl, hOR, hb7⟩)
                      have hQ7 := heap_alloc_new w7 (.cells #[.slice (some ⟨gR, 0, none⟩) M'.length cR, .int .i64 x1, .int .i64 y2, .int .i64 x3, .int .i64 x4, .bool y5] 28)
                      have hb8 := bstep hb7 (bal w7 (.cells #[.slice (some ⟨gR, 0, none⟩) M'.length cR, .int .i64 x1, .int .i64 y2, .int .i64 x3, .int .i64 x4, .bool y5] 28))
                      have hS8 := hH6.sw.later hb8
                      have hE8 := hE6.later hb8
                      have hO8 := hO6'.later hb8
                      have hM8 := (hOR.wk hH6.sw.b.size).later (bal w7 (.cells #[.slice (some ⟨gR, 0, none⟩) M'.length cR, .int .i64 x1, .int .i64 y2, .int .i64 x3, .int .i64 x4, .bool y5] 28))
                      clear k0 k1 k2 k3 k4 k5 t0 t1 t2 t3 hQ hb8 hb7 hOR hH6 hE6 hO6'
                      generalize w7.heap.size = Bt at hQ7 ⊢
                      generalize w7.alloc (.cells #[.slice (some ⟨gR, 0, none⟩) M'.length cR, .int .i64 x1, .int .i64 y2, .int .i64 x3, .int .i64 x4, .bool y5] 28) = w8 at hQ7 hS8 hE8 hO8 hM8 ⊢
                      obtain ⟨k0, k1, k2, k3, k4, k5⟩ := B6.of hS8.fs
                      obtain ⟨kf0, kf1, kf2, kf3, kf4, kf5⟩ := F6.of hS8.fs
                      obtain ⟨t0, t1, t2, t3, t4, t5⟩ := B6.of hQ7
                      go_upto_region 40 with (fail)
                      have hS9 := hS8.set (.slice (some ⟨gR, 0, none⟩) M'.length cR) x1 y2 x3 x4 y5
                      have hE9 := orw_set6 hE8 (orw_ne hE8 hS8.fs (by decide)) (.slice (some ⟨gR, 0, none⟩) M'.length cR) (.int .i64 x1) (.int .i64 y2) (.int .i64 x3) (.int .i64 x4) (.bool y5)
                      have hO9 := orw_set6 hO8 (orw_ne hO8 hS8.fs (by decide)) (.slice (some ⟨gR, 0, none⟩) M'.length cR) (.int .i64 x1) (.int .i64 y2) (.int .i64 x3) (.int .i64 x4) (.bool y5)
                      have hM9 : OwnL ((((((w8.setCell ⟨w.heap.size, 0, none⟩ (.slice (some ⟨gR, 0, none⟩) M'.length cR)).setCell ⟨w.heap.size, 1, none⟩ (.int .i64 x1)).setCell ⟨w.heap.size, 2, none⟩ (.int .i64 y2)).setCell ⟨w.heap.size, 3, none⟩ (.int .i64 x3)).setCell ⟨w.heap.size, 4, none⟩ (.int .i64 x4)).setCell ⟨w.heap.size, 5, none⟩ (.bool y5)) w.heap.size (.slice (some ⟨gR, 0, none⟩) M'.length cR) M' := keep6 hM8 hS8.fs
                      clear k0 k1 k2 k3 k4 k5 kf0 kf1 kf2 kf3 kf4 kf5 t0 t1 t2 t3 t4 t5 hQ7 hS8 hE8 hO8 hM8
                      generalize ((((((w8.setCell ⟨w.heap.size, 0, none⟩ (.slice (some ⟨gR, 0, none⟩) M'.length cR)).setCell ⟨w.heap.size, 1, none⟩ (.int .i64 x1)).setCell ⟨w.heap.size, 2, none⟩ (.int .i64 y2)).setCell ⟨w.heap.size, 3, none⟩ (.int .i64 x3)).setCell ⟨w.heap.size, 4, none⟩ (.int .i64 x4)).setCell ⟨w.heap.size, 5, none⟩ (.bool y5)) = w9 at hS9 hE9 hO9 hM9 ⊢
                      by_cases hc : zc = 0
                      · subst hc
                        go_wp2
                        go_roundw
                        case rel => exact ⟨q + 1, gR, cR, M', y2, y5, by omega, by go_num, ⟨hS9, hM9⟩, hOk2, by
                          show _ = _
                          rw [← HRun.out, HD.out]
                          exact (run_go (o := ⟨kd, nm, sz⟩) HST.out).symm, hE9, hO9⟩
                        case measure => first | (simp [intOf]; done) | (simp [intOf]; omega)
                      · have HC : Hid (zc ≠ 0) := hc
                        obtain ⟨k0, k1, k2, k3, k4, k5⟩ := B6.of hS9.fs
                        obtain ⟨kf0, kf1, kf2, kf3, kf4, kf5⟩ := F6.of hS9.fs
                        obtain ⟨p0, p1, p2, p3, p4, p5⟩ := B6.of hS9.r1
                        obtain ⟨q0, q1, q2, q3, q4, q5⟩ := F6.of hS9.r1
                        obtain ⟨r0, r1⟩ := B2.of hS9.r2
                        obtain ⟨s0, s1⟩ := F2.of hS9.r2
                        go_wp2
                        refine bodyPost_ret (results_c2t2 Tryz.results5 _ _ (w.heap.size + 1) 28 _ (0, 0) _ rfl (fin8 _ _ _ _ _ _ _ _ hS9.r1 (by omega)) Tryz.underlying28 rfl (by kernel_rfl) (w.heap.size + 1 + 1) 30 _ (0, 0) _ rfl (fin9 _ _ _ _ _ _ _ _ hS9.r2 (by omega)) Tryz.underlying30 rfl (by kernel_rfl)) rfl ?_
                        have hrun := HRun.out
                        rw [HD.out, run_stop (o := ⟨kd, nm, sz⟩) HST.out HC.out] at hrun
                        rw [← HA.out, recA_code hrd hm (by rw [HR.out]; exact hrun.symm) HC.out]
                        exact hS9.done hM9 hS9.no 0 0 zc _ _ _ _ _ _ _ _
                    · obtain rfl : q = N := by omega
                      obtain ⟨k0, k1, k2, k3, k4, k5⟩ := B6.of hH5.sw.fs
                      obtain ⟨kf0, kf1, kf2, kf3, kf4, kf5⟩ := F6.of hH5.sw.fs
                      obtain ⟨p0, p1, p2, p3, p4, p5⟩ := B6.of hH5.sw.r1
                      obtain ⟨q0, q1, q2, q3, q4, q5⟩ := F6.of hH5.sw.r1
                      obtain ⟨r0, r1⟩ := B2.of hH5.sw.r2
                      obtain ⟨s0, s1⟩ := F2.of hH5.sw.r2
                      have hE5' := hE5.wk (B' := w.heap.size) (by omega)
                      go_wp2
                      refine bodyPost_ret (results_c2t2 Tryz.results5 _ _ (w.heap.size + 1) 28 _ (0, 0) _ rfl (fin8 _ _ _ _ _ _ _ _ hH5.sw.r1 (by omega)) Tryz.underlying28 rfl (by kernel_rfl) (w.heap.size + 1 + 1) 30 _ (0, 0) _ rfl (fin9 _ _ _ _ _ _ _ _ hH5.sw.r2 (by omega)) Tryz.underlying30 rfl (by kernel_rfl)) rfl ?_
                      have hrun := HRun.out
                      rw [← HN.out, List.drop_length] at hrun
                      rw [← HA.out, recA_ok hrd hm (by rw [HR.out]; exact hrun.symm), HMX.out]
                      exact hH5.sw.done hH5.own hE5' (l : Int) (g : Int) 0 _ _ _ _ _ _ _ _
                · have hgi : ¬ (g : Int) < (d.size : Int) := by omega
                  by_cases hy1 : y < (d.size : Int)
                  · skip
                    go_upto_region 35 with (at_builtin; refine wpList_append_lies _ rfl _ _ _ rfl (w.heap.size + 1 + 1 + 1 + 1) 53 io _ 4 48 Tryz.underlying50 HIO.out ho0 ho1 ho2 rfl (by omega) (.slice (some ⟨gO, 0, none⟩) O.length cO) O.length _ rfl (own_below hO3 (bal _ _)) ⟨v.heap.size, 0, none⟩ 1 1 [.int .i64 3, .string (seg l), .string ByteArray.empty, .int .i64 0] rfl rfl (World.news_of_block (heap_alloc_new v (.cells #[.int .i64 3, .string (seg l), .string ByteArray.empty, .int .i64 0] 53))) (ones4 _ _ _ _) (by omega) (by unfold maxLen; omega) (by omega) (by simp; omega) _ rfl ?_; intro g1 cap1 w2 hown2 hgrow hat hlt1)
                    clear z0 z1 z2
                    obtain ⟨X, hX⟩ := (orw_in hO3).2
                    have hX2 := rowL hX (bal v (.cells #[.int .i64 3, .string (seg l), .string ByteArray.empty, .int .i64 0] 53))
                    have hH4 := (hH3.later (bal _ _)).grown (q := gO) hgrow (by omega) hX2 (by decide)
                    have hE4 : OwnS w2 (w.heap.size + 1 + 1 + 1 + 1) gE cE E := orw_grown (hE3.later (bal _ _)) hgrow (fun e => orw_ne (hE3.later (bal _ _)) hX2 (by decide) (Option.some.inj e))
                    obtain ⟨O2, hO2⟩ : ∃ O2, O ++ [⟨3, seg l, 0⟩] = O2 := ⟨_, rfl⟩
                    have hO4 : OwnO w2 (w.heap.size + 1 + 1 + 1 + 1) g1 cap1 O2 := by rw [← hO2]; exact OwnO.snoc (o := ⟨3, seg l, 0⟩) hown2
                    obtain ⟨N, hN⟩ : ∃ N, O.length + 1 = N := ⟨_, rfl⟩
                    rw [hN]
                    have HN : Hid (O2.length = N) := by show _ = _; rw [← hO2, ← hN]; simp
                    have hN4 : N ≤ 302 := by omega
                    have HR : Hid (delO L l ++ tailO L l g = O2) := by show _ = _; rw [← hO2, HOd.out]; rw [HT.out, if_neg hg1, if_pos hy1]
                    have HOK : Hid (OkO O2) := by show OkO O2; rw [← HR.out]; exact (del_ok hG _).app (tail_ok _ _ _)
                    clear hX hX2 hown2 hgrow hat hlt1 hH3 hE3 hO3 hO2 hN
                    go_wp2
                    go_loopw [17, 18, 19, 154] (fun _ _ _ iv wr => ∃ (q gM cM : Nat) (M : List Fil) (z2 : Int) (z5 : Bool), q ≤ N ∧ iv = .int .i64 (q : Int) ∧ HS w wr gM M.length cM M x1 z2 x3 x4 z5 ∧ Ok6 M x1 z2 1048576 ∧ Hid (runO x1 x3 x4 (O2.drop q) M z2 z5 = runO x1 x3 x4 O2 L x2 false) ∧ OwnS wr (w.heap.size + 1 + 1 + 1 + 1) gE cE E ∧ OwnO wr (w.heap.size + 1 + 1 + 1 + 1) g1 cap1 O2) (fun _ _ _ iv _ => N - (intOf iv).toNat)
                    case atStart => exact ⟨0, gM, cM, L, x2, false, by omega, rfl, by rw [HL.out]; exact hH4, hO6, rfl, hE4, hO4⟩
                    case round =>
                      clear hH4 hE4 hO4
                      obtain ⟨q, gN, cN, M, z2, z5, hq, rfl, hH5, hOk, HRun, hE5, hO5⟩ := hrel
                      by_cases hqN : q < N
                      · have hqi : (q : Int) < (N : Int) := by omega
                        have hq0 : (0 : Int) ≤ (q : Int) := by omega
                        obtain ⟨o, ho⟩ : ∃ o, O2[q]'(by rw [HN.out]; exact hqN) = o := ⟨_, rfl⟩
                        obtain ⟨o0, o1, o2, o3⟩ := own_op hO5 q (by rw [HN.out]; exact hqN)
                        rw [ho] at o0 o1 o3
                        obtain ⟨hk1, hk5, hnm⟩ := HOK.out o (by rw [← ho]; exact List.getElem_mem _)
                        have HD : Hid (O2.drop q = o :: O2.drop (q + 1)) := by show _ = _; rw [List.drop_eq_getElem_cons (by rw [HN.out]; exact hqN), ho]
                        clear ho
                        obtain ⟨kd, nm, sz⟩ := o
                        simp only at o0 o1 o3 hk1 hk5 hnm
                        obtain ⟨M', y2, y5, zc, hst⟩ : ∃ M' y2 y5 zc, stS M x1 z2 x3 x4 z5 kd nm ByteArray.empty sz (fdI M nm) = (M', y2, y5, zc) := ⟨_, _, _, _, rfl⟩
                        have hOk2 : Ok6 M' x1 y2 1048576 := hOk.step (fd_at M nm) hnm hst
                        have HST : Hid (stS M x1 z2 x3 x4 z5 kd nm ByteArray.empty sz (fdI M nm) = (M', y2, y5, zc)) := hst
                        clear hst
                        have hsz5 := hH5.sw.b.size
                        have hno5 := orw_lt hH5.sw.no
                        obtain ⟨k0, k1, k2, k3, k4, k5⟩ := B6.of hH5.sw.fs
                        go_upto_region 38 with (fail)
                        have hQ := heap_alloc_new wr (.cells #[.int .i64 kd, .string nm, .string ByteArray.empty, .int .i64 sz] 53)
                        have hb6 := bal wr (.cells #[.int .i64 kd, .string nm, .string ByteArray.empty, .int .i64 sz] 53)
                        have hH6 := hH5.later hb6
                        have hE6 := hE5.later hb6
                        have hO6' := hO5.later hb6
                        clear k0 k1 k2 k3 k4 k5 o0 o1 o2 o3 hb6 hH5 hE5 hO5
                        generalize wr.heap.size = Bq at hQ ⊢
                        generalize wr.alloc (.cells #[.int .i64 kd, .string nm, .string ByteArray.empty, .int .i64 sz] 53) = w6 at hQ hH6 hE6 hO6' ⊢
                        obtain ⟨k0, k1, k2, k3, k4, k5⟩ := B6.of hH6.sw.fs
                        obtain ⟨t0, t1, t2, t3⟩ := B4.of hQ
                        go_upto_region 39 with (go_at_call 22; refine (sStepE gN 0 cN M x1 z2 x3 x4 z5 kd nm ByteArray.empty sz (fdI M nm) M' y2 y5 zc 1048576 _ hH6.own.f.fl hOk (by omega) hk1 hk5 hnm (by decide) hx3 hx4 (fd_at M nm) HST.out).mono ?_; rintro e w7 ⟨gR, cR, rfl, hOR, hb7⟩)
                        have hQ7 := heap_alloc_new w7 (.cells #[.slice (some ⟨gR, 0, none⟩) M'.length cR, .int .i64 x1, .int .i64 y2, .int .i64 x3, .int .i64 x4, .bool y5] 28)
                        have hb8 := bstep hb7 (bal w7 (.cells #[.slice (some ⟨gR, 0, none⟩) M'.length cR, .int .i64 x1, .int .i64 y2, .int .i64 x3, .int .i64 x4, .bool y5] 28))
                        have hS8 := hH6.sw.later hb8
                        have hE8 := hE6.later hb8
                        have hO8 := hO6'.later hb8
                        have hM8 := (hOR.wk hH6.sw.b.size).later (bal w7 (.cells #[.slice (some ⟨gR, 0, none⟩) M'.length cR, .int .i64 x1, .int .i64 y2, .int .i64 x3, .int .i64 x4, .bool y5] 28))
                        clear k0 k1 k2 k3 k4 k5 t0 t1 t2 t3 hQ hb8 hb7 hOR hH6 hE6 hO6'
                        generalize w7.heap.size = Bt at hQ7 ⊢
                        generalize w7.alloc (.cells #[.slice (some ⟨gR, 0, none⟩) M'.length cR, .int .i64 x1, .int .i64 y2, .int .i64 x3, .int .i64 x4, .bool y5] 28) = w8 at hQ7 hS8 hE8 hO8 hM8 ⊢
                        obtain ⟨k0, k1, k2, k3, k4, k5⟩ := B6.of hS8.fs
                        obtain ⟨kf0, kf1, kf2, kf3, kf4, kf5⟩ := F6.of hS8.fs
                        obtain ⟨t0, t1, t2, t3, t4, t5⟩ := B6.of hQ7
                        go_upto_region 40 with (fail)
                        have hS9 := hS8.set (.slice (some ⟨gR, 0, none⟩) M'.length cR) x1 y2 x3 x4 y5
                        have hE9 := orw_set6 hE8 (orw_ne hE8 hS8.fs (by decide)) (.slice (some ⟨gR, 0, none⟩) M'.length cR) (.int .i64 x1) (.int .i64 y2) (.int .i64 x3) (.int .i64 x4) (.bool y5)
                        have hO9 := orw_set6 hO8 (orw_ne hO8 hS8.fs (by decide)) (.slice (some ⟨gR, 0, none⟩) M'.length cR) (.int .i64 x1) (.int .i64 y2) (.int .i64 x3) (.int .i64 x4) (.bool y5)
                        have hM9 : OwnL ((((((w8.setCell ⟨w.heap.size, 0, none⟩ (.slice (some ⟨gR, 0, none⟩) M'.length cR)).setCell ⟨w.heap.size, 1, none⟩ (.int .i64 x1)).setCell ⟨w.heap.size, 2, none⟩ (.int .i64 y2)).setCell ⟨w.heap.size, 3, none⟩ (.int .i64 x3)).setCell ⟨w.heap.size, 4, none⟩ (.int .i64 x4)).setCell ⟨w.heap.size, 5, none⟩ (.bool y5)) w.heap.size (.slice (some ⟨gR, 0, none⟩) M'.length cR) M' := keep6 hM8 hS8.fs
                        clear k0 k1 k2 k3 k4 k5 kf0 kf1 kf2 kf3 kf4 kf5 t0 t1 t2 t3 t4 t5 hQ7 hS8 hE8 hO8 hM8
                        generalize ((((((w8.setCell ⟨w.heap.size, 0, none⟩ (.slice (some ⟨gR, 0, none⟩) M'.length cR)).setCell ⟨w.heap.size, 1, none⟩ (.int .i64 x1)).setCell ⟨w.heap.size, 2, none⟩ (.int .i64 y2)).setCell ⟨w.heap.size, 3, none⟩ (.int .i64 x3)).setCell ⟨w.heap.size, 4, none⟩ (.int .i64 x4)).setCell ⟨w.heap.size, 5, none⟩ (.bool y5)) = w9 at hS9 hE9 hO9 hM9 ⊢
                        by_cases hc : zc = 0
                        · subst hc
                          go_wp2
                          go_roundw
                          case rel => exact ⟨q + 1, gR, cR, M', y2, y5, by omega, by go_num, ⟨hS9, hM9⟩, hOk2, by
                            show _ = _
                            rw [← HRun.out, HD.out]
                            exact (run_go (o := ⟨kd, nm, sz⟩) HST.out).symm, hE9, hO9⟩
                          case measure => first | (simp [intOf]; done) | (simp [intOf]; omega)
                        · have HC : Hid (zc ≠ 0) := hc
                          obtain ⟨k0, k1, k2, k3, k4, k5⟩ := B6.of hS9.fs
                          obtain ⟨kf0, kf1, kf2, kf3, kf4, kf5⟩ := F6.of hS9.fs
                          obtain ⟨p0, p1, p2, p3, p4, p5⟩ := B6.of hS9.r1
                          obtain ⟨q0, q1, q2, q3, q4, q5⟩ := F6.of hS9.r1
                          obtain ⟨r0, r1⟩ := B2.of hS9.r2
                          obtain ⟨s0, s1⟩ := F2.of hS9.r2
                          go_wp2
                          refine bodyPost_ret (results_c2t2 Tryz.results5 _ _ (w.heap.size + 1) 28 _ (0, 0) _ rfl (fin8 _ _ _ _ _ _ _ _ hS9.r1 (by omega)) Tryz.underlying28 rfl (by kernel_rfl) (w.heap.size + 1 + 1) 30 _ (0, 0) _ rfl (fin9 _ _ _ _ _ _ _ _ hS9.r2 (by omega)) Tryz.underlying30 rfl (by kernel_rfl)) rfl ?_
                          have hrun := HRun.out
                          rw [HD.out, run_stop (o := ⟨kd, nm, sz⟩) HST.out HC.out] at hrun
                          rw [← HA.out, recA_code hrd hm (by rw [HR.out]; exact hrun.symm) HC.out]
                          exact hS9.done hM9 hS9.no 0 0 zc _ _ _ _ _ _ _ _
                      · obtain rfl : q = N := by omega
                        obtain ⟨k0, k1, k2, k3, k4, k5⟩ := B6.of hH5.sw.fs
                        obtain ⟨kf0, kf1, kf2, kf3, kf4, kf5⟩ := F6.of hH5.sw.fs
                        obtain ⟨p0, p1, p2, p3, p4, p5⟩ := B6.of hH5.sw.r1
                        obtain ⟨q0, q1, q2, q3, q4, q5⟩ := F6.of hH5.sw.r1
                        obtain ⟨r0, r1⟩ := B2.of hH5.sw.r2
                        obtain ⟨s0, s1⟩ := F2.of hH5.sw.r2
                        have hE5' := hE5.wk (B' := w.heap.size) (by omega)
                        go_wp2
                        refine bodyPost_ret (results_c2t2 Tryz.results5 _ _ (w.heap.size + 1) 28 _ (0, 0) _ rfl (fin8 _ _ _ _ _ _ _ _ hH5.sw.r1 (by omega)) Tryz.underlying28 rfl (by kernel_rfl) (w.heap.size + 1 + 1) 30 _ (0, 0) _ rfl (fin9 _ _ _ _ _ _ _ _ hH5.sw.r2 (by omega)) Tryz.underlying30 rfl (by kernel_rfl)) rfl ?_
                        have hrun := HRun.out
                        rw [← HN.out, List.drop_length] at hrun
                        rw [← HA.out, recA_ok hrd hm (by rw [HR.out]; exact hrun.symm), HMX.out]
                        exact hH5.sw.done hH5.own hE5' (l : Int) (g : Int) 0 _ _ _ _ _ _ _ _
                  · skip
                    go_upto_region 35 with (fail)
                    clear z0 z1 z2
                    have hH4 := hH3
                    have hE4 := hE3
                    have hO4 := hO3
                    have HR : Hid (delO L l ++ tailO L l g = O) := by show _ = _; rw [HT.out, if_neg hg1, if_neg hy1, List.append_nil]; exact HOd.out.symm
                    have HOK : Hid (OkO O) := by show OkO O; rw [← HR.out]; exact (del_ok hG _).app (tail_ok _ _ _)
                    obtain ⟨N, hN⟩ : ∃ N, O.length = N := ⟨_, rfl⟩
                    rw [hN]
                    have hN4 : N ≤ 302 := by omega
                    have HN : Hid (O.length = N) := hN
                    clear hN hH3 hE3 hO3
                    go_wp2
                    go_loopw [17, 18, 19, 154] (fun _ _ _ iv wr => ∃ (q gM cM : Nat) (M : List Fil) (z2 : Int) (z5 : Bool), q ≤ N ∧ iv = .int .i64 (q : Int) ∧ HS w wr gM M.length cM M x1 z2 x3 x4 z5 ∧ Ok6 M x1 z2 1048576 ∧ Hid (runO x1 x3 x4 (O.drop q) M z2 z5 = runO x1 x3 x4 O L x2 false) ∧ OwnS wr (w.heap.size + 1 + 1 + 1 + 1) gE cE E ∧ OwnO wr (w.heap.size + 1 + 1 + 1 + 1) gO cO O) (fun _ _ _ iv _ => N - (intOf iv).toNat)
                    case atStart => exact ⟨0, gM, cM, L, x2, false, by omega, rfl, by rw [HL.out]; exact hH4, hO6, rfl, hE4, hO4⟩
                    case round =>
                      clear hH4 hE4 hO4
                      obtain ⟨q, gN, cN, M, z2, z5, hq, rfl, hH5, hOk, HRun, hE5, hO5⟩ := hrel
                      by_cases hqN : q < N
                      · have hqi : (q : Int) < (N : Int) := by omega
                        have hq0 : (0 : Int) ≤ (q : Int) := by omega
                        obtain ⟨o, ho⟩ : ∃ o, O[q]'(by rw [HN.out]; exact hqN) = o := ⟨_, rfl⟩
                        obtain ⟨o0, o1, o2, o3⟩ := own_op hO5 q (by rw [HN.out]; exact hqN)
                        rw [ho] at o0 o1 o3
                        obtain ⟨hk1, hk5, hnm⟩ := HOK.out o (by rw [← ho]; exact List.getElem_mem _)
                        have HD : Hid (O.drop q = o :: O.drop (q + 1)) := by show _ = _; rw [List.drop_eq_getElem_cons (by rw [HN.out]; exact hqN), ho]
                        clear ho
                        obtain ⟨kd, nm, sz⟩ := o
                        simp only at o0 o1 o3 hk1 hk5 hnm
                        obtain ⟨M', y2, y5, zc, hst⟩ : ∃ M' y2 y5 zc, stS M x1 z2 x3 x4 z5 kd nm ByteArray.empty sz (fdI M nm) = (M', y2, y5, zc) := ⟨_, _, _, _, rfl⟩
                        have hOk2 : Ok6 M' x1 y2 1048576 := hOk.step (fd_at M nm) hnm hst
                        have HST : Hid (stS M x1 z2 x3 x4 z5 kd nm ByteArray.empty sz (fdI M nm) = (M', y2, y5, zc)) := hst
                        clear hst
                        have hsz5 := hH5.sw.b.size
                        have hno5 := orw_lt hH5.sw.no
                        obtain ⟨k0, k1, k2, k3, k4, k5⟩ := B6.of hH5.sw.fs
                        go_upto_region 38 with (fail)
                        have hQ := heap_alloc_new wr (.cells #[.int .i64 kd, .string nm, .string ByteArray.empty, .int .i64 sz] 53)
                        have hb6 := bal wr (.cells #[.int .i64 kd, .string nm, .string ByteArray.empty, .int .i64 sz] 53)
                        have hH6 := hH5.later hb6
                        have hE6 := hE5.later hb6
                        have hO6' := hO5.later hb6
                        clear k0 k1 k2 k3 k4 k5 o0 o1 o2 o3 hb6 hH5 hE5 hO5
                        generalize wr.heap.size = Bq at hQ ⊢
                        generalize wr.alloc (.cells #[.int .i64 kd, .string nm, .string ByteArray.empty, .int .i64 sz] 53) = w6 at hQ hH6 hE6 hO6' ⊢
                        obtain ⟨k0, k1, k2, k3, k4, k5⟩ := B6.of hH6.sw.fs
                        obtain ⟨t0, t1, t2, t3⟩ := B4.of hQ
                        go_upto_region 39 with (go_at_call 22; refine (sStepE gN 0 cN M x1 z2 x3 x4 z5 kd nm ByteArray.empty sz (fdI M nm) M' y2 y5 zc 1048576 _ hH6.own.f.fl hOk (by omega) hk1 hk5 hnm (by decide) hx3 hx4 (fd_at M nm) HST.out).mono ?_; rintro e w7 ⟨gR, cR, rfl, hOR, hb7⟩)
                        have hQ7 := heap_alloc_new w7 (.cells #[.slice (some ⟨gR, 0, none⟩) M'.length cR, .int .i64 x1, .int .i64 y2, .int .i64 x3, .int .i64 x4, .bool y5] 28)
                        have hb8 := bstep hb7 (bal w7 (.cells #[.slice (some ⟨gR, 0, none⟩) M'.length cR, .int .i64 x1, .int .i64 y2, .int .i64 x3, .int .i64 x4, .bool y5] 28))
                        have hS8 := hH6.sw.later hb8
                        have hE8 := hE6.later hb8
                        have hO8 := hO6'.later hb8
                        have hM8 := (hOR.wk hH6.sw.b.size).later (bal w7 (.cells #[.slice (some ⟨gR, 0, none⟩) M'.length cR, .int .i64 x1, .int .i64 y2, .int .i64 x3, .int .i64 x4, .bool y5] 28))
                        clear k0 k1 k2 k3 k4 k5 t0 t1 t2 t3 hQ hb8 hb7 hOR hH6 hE6 hO6'
                        generalize w7.heap.size = Bt at hQ7 ⊢
                        generalize w7.alloc (.cells #[.slice (some ⟨gR, 0, none⟩) M'.length cR, .int .i64 x1, .int .i64 y2, .int .i64 x3, .int .i64 x4, .bool y5] 28) = w8 at hQ7 hS8 hE8 hO8 hM8 ⊢
                        obtain ⟨k0, k1, k2, k3, k4, k5⟩ := B6.of hS8.fs
                        obtain ⟨kf0, kf1, kf2, kf3, kf4, kf5⟩ := F6.of hS8.fs
                        obtain ⟨t0, t1, t2, t3, t4, t5⟩ := B6.of hQ7
                        go_upto_region 40 with (fail)
                        have hS9 := hS8.set (.slice (some ⟨gR, 0, none⟩) M'.length cR) x1 y2 x3 x4 y5
                        have hE9 := orw_set6 hE8 (orw_ne hE8 hS8.fs (by decide)) (.slice (some ⟨gR, 0, none⟩) M'.length cR) (.int .i64 x1) (.int .i64 y2) (.int .i64 x3) (.int .i64 x4) (.bool y5)
                        have hO9 := orw_set6 hO8 (orw_ne hO8 hS8.fs (by decide)) (.slice (some ⟨gR, 0, none⟩) M'.length cR) (.int .i64 x1) (.int .i64 y2) (.int .i64 x3) (.int .i64 x4) (.bool y5)
                        have hM9 : OwnL ((((((w8.setCell ⟨w.heap.size, 0, none⟩ (.slice (some ⟨gR, 0, none⟩) M'.length cR)).setCell ⟨w.heap.size, 1, none⟩ (.int .i64 x1)).setCell ⟨w.heap.size, 2, none⟩ (.int .i64 y2)).setCell ⟨w.heap.size, 3, none⟩ (.int .i64 x3)).setCell ⟨w.heap.size, 4, none⟩ (.int .i64 x4)).setCell ⟨w.heap.size, 5, none⟩ (.bool y5)) w.heap.size (.slice (some ⟨gR, 0, none⟩) M'.length cR) M' := keep6 hM8 hS8.fs
                        clear k0 k1 k2 k3 k4 k5 kf0 kf1 kf2 kf3 kf4 kf5 t0 t1 t2 t3 t4 t5 hQ7 hS8 hE8 hO8 hM8
                        generalize ((((((w8.setCell ⟨w.heap.size, 0, none⟩ (.slice (some ⟨gR, 0, none⟩) M'.length cR)).setCell ⟨w.heap.size, 1, none⟩ (.int .i64 x1)).setCell ⟨w.heap.size, 2, none⟩ (.int .i64 y2)).setCell ⟨w.heap.size, 3, none⟩ (.int .i64 x3)).setCell ⟨w.heap.size, 4, none⟩ (.int .i64 x4)).setCell ⟨w.heap.size, 5, none⟩ (.bool y5)) = w9 at hS9 hE9 hO9 hM9 ⊢
                        by_cases hc : zc = 0
                        · subst hc
                          go_wp2
                          go_roundw
                          case rel => exact ⟨q + 1, gR, cR, M', y2, y5, by omega, by go_num, ⟨hS9, hM9⟩, hOk2, by
                            show _ = _
                            rw [← HRun.out, HD.out]
                            exact (run_go (o := ⟨kd, nm, sz⟩) HST.out).symm, hE9, hO9⟩
                          case measure => first | (simp [intOf]; done) | (simp [intOf]; omega)
                        · have HC : Hid (zc ≠ 0) := hc
                          obtain ⟨k0, k1, k2, k3, k4, k5⟩ := B6.of hS9.fs
                          obtain ⟨kf0, kf1, kf2, kf3, kf4, kf5⟩ := F6.of hS9.fs
                          obtain ⟨p0, p1, p2, p3, p4, p5⟩ := B6.of hS9.r1
                          obtain ⟨q0, q1, q2, q3, q4, q5⟩ := F6.of hS9.r1
                          obtain ⟨r0, r1⟩ := B2.of hS9.r2
                          obtain ⟨s0, s1⟩ := F2.of hS9.r2
                          go_wp2
                          refine bodyPost_ret (results_c2t2 Tryz.results5 _ _ (w.heap.size + 1) 28 _ (0, 0) _ rfl (fin8 _ _ _ _ _ _ _ _ hS9.r1 (by omega)) Tryz.underlying28 rfl (by kernel_rfl) (w.heap.size + 1 + 1) 30 _ (0, 0) _ rfl (fin9 _ _ _ _ _ _ _ _ hS9.r2 (by omega)) Tryz.underlying30 rfl (by kernel_rfl)) rfl ?_
                          have hrun := HRun.out
                          rw [HD.out, run_stop (o := ⟨kd, nm, sz⟩) HST.out HC.out] at hrun
                          rw [← HA.out, recA_code hrd hm (by rw [HR.out]; exact hrun.symm) HC.out]
                          exact hS9.done hM9 hS9.no 0 0 zc _ _ _ _ _ _ _ _
                      · obtain rfl : q = N := by omega
                        obtain ⟨k0, k1, k2, k3, k4, k5⟩ := B6.of hH5.sw.fs
                        obtain ⟨kf0, kf1, kf2, kf3, kf4, kf5⟩ := F6.of hH5.sw.fs
                        obtain ⟨p0, p1, p2, p3, p4, p5⟩ := B6.of hH5.sw.r1
                        obtain ⟨q0, q1, q2, q3, q4, q5⟩ := F6.of hH5.sw.r1
                        obtain ⟨r0, r1⟩ := B2.of hH5.sw.r2
                        obtain ⟨s0, s1⟩ := F2.of hH5.sw.r2
                        have hE5' := hE5.wk (B' := w.heap.size) (by omega)
                        go_wp2
                        refine bodyPost_ret (results_c2t2 Tryz.results5 _ _ (w.heap.size + 1) 28 _ (0, 0) _ rfl (fin8 _ _ _ _ _ _ _ _ hH5.sw.r1 (by omega)) Tryz.underlying28 rfl (by kernel_rfl) (w.heap.size + 1 + 1) 30 _ (0, 0) _ rfl (fin9 _ _ _ _ _ _ _ _ hH5.sw.r2 (by omega)) Tryz.underlying30 rfl (by kernel_rfl)) rfl ?_
                        have hrun := HRun.out
                        rw [← HN.out, List.drop_length] at hrun
                        rw [← HA.out, recA_ok hrd hm (by rw [HR.out]; exact hrun.symm), HMX.out]
                        exact hH5.sw.done hH5.own hE5' (l : Int) (g : Int) 0 _ _ _ _ _ _ _ _
          | succ j =>
            obtain ⟨c0, c1, c2⟩ := hH2.file HL.out j (by omega)
            obtain ⟨k0, k1, k2, k3, k4, k5⟩ := B6.of hH2.sw.fs
            have hj0 : (0 : Int) ≤ (j : Int) := by omega
            have hj1 : (j : Int) < (n : Int) := by omega
            have hje : (((j + 1 : Nat) : Int) - 1) = (j : Int) := by omega
            have hjw : wrap64 ((j : Int) - 1) = (j : Int) - 1 := by unfold wrap64; omega
            have HJW : Hid (wrap64 ((j : Int) - 1) = (j : Int) - 1) := hjw
            clear hjw
            rw [hje]
            have hnj : ((nthF L j).s).size ≤ 2097152 := by
              have := okFn_size (hG.each _ (nth_mem L j (by rw [HL.out]; omega))).1
              omega
            have htk := del_take L l j (by rw [HL.out]; omega)
            obtain ⟨nm, hnm⟩ : ∃ nm, (nthF L j).s = nm := ⟨_, rfl⟩
            rw [hnm] at c0 hnj htk
            obtain ⟨y, hy⟩ : ∃ y, segN nm = y := ⟨_, rfl⟩
            have HTK : Hid (delO (L.take (j + 1)) l = (if l < y then [⟨5, nm, 0⟩] else []) ++ delO (L.take j) l) := by show _ = _; rw [← hy]; exact htk
            clear htk
            have hgO := orw_in hOO
            have hgE := orw_in hE2
            have hsz := hH2.sw.b.size
            have hno2 := orw_lt hH2.sw.no
            by_cases hyl : l < y
            · have hyi : (l : Int) < (y : Int) := by omega
              have hal := heap_alloc_new wr (.cells #[.int .i64 5, .string nm, .string ByteArray.empty, .int .i64 0] 53)
              go_wp2_with (first | (go_at_call 21; refine (sNumber _ _ y hy hnj).mono ?_; rintro e w1 ⟨rfl, rfl⟩) | (at_builtin; refine wpList_append_lies _ rfl _ _ _ rfl (w.heap.size + 1 + 1 + 1 + 1) 53 io _ 4 48 Tryz.underlying50 HIO.out ho0 ho1 ho2 rfl (by omega) (.slice (some ⟨gO, 0, none⟩) O.length cO) O.length _ rfl (own_below hOO (bal _ _)) ⟨w1.heap.size, 0, none⟩ 1 1 [.int .i64 5, .string nm, .string ByteArray.empty, .int .i64 0] rfl rfl (World.news_of_block hal) (ones4 _ _ _ _) (by omega) (by unfold maxLen; omega) (by omega) (by simp; omega) _ rfl ?_; intro g1 cap1 w2 hown2 hgrow hat hlt1))
              go_roundw
              case rel =>
                obtain ⟨X, hX⟩ := hgO.2
                have hX2 := rowL hX (bal w1 (.cells #[.int .i64 5, .string nm, .string ByteArray.empty, .int .i64 0] 53))
                refine ⟨j, O ++ [⟨5, nm, 0⟩], g1, cap1, by omega, by first | rfl | rw [HJW.out], by simp, ?_, by simp; omega, OwnO.snoc (o := ⟨5, nm, 0⟩) hown2, ?_, ?_⟩
                · rw [← hO1, HTK.out, if_pos hyl, List.append_assoc]
                · exact orw_grown (hE2.later (bal _ _)) hgrow (fun e => orw_ne (hE2.later (bal _ _)) hX2 (by decide) (Option.some.inj e))
                · exact (hH2.later (bal _ _)).grown (q := gO) hgrow (by omega) hX2 (by decide)
              case measure => (first | (simp [intOf]; done) | (simp [intOf]; omega))
            · have hyi : ¬ (l : Int) < (y : Int) := by omega
              go_wp2_with (go_at_call 21; refine (sNumber _ _ y hy hnj).mono ?_; rintro e w1 ⟨rfl, rfl⟩)
              go_roundw
              case rel => exact ⟨j, O, gO, cO, by omega, by first | rfl | rw [HJW.out], rfl, by rw [← hO1, HTK.out, if_neg hyl, List.nil_append], by omega, hOO, hE2, hH2⟩
              case measure => (first | (simp [intOf]; done) | (simp [intOf]; omega))
    · generalize hk : fdN L (seg (l + 1)) = k at hfd ⊢
      have hkn : k < n := by rw [← HL.out]; exact hfd
      obtain ⟨d, hd⟩ : ∃ d, (nthF L k).d = d := ⟨_, rfl⟩
      obtain ⟨xs, bb, hxs⟩ : ∃ xs bb, scn d = (xs, bb) := ⟨_, _, rfl⟩
      obtain ⟨hl1, hgo1, hgo2⟩ := ReadI.go (by rw [hk]; exact hfd) hrf hab habl (by rw [hk]; exact hd) hxs
      have hds : d.size ≤ 1048576 := by rw [← hd]; exact Nat.le_trans (sumL_one L k hfd) hs
      obtain ⟨hbb, hxl⟩ : bb ≤ d.size ∧ xs.length ≤ 1048576 := by
        have h1 := scn_ch d
        rw [hxs] at h1
        exact ⟨h1.2.2.1, Nat.le_trans h1.2.2.2 (Nat.le_trans h1.2.2.1 hds)⟩
      have hfk : fdI L (seg (l + 1)) = (k : Int) := by rw [fd_of (by rw [hk]; exact hfd), hk]
      obtain ⟨c0, c1, c2⟩ := hH.file HL.out k hkn
      rw [hd] at c1
      obtain ⟨k0, k1, k2, k3, k4, k5⟩ := B6.of hH.sw.fs
      have hk0 : (0 : Int) ≤ (k : Int) := by omega
      have hk1 : (k : Int) < (n : Int) := by omega
      have hsz := hH.sw.b.size
      have hno2 := orw_lt hH.sw.no
      have hgE := orw_in hE
      have HGO : Hid ((bb < d.size → ReadI L (l + 1) (E ++ xs) bb (-1)) ∧ (¬ bb < d.size → ReadI L (l + 1) (E ++ xs) bb (fdI L (seg (l + 1 + 1))))) := ⟨hgo1, hgo2⟩
      clear hgo1 hgo2 hrf hab habl hfd
      go_upto_region 17 with (first | (go_at_call 20; refine (sScanE d xs bb hxs _ hds).mono ?_; rintro e w1 ⟨g2, cc, rfl, hX1, hb1⟩; have hE1 := hE.later hb1; have hH1 := hH.later hb1; have hsz1 := hb1.size) | (at_builtin; refine wpList_append_own _ rfl _ _ 31 rfl (w.heap.size + 1 + 1 + 1 + 1) 9 i0 (.string ByteArray.empty) 1 16 Tryz.underlying31 HI.out hz0 hz1 hz2 rfl (by omega) (.slice (some ⟨gE, 0, none⟩) E.length cE) E.length _ rfl hE1 ⟨g2, 0, none⟩ xs.length cc (xs.map Value.string) rfl (by simp) (World.ownsRow.cells hX1 (g := g2) rfl) (strs_ones xs) (by unfold maxLen; omega) (by omega) (by omega) ?_; intro v' w2 hown2 hgrow hnil; obtain ⟨g1, cap1, rfl⟩ := ownsRow_some hown2 (fun e => by have := (hnil.1 e).1; cases this)))
      obtain ⟨X, hX⟩ := (orw_in hE1).2
      have hH2 := hH1.grown (q := gE) hgrow (by omega) hX (by decide)
      have hE2 : OwnS w2 (w.heap.size + 1 + 1 + 1 + 1) g1 cap1 (E ++ xs) := by
        unfold OwnS
        simpa using hown2
      have hw1 : (l : Int) + 1 = ((l + 1 : Nat) : Int) := by omega
      try rw [w64n hw1 (by omega)]
      try rw [hw1]
      obtain ⟨m, hm⟩ : ∃ m, l + 1 = m := ⟨_, rfl⟩
      rw [hm] at hfk hl1 ⊢
      have HM : Hid (l + 1 = m) := hm
      clear hm hw1 hown2 hgrow hnil hX hE hH hE1 hH1 c0 c1 c2 k0 k1 k2 k3 k4 k5 hb1 hX1
      have hmk : (m : Int) < 9999 := by omega
      have hm0 : (0 : Int) ≤ (m : Int) := by omega
      by_cases hbd : bb < d.size
      · have hq : ((bb : Int) == (d.size : Int)) = false := by
          have : (bb : Int) ≠ (d.size : Int) := by omega
          simpa using this
        refine wp_region_held_drew (S := fun x => HS w x gM n cM L x1 x2 x3 x4 false ∧ OwnS x (w.heap.size + 1 + 1 + 1 + 1) g1 cap1 (E ++ xs)) (by kernel_rfl) (⟨hH2.later (bdrew1 _), hE2.later (bdrew1 _)⟩) (fun hHeld => ?_)
        refine' wpAnyH_take (i := 0) (oi := ({ dst := some 56, op := Op.move (Operand.tmp 12), type := 3, pos := "l6_journal.go:233", after := #[], guard := none } : Oper)) (v := _) rfl (by kernel_rfl) (by kernel_rfl) (by kernel_rfl) (fun _ _ _ h => h) (Or.inl ⟨by rfl, fun x hSw => ?hyz2_0⟩) hHeld ?restz2_0
        case hyz2_0 =>
          obtain ⟨k0, k1, k2, k3, k4, k5⟩ := B6.of hSw.1.sw.fs; obtain ⟨c0, c1, c2⟩ := hSw.1.file HL.out k hkn; rw [hd] at c1
          go_simp
          try with_reducible rfl
        try simp only [Act.put, List.setIfInBounds_toArray, List.set_cons_zero, List.set_cons_succ]
        refine' wpAnyH_take (i := 1) (oi := ({ dst := some 57, op := Op.fieldAddr 28 (Operand.tmp 1) 0, type := 0, pos := "l6_journal.go:233", after := #[], guard := none } : Oper)) (v := _) rfl (by kernel_rfl) (by kernel_rfl) (by kernel_rfl) (fun _ _ _ h => h) (Or.inl ⟨by rfl, fun x hSw => ?hyz2_1⟩) hHeld ?restz2_1
        case hyz2_1 =>
          obtain ⟨k0, k1, k2, k3, k4, k5⟩ := B6.of hSw.1.sw.fs; obtain ⟨c0, c1, c2⟩ := hSw.1.file HL.out k hkn; rw [hd] at c1
          go_simp
          try with_reducible rfl
        try simp only [Act.put, List.setIfInBounds_toArray, List.set_cons_zero, List.set_cons_succ]
        refine' wpAnyH_take (i := 2) (oi := ({ dst := some 58, op := Op.load 26 (Operand.tmp 57), type := 26, pos := "l6_journal.go:233", after := #[{ on := 1, ground := Ground.data }], guard := none } : Oper)) (v := _) rfl (by kernel_rfl) (by kernel_rfl) (by kernel_rfl) (fun _ _ _ h => h) (Or.inl ⟨by rfl, fun x hSw => ?hyz2_2⟩) hHeld ?restz2_2
        case hyz2_2 =>
          obtain ⟨k0, k1, k2, k3, k4, k5⟩ := B6.of hSw.1.sw.fs; obtain ⟨c0, c1, c2⟩ := hSw.1.file HL.out k hkn; rw [hd] at c1
          go_simp
          try with_reducible rfl
        try simp only [Act.put, List.setIfInBounds_toArray, List.set_cons_zero, List.set_cons_succ]
        refine' wpAnyH_take (i := 3) (oi := ({ dst := some 59, op := Op.load 28 (Operand.tmp 1), type := 28, pos := "l6_journal.go:233", after := #[], guard := none } : Oper)) (v := _) rfl (by kernel_rfl) (by kernel_rfl) (by kernel_rfl) (fun _ _ _ h => h) (Or.inl ⟨by rfl, fun x hSw => ?hyz2_3⟩) hHeld ?restz2_3
        case hyz2_3 =>
          obtain ⟨k0, k1, k2, k3, k4, k5⟩ := B6.of hSw.1.sw.fs; obtain ⟨c0, c1, c2⟩ := hSw.1.file HL.out k hkn; rw [hd] at c1
          go_simp
          try with_reducible rfl
        try simp only [Act.put, List.setIfInBounds_toArray, List.set_cons_zero, List.set_cons_succ]
        refine' wpAnyH_take (i := 4) (oi := ({ dst := some 60, op := Op.move (Operand.tmp 8), type := 3, pos := "l6_journal.go:233", after := #[], guard := none } : Oper)) (v := _) rfl (by kernel_rfl) (by kernel_rfl) (by kernel_rfl) (fun _ _ _ h => h) (Or.inl ⟨by rfl, fun x hSw => ?hyz2_4⟩) hHeld ?restz2_4
        case hyz2_4 =>
          obtain ⟨k0, k1, k2, k3, k4, k5⟩ := B6.of hSw.1.sw.fs; obtain ⟨c0, c1, c2⟩ := hSw.1.file HL.out k hkn; rw [hd] at c1
          go_simp
          try with_reducible rfl
        try simp only [Act.put, List.setIfInBounds_toArray, List.set_cons_zero, List.set_cons_succ]
        refine wpAnyH_ready (rs := [5]) (by kernel_rfl) (by simp) ?_
        refine AllReadyH.cons (o := ({ dst := some 61, op := Op.call { callee := Callee.value (Operand.func 19), args := #[Operand.tmp 60], argTypes := #[3] }, type := 9, pos := "l6_journal.go:233", after := #[{ on := 4, ground := Ground.data }], guard := none } : Oper)) rfl (fun K hK => ?_) AllReadyH.nil
        go_simp
        refine (sSegmentE (m) _ rfl _ (by omega) (seg (m)) rfl).mono ?_
        rintro e wy ⟨rfl, hby⟩
        refine hK.out _ _ (⟨hHeld.1.later hby, hHeld.2.later hby⟩) (fun hHeld => ?_)
        clear hK K
        try simp only [Act.put, List.setIfInBounds_toArray, List.set_cons_zero, List.set_cons_succ]
        refine wpAnyH_ready (rs := [6]) (by kernel_rfl) (by simp) ?_
        refine AllReadyH.cons (o := ({ dst := some 62, op := Op.call { callee := Callee.value (Operand.func 18), args := #[Operand.tmp 59, Operand.tmp 61], argTypes := #[28, 9] }, type := 3, pos := "l6_journal.go:233", after := #[{ on := 3, ground := Ground.data }, { on := 5, ground := Ground.data }, { on := 5, ground := Ground.chain }], guard := none } : Oper)) rfl (fun K hK => ?_) AllReadyH.nil
        go_simp
        refine (sFindE gM n cM L HL.out x1 x2 x3 x4 false (seg m) _ (hHeld.1.fl HL.out) hn _ hfk).mono ?_
        rintro e wz ⟨rfl, hbz⟩
        refine hK.out _ _ (⟨hHeld.1.later hbz, hHeld.2.later hbz⟩) (fun hHeld => ?_)
        clear hK K
        try simp only [Act.put, List.setIfInBounds_toArray, List.set_cons_zero, List.set_cons_succ]
        refine' wpAnyH_take (i := 7) (oi := ({ dst := some 63, op := Op.indexAddr 26 (Operand.tmp 58) (Operand.tmp 62), type := 0, pos := "l6_journal.go:233", after := #[{ on := 2, ground := Ground.data }, { on := 6, ground := Ground.data }], guard := none } : Oper)) (v := _) rfl (by kernel_rfl) (by kernel_rfl) (by kernel_rfl) (fun _ _ _ h => h) (Or.inl ⟨by rfl, fun x hSw => ?hyz2_7⟩) hHeld ?restz2_7
        case hyz2_7 =>
          obtain ⟨k0, k1, k2, k3, k4, k5⟩ := B6.of hSw.1.sw.fs; obtain ⟨c0, c1, c2⟩ := hSw.1.file HL.out k hkn; rw [hd] at c1
          go_simp
          try with_reducible rfl
        try simp only [Act.put, List.setIfInBounds_toArray, List.set_cons_zero, List.set_cons_succ]
        refine' wpAnyH_take (i := 8) (oi := ({ dst := some 64, op := Op.fieldAddr 49 (Operand.tmp 63) 1, type := 0, pos := "l6_journal.go:233", after := #[{ on := 7, ground := Ground.data }], guard := none } : Oper)) (v := _) rfl (by kernel_rfl) (by kernel_rfl) (by kernel_rfl) (fun _ _ _ h => h) (Or.inl ⟨by rfl, fun x hSw => ?hyz2_8⟩) hHeld ?restz2_8
        case hyz2_8 =>
          obtain ⟨k0, k1, k2, k3, k4, k5⟩ := B6.of hSw.1.sw.fs; obtain ⟨c0, c1, c2⟩ := hSw.1.file HL.out k hkn; rw [hd] at c1
          go_simp
          try with_reducible rfl
        try simp only [Act.put, List.setIfInBounds_toArray, List.set_cons_zero, List.set_cons_succ]
        refine' wpAnyH_take (i := 9) (oi := ({ dst := some 65, op := Op.load 9 (Operand.tmp 64), type := 9, pos := "l6_journal.go:233", after := #[{ on := 8, ground := Ground.data }], guard := none } : Oper)) (v := _) rfl (by kernel_rfl) (by kernel_rfl) (by kernel_rfl) (fun _ _ _ h => h) (Or.inl ⟨by rfl, fun x hSw => ?hyz2_9⟩) hHeld ?restz2_9
        case hyz2_9 =>
          obtain ⟨k0, k1, k2, k3, k4, k5⟩ := B6.of hSw.1.sw.fs; obtain ⟨c0, c1, c2⟩ := hSw.1.file HL.out k hkn; rw [hd] at c1
          go_simp
          try with_reducible rfl
        try simp only [Act.put, List.setIfInBounds_toArray, List.set_cons_zero, List.set_cons_succ]
        refine' wpAnyH_take (i := 10) (oi := ({ dst := some 66, op := Op.call { callee := Callee.builtin Builtin.len, args := #[Operand.tmp 65], argTypes := #[9] }, type := 3, pos := "l6_journal.go:233", after := #[{ on := 9, ground := Ground.data }], guard := none } : Oper)) (v := _) rfl (by kernel_rfl) (by kernel_rfl) (by kernel_rfl) (fun _ _ _ h => h) (Or.inl ⟨by rfl, fun x hSw => ?hyz2_10⟩) hHeld ?restz2_10
        case hyz2_10 =>
          obtain ⟨k0, k1, k2, k3, k4, k5⟩ := B6.of hSw.1.sw.fs; obtain ⟨c0, c1, c2⟩ := hSw.1.file HL.out k hkn; rw [hd] at c1
          go_simp
          try with_reducible rfl
        try simp only [Act.put, List.setIfInBounds_toArray, List.set_cons_zero, List.set_cons_succ]
        refine' wpAnyH_take (i := 11) (oi := ({ dst := some 67, op := Op.binOp BinOp.eql 3 (Operand.tmp 56) (Operand.tmp 66) 3, type := 4, pos := "l6_journal.go:233", after := #[{ on := 0, ground := Ground.data }, { on := 10, ground := Ground.data }], guard := none } : Oper)) (v := .bool false) rfl (by kernel_rfl) (by kernel_rfl) (by kernel_rfl) (fun _ _ _ h => h) (Or.inl ⟨by rfl, fun x hSw => ?hyz2_11⟩) hHeld ?restz2_11
        case hyz2_11 =>
          obtain ⟨k0, k1, k2, k3, k4, k5⟩ := B6.of hSw.1.sw.fs; obtain ⟨c0, c1, c2⟩ := hSw.1.file HL.out k hkn; rw [hd] at c1
          go_simp
          try with_reducible rfl
        try simp only [Act.put, List.setIfInBounds_toArray, List.set_cons_zero, List.set_cons_succ]
        refine' wpAnyH_take (i := 12) (oi := ({ dst := some 68, op := Op.move (Operand.tmp 67), type := 4, pos := "l6_journal.go:233", after := #[{ on := 11, ground := Ground.data }, { on := 6, ground := Ground.chain }], guard := none } : Oper)) (v := .bool false) rfl (by kernel_rfl) (by kernel_rfl) (by kernel_rfl) (fun _ _ _ h => h) (Or.inl ⟨by rfl, fun x hSw => ?hyz2_12⟩) hHeld ?restz2_12
        case hyz2_12 =>
          obtain ⟨k0, k1, k2, k3, k4, k5⟩ := B6.of hSw.1.sw.fs; obtain ⟨c0, c1, c2⟩ := hSw.1.file HL.out k hkn; rw [hd] at c1
          go_simp
          try with_reducible rfl
        try simp only [Act.put, List.setIfInBounds_toArray, List.set_cons_zero, List.set_cons_succ]
        refine wpAnyH_take (i := 13) (oi := ({ dst := some 69, op := Op.move (Operand.tmp 8), type := 3, pos := "l6_journal.go:233", after := #[{ on := 12, ground := Ground.guard }], guard := some (12, true) } : Oper)) (v := undef) rfl (by kernel_rfl) (by kernel_rfl) (by kernel_rfl) (fun _ _ _ h => h) (Or.inr ⟨by rfl, rfl⟩) hHeld ?_
        try simp only [Act.put, List.setIfInBounds_toArray, List.set_cons_zero, List.set_cons_succ]
        refine wpAnyH_take (i := 14) (oi := ({ dst := some 70, op := Op.binOp BinOp.lss 3 (Operand.tmp 69) (Operand.const (Value.int IntKind.i64 9999)) 3, type := 4, pos := "l6_journal.go:233", after := #[{ on := 13, ground := Ground.data }, { on := 12, ground := Ground.guard }], guard := some (12, true) } : Oper)) (v := undef) rfl (by kernel_rfl) (by kernel_rfl) (by kernel_rfl) (fun _ _ _ h => h) (Or.inr ⟨by rfl, rfl⟩) hHeld ?_
        try simp only [Act.put, List.setIfInBounds_toArray, List.set_cons_zero, List.set_cons_succ]
        refine' wpAnyH_take (i := 15) (oi := ({ dst := some 71, op := Op.pick (Operand.tmp 68) (Operand.tmp 70) (Operand.const (Value.bool false)), type := 4, pos := "l6_journal.go:233", after := #[{ on := 12, ground := Ground.data }, { on := 14, ground := Ground.data }], guard := none } : Oper)) (v := _) rfl (by kernel_rfl) (by kernel_rfl) (by kernel_rfl) (fun _ _ _ h => h) (Or.inl ⟨by rfl, fun x hSw => ?hyz2_15⟩) hHeld ?restz2_15
        case hyz2_15 =>
          obtain ⟨k0, k1, k2, k3, k4, k5⟩ := B6.of hSw.1.sw.fs; obtain ⟨c0, c1, c2⟩ := hSw.1.file HL.out k hkn; rw [hd] at c1
          go_simp
          try with_reducible rfl
        try simp only [Act.put, List.setIfInBounds_toArray, List.set_cons_zero, List.set_cons_succ]
        refine wpAnyH_done (by kernel_rfl) ?_ _
        go_wp2
        go_roundw
        case rel => exact ⟨E ++ xs, m, bb, g1, cap1, -1, by simp, rfl, rfl, rfl, by rw [← HM.out]; exact HGO.out.1 hbd, hl1, by rw [List.length_append]; have := HM.out; omega, hHeld.2, hHeld.1⟩
        case measure => rw [← HM.out] at hl1 ⊢; exact mu1_lt hk0 hl1
      · have hq : ((bb : Int) == (d.size : Int)) = true := by
          have : (bb : Int) = (d.size : Int) := by omega
          simpa using this
        refine wp_region_held_drew (S := fun x => HS w x gM n cM L x1 x2 x3 x4 false ∧ OwnS x (w.heap.size + 1 + 1 + 1 + 1) g1 cap1 (E ++ xs)) (by kernel_rfl) (⟨hH2.later (bdrew1 _), hE2.later (bdrew1 _)⟩) (fun hHeld => ?_)
        refine' wpAnyH_take (i := 0) (oi := ({ dst := some 56, op := Op.move (Operand.tmp 12), type := 3, pos := "l6_journal.go:233", after := #[], guard := none } : Oper)) (v := _) rfl (by kernel_rfl) (by kernel_rfl) (by kernel_rfl) (fun _ _ _ h => h) (Or.inl ⟨by rfl, fun x hSw => ?hyz3_0⟩) hHeld ?restz3_0
        case hyz3_0 =>
          obtain ⟨k0, k1, k2, k3, k4, k5⟩ := B6.of hSw.1.sw.fs; obtain ⟨c0, c1, c2⟩ := hSw.1.file HL.out k hkn; rw [hd] at c1
          go_simp
          try with_reducible rfl
        try simp only [Act.put, List.setIfInBounds_toArray, List.set_cons_zero, List.set_cons_succ]
        refine' wpAnyH_take (i := 1) (oi := ({ dst := some 57, op := Op.fieldAddr 28 (Operand.tmp 1) 0, type := 0, pos := "l6_journal.go:233", after := #[], guard := none } : Oper)) (v := _) rfl (by kernel_rfl) (by kernel_rfl) (by kernel_rfl) (fun _ _ _ h => h) (Or.inl ⟨by rfl, fun x hSw => ?hyz3_1⟩) hHeld ?restz3_1
        case hyz3_1 =>
          obtain ⟨k0, k1, k2, k3, k4, k5⟩ := B6.of hSw.1.sw.fs; obtain ⟨c0, c1, c2⟩ := hSw.1.file HL.out k hkn; rw [hd] at c1
          go_simp
          try with_reducible rfl
        try simp only [Act.put, List.setIfInBounds_toArray, List.set_cons_zero, List.set_cons_succ]
        refine' wpAnyH_take (i := 2) (oi := ({ dst := some 58, op := Op.load 26 (Operand.tmp 57), type := 26, pos := "l6_journal.go:233", after := #[{ on := 1, ground := Ground.data }], guard := none } : Oper)) (v := _) rfl (by kernel_rfl) (by kernel_rfl) (by kernel_rfl) (fun _ _ _ h => h) (Or.inl ⟨by rfl, fun x hSw => ?hyz3_2⟩) hHeld ?restz3_2
        case hyz3_2 =>
          obtain ⟨k0, k1, k2, k3, k4, k5⟩ := B6.of hSw.1.sw.fs; obtain ⟨c0, c1, c2⟩ := hSw.1.file HL.out k hkn; rw [hd] at c1
          go_simp
          try with_reducible rfl
        try simp only [Act.put, List.setIfInBounds_toArray, List.set_cons_zero, List.set_cons_succ]
        refine' wpAnyH_take (i := 3) (oi := ({ dst := some 59, op := Op.load 28 (Operand.tmp 1), type := 28, pos := "l6_journal.go:233", after := #[], guard := none } : Oper)) (v := _) rfl (by kernel_rfl) (by kernel_rfl) (by kernel_rfl) (fun _ _ _ h => h) (Or.inl ⟨by rfl, fun x hSw => ?hyz3_3⟩) hHeld ?restz3_3
        case hyz3_3 =>
          obtain ⟨k0, k1, k2, k3, k4, k5⟩ := B6.of hSw.1.sw.fs; obtain ⟨c0, c1, c2⟩ := hSw.1.file HL.out k hkn; rw [hd] at c1
          go_simp
          try with_reducible rfl
        try simp only [Act.put, List.setIfInBounds_toArray, List.set_cons_zero, List.set_cons_succ]
        refine' wpAnyH_take (i := 4) (oi := ({ dst := some 60, op := Op.move (Operand.tmp 8), type := 3, pos := "l6_journal.go:233", after := #[], guard := none } : Oper)) (v := _) rfl (by kernel_rfl) (by kernel_rfl) (by kernel_rfl) (fun _ _ _ h => h) (Or.inl ⟨by rfl, fun x hSw => ?hyz3_4⟩) hHeld ?restz3_4
        case hyz3_4 =>
          obtain ⟨k0, k1, k2, k3, k4, k5⟩ := B6.of hSw.1.sw.fs; obtain ⟨c0, c1, c2⟩ := hSw.1.file HL.out k hkn; rw [hd] at c1
          go_simp
          try with_reducible rfl
        try simp only [Act.put, List.setIfInBounds_toArray, List.set_cons_zero, List.set_cons_succ]
        refine wpAnyH_ready (rs := [5]) (by kernel_rfl) (by simp) ?_
        refine AllReadyH.cons (o := ({ dst := some 61, op := Op.call { callee := Callee.value (Operand.func 19), args := #[Operand.tmp 60], argTypes := #[3] }, type := 9, pos := "l6_journal.go:233", after := #[{ on := 4, ground := Ground.data }], guard := none } : Oper)) rfl (fun K hK => ?_) AllReadyH.nil
        go_simp
        refine (sSegmentE (m) _ rfl _ (by omega) (seg (m)) rfl).mono ?_
        rintro e wy ⟨rfl, hby⟩
        refine hK.out _ _ (⟨hHeld.1.later hby, hHeld.2.later hby⟩) (fun hHeld => ?_)
        clear hK K
        try simp only [Act.put, List.setIfInBounds_toArray, List.set_cons_zero, List.set_cons_succ]
        refine wpAnyH_ready (rs := [6]) (by kernel_rfl) (by simp) ?_
        refine AllReadyH.cons (o := ({ dst := some 62, op := Op.call { callee := Callee.value (Operand.func 18), args := #[Operand.tmp 59, Operand.tmp 61], argTypes := #[28, 9] }, type := 3, pos := "l6_journal.go:233", after := #[{ on := 3, ground := Ground.data }, { on := 5, ground := Ground.data }, { on := 5, ground := Ground.chain }], guard := none } : Oper)) rfl (fun K hK => ?_) AllReadyH.nil
        go_simp
        refine (sFindE gM n cM L HL.out x1 x2 x3 x4 false (seg m) _ (hHeld.1.fl HL.out) hn _ hfk).mono ?_
        rintro e wz ⟨rfl, hbz⟩
        refine hK.out _ _ (⟨hHeld.1.later hbz, hHeld.2.later hbz⟩) (fun hHeld => ?_)
        clear hK K
        try simp only [Act.put, List.setIfInBounds_toArray, List.set_cons_zero, List.set_cons_succ]
        refine' wpAnyH_take (i := 7) (oi := ({ dst := some 63, op := Op.indexAddr 26 (Operand.tmp 58) (Operand.tmp 62), type := 0, pos := "l6_journal.go:233", after := #[{ on := 2, ground := Ground.data }, { on := 6, ground := Ground.data }], guard := none } : Oper)) (v := _) rfl (by kernel_rfl) (by kernel_rfl) (by kernel_rfl) (fun _ _ _ h => h) (Or.inl ⟨by rfl, fun x hSw => ?hyz3_7⟩) hHeld ?restz3_7
        case hyz3_7 =>
          obtain ⟨k0, k1, k2, k3, k4, k5⟩ := B6.of hSw.1.sw.fs; obtain ⟨c0, c1, c2⟩ := hSw.1.file HL.out k hkn; rw [hd] at c1
          go_simp
          try with_reducible rfl
        try simp only [Act.put, List.setIfInBounds_toArray, List.set_cons_zero, List.set_cons_succ]
        refine' wpAnyH_take (i := 8) (oi := ({ dst := some 64, op := Op.fieldAddr 49 (Operand.tmp 63) 1, type := 0, pos := "l6_journal.go:233", after := #[{ on := 7, ground := Ground.data }], guard := none } : Oper)) (v := _) rfl (by kernel_rfl) (by kernel_rfl) (by kernel_rfl) (fun _ _ _ h => h) (Or.inl ⟨by rfl, fun x hSw => ?hyz3_8⟩) hHeld ?restz3_8
        case hyz3_8 =>
          obtain ⟨k0, k1, k2, k3, k4, k5⟩ := B6.of hSw.1.sw.fs; obtain ⟨c0, c1, c2⟩ := hSw.1.file HL.out k hkn; rw [hd] at c1
          go_simp
          try with_reducible rfl
        try simp only [Act.put, List.setIfInBounds_toArray, List.set_cons_zero, List.set_cons_succ]
        refine' wpAnyH_take (i := 9) (oi := ({ dst := some 65, op := Op.load 9 (Operand.tmp 64), type := 9, pos := "l6_journal.go:233", after := #[{ on := 8, ground := Ground.data }], guard := none } : Oper)) (v := _) rfl (by kernel_rfl) (by kernel_rfl) (by kernel_rfl) (fun _ _ _ h => h) (Or.inl ⟨by rfl, fun x hSw => ?hyz3_9⟩) hHeld ?restz3_9
        case hyz3_9 =>
          obtain ⟨k0, k1, k2, k3, k4, k5⟩ := B6.of hSw.1.sw.fs; obtain ⟨c0, c1, c2⟩ := hSw.1.file HL.out k hkn; rw [hd] at c1
          go_simp
          try with_reducible rfl
        try simp only [Act.put, List.setIfInBounds_toArray, List.set_cons_zero, List.set_cons_succ]
        refine' wpAnyH_take (i := 10) (oi := ({ dst := some 66, op := Op.call { callee := Callee.builtin Builtin.len, args := #[Operand.tmp 65], argTypes := #[9] }, type := 3, pos := "l6_journal.go:233", after := #[{ on := 9, ground := Ground.data }], guard := none } : Oper)) (v := _) rfl (by kernel_rfl) (by kernel_rfl) (by kernel_rfl) (fun _ _ _ h => h) (Or.inl ⟨by rfl, fun x hSw => ?hyz3_10⟩) hHeld ?restz3_10
        case hyz3_10 =>
          obtain ⟨k0, k1, k2, k3, k4, k5⟩ := B6.of hSw.1.sw.fs; obtain ⟨c0, c1, c2⟩ := hSw.1.file HL.out k hkn; rw [hd] at c1
          go_simp
          try with_reducible rfl
        try simp only [Act.put, List.setIfInBounds_toArray, List.set_cons_zero, List.set_cons_succ]
        refine' wpAnyH_take (i := 11) (oi := ({ dst := some 67, op := Op.binOp BinOp.eql 3 (Operand.tmp 56) (Operand.tmp 66) 3, type := 4, pos := "l6_journal.go:233", after := #[{ on := 0, ground := Ground.data }, { on := 10, ground := Ground.data }], guard := none } : Oper)) (v := .bool true) rfl (by kernel_rfl) (by kernel_rfl) (by kernel_rfl) (fun _ _ _ h => h) (Or.inl ⟨by rfl, fun x hSw => ?hyz3_11⟩) hHeld ?restz3_11
        case hyz3_11 =>
          obtain ⟨k0, k1, k2, k3, k4, k5⟩ := B6.of hSw.1.sw.fs; obtain ⟨c0, c1, c2⟩ := hSw.1.file HL.out k hkn; rw [hd] at c1
          go_simp
          try with_reducible rfl
        try simp only [Act.put, List.setIfInBounds_toArray, List.set_cons_zero, List.set_cons_succ]
        refine' wpAnyH_take (i := 12) (oi := ({ dst := some 68, op := Op.move (Operand.tmp 67), type := 4, pos := "l6_journal.go:233", after := #[{ on := 11, ground := Ground.data }, { on := 6, ground := Ground.chain }], guard := none } : Oper)) (v := .bool true) rfl (by kernel_rfl) (by kernel_rfl) (by kernel_rfl) (fun _ _ _ h => h) (Or.inl ⟨by rfl, fun x hSw => ?hyz3_12⟩) hHeld ?restz3_12
        case hyz3_12 =>
          obtain ⟨k0, k1, k2, k3, k4, k5⟩ := B6.of hSw.1.sw.fs; obtain ⟨c0, c1, c2⟩ := hSw.1.file HL.out k hkn; rw [hd] at c1
          go_simp
          try with_reducible rfl
        try simp only [Act.put, List.setIfInBounds_toArray, List.set_cons_zero, List.set_cons_succ]
        refine' wpAnyH_take (i := 13) (oi := ({ dst := some 69, op := Op.move (Operand.tmp 8), type := 3, pos := "l6_journal.go:233", after := #[{ on := 12, ground := Ground.guard }], guard := some (12, true) } : Oper)) (v := _) rfl (by kernel_rfl) (by kernel_rfl) (by kernel_rfl) (fun _ _ _ h => h) (Or.inl ⟨by rfl, fun x hSw => ?hyz3_13⟩) hHeld ?restz3_13
        case hyz3_13 =>
          obtain ⟨k0, k1, k2, k3, k4, k5⟩ := B6.of hSw.1.sw.fs; obtain ⟨c0, c1, c2⟩ := hSw.1.file HL.out k hkn; rw [hd] at c1
          go_simp
          try with_reducible rfl
        try simp only [Act.put, List.setIfInBounds_toArray, List.set_cons_zero, List.set_cons_succ]
        refine' wpAnyH_take (i := 14) (oi := ({ dst := some 70, op := Op.binOp BinOp.lss 3 (Operand.tmp 69) (Operand.const (Value.int IntKind.i64 9999)) 3, type := 4, pos := "l6_journal.go:233", after := #[{ on := 13, ground := Ground.data }, { on := 12, ground := Ground.guard }], guard := some (12, true) } : Oper)) (v := _) rfl (by kernel_rfl) (by kernel_rfl) (by kernel_rfl) (fun _ _ _ h => h) (Or.inl ⟨by rfl, fun x hSw => ?hyz3_14⟩) hHeld ?restz3_14
        case hyz3_14 =>
          obtain ⟨k0, k1, k2, k3, k4, k5⟩ := B6.of hSw.1.sw.fs; obtain ⟨c0, c1, c2⟩ := hSw.1.file HL.out k hkn; rw [hd] at c1
          go_simp
          try with_reducible rfl
        try simp only [Act.put, List.setIfInBounds_toArray, List.set_cons_zero, List.set_cons_succ]
        refine' wpAnyH_take (i := 15) (oi := ({ dst := some 71, op := Op.pick (Operand.tmp 68) (Operand.tmp 70) (Operand.const (Value.bool false)), type := 4, pos := "l6_journal.go:233", after := #[{ on := 12, ground := Ground.data }, { on := 14, ground := Ground.data }], guard := none } : Oper)) (v := _) rfl (by kernel_rfl) (by kernel_rfl) (by kernel_rfl) (fun _ _ _ h => h) (Or.inl ⟨by rfl, fun x hSw => ?hyz3_15⟩) hHeld ?restz3_15
        case hyz3_15 =>
          obtain ⟨k0, k1, k2, k3, k4, k5⟩ := B6.of hSw.1.sw.fs; obtain ⟨c0, c1, c2⟩ := hSw.1.file HL.out k hkn; rw [hd] at c1
          go_simp
          try with_reducible rfl
        try simp only [Act.put, List.setIfInBounds_toArray, List.set_cons_zero, List.set_cons_succ]
        refine wpAnyH_done (by kernel_rfl) ?_ _
        go_upto_region 18 with (fail)
        refine wp_region_held_drew (S := fun x => HS w x gM n cM L x1 x2 x3 x4 false ∧ OwnS x (w.heap.size + 1 + 1 + 1 + 1) g1 cap1 (E ++ xs)) (by kernel_rfl) (⟨hHeld.1.later (bdrew1 _), hHeld.2.later (bdrew1 _)⟩) (fun hHeld => ?_)
        refine' wpAnyH_take (i := 0) (oi := ({ dst := some 72, op := Op.load 28 (Operand.tmp 1), type := 28, pos := "l6_journal.go:234", after := #[], guard := none } : Oper)) (v := _) rfl (by kernel_rfl) (by kernel_rfl) (by kernel_rfl) (fun _ _ _ h => h) (Or.inl ⟨by rfl, fun x hSw => ?hyz4_0⟩) hHeld ?restz4_0
        case hyz4_0 =>
          obtain ⟨k0, k1, k2, k3, k4, k5⟩ := B6.of hSw.1.sw.fs
          go_simp
          try with_reducible rfl
        try simp only [Act.put, List.setIfInBounds_toArray, List.set_cons_zero, List.set_cons_succ]
        refine' wpAnyH_take (i := 1) (oi := ({ dst := some 73, op := Op.move (Operand.tmp 8), type := 3, pos := "l6_journal.go:234", after := #[], guard := none } : Oper)) (v := _) rfl (by kernel_rfl) (by kernel_rfl) (by kernel_rfl) (fun _ _ _ h => h) (Or.inl ⟨by rfl, fun x hSw => ?hyz4_1⟩) hHeld ?restz4_1
        case hyz4_1 =>
          obtain ⟨k0, k1, k2, k3, k4, k5⟩ := B6.of hSw.1.sw.fs
          go_simp
          try with_reducible rfl
        try simp only [Act.put, List.setIfInBounds_toArray, List.set_cons_zero, List.set_cons_succ]
        refine' wpAnyH_take (i := 2) (oi := ({ dst := some 74, op := Op.binOp BinOp.add 3 (Operand.tmp 73) (Operand.const (Value.int IntKind.i64 1)) 3, type := 3, pos := "l6_journal.go:234", after := #[{ on := 1, ground := Ground.data }], guard := none } : Oper)) (v := _) rfl (by kernel_rfl) (by kernel_rfl) (by kernel_rfl) (fun _ _ _ h => h) (Or.inl ⟨by rfl, fun x hSw => ?hyz4_2⟩) hHeld ?restz4_2
        case hyz4_2 =>
          obtain ⟨k0, k1, k2, k3, k4, k5⟩ := B6.of hSw.1.sw.fs
          go_simp
          try with_reducible rfl
        try simp only [Act.put, List.setIfInBounds_toArray, List.set_cons_zero, List.set_cons_succ]
        refine wpAnyH_ready (rs := [3]) (by kernel_rfl) (by simp) ?_
        refine AllReadyH.cons (o := ({ dst := some 75, op := Op.call { callee := Callee.value (Operand.func 19), args := #[Operand.tmp 74], argTypes := #[3] }, type := 9, pos := "l6_journal.go:234", after := #[{ on := 2, ground := Ground.data }], guard := none } : Oper)) rfl (fun K hK => ?_) AllReadyH.nil
        go_simp
        refine (sSegZ (m + 1) ((m : Int) + 1) (by omega) _ (by omega)).mono ?_
        rintro e wy ⟨rfl, hby⟩
        refine hK.out _ _ (⟨hHeld.1.later hby, hHeld.2.later hby⟩) (fun hHeld => ?_)
        clear hK K
        try simp only [Act.put, List.setIfInBounds_toArray, List.set_cons_zero, List.set_cons_succ]
        refine wpAnyH_ready (rs := [4]) (by kernel_rfl) (by simp) ?_
        refine AllReadyH.cons (o := ({ dst := some 76, op := Op.call { callee := Callee.value (Operand.func 18), args := #[Operand.tmp 72, Operand.tmp 75], argTypes := #[28, 9] }, type := 3, pos := "l6_journal.go:234", after := #[{ on := 0, ground := Ground.data }, { on := 3, ground := Ground.data }, { on := 3, ground := Ground.chain }], guard := none } : Oper)) rfl (fun K hK => ?_) AllReadyH.nil
        go_simp
        refine (sFindE gM n cM L HL.out x1 x2 x3 x4 false (seg (m + 1)) _ (hHeld.1.fl HL.out) hn _ rfl).mono ?_
        rintro e wz ⟨rfl, hbz⟩
        refine hK.out _ _ (⟨hHeld.1.later hbz, hHeld.2.later hbz⟩) (fun hHeld => ?_)
        clear hK K
        try simp only [Act.put, List.setIfInBounds_toArray, List.set_cons_zero, List.set_cons_succ]
        refine' wpAnyH_take (i := 5) (oi := ({ dst := some 10, op := Op.assign (Operand.tmp 76), type := 3, pos := "l6_journal.go:234", after := #[{ on := 4, ground := Ground.data }, { on := 4, ground := Ground.chain }, { on := 0, ground := Ground.phase }, { on := 1, ground := Ground.phase }, { on := 2, ground := Ground.phase }, { on := 3, ground := Ground.phase }, { on := 4, ground := Ground.phase }], guard := none } : Oper)) (v := _) rfl (by kernel_rfl) (by kernel_rfl) (by kernel_rfl) (fun _ _ _ h => h) (Or.inl ⟨by rfl, fun x hSw => ?hyz4_5⟩) hHeld ?restz4_5
        case hyz4_5 =>
          obtain ⟨k0, k1, k2, k3, k4, k5⟩ := B6.of hSw.1.sw.fs
          go_simp
          try with_reducible rfl
        try simp only [Act.put, List.setIfInBounds_toArray, List.set_cons_zero, List.set_cons_succ]
        refine wpAnyH_done (by kernel_rfl) ?_ _
        go_wp2
        go_roundw
        case rel => exact ⟨E ++ xs, m, bb, g1, cap1, _, by simp, rfl, rfl, rfl, by rw [← HM.out]; exact HGO.out.2 hbd, hl1, by rw [List.length_append]; have := HM.out; omega, hHeld.2, hHeld.1⟩
        case measure => rw [← HM.out] at hl1 ⊢; exact mu1_lt hk0 hl1
end Go.Proofs.YtngppfjphbodcaaGreatDoor
