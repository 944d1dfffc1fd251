/-
  Rows chosen: the program's way.
-/
import Derived.Test.YtgeiamgeclbiaaaGreatDoorVka
namespace Go.Proofs.YtgeiamgeclbiaaaGreatDoor
open Go.RowKit Go.Maps Go.WideMaps
/-- What is chosen of a table's rows. -/
def selC (C : Nat → Clm) (n : Nat) (R : Nat → Nat → Itm) (W : Nat → Itm) (n6 : Nat) (m7 : Nat → Nat) (O : Nat → Nat → Itm) (n7 r : Nat) : List Rw × Int :=
  if seG C n R W n6 m7 O n7 r = true then ([], 6) else (seS C n R W n6 m7 O n7 r, 0)
theorem take_suc {F : List Rw} {k : Nat} (h : k < F.length) : F.take (k + 1) = F.take k ++ [F.getD k r0] := by
  rw [List.take_add_one]
  simp [h]
set_option maxRecDepth 20000 in
set_option maxHeartbeats 16000000 in
theorem iChosen (ac : Option Addr) (n cc : Nat) (C : Nat → Clm) (mb : Nat) (ar : Option Addr) (dr cr : Nat) (dm : Nat → Nat) (dR : Nat → Nat → Itm) (k0 : Int) (tb : ByteArray) (a2 : Option Addr) (n2 c2 : Nat) (a3 : Option Addr) (n3 c3 : Nat) (col : ByteArray) (a5 : Option Addr) (n5 c5 : Nat) (a6 : Option Addr) (n6 c6 : Nat) (a7 : Option Addr) (n7 c7 : Nat) (W : Nat → Itm) (m7 : Nat → Nat) (O : Nat → Nat → Itm) (w : World) (hP : PlAt w mb n C) (hdp : ∀ k, k < n → hasCol C (C k).s k = false) (hR : OL w ar dr dm dR) (hW : IL w a6 n6 W) (hOu : OL w a7 n7 m7 O) (hok : okWhere W n6 = true) (hcw : cwR C n W n6 = 0) (hex : ∀ i, i < n7 → okExp (O i) (m7 i) = true ∧ (ck C n (O i) (m7 i)).2 = 0) (hN : Nice n dr dm dR) (hg : ∀ k, k < dr → goodR n C (dR k)) (h7 : n7 ≤ 1048576) :
    Calls Tryz.prog 38 #[.agg #[.slice ac n cc, .map (some mb)], .slice ar dr cr, .agg #[.int .i64 k0, .string tb, .slice a2 n2 c2, .slice a3 n3 c3, .string col, .slice a5 n5 c5, .slice a6 n6 c6, .slice a7 n7 c7]] w (RApt w (selC C n dR W n6 m7 O n7 dr).1 (selC C n dR W n6 m7 O n7 dr).2) := by
  have hbU : Below w.heap.size w (((w.alloc (.cells #[.slice ac n cc, .map (some mb)] 79)).alloc (.cells #[.int .i64 k0, .string tb, .slice a2 n2 c2, .slice a3 n3 c3, .string col, .slice a5 n5 c5, .slice a6 n6 c6, .slice a7 n7 c7] 45)).alloc (.cells #[] 41)) := below3 _ _ _ _
  have hsU : (((w.alloc (.cells #[.slice ac n cc, .map (some mb)] 79)).alloc (.cells #[.int .i64 k0, .string tb, .slice a2 n2 c2, .slice a3 n3 c3, .string col, .slice a5 n5 c5, .slice a6 n6 c6, .slice a7 n7 c7] 45)).alloc (.cells #[] 41)).heap.size = w.heap.size + 3 := by rw [World.size_alloc, World.size_alloc, World.size_alloc]
  have hq0 : (((w.alloc (.cells #[.slice ac n cc, .map (some mb)] 79)).alloc (.cells #[.int .i64 k0, .string tb, .slice a2 n2 c2, .slice a3 n3 c3, .string col, .slice a5 n5 c5, .slice a6 n6 c6, .slice a7 n7 c7] 45)).alloc (.cells #[] 41)).heap[w.heap.size]? = some (.cells #[.slice ac n cc, .map (some mb)] 79 (0, 0)) := rowL (rowL (heap_alloc_new w _) (bal _ _)) (bal _ _)
  have hq1 : (((w.alloc (.cells #[.slice ac n cc, .map (some mb)] 79)).alloc (.cells #[.int .i64 k0, .string tb, .slice a2 n2 c2, .slice a3 n3 c3, .string col, .slice a5 n5 c5, .slice a6 n6 c6, .slice a7 n7 c7] 45)).alloc (.cells #[] 41)).heap[w.heap.size + 1]? = some (.cells #[.int .i64 k0, .string tb, .slice a2 n2 c2, .slice a3 n3 c3, .string col, .slice a5 n5 c5, .slice a6 n6 c6, .slice a7 n7 c7] 45 (0, 0)) := by
    have q := heap_alloc_new (w.alloc (.cells #[.slice ac n cc, .map (some mb)] 79)) (.cells #[.int .i64 k0, .string tb, .slice a2 n2 c2, .slice a3 n3 c3, .string col, .slice a5 n5 c5, .slice a6 n6 c6, .slice a7 n7 c7] 45)
    rw [World.size_alloc] at q
    exact rowL q (bal _ _)
  have hOE : (((w.alloc (.cells #[.slice ac n cc, .map (some mb)] 79)).alloc (.cells #[.int .i64 k0, .string tb, .slice a2 n2 c2, .slice a3 n3 c3, .string col, .slice a5 n5 c5, .slice a6 n6 c6, .slice a7 n7 c7] 45)).alloc (.cells #[] 41)).ownsRow (w.heap.size + 1 + 1) 41 1 (.slice (some ⟨w.heap.size + 1 + 1, 0, none⟩) 0 0) 0 [] := by
    have q := World.ownsRow_made (base := w.heap.size + 1 + 1) (e := 41) (size := 1) ((w.alloc (.cells #[.slice ac n cc, .map (some mb)] 79)).alloc (.cells #[.int .i64 k0, .string tb, .slice a2 n2 c2, .slice a3 n3 c3, .string col, .slice a5 n5 c5, .slice a6 n6 c6, .slice a7 n7 c7] 45)) #[] 0 (by rw [World.size_alloc, World.size_alloc]; exact Nat.le_refl _) (by unfold maxLen; omega) rfl
    rw [World.size_alloc, World.size_alloc] at q
    exact q
  obtain ⟨c0, c1⟩ : (((w.alloc (.cells #[.slice ac n cc, .map (some mb)] 79)).alloc (.cells #[.int .i64 k0, .string tb, .slice a2 n2 c2, .slice a3 n3 c3, .string col, .slice a5 n5 c5, .slice a6 n6 c6, .slice a7 n7 c7] 45)).alloc (.cells #[] 41)).cell? ⟨w.heap.size, 0, none⟩ = some (.slice ac n cc) ∧ (((w.alloc (.cells #[.slice ac n cc, .map (some mb)] 79)).alloc (.cells #[.int .i64 k0, .string tb, .slice a2 n2 c2, .slice a3 n3 c3, .string col, .slice a5 n5 c5, .slice a6 n6 c6, .slice a7 n7 c7] 45)).alloc (.cells #[] 41)).cell? ⟨w.heap.size, 1, none⟩ = some (.map (some mb)) := ⟨cell_of_row _ _ 0 _ _ _ hq0, cell_of_row _ _ 1 _ _ _ hq0⟩
  obtain ⟨-, -, -, -, -, -, d6_, -⟩ := box8 hq1
  have HF := iFitting ac n cc C mb ar dr cr dm dR a6 n6 c6 W w _ hbU (hP.later hbU) hdp hR (hW.later hbU) hok hcw hN hg
  have hr1 := hN.r1
  have hn1 := hN.n1
  obtain ⟨F, hF⟩ : ∃ F, ftS C n dm dR W n6 dr = F := ⟨_, rfl⟩
  have hFl : F.length ≤ dr := by rw [← hF]; exact ftS_len
  have HM : Hid (∀ x ∈ F, x.1 = n ∧ goodR n C x.2) := by
    show ∀ x ∈ F, _
    rw [← hF]
    exact ftS_mem (P := fun x => x.1 = n ∧ goodR n C x.2) (fun j hj => ⟨hN.len j hj, hg j hj⟩)
  have HCH : Hid (selC C n dR W n6 m7 O n7 dr = if F.any (fun x => seBig C n x.2 m7 O n7) = true then ([], 6) else (F.map (fun x => seR C n x.2 m7 O n7), 0)) := by
    show _ = _
    obtain ⟨e1, e2⟩ := se_ft (C := C) (n := n) (m := dm) (R := dR) (W := W) (n6 := n6) (m7 := m7) (O := O) (n7 := n7) dr
    unfold selC
    rw [e1, e2, hF]
  rw [hF] at HF
  have HPL : Hid (PlAt w mb n C ∧ (∀ k, k < n → hasCol C (C k).s k = false)) := ⟨hP, hdp⟩
  have HEX : Hid (∀ i, i < n7 → okExp (O i) (m7 i) = true ∧ (ck C n (O i) (m7 i)).2 = 0) := hex
  clear hF hP hdp hR hW hok hcw hex hN hg
  obtain ⟨jr, hir, hzr0, hzr1, hzr2⟩ := info_parts Tryz.infoRow
  have HIr : Hid (Tryz.prog.info? 41 = some jr) := hir
  clear hir
  go_enter Tryz.func38, Tryz.ntmps38
  go_wp2_with (go_at_call 89; refine HF.mono ?_; rintro e w1 ⟨a1, c1', rfl, hOD, hb1⟩)
  have hOD1 := hOD.cut
  have y0 := rowL hq0 hb1
  have y1 := rowL hq1 hb1
  have hOE1 := own_below hOE hb1
  have hbw1 := bstep hbU hb1
  have hs1 : w.heap.size + 3 ≤ w1.heap.size := by have := hb1.size; omega
  rw [hsU] at hOD1
  clear hOD hq0 hq1 hOE c0 c1 d6_ hbU HF
  go_loopw [8, 10, 11, 12, 13, 21] (fun v _ _ _ _ i wr => ∃ (k : Nat) (A : List Rw) (gg cap : Nat) (f : Nat → List Value), k ≤ F.length ∧ i = .int .i64 k ∧ v = .slice (some ⟨gg, 0, none⟩) A.length cap ∧ (F.take k).map (fun x => seR C n x.2 m7 O n7) = A ∧ (F.take k).any (fun x => seBig C n x.2 m7 O n7) = false ∧ RO (w.heap.size + 1 + 1) (fun b => w1.heap.size ≤ b) wr (.slice (some ⟨gg, 0, none⟩) A.length cap) A.length (fun i => A.getD i r0) f ∧ RowsAt wr w1.heap.size gg n7 A.length f ∧ (gg = w.heap.size + 1 + 1 ∨ w1.heap.size ≤ gg) ∧ wr.heap[w.heap.size]? = some (.cells #[.slice ac n cc, .map (some mb)] 79 (0, 0)) ∧ wr.heap[w.heap.size + 1]? = some (.cells #[.int .i64 k0, .string tb, .slice a2 n2 c2, .slice a3 n3 c3, .string col, .slice a5 n5 c5, .slice a6 n6 c6, .slice a7 n7 c7] 45 (0, 0)) ∧ OD (fun b => (b < w.heap.size ∨ w.heap.size + 3 ≤ b) ∧ b < w1.heap.size) wr a1 F ∧ Below w.heap.size w wr ∧ w1.heap.size ≤ wr.heap.size) (fun _ _ _ _ _ i _ => F.length - (intOf i).toNat)
  case atStart => exact ⟨0, [], w.heap.size + 1 + 1, 0, fun _ => [], Nat.zero_le _, rfl, rfl, by simp, by simp, GO.nil hOE1, RowsAt.nil _ _ _ _ _, Or.inl rfl, y0, y1, hOD1, hbw1, Nat.le_refl _⟩
  case round =>
    obtain ⟨k, A, gg, cap, f, hk, rfl, rfl, hse, hsg, hRO, hRA, hgb, q0, q1, hODr, hbw, hsr⟩ := hrel
    have HSS : Hid ((F.take k).map (fun x => seR C n x.2 m7 O n7) = A ∧ (F.take k).any (fun x => seBig C n x.2 m7 O n7) = false) := ⟨hse, hsg⟩
    have hAl : A.length ≤ 1000000 := by rw [← hse]; simp; omega
    clear hse hsg y0 y1 hOD1 hOE1 hbw1
    have hgl := hRO.own.lt gg rfl
    by_cases hlt : k < F.length
    rotate_left
    · obtain rfl : k = F.length := by omega
      have HA : Hid (selC C n dR W n6 m7 O n7 dr = (A, 0)) := by
        show _ = _
        have h1 := HSS.out.1
        have h2 := HSS.out.2
        rw [List.take_length] at h1 h2
        rw [HCH.out, h1, h2, if_neg (by simp)]
      obtain ⟨a', c', e', hOD2⟩ := RO.od (D' := fun b => w.heap.size ≤ b) hRO (fun b h => by omega) (fun b h => by omega)
      obtain ⟨rfl, rfl⟩ : some ⟨gg, 0, none⟩ = a' ∧ cap = c' := by simpa using e'
      have hAp := hRA.apt (lo' := w.heap.size) hRO (fun x hx => by
        rw [← HSS.out.1] at hx
        obtain ⟨y, -, rfl⟩ := List.mem_map.1 hx
        rfl) (by omega) (by omega)
      go_wp2
      refine bodyPost_ret (results_tmp2 rfl _ _ _) rfl ?_
      rw [HA.out]
      exact ⟨_, _, rfl, hOD2, hAp, hbw⟩
    have HNX : Hid ((F.take (k + 1)).map (fun x => seR C n x.2 m7 O n7) = A ++ [seR C n (F.getD k r0).2 m7 O n7] ∧ (F.take (k + 1)).any (fun x => seBig C n x.2 m7 O n7) = seBig C n (F.getD k r0).2 m7 O n7) := by
      rw [Hid, take_suc hlt, List.map_append, List.any_append, HSS.out.1, HSS.out.2]
      exact ⟨rfl, by simp⟩
    have HBG : Hid (seBig C n (F.getD k r0).2 m7 O n7 = true → selC C n dR W n6 m7 O n7 dr = ([], 6)) := fun hb => by
      rw [HCH.out, if_pos (List.any_eq_true.2 ⟨_, getD_mem (y := r0) hlt, hb⟩)]
    obtain ⟨hm, hgR⟩ := HM.out _ (getD_mem (y := r0) hlt)
    obtain ⟨bR, offR, ai, ci, rfl, -, d1, hl⟩ := hODr k hlt
    obtain ⟨ai', ci', e', hI, -⟩ := hl.now
    simp only [List.cons.injEq, and_true, Value.slice.injEq, true_and] at e'
    obtain ⟨rfl, rfl⟩ := e'
    obtain ⟨mX, X, hX⟩ : ∃ m X, F.getD k r0 = (m, X) := ⟨_, _, rfl⟩
    rw [hX] at hm hgR d1 hI HNX HBG
    simp only at hm hgR d1 hI HNX HBG
    subst hm
    clear hX hl
    have hkr : (k : Int) < F.length := by omega
    have HGR : Hid (goodR mX C X) := hgR
    have HVL : Hid (∀ i, i < n7 → ∀ aO cO W', IL W' aO (m7 i) (O i) → Below wr.heap.size wr W' → Calls Tryz.prog 90 #[.agg #[.slice ac mX cc, .map (some mb)], .slice aO (m7 i) cO, .slice ai mX ci] W' (fun e w' => e = .returned (.agg #[.int .i64 (vlR C mX X (O i) (m7 i)).o, .int .i64 (vlR C mX X (O i) (m7 i)).m, .string (vlR C mX X (O i) (m7 i)).s]) ∧ Below W'.heap.size W' w')) := fun i hi aO cO W' hIO hW' => by
      obtain ⟨ho, hc⟩ := HEX.out i hi
      obtain ⟨x1, x2, x3⟩ := okExp_out ho
      exact iValue5 ac mX cc C mb ai ci X aO (m7 i) cO (O i) W' (HPL.out.1.later (bstep hbw hW')) HPL.out.2 (hI.later hW') hIO x1 x3 hc HGR.out
    have HVX : Hid (∀ i, i < n7 → (vlR C mX X (O i) (m7 i)).s.size ≤ 1048576) := fun i hi => by
      obtain ⟨ho, -⟩ := HEX.out i hi
      obtain ⟨x1, x2, x3⟩ := okExp_out ho
      exact vlR_size (fun j hj => (HGR.out j hj).1) x3 x1 x2
    have hOuR := hOu.later hbw
    clear hgR
    obtain ⟨wo, hwo⟩ : ∃ v, v = wr := ⟨_, rfl⟩
    subst hwo
    have hmk := make_any (t := 41) Tryz.underlying41 Tryz.infoVal n7 h7 (by omega) wo
    have qo := (box8 q1).2.2.2.2.2.2.2
    have qx := (box8 (rowL q1 (bal wo (.cells (madeCells (Value.agg #[.int .i64 0, .int .i64 0, .string ByteArray.empty]).cells (n7 * 3)) 66)))).2.2.2.2.2.2.2
    have hPV0 : PV (wo.alloc (.cells (madeCells (Value.agg #[.int .i64 0, .int .i64 0, .string ByteArray.empty]).cells (n7 * 3)) 66)) wo.heap.size n7 0 (fun i => vlR C mX X (O i) (m7 i)) := ⟨_, heap_alloc_new _ _, made_size _ _, fun j hj => by omega⟩
    have hbm := bal wo (.cells (madeCells (Value.agg #[.int .i64 0, .int .i64 0, .string ByteArray.empty]).cells (n7 * 3)) 66)
    generalize wo.alloc (.cells (madeCells (Value.agg #[.int .i64 0, .int .i64 0, .string ByteArray.empty]).cells (n7 * 3)) 66) = wm at hmk qx hPV0 hbm
    go_wp2
    clear hmk
    go_loopw [12, 13, 32] (fun _ _ i wr => ∃ (q : Nat), q ≤ n7 ∧ i = .int .i64 q ∧ PV wr wo.heap.size n7 q (fun i => vlR C mX X (O i) (m7 i)) ∧ Below wo.heap.size wo wr) (fun _ _ i _ => n7 - (intOf i).toNat)
    case atStart => exact ⟨0, Nat.zero_le _, rfl, hPV0, hbm⟩
    case round =>
      obtain ⟨q, hq, rfl, hPV, hbr⟩ := hrel
      clear hPV0 hbm qx qo
      have p0 := rowL q0 hbr
      obtain ⟨s0, s1⟩ : wr.cell? ⟨w.heap.size, 0, none⟩ = some (.slice ac mX cc) ∧ wr.cell? ⟨w.heap.size, 1, none⟩ = some (.map (some mb)) := ⟨cell_of_row _ _ 0 _ _ _ p0, cell_of_row _ _ 1 _ _ _ p0⟩
      by_cases hql : q < n7
      · obtain ⟨bO, offO, aO, cO, rfl, dO, hIO, -⟩ := hOuR.later hbr q hql
        try simp only at dO hIO
        have hqn : (q : Int) < n7 := by omega
        have HV := HVL.out q hql aO cO wr hIO hbr
        obtain ⟨xo_, xm, xs, hx⟩ : ∃ xo xm xs, vlR C mX X (O q) (m7 q) = ⟨xo, xm, xs⟩ := ⟨_, _, _, rfl⟩
        have HX : Hid ((fun i => vlR C mX X (O i) (m7 i)) q = ⟨xo_, xm, xs⟩) := hx
        rw [hx] at HV
        simp only at HV
        clear hx
        go_wp2_with (go_at_call 90; refine HV.mono ?_; rintro e w6 ⟨rfl, hb6⟩; have hPV6 := hPV.later hb6; obtain ⟨v0, v1, v2, g0, g1, g2, f0, f1, f2⟩ := hPV6.cell hql)
        have hPV7 := PV.set (x := ⟨xo_, xm, xs⟩) hPV6 hql HX.out
        simp only at hPV7
        have hb7 : Below wo.heap.size wo (((w6.setCell ⟨wo.heap.size, q * 3, none⟩ (.int .i64 xo_)).setCell ⟨wo.heap.size, q * 3 + 1, none⟩ (.int .i64 xm)).setCell ⟨wo.heap.size, q * 3 + 2, none⟩ (.string xs)) := ((((bstep hbr hb6).setCell (Nat.le_refl _) _).setCell (Nat.le_refl _) _).setCell (Nat.le_refl _) _)
        clear g0 g1 g2 f0 f1 f2
        generalize (((w6.setCell ⟨wo.heap.size, q * 3, none⟩ (.int .i64 xo_)).setCell ⟨wo.heap.size, q * 3 + 1, none⟩ (.int .i64 xm)).setCell ⟨wo.heap.size, q * 3 + 2, none⟩ (.string xs)) = w7 at hPV7 hb7 ⊢
        go_roundw
        case rel => exact ⟨q + 1, by omega, by go_num, hPV7, hb7⟩
        case measure => simp [intOf]; omega
      · obtain rfl : q = n7 := by omega
        have hIL := hPV.il HVX.out
        have HLG := iLongest _ q q _ wr hIL h7
        have HBG2 : Hid (seBig C mX X m7 O q = decide (200 < lonI (fun i => vlR C mX X (O i) (m7 i)) q)) := lon_big
        obtain ⟨y, hy⟩ : ∃ y, lonI (fun i => vlR C mX X (O i) (m7 i)) q = y := ⟨_, rfl⟩
        rw [hy] at HLG HBG2
        clear hy
        by_cases hb200 : 200 < y
        · have hb2 : (200 : Int) < y := by omega
          have HA : Hid (selC C mX dR W n6 m7 O q dr = ([], 6)) := HBG.out (by rw [HBG2.out]; simpa using hb200)
          go_wp2_with (go_at_call 91; refine HLG.mono ?_; rintro e w7 ⟨rfl, hb7⟩)
          refine bodyPost_ret (results_tmp2 rfl _ _ _) rfl ?_
          rw [HA.out]
          exact ⟨_, _, rfl, fun k hk => absurd hk (Nat.not_lt_zero k), Or.inl rfl, bstep hbw (bstep hbr (bstep hb7 (bal _ _)))⟩
        · have hb2 : ¬ (200 : Int) < y := by omega
          have hROr := hRO.later hbr
          have hssr := hbr.size
          go_wp2_with (first | (at_builtin; have _h := hROr7; refine wpList_append_lies _ rfl _ _ _ rfl (w.heap.size + 1 + 1) 41 jr (.slice none 0 0) 1 24 Tryz.underlying33 HIr.out hzr0 hzr1 hzr2 rfl (by omega) (.slice (some ⟨gg, 0, none⟩) A.length cap) A.length (flt f A.length) rfl (hROr7.later (bal _ _)).own ⟨w7.heap.size, 0, none⟩ 1 1 [.slice (some ⟨wo.heap.size, 0, none⟩) q q] rfl rfl (World.news_of_block (heap_alloc_new w7 _)) (ones _ rfl) (by omega) (by unfold maxLen; omega) (by omega) (by simp; omega) _ rfl ?_; intro g8 cap8 w8 hO8 hgr8 hat8 hlt8) | (go_at_call 91; refine HLG.mono ?_; rintro e w7 ⟨rfl, hb7⟩; have hROr7 := hROr.later hb7; have hss7 := hb7.size))
          have hLt : Liv (fun b => w1.heap.size ≤ b ∧ some b ≠ (Value.slice (some ⟨gg, 0, none⟩) A.length cap).ownBlock) w7 (ER [.slice (some ⟨wo.heap.size, 0, none⟩) q q] (seR C mX X m7 O q)) := ((hIL.later hb7).liv (fun b off e => by
            obtain ⟨rfl, -⟩ : wo.heap.size = b ∧ 0 = off := by simpa using e
            refine ⟨by omega, ?_⟩
            show some wo.heap.size ≠ some gg
            intro e2
            have e3 : wo.heap.size = gg := Option.some.inj e2
            omega)).imp (fun _ h => ⟨_, _, rfl, h, by show q ≤ _; omega⟩)
          have hP8 := GO.snoc (x := seR C mX X m7 O q) (hROr7.later (bal _ _)) (c := [.slice (some ⟨wo.heap.size, 0, none⟩) q q]) rfl (hLt.later (bal _ _)) hO8 hgr8 hat8
          have eA : (A ++ [seR C mX X m7 O q]).length = A.length + 1 := by simp
          have hne : ∀ b, b ≠ gg → some b ≠ (Value.slice (some ⟨gg, 0, none⟩) A.length cap).ownBlock := fun b hb => by
            show some b ≠ some gg
            intro e2
            exact hb (Option.some.inj e2)
          have hbx := bstep hbr (bstep hb7 (bal w7 (.cells #[.slice (some ⟨wo.heap.size, 0, none⟩) q q] 41)))
          have hRA8 := RowsAt.snoc hRA hsr hgl.2 hbx (by
            obtain ⟨cur, t1, t2, -⟩ := (hPV.later (bstep hb7 (bal w7 (.cells #[.slice (some ⟨wo.heap.size, 0, none⟩) q q] 41))))
            exact ⟨cur, t1, t2⟩) hgr8 hat8
          go_roundw
          case rel => exact ⟨k + 1, A ++ [seR C mX X m7 O q], g8, cap8, _, by omega, by go_num, by rw [eA], HNX.out.1, by rw [HNX.out.2, HBG2.out]; simpa using hb200, hP8, by rw [eA]; exact hRA8, by
            rcases hat8 with e2 | e2
            · have e3 : gg = g8 := Option.some.inj e2
              omega
            · rw [World.size_alloc] at e2; omega, rowR (rowL q0 hbx) hgr8 (hne _ (by omega)), rowR (rowL q1 hbx) hgr8 (hne _ (by omega)), (hODr.later hbx).grown hgr8 (fun b hb => hne _ (by omega)), gBr (bstep hbw hbx) hgr8 (fun x hx => hne _ (by omega)), Nat.le_trans hsr (Nat.le_trans hbx.size hgr8.size)⟩
          case measure => simp [intOf]; omega
end Go.Proofs.YtgeiamgeclbiaaaGreatDoor
