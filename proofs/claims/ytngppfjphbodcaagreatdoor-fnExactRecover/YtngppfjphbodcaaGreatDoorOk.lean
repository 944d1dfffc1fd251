/-
  FsStep, the program's side: append, and step whole.
-/
import Derived.Test.YtngppfjphbodcaaGreatDoorOj
namespace Go.Proofs.YtngppfjphbodcaaGreatDoor
open Go.RowKit
set_option maxRecDepth 20000 in
set_option maxHeartbeats 8000000 in
theorem iStep2 (p B : Nat) (L : List Fil) (x1 x2 x3 x4 : Int) (x5 : Bool) (nm dt : ByteArray) (sz r : Int) (w : World) (h : Dk w p B L x1 x2 x3 x4 x5) (hx0 : 0 ≤ x2) (hx1 : x2 ≤ 1000000000000000) (ht : tk x2 x3 x4 x5 = (x2 + 1, x5, 0)) (hF : Fit L x1 2 nm dt) (hs : Srt L) (_hne : ∀ g ∈ L, g.s ≠ ⟨#[]⟩) (hn : L.length ≤ 300) (hr : FdAt L nm r) :
    Calls Tryz.prog 59 #[.pointer (some ⟨p, 0, none⟩), .agg #[.int .i64 2, .string nm, .string dt, .int .i64 sz]] w fun e w' => StI w w' p B x1 x3 x4 ((doS L x1 2 nm dt sz r).1, x2 + 1, x5, (doS L x1 2 nm dt sz r).2) e := by
  obtain ⟨g, cap, hd, hO, hB⟩ := h
  have HT : Hid (tk x2 x3 x4 x5 = (x2 + 1, x5, 0)) := ht
  clear ht
  have hba := bal w (.cells #[.int .i64 2, .string nm, .string dt, .int .i64 sz] 53)
  have hX := heap_alloc_new w (.cells #[.int .i64 2, .string nm, .string dt, .int .i64 sz] 53)
  have hda := hd.later hba
  have hOa := hO.later hba
  have hpw : p < w.heap.size := (Array.getElem?_eq_some_iff.1 hd).1
  have hgp : some g ≠ some p := fun e => hd.apart hO (Option.some.inj e)
  have hgw : g < w.heap.size := by obtain ⟨_, cur, hgb⟩ := hO.in; exact (Array.getElem?_eq_some_iff.1 hgb).1
  have hBg := hO.in.1
  go_enter Tryz.func59, Tryz.ntmps59
  go_upto_region 4 with (go_at_call 74; refine (iTick p _ x1 x2 x3 x4 x5 _ hda hx0 hx1).mono ?_; rw [HT.out]; rintro e w1 ⟨rfl, hd1, hg1⟩)
  have hO1 : OwnL w1 B (.slice (some ⟨g, 0, none⟩) L.length cap) L := hOa.at_ (hg1.block g (by have := hba.size; omega) hgp)
  have hX1 : w1.heap[w.heap.size]? = _ := rowG hX hg1 (by intro e; have := Option.some.inj e; omega)
  have hb1 : BK B p w w1 := (BK.of hba (by omega)).grownP hg1 (by have := hba.size; omega) hB
  have hw1 : w.heap.size < w1.heap.size := (Array.getElem?_eq_some_iff.1 hX1).1
  have q0 : w1.cell? ⟨w.heap.size, 0, none⟩ = some (.int .i64 2) := (cell_of_row _ _ 0 _ _ _ hX1).trans rfl
  have q1 : w1.cell? ⟨w.heap.size, 1, none⟩ = some (.string nm) := (cell_of_row _ _ 1 _ _ _ hX1).trans rfl
  have q2 : w1.cell? ⟨w.heap.size, 2, none⟩ = some (.string dt) := (cell_of_row _ _ 2 _ _ _ hX1).trans rfl
  have q3 : w1.cell? ⟨w.heap.size, 3, none⟩ = some (.int .i64 sz) := (cell_of_row _ _ 3 _ _ _ hX1).trans rfl
  have hmm := hs.mono nm
  have hfl := hO1.f.fl
  obtain ⟨n, hLn⟩ : ∃ n, L.length = n := ⟨_, rfl⟩
  rw [hLn] at hd1 hO1 hn hmm hfl
  go_upto_region 7 with (go_at_call 55; refine (iPlace p _ n cap (nthF L) nm x1 (x2 + 1) x3 x4 x5 _ hd1 hfl (by omega) hmm).mono ?_; rintro e w2 ⟨i, rfl, hlo, hb2⟩)
  have hd2 := hd1.later hb2
  have hO2 := hO1.later hb2
  have hb2' : BK B p w w2 := hb1.trans (BK.of hb2 (by omega))
  have hw2 := hb2.size
  have hlo' : LoB (nthF L) L.length nm i := by rw [hLn]; exact hlo
  obtain ⟨e0, e1, e2, e3, e4, e5⟩ := hd2.box
  have r0 := keepB hb2 q0
  have r1 := keepB hb2 q1
  have r2 := keepB hb2 q2
  have r3 := keepB hb2 q3
  clear q0 q1 q2 q3
  rcases hh : hitB (nthF L) n nm i
  · have hh' : hitB (nthF L) L.length nm i = false := by rw [hLn]; exact hh
    obtain rfl : r = -1 := fd_same hr (fd_miss hlo' hh' hs)
    have hD : Hid (doS L x1 2 nm dt sz (-1) = (L, 14)) := by show _ = _; unfold doS; rw [if_neg (by omega), if_pos (by omega)]
    go_wp2
    go_ret
    rw [hD.out]
    exact ⟨rfl, ⟨g, cap, by rw [hLn]; exact hd2, by rw [hLn]; exact hO2, hB⟩, hb2'⟩
  have hh' : hitB (nthF L) L.length nm i = true := by rw [hLn]; exact hh
  obtain rfl : r = (i : Int) := fd_same hr (fd_hit hlo' hh')
  obtain ⟨hi, hnmi⟩ := hit_at hh'
  have hin : i < n := by omega
  have hin' : (i : Int) < n := by omega
  obtain ⟨b', off', eA, c0, c1, c2⟩ := (hfl.later hb2) i hin
  obtain ⟨rfl, rfl⟩ : g = b' ∧ 0 = off' := by simpa using eA
  rw [Nat.zero_add] at c0 c1 c2
  have f1 : w2.frozen? ⟨g, i * 3 + 1, none⟩ = false := hO2.fz
  have f2 : w2.frozen? ⟨g, i * 3 + 2, none⟩ = false := hO2.fz
  have hsm := hF.sm
  rw [hLn] at hsm
  have hdd := hF.sm.d i hi
  have hdt := hF.dt1
  have hrm := hF.rm0
  have hx1m := hF.x1m
  rw [hLn] at hrm
  have hpg : p ≠ g := fun e => hgp (by rw [e])
  have hgx : g ≠ w.heap.size := by omega
  have hpx : p ≠ w.heap.size := by omega
  obtain ⟨rm, hrmm⟩ : ∃ rm : Nat, x1 - (sumD (nthF L) n : Int) = (rm : Int) := ⟨(x1 - (sumD (nthF L) n : Int)).toNat, by omega⟩
  have hwr : IntKind.i64.wrap (rm : Int) = (rm : Int) := by rw [IntKind.wrap_i64]; omega
  by_cases hft : rm < dt.size
  · have hD : Hid (doS L x1 2 nm dt sz (i : Int) = (L.set i ⟨(nthF L i).s, (nthF L i).d ++ dt.extract 0 rm, (nthF L i).y⟩, 13)) := by
      show _ = _; unfold doS; rw [if_neg (by omega), if_neg (by omega), if_pos rfl, Int.toNat_natCast, hLn, hrmm, if_pos (by omega), Int.toNat_natCast, wth_set hlo' hh' hs ⟨(nthF L i).s, (nthF L i).d ++ dt.extract 0 rm, (nthF L i).y⟩ hnmi]
    go_upto_region 12 with fail
    refine wp_region_held_drew (S := fun x => x.cell? ⟨w.heap.size, 2, none⟩ = some (.string dt) ∧ x.cell? ⟨p, 5, none⟩ = some (.int .i64 x1) ∧ x.cell? ⟨p, 4, none⟩ = some (.slice (some ⟨g, 0, none⟩) n cap)) (by kernel_rfl) (⟨r2, e5, e4⟩) (fun hHeld => ?_)
    refine' wpAnyH_take (i := 0) (oi := ({ dst := some 42, op := Op.move (Operand.tmp 8), type := 107, pos := "l6_journal.go:264", after := #[], guard := none } : Oper)) (v := _) rfl (by kernel_rfl) (by kernel_rfl) (by kernel_rfl) (fun _ _ _ h => h) (Or.inl ⟨by rfl, fun x hSw => ?hyz1_0⟩) hHeld ?restz1_0
    case hyz1_0 =>
      obtain ⟨k2, k5, k4⟩ := hSw
      go_simp
      try with_reducible rfl
    try simp only [Act.put, List.setIfInBounds_toArray, List.set_cons_zero, List.set_cons_succ]
    refine' wpAnyH_take (i := 1) (oi := ({ dst := some 43, op := Op.fieldAddr 53 (Operand.tmp 3) 2, type := 0, pos := "l6_journal.go:264", after := #[], guard := none } : Oper)) (v := _) rfl (by kernel_rfl) (by kernel_rfl) (by kernel_rfl) (fun _ _ _ h => h) (Or.inl ⟨by rfl, fun x hSw => ?hyz1_1⟩) hHeld ?restz1_1
    case hyz1_1 =>
      obtain ⟨k2, k5, k4⟩ := hSw
      go_simp
      try with_reducible rfl
    try simp only [Act.put, List.setIfInBounds_toArray, List.set_cons_zero, List.set_cons_succ]
    refine' wpAnyH_take (i := 2) (oi := ({ dst := some 44, op := Op.load 9 (Operand.tmp 43), type := 9, pos := "l6_journal.go:264", after := #[{ on := 1, ground := Ground.data }], guard := none } : Oper)) (v := _) rfl (by kernel_rfl) (by kernel_rfl) (by kernel_rfl) (fun _ _ _ h => h) (Or.inl ⟨by rfl, fun x hSw => ?hyz1_2⟩) hHeld ?restz1_2
    case hyz1_2 =>
      obtain ⟨k2, k5, k4⟩ := hSw
      go_simp
      try with_reducible rfl
    try simp only [Act.put, List.setIfInBounds_toArray, List.set_cons_zero, List.set_cons_succ]
    refine' wpAnyH_take (i := 3) (oi := ({ dst := some 45, op := Op.move (Operand.tmp 0), type := 57, pos := "l6_journal.go:264", after := #[], guard := none } : Oper)) (v := _) rfl (by kernel_rfl) (by kernel_rfl) (by kernel_rfl) (fun _ _ _ h => h) (Or.inl ⟨by rfl, fun x hSw => ?hyz1_3⟩) hHeld ?restz1_3
    case hyz1_3 =>
      obtain ⟨k2, k5, k4⟩ := hSw
      go_simp
      try with_reducible rfl
    try simp only [Act.put, List.setIfInBounds_toArray, List.set_cons_zero, List.set_cons_succ]
    refine' wpAnyH_take (i := 4) (oi := ({ dst := some 46, op := Op.nilCheck (Operand.tmp 45), type := 0, pos := "l6_journal.go:264", after := #[{ on := 3, ground := Ground.data }], guard := none } : Oper)) (v := _) rfl (by kernel_rfl) (by kernel_rfl) (by kernel_rfl) (fun _ _ _ h => h) (Or.inl ⟨by rfl, fun x hSw => ?hyz1_4⟩) hHeld ?restz1_4
    case hyz1_4 =>
      obtain ⟨k2, k5, k4⟩ := hSw
      go_simp
      try with_reducible rfl
    try simp only [Act.put, List.setIfInBounds_toArray, List.set_cons_zero, List.set_cons_succ]
    refine' wpAnyH_take (i := 5) (oi := ({ dst := some 47, op := Op.fieldAddr 80 (Operand.tmp 46) 2, type := 0, pos := "l6_journal.go:264", after := #[{ on := 4, ground := Ground.data }], guard := none } : Oper)) (v := _) rfl (by kernel_rfl) (by kernel_rfl) (by kernel_rfl) (fun _ _ _ h => h) (Or.inl ⟨by rfl, fun x hSw => ?hyz1_5⟩) hHeld ?restz1_5
    case hyz1_5 =>
      obtain ⟨k2, k5, k4⟩ := hSw
      go_simp
      try with_reducible rfl
    try simp only [Act.put, List.setIfInBounds_toArray, List.set_cons_zero, List.set_cons_succ]
    refine' wpAnyH_take (i := 6) (oi := ({ dst := some 48, op := Op.load 3 (Operand.tmp 47), type := 3, pos := "l6_journal.go:264", after := #[{ on := 5, ground := Ground.data }], guard := none } : Oper)) (v := _) rfl (by kernel_rfl) (by kernel_rfl) (by kernel_rfl) (fun _ _ _ h => h) (Or.inl ⟨by rfl, fun x hSw => ?hyz1_6⟩) hHeld ?restz1_6
    case hyz1_6 =>
      obtain ⟨k2, k5, k4⟩ := hSw
      go_simp
      try with_reducible rfl
    try simp only [Act.put, List.setIfInBounds_toArray, List.set_cons_zero, List.set_cons_succ]
    refine' wpAnyH_take (i := 7) (oi := ({ dst := some 49, op := Op.move (Operand.tmp 0), type := 57, pos := "l6_journal.go:264", after := #[], guard := none } : Oper)) (v := _) rfl (by kernel_rfl) (by kernel_rfl) (by kernel_rfl) (fun _ _ _ h => h) (Or.inl ⟨by rfl, fun x hSw => ?hyz1_7⟩) hHeld ?restz1_7
    case hyz1_7 =>
      obtain ⟨k2, k5, k4⟩ := hSw
      go_simp
      try with_reducible rfl
    try simp only [Act.put, List.setIfInBounds_toArray, List.set_cons_zero, List.set_cons_succ]
    refine' wpAnyH_take (i := 8) (oi := ({ dst := some 50, op := Op.nilCheck (Operand.tmp 49), type := 0, pos := "l6_journal.go:264", after := #[{ on := 7, ground := Ground.data }], guard := none } : Oper)) (v := _) rfl (by kernel_rfl) (by kernel_rfl) (by kernel_rfl) (fun _ _ _ h => h) (Or.inl ⟨by rfl, fun x hSw => ?hyz1_8⟩) hHeld ?restz1_8
    case hyz1_8 =>
      obtain ⟨k2, k5, k4⟩ := hSw
      go_simp
      try with_reducible rfl
    try simp only [Act.put, List.setIfInBounds_toArray, List.set_cons_zero, List.set_cons_succ]
    refine' wpAnyH_take (i := 9) (oi := ({ dst := some 51, op := Op.fieldAddr 80 (Operand.tmp 50) 1, type := 0, pos := "l6_journal.go:264", after := #[{ on := 8, ground := Ground.data }], guard := none } : Oper)) (v := _) rfl (by kernel_rfl) (by kernel_rfl) (by kernel_rfl) (fun _ _ _ h => h) (Or.inl ⟨by rfl, fun x hSw => ?hyz1_9⟩) hHeld ?restz1_9
    case hyz1_9 =>
      obtain ⟨k2, k5, k4⟩ := hSw
      go_simp
      try with_reducible rfl
    try simp only [Act.put, List.setIfInBounds_toArray, List.set_cons_zero, List.set_cons_succ]
    refine' wpAnyH_take (i := 10) (oi := ({ dst := some 52, op := Op.load 26 (Operand.tmp 51), type := 26, pos := "l6_journal.go:264", after := #[{ on := 9, ground := Ground.data }], guard := none } : Oper)) (v := _) rfl (by kernel_rfl) (by kernel_rfl) (by kernel_rfl) (fun _ _ _ h => h) (Or.inl ⟨by rfl, fun x hSw => ?hyz1_10⟩) hHeld ?restz1_10
    case hyz1_10 =>
      obtain ⟨k2, k5, k4⟩ := hSw
      go_simp
      try with_reducible rfl
    try simp only [Act.put, List.setIfInBounds_toArray, List.set_cons_zero, List.set_cons_succ]
    refine wpAnyH_ready (rs := [11]) (by kernel_rfl) (by simp) ?_
    refine AllReadyH.cons (o := ({ dst := some 53, op := Op.call { callee := Callee.value (Operand.func 43), args := #[Operand.tmp 52], argTypes := #[26] }, type := 3, pos := "l6_journal.go:264", after := #[{ on := 10, ground := Ground.data }], guard := none } : Oper)) rfl (fun K hK => ?_) AllReadyH.nil
    go_simp
    refine (iBytes (some ⟨g, 0, none⟩) n cap (nthF L) _ (hfl.later (bstep hb2 (bdrew1 _))) hsm).mono ?_
    rintro e w3 ⟨rfl, hb3⟩
    refine hK.out _ _ (⟨keepB hb3 r2, keepB hb3 e5, keepB hb3 e4⟩) (fun hHeld => ?_)
    clear hK K
    try simp only [Act.put, List.setIfInBounds_toArray, List.set_cons_zero, List.set_cons_succ]
    refine' wpAnyH_take (i := 12) (oi := ({ dst := some 54, op := Op.binOp BinOp.sub 3 (Operand.tmp 48) (Operand.tmp 53) 3, type := 3, pos := "l6_journal.go:264", after := #[{ on := 6, ground := Ground.data }, { on := 11, ground := Ground.data }], guard := none } : Oper)) (v := _) rfl (by kernel_rfl) (by kernel_rfl) (by kernel_rfl) (fun _ _ _ h => h) (Or.inl ⟨by rfl, fun x hSw => ?hyz1_12⟩) hHeld ?restz1_12
    case hyz1_12 =>
      obtain ⟨k2, k5, k4⟩ := hSw
      go_simp
      try with_reducible rfl
    try simp only [Act.put, List.setIfInBounds_toArray, List.set_cons_zero, List.set_cons_succ]
    refine wpAnyH_ready (rs := [13]) (by kernel_rfl) (by simp) ?_
    refine AllReadyH.cons (o := ({ dst := some 55, op := Op.call { callee := Callee.value (Operand.func 76), args := #[Operand.tmp 42, Operand.tmp 44, Operand.tmp 54], argTypes := #[107, 9, 3] }, type := 3, pos := "l6_journal.go:264", after := #[{ on := 0, ground := Ground.data }, { on := 2, ground := Ground.data }, { on := 12, ground := Ground.data }, { on := 11, ground := Ground.chain }], guard := none } : Oper)) rfl (fun K hK => ?_) AllReadyH.nil
    go_simp
    have hc1w := keepB (bstep (bdrew1 w2) hb3) c1
    have hO3 := hO2.later (bstep (bdrew1 w2) hb3)
    refine (iAdd1 g (i * 3) (nthF L i).d dt rm _ hc1w hO3.fz hft (by omega) hdt).mono ?_
    rintro e w4 ⟨rfl, rfl⟩
    refine hK.out _ _ (⟨(World.cell?_setCell_other _ _ _ _ (by simp only [ne_eq, Addr.mk.injEq, not_and]; intro e; omega)).trans hHeld.1, (World.cell?_setCell_other _ _ _ _ (by simp only [ne_eq, Addr.mk.injEq, not_and]; intro e; omega)).trans hHeld.2.1, (World.cell?_setCell_other _ _ _ _ (by simp only [ne_eq, Addr.mk.injEq, not_and]; intro e; omega)).trans hHeld.2.2⟩) (fun hHeld => ?_)
    clear hK K
    try simp only [Act.put, List.setIfInBounds_toArray, List.set_cons_zero, List.set_cons_succ]
    refine' wpAnyH_take (i := 14) (oi := ({ dst := some 4, op := Op.assign (Operand.tmp 55), type := 3, pos := "l6_journal.go:264", after := #[{ on := 13, ground := Ground.data }, { on := 13, ground := Ground.chain }, { on := 0, ground := Ground.phase }, { on := 1, ground := Ground.phase }, { on := 2, ground := Ground.phase }, { on := 3, ground := Ground.phase }, { on := 4, ground := Ground.phase }, { on := 5, ground := Ground.phase }, { on := 6, ground := Ground.phase }, { on := 7, ground := Ground.phase }, { on := 8, ground := Ground.phase }, { on := 9, ground := Ground.phase }, { on := 10, ground := Ground.phase }, { on := 11, ground := Ground.phase }, { on := 12, ground := Ground.phase }, { on := 13, ground := Ground.phase }], guard := none } : Oper)) (v := _) rfl (by kernel_rfl) (by kernel_rfl) (by kernel_rfl) (fun _ _ _ h => h) (Or.inl ⟨by rfl, fun x hSw => ?hyz1_14⟩) hHeld ?restz1_14
    case hyz1_14 =>
      obtain ⟨k2, k5, k4⟩ := hSw
      go_simp
      try with_reducible rfl
    try simp only [Act.put, List.setIfInBounds_toArray, List.set_cons_zero, List.set_cons_succ]
    refine wpAnyH_done (by kernel_rfl) ?_ _
    go_wp2
    go_ret
    have hb3' : BK B p w w3 := hb2'.trans (BK.of (bstep (bdrew1 w2) hb3) (by omega))
    have hd3 := hd2.later (bstep (bdrew1 w2) hb3)
    rw [← hLn] at hd3 hO3
    rw [hD.out]
    exact ⟨rfl, Dk.of (DkAt.later (rowO hd3 hpg) (bdrew1 _)) (OwnL.later (OwnL.setd hO3 hi _) (bdrew1 _)) (by simp) hB, (hb3'.set hBg hO3.row _ _).drew⟩
  · have hft' : (dt.size : Int) ≤ (rm : Int) := by omega
    have hD : Hid (doS L x1 2 nm dt sz (i : Int) = (L.set i ⟨(nthF L i).s, (nthF L i).d ++ dt, (nthF L i).y⟩, 0)) := by
      show _ = _; unfold doS; rw [if_neg (by omega), if_neg (by omega), if_pos rfl, Int.toNat_natCast, hLn, hrmm, if_neg (by omega), wth_set hlo' hh' hs ⟨(nthF L i).s, (nthF L i).d ++ dt, (nthF L i).y⟩ hnmi]
    go_upto_region 12 with fail
    refine wp_region_held_drew (S := fun x => x.cell? ⟨w.heap.size, 2, none⟩ = some (.string dt) ∧ x.cell? ⟨p, 5, none⟩ = some (.int .i64 x1) ∧ x.cell? ⟨p, 4, none⟩ = some (.slice (some ⟨g, 0, none⟩) n cap)) (by kernel_rfl) (⟨r2, e5, e4⟩) (fun hHeld => ?_)
    refine' wpAnyH_take (i := 0) (oi := ({ dst := some 42, op := Op.move (Operand.tmp 8), type := 107, pos := "l6_journal.go:264", after := #[], guard := none } : Oper)) (v := _) rfl (by kernel_rfl) (by kernel_rfl) (by kernel_rfl) (fun _ _ _ h => h) (Or.inl ⟨by rfl, fun x hSw => ?hyz2_0⟩) hHeld ?restz2_0
    case hyz2_0 =>
      obtain ⟨k2, k5, k4⟩ := hSw
      go_simp
      try with_reducible rfl
    try simp only [Act.put, List.setIfInBounds_toArray, List.set_cons_zero, List.set_cons_succ]
    refine' wpAnyH_take (i := 1) (oi := ({ dst := some 43, op := Op.fieldAddr 53 (Operand.tmp 3) 2, type := 0, pos := "l6_journal.go:264", after := #[], guard := none } : Oper)) (v := _) rfl (by kernel_rfl) (by kernel_rfl) (by kernel_rfl) (fun _ _ _ h => h) (Or.inl ⟨by rfl, fun x hSw => ?hyz2_1⟩) hHeld ?restz2_1
    case hyz2_1 =>
      obtain ⟨k2, k5, k4⟩ := hSw
      go_simp
      try with_reducible rfl
    try simp only [Act.put, List.setIfInBounds_toArray, List.set_cons_zero, List.set_cons_succ]
    refine' wpAnyH_take (i := 2) (oi := ({ dst := some 44, op := Op.load 9 (Operand.tmp 43), type := 9, pos := "l6_journal.go:264", after := #[{ on := 1, ground := Ground.data }], guard := none } : Oper)) (v := _) rfl (by kernel_rfl) (by kernel_rfl) (by kernel_rfl) (fun _ _ _ h => h) (Or.inl ⟨by rfl, fun x hSw => ?hyz2_2⟩) hHeld ?restz2_2
    case hyz2_2 =>
      obtain ⟨k2, k5, k4⟩ := hSw
      go_simp
      try with_reducible rfl
    try simp only [Act.put, List.setIfInBounds_toArray, List.set_cons_zero, List.set_cons_succ]
    refine' wpAnyH_take (i := 3) (oi := ({ dst := some 45, op := Op.move (Operand.tmp 0), type := 57, pos := "l6_journal.go:264", after := #[], guard := none } : Oper)) (v := _) rfl (by kernel_rfl) (by kernel_rfl) (by kernel_rfl) (fun _ _ _ h => h) (Or.inl ⟨by rfl, fun x hSw => ?hyz2_3⟩) hHeld ?restz2_3
    case hyz2_3 =>
      obtain ⟨k2, k5, k4⟩ := hSw
      go_simp
      try with_reducible rfl
    try simp only [Act.put, List.setIfInBounds_toArray, List.set_cons_zero, List.set_cons_succ]
    refine' wpAnyH_take (i := 4) (oi := ({ dst := some 46, op := Op.nilCheck (Operand.tmp 45), type := 0, pos := "l6_journal.go:264", after := #[{ on := 3, ground := Ground.data }], guard := none } : Oper)) (v := _) rfl (by kernel_rfl) (by kernel_rfl) (by kernel_rfl) (fun _ _ _ h => h) (Or.inl ⟨by rfl, fun x hSw => ?hyz2_4⟩) hHeld ?restz2_4
    case hyz2_4 =>
      obtain ⟨k2, k5, k4⟩ := hSw
      go_simp
      try with_reducible rfl
    try simp only [Act.put, List.setIfInBounds_toArray, List.set_cons_zero, List.set_cons_succ]
    refine' wpAnyH_take (i := 5) (oi := ({ dst := some 47, op := Op.fieldAddr 80 (Operand.tmp 46) 2, type := 0, pos := "l6_journal.go:264", after := #[{ on := 4, ground := Ground.data }], guard := none } : Oper)) (v := _) rfl (by kernel_rfl) (by kernel_rfl) (by kernel_rfl) (fun _ _ _ h => h) (Or.inl ⟨by rfl, fun x hSw => ?hyz2_5⟩) hHeld ?restz2_5
    case hyz2_5 =>
      obtain ⟨k2, k5, k4⟩ := hSw
      go_simp
      try with_reducible rfl
    try simp only [Act.put, List.setIfInBounds_toArray, List.set_cons_zero, List.set_cons_succ]
    refine' wpAnyH_take (i := 6) (oi := ({ dst := some 48, op := Op.load 3 (Operand.tmp 47), type := 3, pos := "l6_journal.go:264", after := #[{ on := 5, ground := Ground.data }], guard := none } : Oper)) (v := _) rfl (by kernel_rfl) (by kernel_rfl) (by kernel_rfl) (fun _ _ _ h => h) (Or.inl ⟨by rfl, fun x hSw => ?hyz2_6⟩) hHeld ?restz2_6
    case hyz2_6 =>
      obtain ⟨k2, k5, k4⟩ := hSw
      go_simp
      try with_reducible rfl
    try simp only [Act.put, List.setIfInBounds_toArray, List.set_cons_zero, List.set_cons_succ]
    refine' wpAnyH_take (i := 7) (oi := ({ dst := some 49, op := Op.move (Operand.tmp 0), type := 57, pos := "l6_journal.go:264", after := #[], guard := none } : Oper)) (v := _) rfl (by kernel_rfl) (by kernel_rfl) (by kernel_rfl) (fun _ _ _ h => h) (Or.inl ⟨by rfl, fun x hSw => ?hyz2_7⟩) hHeld ?restz2_7
    case hyz2_7 =>
      obtain ⟨k2, k5, k4⟩ := hSw
      go_simp
      try with_reducible rfl
    try simp only [Act.put, List.setIfInBounds_toArray, List.set_cons_zero, List.set_cons_succ]
    refine' wpAnyH_take (i := 8) (oi := ({ dst := some 50, op := Op.nilCheck (Operand.tmp 49), type := 0, pos := "l6_journal.go:264", after := #[{ on := 7, ground := Ground.data }], guard := none } : Oper)) (v := _) rfl (by kernel_rfl) (by kernel_rfl) (by kernel_rfl) (fun _ _ _ h => h) (Or.inl ⟨by rfl, fun x hSw => ?hyz2_8⟩) hHeld ?restz2_8
    case hyz2_8 =>
      obtain ⟨k2, k5, k4⟩ := hSw
      go_simp
      try with_reducible rfl
    try simp only [Act.put, List.setIfInBounds_toArray, List.set_cons_zero, List.set_cons_succ]
    refine' wpAnyH_take (i := 9) (oi := ({ dst := some 51, op := Op.fieldAddr 80 (Operand.tmp 50) 1, type := 0, pos := "l6_journal.go:264", after := #[{ on := 8, ground := Ground.data }], guard := none } : Oper)) (v := _) rfl (by kernel_rfl) (by kernel_rfl) (by kernel_rfl) (fun _ _ _ h => h) (Or.inl ⟨by rfl, fun x hSw => ?hyz2_9⟩) hHeld ?restz2_9
    case hyz2_9 =>
      obtain ⟨k2, k5, k4⟩ := hSw
      go_simp
      try with_reducible rfl
    try simp only [Act.put, List.setIfInBounds_toArray, List.set_cons_zero, List.set_cons_succ]
    refine' wpAnyH_take (i := 10) (oi := ({ dst := some 52, op := Op.load 26 (Operand.tmp 51), type := 26, pos := "l6_journal.go:264", after := #[{ on := 9, ground := Ground.data }], guard := none } : Oper)) (v := _) rfl (by kernel_rfl) (by kernel_rfl) (by kernel_rfl) (fun _ _ _ h => h) (Or.inl ⟨by rfl, fun x hSw => ?hyz2_10⟩) hHeld ?restz2_10
    case hyz2_10 =>
      obtain ⟨k2, k5, k4⟩ := hSw
      go_simp
      try with_reducible rfl
    try simp only [Act.put, List.setIfInBounds_toArray, List.set_cons_zero, List.set_cons_succ]
    refine wpAnyH_ready (rs := [11]) (by kernel_rfl) (by simp) ?_
    refine AllReadyH.cons (o := ({ dst := some 53, op := Op.call { callee := Callee.value (Operand.func 43), args := #[Operand.tmp 52], argTypes := #[26] }, type := 3, pos := "l6_journal.go:264", after := #[{ on := 10, ground := Ground.data }], guard := none } : Oper)) rfl (fun K hK => ?_) AllReadyH.nil
    go_simp
    refine (iBytes (some ⟨g, 0, none⟩) n cap (nthF L) _ (hfl.later (bstep hb2 (bdrew1 _))) hsm).mono ?_
    rintro e w3 ⟨rfl, hb3⟩
    refine hK.out _ _ (⟨keepB hb3 r2, keepB hb3 e5, keepB hb3 e4⟩) (fun hHeld => ?_)
    clear hK K
    try simp only [Act.put, List.setIfInBounds_toArray, List.set_cons_zero, List.set_cons_succ]
    refine' wpAnyH_take (i := 12) (oi := ({ dst := some 54, op := Op.binOp BinOp.sub 3 (Operand.tmp 48) (Operand.tmp 53) 3, type := 3, pos := "l6_journal.go:264", after := #[{ on := 6, ground := Ground.data }, { on := 11, ground := Ground.data }], guard := none } : Oper)) (v := _) rfl (by kernel_rfl) (by kernel_rfl) (by kernel_rfl) (fun _ _ _ h => h) (Or.inl ⟨by rfl, fun x hSw => ?hyz2_12⟩) hHeld ?restz2_12
    case hyz2_12 =>
      obtain ⟨k2, k5, k4⟩ := hSw
      go_simp
      try with_reducible rfl
    try simp only [Act.put, List.setIfInBounds_toArray, List.set_cons_zero, List.set_cons_succ]
    refine wpAnyH_ready (rs := [13]) (by kernel_rfl) (by simp) ?_
    refine AllReadyH.cons (o := ({ dst := some 55, op := Op.call { callee := Callee.value (Operand.func 76), args := #[Operand.tmp 42, Operand.tmp 44, Operand.tmp 54], argTypes := #[107, 9, 3] }, type := 3, pos := "l6_journal.go:264", after := #[{ on := 0, ground := Ground.data }, { on := 2, ground := Ground.data }, { on := 12, ground := Ground.data }, { on := 11, ground := Ground.chain }], guard := none } : Oper)) rfl (fun K hK => ?_) AllReadyH.nil
    go_simp
    have hc1w := keepB (bstep (bdrew1 w2) hb3) c1
    have hO3 := hO2.later (bstep (bdrew1 w2) hb3)
    refine (iAdd0 g (i * 3) (nthF L i).d dt (rm : Int) _ hc1w hO3.fz hft' (by omega) hdt).mono ?_
    rintro e w4 ⟨rfl, rfl⟩
    refine hK.out _ _ (⟨(World.cell?_setCell_other _ _ _ _ (by simp only [ne_eq, Addr.mk.injEq, not_and]; intro e; omega)).trans hHeld.1, (World.cell?_setCell_other _ _ _ _ (by simp only [ne_eq, Addr.mk.injEq, not_and]; intro e; omega)).trans hHeld.2.1, (World.cell?_setCell_other _ _ _ _ (by simp only [ne_eq, Addr.mk.injEq, not_and]; intro e; omega)).trans hHeld.2.2⟩) (fun hHeld => ?_)
    clear hK K
    try simp only [Act.put, List.setIfInBounds_toArray, List.set_cons_zero, List.set_cons_succ]
    refine' wpAnyH_take (i := 14) (oi := ({ dst := some 4, op := Op.assign (Operand.tmp 55), type := 3, pos := "l6_journal.go:264", after := #[{ on := 13, ground := Ground.data }, { on := 13, ground := Ground.chain }, { on := 0, ground := Ground.phase }, { on := 1, ground := Ground.phase }, { on := 2, ground := Ground.phase }, { on := 3, ground := Ground.phase }, { on := 4, ground := Ground.phase }, { on := 5, ground := Ground.phase }, { on := 6, ground := Ground.phase }, { on := 7, ground := Ground.phase }, { on := 8, ground := Ground.phase }, { on := 9, ground := Ground.phase }, { on := 10, ground := Ground.phase }, { on := 11, ground := Ground.phase }, { on := 12, ground := Ground.phase }, { on := 13, ground := Ground.phase }], guard := none } : Oper)) (v := _) rfl (by kernel_rfl) (by kernel_rfl) (by kernel_rfl) (fun _ _ _ h => h) (Or.inl ⟨by rfl, fun x hSw => ?hyz2_14⟩) hHeld ?restz2_14
    case hyz2_14 =>
      obtain ⟨k2, k5, k4⟩ := hSw
      go_simp
      try with_reducible rfl
    try simp only [Act.put, List.setIfInBounds_toArray, List.set_cons_zero, List.set_cons_succ]
    refine wpAnyH_done (by kernel_rfl) ?_ _
    go_wp2
    go_ret
    have hb3' : BK B p w w3 := hb2'.trans (BK.of (bstep (bdrew1 w2) hb3) (by omega))
    have hd3 := hd2.later (bstep (bdrew1 w2) hb3)
    rw [← hLn] at hd3 hO3
    rw [hD.out]
    exact ⟨rfl, Dk.of (rowO (hd3) hpg) (OwnL.setd (hO3) hi _) (by simp) hB, hb3'.set hBg hO3.row _ _⟩
/-- The program's step. -/
theorem iStep (p B : Nat) (L : List Fil) (x1 x2 x3 x4 : Int) (x5 : Bool) (kd : Int) (nm dt : ByteArray) (sz r : Int) (w : World) (h : Dk w p B L x1 x2 x3 x4 x5) (hx0 : 0 ≤ x2) (hx1 : x2 ≤ 1000000000000000) (hF : Fit L x1 kd nm dt) (hs : Srt L) (hne : ∀ g ∈ L, g.s ≠ ⟨#[]⟩) (hn : L.length ≤ 300) (hr : FdAt L nm r) :
    Calls Tryz.prog 59 #[.pointer (some ⟨p, 0, none⟩), .agg #[.int .i64 kd, .string nm, .string dt, .int .i64 sz]] w fun e w' => StI w w' p B x1 x3 x4 (stS L x1 x2 x3 x4 x5 kd nm dt sz r) e := by
  rcases tk_or L x1 x2 x3 x4 x5 kd nm dt sz r hx0 with ⟨c, d, cd, ht, hcd, hst⟩ | ⟨ht, hst⟩
  · exact iStep0 p B L x1 x2 x3 x4 x5 kd nm dt sz r c d cd w h hx0 hx1 ht hcd hst
  · rw [hst]
    have k1 := hF.k1
    have k5 := hF.k5
    obtain rfl | rfl | rfl | rfl | rfl : kd = 1 ∨ kd = 2 ∨ kd = 3 ∨ kd = 4 ∨ kd = 5 := by omega
    · exact iStep1 p B L x1 x2 x3 x4 x5 nm dt sz r w h hx0 hx1 ht hF hs hne hn hr
    · exact iStep2 p B L x1 x2 x3 x4 x5 nm dt sz r w h hx0 hx1 ht hF hs hne hn hr
    · exact iStep3 p B L x1 x2 x3 x4 x5 nm dt sz r w h hx0 hx1 ht hF hs hne hn hr
    · exact iStep4 p B L x1 x2 x3 x4 x5 nm dt sz r w h hx0 hx1 ht hF hs hne hn hr
    · exact iStep5 p B L x1 x2 x3 x4 x5 nm dt sz r w h hx0 hx1 ht hF hs hne hn hr
end Go.Proofs.YtngppfjphbodcaaGreatDoor
