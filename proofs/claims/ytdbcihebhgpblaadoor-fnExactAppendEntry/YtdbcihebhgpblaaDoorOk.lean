/-
  FsStep, the program's side: append, and step whole.
-/
import Derived.Test.YtdbcihebhgpblaaDoorOj
namespace Go.Proofs.YtdbcihebhgpblaaDoor
open Go.RowKit
abbrev qOk0 : Oper := { dst := some 42, op := Op.move (Operand.tmp 8), type := 108, pos := "l6_journal.go:264", after := #[], guard := none }
abbrev qOk1 : Oper := { dst := some 43, op := Op.fieldAddr 59 (Operand.tmp 3) 2, type := 0, pos := "l6_journal.go:264", after := #[], guard := none }
abbrev qOk2 : Oper := { dst := some 44, op := Op.load 9 (Operand.tmp 43), type := 9, pos := "l6_journal.go:264", after := #[{ on := 1, ground := Ground.data }], guard := none }
abbrev qOk3 : Oper := { dst := some 45, op := Op.move (Operand.tmp 0), type := 64, pos := "l6_journal.go:264", after := #[], guard := none }
abbrev qOk4 : Oper := { dst := some 46, op := Op.nilCheck (Operand.tmp 45), type := 0, pos := "l6_journal.go:264", after := #[{ on := 3, ground := Ground.data }], guard := none }
abbrev qOk5 : Oper := { dst := some 47, op := Op.fieldAddr 104 (Operand.tmp 46) 2, type := 0, pos := "l6_journal.go:264", after := #[{ on := 4, ground := Ground.data }], guard := none }
abbrev qOk6 : Oper := { dst := some 48, op := Op.load 3 (Operand.tmp 47), type := 3, pos := "l6_journal.go:264", after := #[{ on := 5, ground := Ground.data }], guard := none }
abbrev qOk7 : Oper := { dst := some 49, op := Op.move (Operand.tmp 0), type := 64, pos := "l6_journal.go:264", after := #[], guard := none }
abbrev qOk8 : Oper := { dst := some 50, op := Op.nilCheck (Operand.tmp 49), type := 0, pos := "l6_journal.go:264", after := #[{ on := 7, ground := Ground.data }], guard := none }
abbrev qOk9 : Oper := { dst := some 51, op := Op.fieldAddr 104 (Operand.tmp 50) 1, type := 0, pos := "l6_journal.go:264", after := #[{ on := 8, ground := Ground.data }], guard := none }
abbrev qOk10 : Oper := { dst := some 52, op := Op.load 28 (Operand.tmp 51), type := 28, pos := "l6_journal.go:264", after := #[{ on := 9, ground := Ground.data }], guard := none }
abbrev qOk11 : Oper := { dst := some 53, op := Op.call { callee := Callee.value (Operand.func 62), args := #[Operand.tmp 52], argTypes := #[28] }, type := 3, pos := "l6_journal.go:264", after := #[{ on := 10, ground := Ground.data }], guard := none }
abbrev qOk12 : Oper := { dst := some 54, op := Op.binOp BinOp.sub 3 (Operand.tmp 48) (Operand.tmp 53) 3, type := 3, pos := "l6_journal.go:264", after := #[{ on := 6, ground := Ground.data }, { on := 11, ground := Ground.data }], guard := none }
abbrev qOk13 : Oper := { dst := some 55, op := Op.call { callee := Callee.value (Operand.func 66), args := #[Operand.tmp 42, Operand.tmp 44, Operand.tmp 54], argTypes := #[108, 9, 3] }, type := 3, pos := "l6_journal.go:264", after := #[{ on := 0, ground := Ground.data }, { on := 2, ground := Ground.data }, { on := 12, ground := Ground.data }, { on := 11, ground := Ground.chain }], guard := none }
abbrev qOk14 : Oper := { dst := some 4, op := Op.assign (Operand.tmp 55), type := 3, pos := "l6_journal.go:264", after := #[{ on := 13, ground := Ground.data }, { on := 13, ground := Ground.chain }, { on := 0, ground := Ground.phase }, { on := 1, ground := Ground.phase }, { on := 2, ground := Ground.phase }, { on := 3, ground := Ground.phase }, { on := 4, ground := Ground.phase }, { on := 5, ground := Ground.phase }, { on := 6, ground := Ground.phase }, { on := 7, ground := Ground.phase }, { on := 8, ground := Ground.phase }, { on := 9, ground := Ground.phase }, { on := 10, ground := Ground.phase }, { on := 11, ground := Ground.phase }, { on := 12, ground := Ground.phase }, { on := 13, ground := Ground.phase }], guard := none }
set_option maxRecDepth 20000 in
set_option maxHeartbeats 8000000 in
theorem iStep2 (p B : Nat) (L : List Fil) (x1 x2 x3 x4 : Int) (x5 : Bool) (nm dt : ByteArray) (sz r : Int) (w : World) (h : Dk w p B L x1 x2 x3 x4 x5) (hx0 : 0 ≤ x2) (hx1 : x2 ≤ 1000000000000000) (ht : tk x2 x3 x4 x5 = (x2 + 1, x5, 0)) (hF : Fit L x1 2 nm dt) (hs : Srt L) (_hne : ∀ g ∈ L, g.s ≠ ⟨#[]⟩) (hn : L.length ≤ 300) (hr : FdAt L nm r) :
    Calls Tryd.prog 32 #[.pointer (some ⟨p, 0, none⟩), .agg #[.int .i64 2, .string nm, .string dt, .int .i64 sz]] w fun e w' => StI w w' p B x1 x3 x4 ((doS L x1 2 nm dt sz r).1, x2 + 1, x5, (doS L x1 2 nm dt sz r).2) e := by
  obtain ⟨g, cap, hd, hO, hB⟩ := h
  have HT : Hid (tk x2 x3 x4 x5 = (x2 + 1, x5, 0)) := ht
  clear ht
  have hba := bal w (.cells #[.int .i64 2, .string nm, .string dt, .int .i64 sz] 59)
  have hX := heap_alloc_new w (.cells #[.int .i64 2, .string nm, .string dt, .int .i64 sz] 59)
  have hda := hd.later hba
  have hOa := hO.later hba
  have hpw : p < w.heap.size := (Array.getElem?_eq_some_iff.1 hd).1
  have hgp : some g ≠ some p := fun e => hd.apart hO (Option.some.inj e)
  have hgw : g < w.heap.size := by obtain ⟨_, cur, hgb⟩ := hO.in; exact (Array.getElem?_eq_some_iff.1 hgb).1
  have hBg := hO.in.1
  go_enter Tryd.func32, Tryd.ntmps32
  go_upto_region 4 with (go_at_call 63; refine (iTick p _ x1 x2 x3 x4 x5 _ hda hx0 hx1).mono ?_; rw [HT.out]; rintro e w1 ⟨rfl, hd1, hg1⟩)
  have hO1 : OwnL w1 B (.slice (some ⟨g, 0, none⟩) L.length cap) L := hOa.at_ (hg1.block g (by have := hba.size; omega) hgp)
  have hX1 : w1.heap[w.heap.size]? = _ := rowG hX hg1 (by intro e; have := Option.some.inj e; omega)
  have hb1 : BK B p w w1 := (BK.of hba (by omega)).grownP hg1 (by have := hba.size; omega) hB
  have hw1 : w.heap.size < w1.heap.size := (Array.getElem?_eq_some_iff.1 hX1).1
  have q0 : w1.cell? ⟨w.heap.size, 0, none⟩ = some (.int .i64 2) := (cell_of_row _ _ 0 _ _ _ hX1).trans rfl
  have q1 : w1.cell? ⟨w.heap.size, 1, none⟩ = some (.string nm) := (cell_of_row _ _ 1 _ _ _ hX1).trans rfl
  have q2 : w1.cell? ⟨w.heap.size, 2, none⟩ = some (.string dt) := (cell_of_row _ _ 2 _ _ _ hX1).trans rfl
  have q3 : w1.cell? ⟨w.heap.size, 3, none⟩ = some (.int .i64 sz) := (cell_of_row _ _ 3 _ _ _ hX1).trans rfl
  have hmm := hs.mono nm
  have hfl := hO1.f.fl
  obtain ⟨n, hLn⟩ : ∃ n, L.length = n := ⟨_, rfl⟩
  rw [hLn] at hd1 hO1 hn hmm hfl
  go_upto_region 7 with (go_at_call 65; refine (iPlace p _ n cap (nthF L) nm x1 (x2 + 1) x3 x4 x5 _ hd1 hfl (by omega) hmm).mono ?_; rintro e w2 ⟨i, rfl, hlo, hb2⟩)
  have hd2 := hd1.later hb2
  have hO2 := hO1.later hb2
  have hb2' : BK B p w w2 := hb1.trans (BK.of hb2 (by omega))
  have hw2 := hb2.size
  have hlo' : LoB (nthF L) L.length nm i := by rw [hLn]; exact hlo
  obtain ⟨e0, e1, e2, e3, e4, e5⟩ := hd2.box
  have r0 := keepB hb2 q0
  have r1 := keepB hb2 q1
  have r2 := keepB hb2 q2
  have r3 := keepB hb2 q3
  clear q0 q1 q2 q3
  rcases hh : hitB (nthF L) n nm i
  · have hh' : hitB (nthF L) L.length nm i = false := by rw [hLn]; exact hh
    obtain rfl : r = -1 := fd_same hr (fd_miss hlo' hh' hs)
    have hD : Hid (doS L x1 2 nm dt sz (-1) = (L, 14)) := by show _ = _; unfold doS; rw [if_neg (by omega), if_pos (by omega)]
    go_wp2
    go_ret
    rw [hD.out]
    exact ⟨rfl, ⟨g, cap, by rw [hLn]; exact hd2, by rw [hLn]; exact hO2, hB⟩, hb2'⟩
  have hh' : hitB (nthF L) L.length nm i = true := by rw [hLn]; exact hh
  obtain rfl : r = (i : Int) := fd_same hr (fd_hit hlo' hh')
  obtain ⟨hi, hnmi⟩ := hit_at hh'
  have hin : i < n := by omega
  have hin' : (i : Int) < n := by omega
  obtain ⟨b', off', eA, c0, c1, c2⟩ := (hfl.later hb2) i hin
  obtain ⟨rfl, rfl⟩ : g = b' ∧ 0 = off' := by simpa using eA
  rw [Nat.zero_add] at c0 c1 c2
  have f1 : w2.frozen? ⟨g, i * 3 + 1, none⟩ = false := hO2.fz
  have f2 : w2.frozen? ⟨g, i * 3 + 2, none⟩ = false := hO2.fz
  have hsm := hF.sm
  rw [hLn] at hsm
  have hdd := hF.sm.d i hi
  have hdt := hF.dt1
  have hrm := hF.rm0
  have hx1m := hF.x1m
  rw [hLn] at hrm
  have hpg : p ≠ g := fun e => hgp (by rw [e])
  have hgx : g ≠ w.heap.size := by omega
  have hpx : p ≠ w.heap.size := by omega
  obtain ⟨rm, hrmm⟩ : ∃ rm : Nat, x1 - (sumD (nthF L) n : Int) = (rm : Int) := ⟨(x1 - (sumD (nthF L) n : Int)).toNat, by omega⟩
  have hwr : IntKind.i64.wrap (rm : Int) = (rm : Int) := by rw [IntKind.wrap_i64]; omega
  by_cases hft : rm < dt.size
  · have hD : Hid (doS L x1 2 nm dt sz (i : Int) = (L.set i ⟨(nthF L i).s, (nthF L i).d ++ dt.extract 0 rm, (nthF L i).y⟩, 13)) := by
      show _ = _; unfold doS; rw [if_neg (by omega), if_neg (by omega), if_pos rfl, Int.toNat_natCast, hLn, hrmm, if_pos (by omega), Int.toNat_natCast, wth_set hlo' hh' hs ⟨(nthF L i).s, (nthF L i).d ++ dt.extract 0 rm, (nthF L i).y⟩ hnmi]
    go_upto_region 12 with fail
    refine wp_region_held_drew (S := fun x => x.cell? ⟨w.heap.size, 2, none⟩ = some (.string dt) ∧ x.cell? ⟨p, 5, none⟩ = some (.int .i64 x1) ∧ x.cell? ⟨p, 4, none⟩ = some (.slice (some ⟨g, 0, none⟩) n cap)) (by kernel_rfl) (⟨r2, e5, e4⟩) (fun hHeld => ?_)
    refine' takeF (i := 0) (oi := qOk0) rfl ⟨by rfl, fun x hSw => ?h1⟩ hHeld ?r1
    case h1 =>
      go_simp
      try with_reducible rfl
    try simp only [Act.put, List.setIfInBounds_toArray, List.set_cons_zero, List.set_cons_succ]
    refine' takeF (i := 1) (oi := qOk1) rfl ⟨by rfl, fun x hSw => ?h2⟩ hHeld ?r2
    case h2 =>
      go_simp
      try with_reducible rfl
    try simp only [Act.put, List.setIfInBounds_toArray, List.set_cons_zero, List.set_cons_succ]
    refine' takeF (i := 2) (oi := qOk2) rfl ⟨by rfl, fun x hSw => ?h3⟩ hHeld ?r3
    case h3 =>
      obtain ⟨k2, k5, k4⟩ := hSw
      go_simp
      try with_reducible rfl
    try simp only [Act.put, List.setIfInBounds_toArray, List.set_cons_zero, List.set_cons_succ]
    refine' takeF (i := 3) (oi := qOk3) rfl ⟨by rfl, fun x hSw => ?h4⟩ hHeld ?r4
    case h4 =>
      go_simp
      try with_reducible rfl
    try simp only [Act.put, List.setIfInBounds_toArray, List.set_cons_zero, List.set_cons_succ]
    refine' takeF (i := 4) (oi := qOk4) rfl ⟨by rfl, fun x hSw => ?h5⟩ hHeld ?r5
    case h5 =>
      go_simp
      try with_reducible rfl
    try simp only [Act.put, List.setIfInBounds_toArray, List.set_cons_zero, List.set_cons_succ]
    refine' takeF (i := 5) (oi := qOk5) rfl ⟨by rfl, fun x hSw => ?h6⟩ hHeld ?r6
    case h6 =>
      go_simp
      try with_reducible rfl
    try simp only [Act.put, List.setIfInBounds_toArray, List.set_cons_zero, List.set_cons_succ]
    refine' takeF (i := 6) (oi := qOk6) rfl ⟨by rfl, fun x hSw => ?h7⟩ hHeld ?r7
    case h7 =>
      obtain ⟨k2, k5, k4⟩ := hSw
      go_simp
      try with_reducible rfl
    try simp only [Act.put, List.setIfInBounds_toArray, List.set_cons_zero, List.set_cons_succ]
    refine' takeF (i := 7) (oi := qOk7) rfl ⟨by rfl, fun x hSw => ?h8⟩ hHeld ?r8
    case h8 =>
      go_simp
      try with_reducible rfl
    try simp only [Act.put, List.setIfInBounds_toArray, List.set_cons_zero, List.set_cons_succ]
    refine' takeF (i := 8) (oi := qOk8) rfl ⟨by rfl, fun x hSw => ?h9⟩ hHeld ?r9
    case h9 =>
      go_simp
      try with_reducible rfl
    try simp only [Act.put, List.setIfInBounds_toArray, List.set_cons_zero, List.set_cons_succ]
    refine' takeF (i := 9) (oi := qOk9) rfl ⟨by rfl, fun x hSw => ?h10⟩ hHeld ?r10
    case h10 =>
      go_simp
      try with_reducible rfl
    try simp only [Act.put, List.setIfInBounds_toArray, List.set_cons_zero, List.set_cons_succ]
    refine' takeF (i := 10) (oi := qOk10) rfl ⟨by rfl, fun x hSw => ?h11⟩ hHeld ?r11
    case h11 =>
      obtain ⟨k2, k5, k4⟩ := hSw
      go_simp
      try with_reducible rfl
    try simp only [Act.put, List.setIfInBounds_toArray, List.set_cons_zero, List.set_cons_succ]
    refine wpAnyH_ready (rs := [11]) (by kernel_rfl) (by simp) ?_
    refine AllReadyH.cons (o := qOk11) rfl (fun K hK => ?_) AllReadyH.nil
    go_simp
    refine (iBytes (some ⟨g, 0, none⟩) n cap (nthF L) _ (hfl.later (bstep hb2 (bdrew1 _))) hsm).mono ?_
    rintro e w3 ⟨rfl, hb3⟩
    refine hK.out _ _ (⟨keepB hb3 r2, keepB hb3 e5, keepB hb3 e4⟩) (fun hHeld => ?_)
    clear hK K
    try simp only [Act.put, List.setIfInBounds_toArray, List.set_cons_zero, List.set_cons_succ]
    refine' takeF (i := 12) (oi := qOk12) rfl ⟨by rfl, fun x hSw => ?h12⟩ hHeld ?r12
    case h12 =>
      go_simp
      try with_reducible rfl
    try simp only [Act.put, List.setIfInBounds_toArray, List.set_cons_zero, List.set_cons_succ]
    refine wpAnyH_ready (rs := [13]) (by kernel_rfl) (by simp) ?_
    refine AllReadyH.cons (o := qOk13) rfl (fun K hK => ?_) AllReadyH.nil
    go_simp
    have hc1w := keepB (bstep (bdrew1 w2) hb3) c1
    have hO3 := hO2.later (bstep (bdrew1 w2) hb3)
    refine (iAdd1 g (i * 3) (nthF L i).d dt rm _ hc1w hO3.fz hft (by omega) hdt).mono ?_
    rintro e w4 ⟨rfl, rfl⟩
    refine hK.out _ _ (⟨(World.cell?_setCell_other _ _ _ _ (by simp only [ne_eq, Addr.mk.injEq, not_and]; intro e; omega)).trans hHeld.1, (World.cell?_setCell_other _ _ _ _ (by simp only [ne_eq, Addr.mk.injEq, not_and]; intro e; omega)).trans hHeld.2.1, (World.cell?_setCell_other _ _ _ _ (by simp only [ne_eq, Addr.mk.injEq, not_and]; intro e; omega)).trans hHeld.2.2⟩) (fun hHeld => ?_)
    clear hK K
    try simp only [Act.put, List.setIfInBounds_toArray, List.set_cons_zero, List.set_cons_succ]
    refine' takeF (i := 14) (oi := qOk14) rfl ⟨by rfl, fun x hSw => ?h13⟩ hHeld ?r13
    case h13 =>
      go_simp
      try with_reducible rfl
    try simp only [Act.put, List.setIfInBounds_toArray, List.set_cons_zero, List.set_cons_succ]
    refine wpAnyH_done (by kernel_rfl) ?_ _
    go_wp2
    go_ret
    have hb3' : BK B p w w3 := hb2'.trans (BK.of (bstep (bdrew1 w2) hb3) (by omega))
    have hd3 := hd2.later (bstep (bdrew1 w2) hb3)
    rw [← hLn] at hd3 hO3
    rw [hD.out]
    exact ⟨rfl, Dk.of (DkAt.later (rowO hd3 hpg) (bdrew1 _)) (OwnL.later (OwnL.setd hO3 hi _) (bdrew1 _)) (by simp) hB, (hb3'.set hBg hO3.row _ _).drew⟩
  · have hft' : (dt.size : Int) ≤ (rm : Int) := by omega
    have hD : Hid (doS L x1 2 nm dt sz (i : Int) = (L.set i ⟨(nthF L i).s, (nthF L i).d ++ dt, (nthF L i).y⟩, 0)) := by
      show _ = _; unfold doS; rw [if_neg (by omega), if_neg (by omega), if_pos rfl, Int.toNat_natCast, hLn, hrmm, if_neg (by omega), wth_set hlo' hh' hs ⟨(nthF L i).s, (nthF L i).d ++ dt, (nthF L i).y⟩ hnmi]
    go_upto_region 12 with fail
    refine wp_region_held_drew (S := fun x => x.cell? ⟨w.heap.size, 2, none⟩ = some (.string dt) ∧ x.cell? ⟨p, 5, none⟩ = some (.int .i64 x1) ∧ x.cell? ⟨p, 4, none⟩ = some (.slice (some ⟨g, 0, none⟩) n cap)) (by kernel_rfl) (⟨r2, e5, e4⟩) (fun hHeld => ?_)
    refine' takeF (i := 0) (oi := qOk0) rfl ⟨by rfl, fun x hSw => ?h14⟩ hHeld ?r14
    case h14 =>
      go_simp
      try with_reducible rfl
    try simp only [Act.put, List.setIfInBounds_toArray, List.set_cons_zero, List.set_cons_succ]
    refine' takeF (i := 1) (oi := qOk1) rfl ⟨by rfl, fun x hSw => ?h15⟩ hHeld ?r15
    case h15 =>
      go_simp
      try with_reducible rfl
    try simp only [Act.put, List.setIfInBounds_toArray, List.set_cons_zero, List.set_cons_succ]
    refine' takeF (i := 2) (oi := qOk2) rfl ⟨by rfl, fun x hSw => ?h16⟩ hHeld ?r16
    case h16 =>
      obtain ⟨k2, k5, k4⟩ := hSw
      go_simp
      try with_reducible rfl
    try simp only [Act.put, List.setIfInBounds_toArray, List.set_cons_zero, List.set_cons_succ]
    refine' takeF (i := 3) (oi := qOk3) rfl ⟨by rfl, fun x hSw => ?h17⟩ hHeld ?r17
    case h17 =>
      go_simp
      try with_reducible rfl
    try simp only [Act.put, List.setIfInBounds_toArray, List.set_cons_zero, List.set_cons_succ]
    refine' takeF (i := 4) (oi := qOk4) rfl ⟨by rfl, fun x hSw => ?h18⟩ hHeld ?r18
    case h18 =>
      go_simp
      try with_reducible rfl
    try simp only [Act.put, List.setIfInBounds_toArray, List.set_cons_zero, List.set_cons_succ]
    refine' takeF (i := 5) (oi := qOk5) rfl ⟨by rfl, fun x hSw => ?h19⟩ hHeld ?r19
    case h19 =>
      go_simp
      try with_reducible rfl
    try simp only [Act.put, List.setIfInBounds_toArray, List.set_cons_zero, List.set_cons_succ]
    refine' takeF (i := 6) (oi := qOk6) rfl ⟨by rfl, fun x hSw => ?h20⟩ hHeld ?r20
    case h20 =>
      obtain ⟨k2, k5, k4⟩ := hSw
      go_simp
      try with_reducible rfl
    try simp only [Act.put, List.setIfInBounds_toArray, List.set_cons_zero, List.set_cons_succ]
    refine' takeF (i := 7) (oi := qOk7) rfl ⟨by rfl, fun x hSw => ?h21⟩ hHeld ?r21
    case h21 =>
      go_simp
      try with_reducible rfl
    try simp only [Act.put, List.setIfInBounds_toArray, List.set_cons_zero, List.set_cons_succ]
    refine' takeF (i := 8) (oi := qOk8) rfl ⟨by rfl, fun x hSw => ?h22⟩ hHeld ?r22
    case h22 =>
      go_simp
      try with_reducible rfl
    try simp only [Act.put, List.setIfInBounds_toArray, List.set_cons_zero, List.set_cons_succ]
    refine' takeF (i := 9) (oi := qOk9) rfl ⟨by rfl, fun x hSw => ?h23⟩ hHeld ?r23
    case h23 =>
      go_simp
      try with_reducible rfl
    try simp only [Act.put, List.setIfInBounds_toArray, List.set_cons_zero, List.set_cons_succ]
    refine' takeF (i := 10) (oi := qOk10) rfl ⟨by rfl, fun x hSw => ?h24⟩ hHeld ?r24
    case h24 =>
      obtain ⟨k2, k5, k4⟩ := hSw
      go_simp
      try with_reducible rfl
    try simp only [Act.put, List.setIfInBounds_toArray, List.set_cons_zero, List.set_cons_succ]
    refine wpAnyH_ready (rs := [11]) (by kernel_rfl) (by simp) ?_
    refine AllReadyH.cons (o := qOk11) rfl (fun K hK => ?_) AllReadyH.nil
    go_simp
    refine (iBytes (some ⟨g, 0, none⟩) n cap (nthF L) _ (hfl.later (bstep hb2 (bdrew1 _))) hsm).mono ?_
    rintro e w3 ⟨rfl, hb3⟩
    refine hK.out _ _ (⟨keepB hb3 r2, keepB hb3 e5, keepB hb3 e4⟩) (fun hHeld => ?_)
    clear hK K
    try simp only [Act.put, List.setIfInBounds_toArray, List.set_cons_zero, List.set_cons_succ]
    refine' takeF (i := 12) (oi := qOk12) rfl ⟨by rfl, fun x hSw => ?h25⟩ hHeld ?r25
    case h25 =>
      go_simp
      try with_reducible rfl
    try simp only [Act.put, List.setIfInBounds_toArray, List.set_cons_zero, List.set_cons_succ]
    refine wpAnyH_ready (rs := [13]) (by kernel_rfl) (by simp) ?_
    refine AllReadyH.cons (o := qOk13) rfl (fun K hK => ?_) AllReadyH.nil
    go_simp
    have hc1w := keepB (bstep (bdrew1 w2) hb3) c1
    have hO3 := hO2.later (bstep (bdrew1 w2) hb3)
    refine (iAdd0 g (i * 3) (nthF L i).d dt (rm : Int) _ hc1w hO3.fz hft' (by omega) hdt).mono ?_
    rintro e w4 ⟨rfl, rfl⟩
    refine hK.out _ _ (⟨(World.cell?_setCell_other _ _ _ _ (by simp only [ne_eq, Addr.mk.injEq, not_and]; intro e; omega)).trans hHeld.1, (World.cell?_setCell_other _ _ _ _ (by simp only [ne_eq, Addr.mk.injEq, not_and]; intro e; omega)).trans hHeld.2.1, (World.cell?_setCell_other _ _ _ _ (by simp only [ne_eq, Addr.mk.injEq, not_and]; intro e; omega)).trans hHeld.2.2⟩) (fun hHeld => ?_)
    clear hK K
    try simp only [Act.put, List.setIfInBounds_toArray, List.set_cons_zero, List.set_cons_succ]
    refine' takeF (i := 14) (oi := qOk14) rfl ⟨by rfl, fun x hSw => ?h26⟩ hHeld ?r26
    case h26 =>
      go_simp
      try with_reducible rfl
    try simp only [Act.put, List.setIfInBounds_toArray, List.set_cons_zero, List.set_cons_succ]
    refine wpAnyH_done (by kernel_rfl) ?_ _
    go_wp2
    go_ret
    have hb3' : BK B p w w3 := hb2'.trans (BK.of (bstep (bdrew1 w2) hb3) (by omega))
    have hd3 := hd2.later (bstep (bdrew1 w2) hb3)
    rw [← hLn] at hd3 hO3
    rw [hD.out]
    exact ⟨rfl, Dk.of (rowO (hd3) hpg) (OwnL.setd (hO3) hi _) (by simp) hB, hb3'.set hBg hO3.row _ _⟩
/-- The program's step. -/
theorem iStep (p B : Nat) (L : List Fil) (x1 x2 x3 x4 : Int) (x5 : Bool) (kd : Int) (nm dt : ByteArray) (sz r : Int) (w : World) (h : Dk w p B L x1 x2 x3 x4 x5) (hx0 : 0 ≤ x2) (hx1 : x2 ≤ 1000000000000000) (hF : Fit L x1 kd nm dt) (hs : Srt L) (hne : ∀ g ∈ L, g.s ≠ ⟨#[]⟩) (hn : L.length ≤ 300) (hr : FdAt L nm r) :
    Calls Tryd.prog 32 #[.pointer (some ⟨p, 0, none⟩), .agg #[.int .i64 kd, .string nm, .string dt, .int .i64 sz]] w fun e w' => StI w w' p B x1 x3 x4 (stS L x1 x2 x3 x4 x5 kd nm dt sz r) e := by
  rcases tk_or L x1 x2 x3 x4 x5 kd nm dt sz r hx0 with ⟨c, d, cd, ht, hcd, hst⟩ | ⟨ht, hst⟩
  · exact iStep0 p B L x1 x2 x3 x4 x5 kd nm dt sz r c d cd w h hx0 hx1 ht hcd hst
  · rw [hst]
    have k1 := hF.k1
    have k5 := hF.k5
    obtain rfl | rfl | rfl | rfl | rfl : kd = 1 ∨ kd = 2 ∨ kd = 3 ∨ kd = 4 ∨ kd = 5 := by omega
    · exact iStep1 p B L x1 x2 x3 x4 x5 nm dt sz r w h hx0 hx1 ht hF hs hne hn hr
    · exact iStep2 p B L x1 x2 x3 x4 x5 nm dt sz r w h hx0 hx1 ht hF hs hne hn hr
    · exact iStep3 p B L x1 x2 x3 x4 x5 nm dt sz r w h hx0 hx1 ht hF hs hne hn hr
    · exact iStep4 p B L x1 x2 x3 x4 x5 nm dt sz r w h hx0 hx1 ht hF hs hne hn hr
    · exact iStep5 p B L x1 x2 x3 x4 x5 nm dt sz r w h hx0 hx1 ht hF hs hne hn hr
end Go.Proofs.YtdbcihebhgpblaaDoor
