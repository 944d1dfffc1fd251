/-
  FsStep, the program's side: the five operations.
-/
import Derived.Test.YtngppfjphbodcaaGreatDoorOi
namespace Go.Proofs.YtngppfjphbodcaaGreatDoor
open Go.RowKit
theorem Dk.of {W : World} {p B g cap : Nat} {L M : List Fil} {x1 x2 x3 x4 : Int} {x5 : Bool} (hd : DkAt W p (.slice (some ⟨g, 0, none⟩) L.length cap) x1 x2 x3 x4 x5) (hO : OwnL W B (.slice (some ⟨g, 0, none⟩) L.length cap) M) (hM : M.length = L.length) (hB : B ≤ p) : Dk W p B M x1 x2 x3 x4 x5 :=
  ⟨g, cap, by rw [hM]; exact hd, by rw [hM]; exact hO, hB⟩
theorem nth_set (L : List Fil) (i : Nat) (h : i < L.length) (f : Fil) : nthF (L.set i f) i = f := by rw [nthF_at _ i (by simpa using h)]; simp
theorem OwnL.setdy {w : World} {B g cap i : Nat} {L : List Fil} (h : OwnL w B (.slice (some ⟨g, 0, none⟩) L.length cap) L) (hi : i < L.length) (d : ByteArray) (y : Int) : OwnL ((w.setCell ⟨g, i * 3 + 1, none⟩ (.string d)).setCell ⟨g, i * 3 + 2, none⟩ (.int .i64 y)) B (.slice (some ⟨g, 0, none⟩) L.length cap) (L.set i ⟨(nthF L i).s, d, y⟩) := by
  have h1 := h.setd hi d
  have hl : (L.set i ⟨(nthF L i).s, d, (nthF L i).y⟩).length = L.length := by simp
  rw [← hl] at h1
  have h2 := h1.sety (i := i) (by simpa using hi) y
  rw [nth_set L i hi, List.set_set, hl] at h2
  exact h2
set_option maxRecDepth 20000 in
set_option maxHeartbeats 8000000 in
theorem iStep1 (p B : Nat) (L : List Fil) (x1 x2 x3 x4 : Int) (x5 : Bool) (nm dt : ByteArray) (sz r : Int) (w : World) (h : Dk w p B L x1 x2 x3 x4 x5) (hx0 : 0 ≤ x2) (hx1 : x2 ≤ 1000000000000000) (ht : tk x2 x3 x4 x5 = (x2 + 1, x5, 0)) (_hF : Fit L x1 1 nm dt) (hs : Srt L) (hne : ∀ g ∈ L, g.s ≠ ⟨#[]⟩) (hn : L.length ≤ 300) (hr : FdAt L nm r) :
    Calls Tryz.prog 59 #[.pointer (some ⟨p, 0, none⟩), .agg #[.int .i64 1, .string nm, .string dt, .int .i64 sz]] w fun e w' => StI w w' p B x1 x3 x4 ((doS L x1 1 nm dt sz r).1, x2 + 1, x5, (doS L x1 1 nm dt sz r).2) e := by
  obtain ⟨g, cap, hd, hO, hB⟩ := h
  have HT : Hid (tk x2 x3 x4 x5 = (x2 + 1, x5, 0)) := ht
  clear ht
  have hba := bal w (.cells #[.int .i64 1, .string nm, .string dt, .int .i64 sz] 53)
  have hX := heap_alloc_new w (.cells #[.int .i64 1, .string nm, .string dt, .int .i64 sz] 53)
  have hda := hd.later hba
  have hOa := hO.later hba
  have hpw : p < w.heap.size := (Array.getElem?_eq_some_iff.1 hd).1
  have hgp : some g ≠ some p := fun e => hd.apart hO (Option.some.inj e)
  have hgw : g < w.heap.size := by obtain ⟨_, cur, hgb⟩ := hO.in; exact (Array.getElem?_eq_some_iff.1 hgb).1
  have hBg := hO.in.1
  go_enter Tryz.func59, Tryz.ntmps59
  go_upto_region 4 with (go_at_call 74; refine (iTick p _ x1 x2 x3 x4 x5 _ hda hx0 hx1).mono ?_; rw [HT.out]; rintro e w1 ⟨rfl, hd1, hg1⟩)
  have hO1 : OwnL w1 B (.slice (some ⟨g, 0, none⟩) L.length cap) L := hOa.at_ (hg1.block g (by have := hba.size; omega) hgp)
  have hX1 : w1.heap[w.heap.size]? = _ := rowG hX hg1 (by intro e; have := Option.some.inj e; omega)
  have hb1 : BK B p w w1 := (BK.of hba (by omega)).grownP hg1 (by have := hba.size; omega) hB
  have hw1 : w.heap.size < w1.heap.size := (Array.getElem?_eq_some_iff.1 hX1).1
  have q0 : w1.cell? ⟨w.heap.size, 0, none⟩ = some (.int .i64 1) := (cell_of_row _ _ 0 _ _ _ hX1).trans rfl
  have q1 : w1.cell? ⟨w.heap.size, 1, none⟩ = some (.string nm) := (cell_of_row _ _ 1 _ _ _ hX1).trans rfl
  have q2 : w1.cell? ⟨w.heap.size, 2, none⟩ = some (.string dt) := (cell_of_row _ _ 2 _ _ _ hX1).trans rfl
  have q3 : w1.cell? ⟨w.heap.size, 3, none⟩ = some (.int .i64 sz) := (cell_of_row _ _ 3 _ _ _ hX1).trans rfl
  go_wp2_with (go_at_call 75; refine (iCreate p B L x1 (x2 + 1) x3 x4 x5 nm dt sz r _ ⟨g, cap, hd1, hO1, hB⟩ hs hne hn hr).mono ?_; rintro e w2 ⟨rfl, hk2, hb2⟩)
  go_ret
  exact ⟨rfl, hk2, hb1.trans hb2⟩
set_option maxRecDepth 20000 in
set_option maxHeartbeats 8000000 in
theorem iStep3 (p B : Nat) (L : List Fil) (x1 x2 x3 x4 : Int) (x5 : Bool) (nm dt : ByteArray) (sz r : Int) (w : World) (h : Dk w p B L x1 x2 x3 x4 x5) (hx0 : 0 ≤ x2) (hx1 : x2 ≤ 1000000000000000) (ht : tk x2 x3 x4 x5 = (x2 + 1, x5, 0)) (_hF : Fit L x1 3 nm dt) (hs : Srt L) (_hne : ∀ g ∈ L, g.s ≠ ⟨#[]⟩) (hn : L.length ≤ 300) (hr : FdAt L nm r) :
    Calls Tryz.prog 59 #[.pointer (some ⟨p, 0, none⟩), .agg #[.int .i64 3, .string nm, .string dt, .int .i64 sz]] w fun e w' => StI w w' p B x1 x3 x4 ((doS L x1 3 nm dt sz r).1, x2 + 1, x5, (doS L x1 3 nm dt sz r).2) e := by
  obtain ⟨g, cap, hd, hO, hB⟩ := h
  have HT : Hid (tk x2 x3 x4 x5 = (x2 + 1, x5, 0)) := ht
  clear ht
  have hba := bal w (.cells #[.int .i64 3, .string nm, .string dt, .int .i64 sz] 53)
  have hX := heap_alloc_new w (.cells #[.int .i64 3, .string nm, .string dt, .int .i64 sz] 53)
  have hda := hd.later hba
  have hOa := hO.later hba
  have hpw : p < w.heap.size := (Array.getElem?_eq_some_iff.1 hd).1
  have hgp : some g ≠ some p := fun e => hd.apart hO (Option.some.inj e)
  have hgw : g < w.heap.size := by obtain ⟨_, cur, hgb⟩ := hO.in; exact (Array.getElem?_eq_some_iff.1 hgb).1
  have hBg := hO.in.1
  go_enter Tryz.func59, Tryz.ntmps59
  go_upto_region 4 with (go_at_call 74; refine (iTick p _ x1 x2 x3 x4 x5 _ hda hx0 hx1).mono ?_; rw [HT.out]; rintro e w1 ⟨rfl, hd1, hg1⟩)
  have hO1 : OwnL w1 B (.slice (some ⟨g, 0, none⟩) L.length cap) L := hOa.at_ (hg1.block g (by have := hba.size; omega) hgp)
  have hX1 : w1.heap[w.heap.size]? = _ := rowG hX hg1 (by intro e; have := Option.some.inj e; omega)
  have hb1 : BK B p w w1 := (BK.of hba (by omega)).grownP hg1 (by have := hba.size; omega) hB
  have hw1 : w.heap.size < w1.heap.size := (Array.getElem?_eq_some_iff.1 hX1).1
  have q0 : w1.cell? ⟨w.heap.size, 0, none⟩ = some (.int .i64 3) := (cell_of_row _ _ 0 _ _ _ hX1).trans rfl
  have q1 : w1.cell? ⟨w.heap.size, 1, none⟩ = some (.string nm) := (cell_of_row _ _ 1 _ _ _ hX1).trans rfl
  have q2 : w1.cell? ⟨w.heap.size, 2, none⟩ = some (.string dt) := (cell_of_row _ _ 2 _ _ _ hX1).trans rfl
  have q3 : w1.cell? ⟨w.heap.size, 3, none⟩ = some (.int .i64 sz) := (cell_of_row _ _ 3 _ _ _ hX1).trans rfl
  have hmm := hs.mono nm
  have hfl := hO1.f.fl
  obtain ⟨n, hLn⟩ : ∃ n, L.length = n := ⟨_, rfl⟩
  rw [hLn] at hd1 hO1 hn hmm hfl
  go_upto_region 7 with (go_at_call 55; refine (iPlace p _ n cap (nthF L) nm x1 (x2 + 1) x3 x4 x5 _ hd1 hfl (by omega) hmm).mono ?_; rintro e w2 ⟨i, rfl, hlo, hb2⟩)
  have hd2 := hd1.later hb2
  have hO2 := hO1.later hb2
  have hb2' : BK B p w w2 := hb1.trans (BK.of hb2 (by omega))
  have hw2 := hb2.size
  have hlo' : LoB (nthF L) L.length nm i := by rw [hLn]; exact hlo
  obtain ⟨e0, e1, e2, e3, e4, e5⟩ := hd2.box
  have r0 := keepB hb2 q0
  have r1 := keepB hb2 q1
  have r2 := keepB hb2 q2
  have r3 := keepB hb2 q3
  clear q0 q1 q2 q3
  rcases hh : hitB (nthF L) n nm i
  · have hh' : hitB (nthF L) L.length nm i = false := by rw [hLn]; exact hh
    obtain rfl : r = -1 := fd_same hr (fd_miss hlo' hh' hs)
    have hD : Hid (doS L x1 3 nm dt sz (-1) = (L, 14)) := by show _ = _; unfold doS; rw [if_neg (by omega), if_pos (by omega)]
    go_wp2
    go_ret
    rw [hD.out]
    exact ⟨rfl, ⟨g, cap, by rw [hLn]; exact hd2, by rw [hLn]; exact hO2, hB⟩, hb2'⟩
  have hh' : hitB (nthF L) L.length nm i = true := by rw [hLn]; exact hh
  obtain rfl : r = (i : Int) := fd_same hr (fd_hit hlo' hh')
  obtain ⟨hi, hnmi⟩ := hit_at hh'
  have hin : i < n := by omega
  have hin' : (i : Int) < n := by omega
  obtain ⟨b', off', eA, c0, c1, c2⟩ := (hfl.later hb2) i hin
  obtain ⟨rfl, rfl⟩ : g = b' ∧ 0 = off' := by simpa using eA
  rw [Nat.zero_add] at c0 c1 c2
  have f1 : w2.frozen? ⟨g, i * 3 + 1, none⟩ = false := hO2.fz
  have f2 : w2.frozen? ⟨g, i * 3 + 2, none⟩ = false := hO2.fz
  have hD : Hid (doS L x1 3 nm dt sz (i : Int) = (L.set i ⟨(nthF L i).s, (nthF L i).d, ((nthF L i).d.size : Int)⟩, 0)) := by
    show _ = _; unfold doS; rw [if_neg (by omega), if_neg (by omega), if_neg (by omega), if_pos rfl, Int.toNat_natCast, wth_set hlo' hh' hs ⟨(nthF L i).s, (nthF L i).d, ((nthF L i).d.size : Int)⟩ hnmi]
  go_wp2_with (go_at_call 77; refine (iSync g (i * 3) (nthF L i).d _ _ c1 c2 f2).mono ?_; rintro e w3 ⟨⟨v, rfl⟩, rfl⟩)
  go_ret
  have hpg : p ≠ g := fun e => hgp (by rw [e])
  rw [← hLn] at hd2 hO2
  rw [hD.out]
  exact ⟨rfl, Dk.of (rowO hd2 hpg) (hO2.sety hi _) (by simp) hB, hb2'.set hBg hO2.row _ _⟩
set_option maxRecDepth 20000 in
set_option maxHeartbeats 8000000 in
theorem iStep4 (p B : Nat) (L : List Fil) (x1 x2 x3 x4 : Int) (x5 : Bool) (nm dt : ByteArray) (sz r : Int) (w : World) (h : Dk w p B L x1 x2 x3 x4 x5) (hx0 : 0 ≤ x2) (hx1 : x2 ≤ 1000000000000000) (ht : tk x2 x3 x4 x5 = (x2 + 1, x5, 0)) (_hF : Fit L x1 4 nm dt) (hs : Srt L) (_hne : ∀ g ∈ L, g.s ≠ ⟨#[]⟩) (hn : L.length ≤ 300) (hr : FdAt L nm r) :
    Calls Tryz.prog 59 #[.pointer (some ⟨p, 0, none⟩), .agg #[.int .i64 4, .string nm, .string dt, .int .i64 sz]] w fun e w' => StI w w' p B x1 x3 x4 ((doS L x1 4 nm dt sz r).1, x2 + 1, x5, (doS L x1 4 nm dt sz r).2) e := by
  obtain ⟨g, cap, hd, hO, hB⟩ := h
  have HT : Hid (tk x2 x3 x4 x5 = (x2 + 1, x5, 0)) := ht
  clear ht
  have hba := bal w (.cells #[.int .i64 4, .string nm, .string dt, .int .i64 sz] 53)
  have hX := heap_alloc_new w (.cells #[.int .i64 4, .string nm, .string dt, .int .i64 sz] 53)
  have hda := hd.later hba
  have hOa := hO.later hba
  have hpw : p < w.heap.size := (Array.getElem?_eq_some_iff.1 hd).1
  have hgp : some g ≠ some p := fun e => hd.apart hO (Option.some.inj e)
  have hgw : g < w.heap.size := by obtain ⟨_, cur, hgb⟩ := hO.in; exact (Array.getElem?_eq_some_iff.1 hgb).1
  have hBg := hO.in.1
  go_enter Tryz.func59, Tryz.ntmps59
  go_upto_region 4 with (go_at_call 74; refine (iTick p _ x1 x2 x3 x4 x5 _ hda hx0 hx1).mono ?_; rw [HT.out]; rintro e w1 ⟨rfl, hd1, hg1⟩)
  have hO1 : OwnL w1 B (.slice (some ⟨g, 0, none⟩) L.length cap) L := hOa.at_ (hg1.block g (by have := hba.size; omega) hgp)
  have hX1 : w1.heap[w.heap.size]? = _ := rowG hX hg1 (by intro e; have := Option.some.inj e; omega)
  have hb1 : BK B p w w1 := (BK.of hba (by omega)).grownP hg1 (by have := hba.size; omega) hB
  have hw1 : w.heap.size < w1.heap.size := (Array.getElem?_eq_some_iff.1 hX1).1
  have q0 : w1.cell? ⟨w.heap.size, 0, none⟩ = some (.int .i64 4) := (cell_of_row _ _ 0 _ _ _ hX1).trans rfl
  have q1 : w1.cell? ⟨w.heap.size, 1, none⟩ = some (.string nm) := (cell_of_row _ _ 1 _ _ _ hX1).trans rfl
  have q2 : w1.cell? ⟨w.heap.size, 2, none⟩ = some (.string dt) := (cell_of_row _ _ 2 _ _ _ hX1).trans rfl
  have q3 : w1.cell? ⟨w.heap.size, 3, none⟩ = some (.int .i64 sz) := (cell_of_row _ _ 3 _ _ _ hX1).trans rfl
  have hmm := hs.mono nm
  have hfl := hO1.f.fl
  obtain ⟨n, hLn⟩ : ∃ n, L.length = n := ⟨_, rfl⟩
  rw [hLn] at hd1 hO1 hn hmm hfl
  go_upto_region 7 with (go_at_call 55; refine (iPlace p _ n cap (nthF L) nm x1 (x2 + 1) x3 x4 x5 _ hd1 hfl (by omega) hmm).mono ?_; rintro e w2 ⟨i, rfl, hlo, hb2⟩)
  have hd2 := hd1.later hb2
  have hO2 := hO1.later hb2
  have hb2' : BK B p w w2 := hb1.trans (BK.of hb2 (by omega))
  have hw2 := hb2.size
  have hlo' : LoB (nthF L) L.length nm i := by rw [hLn]; exact hlo
  obtain ⟨e0, e1, e2, e3, e4, e5⟩ := hd2.box
  have r0 := keepB hb2 q0
  have r1 := keepB hb2 q1
  have r2 := keepB hb2 q2
  have r3 := keepB hb2 q3
  clear q0 q1 q2 q3
  rcases hh : hitB (nthF L) n nm i
  · have hh' : hitB (nthF L) L.length nm i = false := by rw [hLn]; exact hh
    obtain rfl : r = -1 := fd_same hr (fd_miss hlo' hh' hs)
    have hD : Hid (doS L x1 4 nm dt sz (-1) = (L, 14)) := by show _ = _; unfold doS; rw [if_neg (by omega), if_pos (by omega)]
    go_wp2
    go_ret
    rw [hD.out]
    exact ⟨rfl, ⟨g, cap, by rw [hLn]; exact hd2, by rw [hLn]; exact hO2, hB⟩, hb2'⟩
  have hh' : hitB (nthF L) L.length nm i = true := by rw [hLn]; exact hh
  obtain rfl : r = (i : Int) := fd_same hr (fd_hit hlo' hh')
  obtain ⟨hi, hnmi⟩ := hit_at hh'
  have hin : i < n := by omega
  have hin' : (i : Int) < n := by omega
  obtain ⟨b', off', eA, c0, c1, c2⟩ := (hfl.later hb2) i hin
  obtain ⟨rfl, rfl⟩ : g = b' ∧ 0 = off' := by simpa using eA
  rw [Nat.zero_add] at c0 c1 c2
  have f1 : w2.frozen? ⟨g, i * 3 + 1, none⟩ = false := hO2.fz
  have f2 : w2.frozen? ⟨g, i * 3 + 2, none⟩ = false := hO2.fz
  by_cases hz : 0 ≤ sz ∧ sz ≤ ((nthF L i).d.size : Int)
  · obtain ⟨z, rfl⟩ := Int.eq_ofNat_of_zero_le hz.1
    have hbt : btw z 0 (nthF L i).d.size = true := by unfold btw; simp; omega
    have hzz : z ≤ (nthF L i).d.size := by omega
    have hD : Hid (doS L x1 4 nm dt (z : Int) (i : Int) = (L.set i ⟨(nthF L i).s, (nthF L i).d.extract 0 z, (z : Int)⟩, 0)) := by
      show _ = _; unfold doS; rw [if_neg (by omega), if_neg (by omega), if_neg (by omega), if_neg (by omega), if_pos rfl, Int.toNat_natCast, if_pos hbt, Int.toNat_natCast, wth_set hlo' hh' hs ⟨(nthF L i).s, (nthF L i).d.extract 0 z, (z : Int)⟩ hnmi]
    clear hz hbt
    go_wp2_with (go_at_call 78; refine (iTrunc1 g (i * 3) (nthF L i).d _ z _ c1 c2 f1 f2 hzz).mono ?_; rintro e w3 ⟨rfl, rfl⟩)
    go_ret
    have hpg : p ≠ g := fun e => hgp (by rw [e])
    rw [← hLn] at hd2 hO2
    rw [hD.out]
    exact ⟨rfl, Dk.of (rowO (rowO hd2 hpg) hpg) (hO2.setdy hi _ _) (by simp) hB, (hb2'.set hBg hO2.row _ _).set hBg hO2.row.set _ _⟩
  · have hbt : btw sz 0 (nthF L i).d.size = false := by unfold btw; simp; omega
    have hD : Hid (doS L x1 4 nm dt sz (i : Int) = (L, 16)) := by
      show _ = _; unfold doS; rw [if_neg (by omega), if_neg (by omega), if_neg (by omega), if_neg (by omega), if_pos rfl, Int.toNat_natCast, hbt]; rfl
    have htr := iTrunc0 g (i * 3) (nthF L i).d sz w2 c1 hz
    clear hz hbt
    go_wp2_with (go_at_call 78; refine htr.mono ?_; rintro e w3 ⟨rfl, rfl⟩)
    go_ret
    rw [hD.out]
    exact ⟨rfl, ⟨g, cap, by rw [hLn]; exact hd2, by rw [hLn]; exact hO2, hB⟩, hb2'⟩
set_option maxRecDepth 20000 in
set_option maxHeartbeats 8000000 in
theorem iStep5 (p B : Nat) (L : List Fil) (x1 x2 x3 x4 : Int) (x5 : Bool) (nm dt : ByteArray) (sz r : Int) (w : World) (h : Dk w p B L x1 x2 x3 x4 x5) (hx0 : 0 ≤ x2) (hx1 : x2 ≤ 1000000000000000) (ht : tk x2 x3 x4 x5 = (x2 + 1, x5, 0)) (_hF : Fit L x1 5 nm dt) (hs : Srt L) (_hne : ∀ g ∈ L, g.s ≠ ⟨#[]⟩) (hn : L.length ≤ 300) (hr : FdAt L nm r) :
    Calls Tryz.prog 59 #[.pointer (some ⟨p, 0, none⟩), .agg #[.int .i64 5, .string nm, .string dt, .int .i64 sz]] w fun e w' => StI w w' p B x1 x3 x4 ((doS L x1 5 nm dt sz r).1, x2 + 1, x5, (doS L x1 5 nm dt sz r).2) e := by
  obtain ⟨g, cap, hd, hO, hB⟩ := h
  have HT : Hid (tk x2 x3 x4 x5 = (x2 + 1, x5, 0)) := ht
  clear ht
  have hba := bal w (.cells #[.int .i64 5, .string nm, .string dt, .int .i64 sz] 53)
  have hX := heap_alloc_new w (.cells #[.int .i64 5, .string nm, .string dt, .int .i64 sz] 53)
  have hda := hd.later hba
  have hOa := hO.later hba
  have hpw : p < w.heap.size := (Array.getElem?_eq_some_iff.1 hd).1
  have hgp : some g ≠ some p := fun e => hd.apart hO (Option.some.inj e)
  have hgw : g < w.heap.size := by obtain ⟨_, cur, hgb⟩ := hO.in; exact (Array.getElem?_eq_some_iff.1 hgb).1
  have hBg := hO.in.1
  go_enter Tryz.func59, Tryz.ntmps59
  go_upto_region 4 with (go_at_call 74; refine (iTick p _ x1 x2 x3 x4 x5 _ hda hx0 hx1).mono ?_; rw [HT.out]; rintro e w1 ⟨rfl, hd1, hg1⟩)
  have hO1 : OwnL w1 B (.slice (some ⟨g, 0, none⟩) L.length cap) L := hOa.at_ (hg1.block g (by have := hba.size; omega) hgp)
  have hX1 : w1.heap[w.heap.size]? = _ := rowG hX hg1 (by intro e; have := Option.some.inj e; omega)
  have hb1 : BK B p w w1 := (BK.of hba (by omega)).grownP hg1 (by have := hba.size; omega) hB
  have hw1 : w.heap.size < w1.heap.size := (Array.getElem?_eq_some_iff.1 hX1).1
  have q0 : w1.cell? ⟨w.heap.size, 0, none⟩ = some (.int .i64 5) := (cell_of_row _ _ 0 _ _ _ hX1).trans rfl
  have q1 : w1.cell? ⟨w.heap.size, 1, none⟩ = some (.string nm) := (cell_of_row _ _ 1 _ _ _ hX1).trans rfl
  have q2 : w1.cell? ⟨w.heap.size, 2, none⟩ = some (.string dt) := (cell_of_row _ _ 2 _ _ _ hX1).trans rfl
  have q3 : w1.cell? ⟨w.heap.size, 3, none⟩ = some (.int .i64 sz) := (cell_of_row _ _ 3 _ _ _ hX1).trans rfl
  have hmm := hs.mono nm
  have hfl := hO1.f.fl
  obtain ⟨n, hLn⟩ : ∃ n, L.length = n := ⟨_, rfl⟩
  rw [hLn] at hd1 hO1 hn hmm hfl
  go_upto_region 7 with (go_at_call 55; refine (iPlace p _ n cap (nthF L) nm x1 (x2 + 1) x3 x4 x5 _ hd1 hfl (by omega) hmm).mono ?_; rintro e w2 ⟨i, rfl, hlo, hb2⟩)
  have hd2 := hd1.later hb2
  have hO2 := hO1.later hb2
  have hb2' : BK B p w w2 := hb1.trans (BK.of hb2 (by omega))
  have hw2 := hb2.size
  have hlo' : LoB (nthF L) L.length nm i := by rw [hLn]; exact hlo
  obtain ⟨e0, e1, e2, e3, e4, e5⟩ := hd2.box
  have r0 := keepB hb2 q0
  have r1 := keepB hb2 q1
  have r2 := keepB hb2 q2
  have r3 := keepB hb2 q3
  clear q0 q1 q2 q3
  rcases hh : hitB (nthF L) n nm i
  · have hh' : hitB (nthF L) L.length nm i = false := by rw [hLn]; exact hh
    obtain rfl : r = -1 := fd_same hr (fd_miss hlo' hh' hs)
    have hD : Hid (doS L x1 5 nm dt sz (-1) = (L, 14)) := by show _ = _; unfold doS; rw [if_neg (by omega), if_pos (by omega)]
    go_wp2
    go_ret
    rw [hD.out]
    exact ⟨rfl, ⟨g, cap, by rw [hLn]; exact hd2, by rw [hLn]; exact hO2, hB⟩, hb2'⟩
  have hh' : hitB (nthF L) L.length nm i = true := by rw [hLn]; exact hh
  obtain rfl : r = (i : Int) := fd_same hr (fd_hit hlo' hh')
  obtain ⟨hi, hnmi⟩ := hit_at hh'
  have hin : i < n := by omega
  have hin' : (i : Int) < n := by omega
  obtain ⟨b', off', eA, c0, c1, c2⟩ := (hfl.later hb2) i hin
  obtain ⟨rfl, rfl⟩ : g = b' ∧ 0 = off' := by simpa using eA
  rw [Nat.zero_add] at c0 c1 c2
  have f1 : w2.frozen? ⟨g, i * 3 + 1, none⟩ = false := hO2.fz
  have f2 : w2.frozen? ⟨g, i * 3 + 2, none⟩ = false := hO2.fz
  have hD : Hid (doS L x1 5 nm dt sz (i : Int) = (L.eraseIdx i, 0)) := by
    show _ = _; unfold doS; rw [if_neg (by omega), if_neg (by omega), if_neg (by omega), if_neg (by omega), if_neg (by omega), wth_del hlo' hh' hs]
  have hdel := iDelete L i (i + 1) hi rfl g cap B w2 (by rw [hLn]; exact hO2) (by omega)
  rw [show ((i + 1 : Nat) : Int) = (i : Int) + 1 from rfl, hLn] at hdel
  have hwr : IntKind.i64.wrap ((i : Int) + 1) = (i : Int) + 1 := by rw [IntKind.wrap_i64]; omega
  have hpg : some p ≠ some g := fun e => hgp e.symm
  have hel : (L.eraseIdx i).length = n - 1 := by rw [List.length_eraseIdx_of_lt hi, hLn]
  go_wp2_with (go_at_call 79; refine hdel.mono ?_; rintro e w3 ⟨rfl, hO3, hgr3⟩; have hd3 : DkAt w3 p _ x1 (x2 + 1) x3 x4 x5 := rowG hd2 hgr3 hpg; have hc4' : w3.cell? ⟨p, 4, none⟩ = some _ := hd3.box.c4; have hf4' : w3.frozen? ⟨p, 4, none⟩ = false := frozen_of_row _ _ 4 _ _ hd3)
  go_ret
  rw [hD.out]
  refine ⟨rfl, ?_, (hb2'.grownG hgr3 (by omega) hBg hO2.row).setP hB _ _⟩
  rw [← hel] at hO3 ⊢
  exact Dk.put hd3 hO3 hB
end Go.Proofs.YtngppfjphbodcaaGreatDoor
