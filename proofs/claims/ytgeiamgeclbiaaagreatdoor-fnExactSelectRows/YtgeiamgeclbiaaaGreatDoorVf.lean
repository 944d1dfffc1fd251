/-
  Values of expressions: the program's small functions.
-/
import Derived.Test.YtgeiamgeclbiaaaGreatDoorVd
namespace Go.Proofs.YtgeiamgeclbiaaaGreatDoor
open Go.RowKit Go.Maps Go.WideMaps
set_option maxRecDepth 20000 in
set_option maxHeartbeats 4000000 in
theorem iCheck5 (ac : Option Addr) (n cc : Nat) (C : Nat → Clm) (mb : Nat) (a : Option Addr) (m c : Nat) (I : Nat → Itm) (w : World) (hC : CL w ac n C) (hP : PlAt w mb n C) (hdp : ∀ k, k < n → hasCol C (C k).s k = false) (hI : IL w a m I) (hm : m ≤ 100) (hx : ex I m = some 1) :
    Calls Tryz.prog 132 #[.agg #[.slice ac n cc, .map (some mb)], .slice a m c] w fun e w' => e = .returned (.tuple #[.int .i64 (ckR C n I m).1, .int .i64 (ckR C n I m).2]) ∧ Below w.heap.size w w' := by
  have hb0 := bal w (.cells #[.slice ac n cc, .map (some mb)] 79)
  have HW := iWalkI ac n cc C mb a m c I (w.alloc (.cells #[.slice ac n cc, .map (some mb)] 79)) (hC.later hb0) (hP.later hb0) hdp (hI.later hb0) hm hx
  obtain ⟨ek, ec, hck⟩ : ∃ ek ec, ckR C n I m = (ek, ec) := ⟨_, _, rfl⟩
  rw [hck] at HW ⊢
  clear hck hx
  go_enter Tryz.func132, Tryz.ntmps132
  go_wp2_with (go_at_call 163; refine HW.mono ?_; rintro e w1 ⟨rfl, hb1⟩)
  refine bodyPost_ret (results_tmp2 rfl _ _ _) rfl ⟨rfl, bstep hb0 hb1⟩
def ctR (C : Nat → Clm) (n : Nat) (I : Nat → Itm) (m : Nat) (q : Int) : Int := if (ckR C n I m).2 = 0 ∧ ¬ (ckR C n I m).1 = q then 4 else (ckR C n I m).2
set_option maxRecDepth 20000 in
set_option maxHeartbeats 4000000 in
theorem iCheckT (ac : Option Addr) (n cc : Nat) (C : Nat → Clm) (mb : Nat) (a : Option Addr) (m c : Nat) (I : Nat → Itm) (q : Int) (w : World) (hC : CL w ac n C) (hP : PlAt w mb n C) (hdp : ∀ k, k < n → hasCol C (C k).s k = false) (hI : IL w a m I) (hm : m ≤ 100) (hx : ex I m = some 1) :
    Calls Tryz.prog 162 #[.agg #[.slice ac n cc, .map (some mb)], .slice a m c, .int .i64 q] w fun e w' => e = .returned (.int .i64 (ctR C n I m q)) ∧ Below w.heap.size w w' := by
  have hb0 := bal w (.cells #[.slice ac n cc, .map (some mb)] 79)
  have HW := iCheck5 ac n cc C mb a m c I (w.alloc (.cells #[.slice ac n cc, .map (some mb)] 79)) (hC.later hb0) (hP.later hb0) hdp (hI.later hb0) hm hx
  obtain ⟨ek, ec, hck⟩ : ∃ ek ec, ckR C n I m = (ek, ec) := ⟨_, _, rfl⟩
  rw [hck] at HW
  have HK : Hid (ckR C n I m = (ek, ec)) := hck
  clear hck hx
  by_cases e0 : ec = 0
  · subst e0
    by_cases e1 : ek = q
    · subst e1
      go_enter Tryz.func162, Tryz.ntmps162
      go_wp2_with (go_at_call 132; refine HW.mono ?_; rintro e w1 ⟨rfl, hb1⟩)
      go_ret
      exact ⟨by unfold ctR; rw [HK.out, if_neg (by simp)]; rfl, bstep hb0 hb1⟩
    · have n2 : (ek != q) = true := by simpa using e1
      have HE : Hid (¬ ek = q) := e1
      clear e1
      go_enter Tryz.func162, Tryz.ntmps162
      go_wp2_with (go_at_call 132; refine HW.mono ?_; rintro e w1 ⟨rfl, hb1⟩)
      go_ret
      exact ⟨by unfold ctR; rw [HK.out, if_pos ⟨rfl, HE.out⟩]; rfl, bstep hb0 hb1⟩
  · have n1 : (ec == 0) = false := by simpa using e0
    have HE : Hid (¬ ec = 0) := e0
    clear e0
    go_enter Tryz.func162, Tryz.ntmps162
    go_wp2_with (go_at_call 132; refine HW.mono ?_; rintro e w1 ⟨rfl, hb1⟩)
    go_ret
    exact ⟨by unfold ctR; rw [HK.out, if_neg (fun h => HE.out h.1)]; rfl, bstep hb0 hb1⟩
set_option maxRecDepth 20000 in
set_option maxHeartbeats 4000000 in
theorem iCheckWh (ac : Option Addr) (n cc : Nat) (C : Nat → Clm) (mb : Nat) (a : Option Addr) (m c : Nat) (I : Nat → Itm) (w : World) (hC : CL w ac n C) (hP : PlAt w mb n C) (hdp : ∀ k, k < n → hasCol C (C k).s k = false) (hI : IL w a m I) (hok : okWhere I m = true) :
    Calls Tryz.prog 133 #[.agg #[.slice ac n cc, .map (some mb)], .slice a m c] w fun e w' => e = .returned (.int .i64 (cwR C n I m)) ∧ Below w.heap.size w w' := by
  have hb0 := bal w (.cells #[.slice ac n cc, .map (some mb)] 79)
  by_cases h0 : m = 0
  · subst h0
    go_enter Tryz.func133, Tryz.ntmps133
    go_wp2
    go_ret
    exact ⟨by simp [cwR], hb0⟩
  · obtain ⟨h1, h2, h3⟩ := okWhere_out hok h0
    have HW := iCheckT ac n cc C mb a m c I 1 (w.alloc (.cells #[.slice ac n cc, .map (some mb)] 79)) (hC.later hb0) (hP.later hb0) hdp (hI.later hb0) h1 h3
    have HE : Hid (cwR C n I m = ctR C n I m 1) := by show _ = _; unfold cwR ctR; rw [if_neg h0]
    have n0 : ((m : Int) == 0) = false := by simp; omega
    clear h0 h3 hok
    go_enter Tryz.func133, Tryz.ntmps133
    go_wp2_with (go_at_call 162; refine HW.mono ?_; rintro e w1 ⟨rfl, hb1⟩)
    go_ret
    exact ⟨by rw [HE.out]; rfl, bstep hb0 hb1⟩
set_option maxRecDepth 20000 in
set_option maxHeartbeats 16000000 in
theorem iCheckS5 (ac : Option Addr) (n cc : Nat) (C : Nat → Clm) (mb : Nat) (tb : ByteArray) (a2 : Option Addr) (n2 c2 : Nat) (a3 : Option Addr) (n3 c3 : Nat) (col : ByteArray) (a5 : Option Addr) (n5 c5 : Nat) (a6 : Option Addr) (n6 c6 : Nat) (a7 : Option Addr) (n7 c7 : Nat) (W : Nat → Itm) (m7 : Nat → Nat) (O : Nat → Nat → Itm) (w : World) (hC : CL w ac n C) (hP : PlAt w mb n C) (hdp : ∀ k, k < n → hasCol C (C k).s k = false) (hO : OL w a7 n7 m7 O) (hW : IL w a6 n6 W) (h7 : n7 ≤ 1048576) (hex : ∀ i, i < n7 → okExp (O i) (m7 i) = true) (hok : okWhere W n6 = true) :
    Calls Tryz.prog 88 #[.agg #[.slice ac n cc, .map (some mb)], .agg #[.int .i64 5, .string tb, .slice a2 n2 c2, .slice a3 n3 c3, .string col, .slice a5 n5 c5, .slice a6 n6 c6, .slice a7 n7 c7]] w fun e w' => e = .returned (.int .i64 (slC C n m7 O n7 W n6)) ∧ Below w.heap.size w w' := by
  have HEX : Hid (∀ i, i < n7 → okExp (O i) (m7 i) = true) := hex
  have HDP : Hid (∀ k, k < n → hasCol C (C k).s k = false) := hdp
  have HOK : Hid (okWhere W n6 = true) := hok
  clear hex hdp hok
  have hbU : Below w.heap.size w ((w.alloc (.cells #[.slice ac n cc, .map (some mb)] 79)).alloc (.cells #[.int .i64 5, .string tb, .slice a2 n2 c2, .slice a3 n3 c3, .string col, .slice a5 n5 c5, .slice a6 n6 c6, .slice a7 n7 c7] 45)) := bstep (bal _ _) (bal _ _)
  have hq0 : ((w.alloc (.cells #[.slice ac n cc, .map (some mb)] 79)).alloc (.cells #[.int .i64 5, .string tb, .slice a2 n2 c2, .slice a3 n3 c3, .string col, .slice a5 n5 c5, .slice a6 n6 c6, .slice a7 n7 c7] 45)).heap[w.heap.size]? = some (.cells #[.slice ac n cc, .map (some mb)] 79 (0, 0)) := rowL (heap_alloc_new w _) (bal _ _)
  have hq1 : ((w.alloc (.cells #[.slice ac n cc, .map (some mb)] 79)).alloc (.cells #[.int .i64 5, .string tb, .slice a2 n2 c2, .slice a3 n3 c3, .string col, .slice a5 n5 c5, .slice a6 n6 c6, .slice a7 n7 c7] 45)).heap[w.heap.size + 1]? = some (.cells #[.int .i64 5, .string tb, .slice a2 n2 c2, .slice a3 n3 c3, .string col, .slice a5 n5 c5, .slice a6 n6 c6, .slice a7 n7 c7] 45 (0, 0)) := by
    have q := heap_alloc_new (w.alloc (.cells #[.slice ac n cc, .map (some mb)] 79)) (.cells #[.int .i64 5, .string tb, .slice a2 n2 c2, .slice a3 n3 c3, .string col, .slice a5 n5 c5, .slice a6 n6 c6, .slice a7 n7 c7] 45)
    rw [World.size_alloc] at q
    exact q
  go_enter Tryz.func88, Tryz.ntmps88
  go_wp2
  go_loopw [7, 8, 9, 36] (fun _ _ _ i wr => ∃ k : Nat, k ≤ n7 ∧ i = .int .i64 k ∧ soC C n m7 O k = 0 ∧ Below ((w.alloc (.cells #[.slice ac n cc, .map (some mb)] 79)).alloc (.cells #[.int .i64 5, .string tb, .slice a2 n2 c2, .slice a3 n3 c3, .string col, .slice a5 n5 c5, .slice a6 n6 c6, .slice a7 n7 c7] 45)).heap.size ((w.alloc (.cells #[.slice ac n cc, .map (some mb)] 79)).alloc (.cells #[.int .i64 5, .string tb, .slice a2 n2 c2, .slice a3 n3 c3, .string col, .slice a5 n5 c5, .slice a6 n6 c6, .slice a7 n7 c7] 45)) wr) (fun _ _ _ i _ => n7 - (intOf i).toNat)
  case atStart => exact ⟨0, Nat.zero_le _, rfl, rfl, Below.refl _ _⟩
  case round =>
    obtain ⟨k, hk, rfl, hso, hbr⟩ := hrel
    have HSO : Hid (soC C n m7 O k = 0) := hso
    clear hso
    have hbW := bstep hbU hbr
    have q0 := rowL hq0 hbr
    have q1 := rowL hq1 hbr
    obtain ⟨s0, s1⟩ : wr.cell? ⟨w.heap.size, 0, none⟩ = some (.slice ac n cc) ∧ wr.cell? ⟨w.heap.size, 1, none⟩ = some (.map (some mb)) := ⟨cell_of_row _ _ 0 _ _ _ q0, cell_of_row _ _ 1 _ _ _ q0⟩
    obtain ⟨-, -, -, -, -, -, qw, qo⟩ := box8 q1
    by_cases hlt : k < n7
    · obtain ⟨bO, offO, ai, ci, rfl, d1, hIO, -⟩ := hO.later hbW k hlt
      have hkn : (k : Int) < n7 := by omega
      obtain ⟨hx1, hx2, hx3⟩ := okExp_out (HEX.out k hlt)
      obtain ⟨ek, ec, hck⟩ : ∃ ek ec, ckR C n (O k) (m7 k) = (ek, ec) := ⟨_, _, rfl⟩
      have HCK := iCheck5 ac n cc C mb ai (m7 k) ci (O k) wr (hC.later hbW) (hP.later hbW) HDP.out hIO hx1 hx3
      rw [hck] at HCK
      have HNX : Hid (soC C n m7 O (k + 1) = ec) := by show _ = _; rw [soC, if_pos HSO.out, hck]
      clear hck hx3
      by_cases he : ec = 0
      · subst he
        go_wp2_with (go_at_call 132; refine HCK.mono ?_; rintro e w5 ⟨rfl, hb5⟩)
        go_roundw
        case rel => exact ⟨k + 1, by omega, by go_num, HNX.out, bstep hbr hb5⟩
        case measure => simp [intOf]; omega
      · have n0 : (ec != 0) = true := by simpa using he
        have HA2 : Hid (slC C n m7 O n7 W n6 = ec) := by
          show _ = _
          have h1 : soC C n m7 O n7 = ec := by rw [soC_stop (k := k + 1) (by rw [HNX.out]; exact he) n7 (by omega), HNX.out]
          unfold slC
          rw [h1, if_neg he]
        clear he
        go_wp2_with (go_at_call 132; refine HCK.mono ?_; rintro e w5 ⟨rfl, hb5⟩)
        go_ret
        exact ⟨by rw [HA2.out]; rfl, bstep hbW hb5⟩
    · obtain rfl : k = n7 := by omega
      have HA2 : Hid (slC C n m7 O k W n6 = cwR C n W n6) := by show _ = _; unfold slC; rw [if_pos HSO.out]
      have HWH := iCheckWh ac n cc C mb a6 n6 c6 W wr (hC.later hbW) (hP.later hbW) HDP.out (hW.later hbW) HOK.out
      go_wp2_with (go_at_call 133; refine HWH.mono ?_; rintro e w5 ⟨rfl, hb5⟩)
      go_ret
      exact ⟨by rw [HA2.out]; rfl, bstep hbW hb5⟩
theorem okTd_dif {d : Td} (h : okTd d = true) : ∀ k, k < d.n → hasCol d.C (d.C k).s k = false := fun k hk => by
  obtain ⟨-, -, -, -, h5, -⟩ := okTd_out h
  have := allN_at h5 hk
  unfold okColAt at this
  simp only [Bool.and_eq_true, Bool.not_eq_true'] at this
  exact this.2
/-- What the program's checking of a Select answers. -/
def ceA (n : Nat) (T : Nat → Td) (D : St) : Int × Int := match tabI T D.tb n with
  | none => (0, 1)
  | some j => ((j : Int), slC (T j).C (T j).n D.m7 D.O D.n7 D.W D.n6)
set_option maxRecDepth 20000 in
set_option maxHeartbeats 16000000 in
theorem iChecked5 (a : Option Addr) (n c : Nat) (T : Nat → Td) (tb : ByteArray) (a2 : Option Addr) (n2 c2 : Nat) (a3 : Option Addr) (n3 c3 : Nat) (col : ByteArray) (a5 : Option Addr) (n5 c5 : Nat) (a6 : Option Addr) (n6 c6 : Nat) (a7 : Option Addr) (n7 c7 : Nat) (C : Nat → Clm) (V E W : Nat → Itm) (m7 : Nat → Nat) (O : Nat → Nat → Itm) (w : World) (hT : TL w a n T) (hS : SM w ⟨5, tb, n2, C, n3, V, col, n5, E, n6, W, n7, m7, O⟩ ⟨a2, c2, a3, c3, a5, c5, a6, c6, a7, c7⟩) (hn : n ≤ 1048576) (hok : okDb n T = true) (hos : okStm ⟨5, tb, n2, C, n3, V, col, n5, E, n6, W, n7, m7, O⟩ = true) :
    Calls Tryz.prog 36 #[.agg #[.slice a n c], .agg #[.int .i64 5, .string tb, .slice a2 n2 c2, .slice a3 n3 c3, .string col, .slice a5 n5 c5, .slice a6 n6 c6, .slice a7 n7 c7]] w fun e w' => e = .returned (.tuple #[.int .i64 (ceA n T ⟨5, tb, n2, C, n3, V, col, n5, E, n6, W, n7, m7, O⟩).1, .int .i64 (ceA n T ⟨5, tb, n2, C, n3, V, col, n5, E, n6, W, n7, m7, O⟩).2]) ∧ Below w.heap.size w w' := by
  obtain ⟨h7a, h7b, h7c, h7d⟩ := rest5 hos rfl
  simp only at h7a h7b h7c h7d
  have HEX : Hid (∀ i, i < n7 → okExp (O i) (m7 i) = true) := h7c
  have HWH : Hid (okWhere W n6 = true) := h7d
  have HOK : Hid (okDb n T = true) := hok
  clear h7c h7d hok hos
  have hbU : Below w.heap.size w ((w.alloc (.cells #[.slice a n c] 38)).alloc (.cells #[.int .i64 5, .string tb, .slice a2 n2 c2, .slice a3 n3 c3, .string col, .slice a5 n5 c5, .slice a6 n6 c6, .slice a7 n7 c7] 45)) := bstep (bal _ _) (bal _ _)
  have hq0 : ((w.alloc (.cells #[.slice a n c] 38)).alloc (.cells #[.int .i64 5, .string tb, .slice a2 n2 c2, .slice a3 n3 c3, .string col, .slice a5 n5 c5, .slice a6 n6 c6, .slice a7 n7 c7] 45)).heap[w.heap.size]? = some (.cells #[.slice a n c] 38 (0, 0)) := rowL (heap_alloc_new w _) (bal _ _)
  have hq1 : ((w.alloc (.cells #[.slice a n c] 38)).alloc (.cells #[.int .i64 5, .string tb, .slice a2 n2 c2, .slice a3 n3 c3, .string col, .slice a5 n5 c5, .slice a6 n6 c6, .slice a7 n7 c7] 45)).heap[w.heap.size + 1]? = some (.cells #[.int .i64 5, .string tb, .slice a2 n2 c2, .slice a3 n3 c3, .string col, .slice a5 n5 c5, .slice a6 n6 c6, .slice a7 n7 c7] 45 (0, 0)) := by
    have q := heap_alloc_new (w.alloc (.cells #[.slice a n c] 38)) (.cells #[.int .i64 5, .string tb, .slice a2 n2 c2, .slice a3 n3 c3, .string col, .slice a5 n5 c5, .slice a6 n6 c6, .slice a7 n7 c7] 45)
    rw [World.size_alloc] at q
    exact q
  obtain ⟨p0, -⟩ := box1 hq0
  obtain ⟨-, p1, -⟩ := box8 hq1
  have HF := iFind a n c T tb ((w.alloc (.cells #[.slice a n c] 38)).alloc (.cells #[.int .i64 5, .string tb, .slice a2 n2 c2, .slice a3 n3 c3, .string col, .slice a5 n5 c5, .slice a6 n6 c6, .slice a7 n7 c7] 45)) (hT.later hbU) hn HOK.out
  rcases ht : tabI T tb n with _ | j
  · have HA : Hid (ceA n T ⟨5, tb, n2, C, n3, V, col, n5, E, n6, W, n7, m7, O⟩ = (0, 1)) := by show _ = _; unfold ceA; simp only; rw [ht]
    rw [ht] at HF
    simp only [Option.isSome] at HF
    clear ht
    go_enter Tryz.func36, Tryz.ntmps36
    go_wp2_with (go_at_call 87; refine HF.mono ?_; rintro e w1 ⟨i, rfl, -, -, hb1⟩)
    refine bodyPost_ret (results_tmp2 rfl _ _ _) rfl ⟨by rw [HA.out]; rfl, bstep hbU hb1⟩
  · have hj := (tabI_lt ht).1
    have hdj := okTd_dif ((okDb_out HOK.out).2 j hj)
    have hNj := okTd_nice ((okDb_out HOK.out).2 j hj)
    have HA : Hid (ceA n T ⟨5, tb, n2, C, n3, V, col, n5, E, n6, W, n7, m7, O⟩ = ((j : Int), slC (T j).C (T j).n m7 O n7 W n6)) := by show _ = _; unfold ceA; simp only; rw [ht]
    rw [ht] at HF
    simp only [Option.isSome] at HF
    clear ht
    obtain ⟨dn, hdn⟩ : ∃ x, (T j).n = x := ⟨_, rfl⟩
    obtain ⟨dC, hdC⟩ : ∃ x, (T j).C = x := ⟨_, rfl⟩
    rw [hdn, hdC] at HA
    have hn1 := hNj.n1
    have hn0 := hNj.n0
    rw [hdn] at hn1 hn0 hdj
    rw [hdC] at hdj
    have HDJ : Hid (∀ k, k < dn → hasCol dC (dC k).s k = false) := hdj
    have HDN : Hid ((T j).n = dn ∧ (T j).C = dC) := ⟨hdn, hdC⟩
    clear hdn hdC hdj hNj
    have hjn : (j : Int) < n := by omega
    have hj0 : (0 : Int) ≤ j := by omega
    go_enter Tryz.func36, Tryz.ntmps36
    go_upto_region 4 with (go_at_call 87; refine HF.mono ?_; rintro e w1 ⟨i, rfl, -, hij, hb1⟩; obtain rfl := hij j rfl)
    have hb10 := bstep hbU hb1
    have r0 := rowL hq0 hb1
    have r1 := rowL hq1 hb1
    obtain ⟨bt, offt, ac, cc, ar, cr, rfl, -, e1, -, hC, -, -⟩ := hT.later hb10 i hj
    rw [HDN.out.1] at e1 hC
    rw [HDN.out.2] at hC
    refine wp_region_held_drew (S := fun x => Below w1.heap.size w1 x) (by kernel_rfl) (bdrV _) (fun hHeld => ?_)
    refine' takeF (i := 0) (oi := ({ dst := some 17, op := Op.move (Operand.tmp 6), type := 3, pos := "l5_replay.go:180", after := #[], guard := none } : Oper)) rfl ⟨by rfl, fun x hSw => ?h1⟩ hHeld ?r1
    case h1 =>
      go_simp
      try with_reducible rfl
    try simp only [Act.put, List.setIfInBounds_toArray, List.set_cons_zero, List.set_cons_succ]
    refine' takeF (i := 1) (oi := ({ dst := some 18, op := Op.fieldAddr 38 (Operand.tmp 2) 0, type := 0, pos := "l5_replay.go:180", after := #[], guard := none } : Oper)) rfl ⟨by rfl, fun x hSw => ?h2⟩ hHeld ?r2
    case h2 =>
      go_simp
      try with_reducible rfl
    try simp only [Act.put, List.setIfInBounds_toArray, List.set_cons_zero, List.set_cons_succ]
    refine' takeF (i := 2) (oi := ({ dst := some 19, op := Op.load 36 (Operand.tmp 18), type := 36, pos := "l5_replay.go:180", after := #[{ on := 1, ground := Ground.data }], guard := none } : Oper)) rfl ⟨by rfl, fun x hSw => ?h3⟩ hHeld ?r3
    case h3 =>
      obtain ⟨k0, -⟩ := box1 (rowL r0 hSw); have k1 := keepB hSw e1; obtain ⟨j0_, j1_, j2_, j3_, j4_, j5_, j6_, j7_⟩ := box8 (rowL r1 hSw)
      go_simp
      try with_reducible rfl
    try simp only [Act.put, List.setIfInBounds_toArray, List.set_cons_zero, List.set_cons_succ]
    refine' takeF (i := 3) (oi := ({ dst := some 20, op := Op.move (Operand.tmp 6), type := 3, pos := "l5_replay.go:180", after := #[], guard := none } : Oper)) rfl ⟨by rfl, fun x hSw => ?h4⟩ hHeld ?r4
    case h4 =>
      go_simp
      try with_reducible rfl
    try simp only [Act.put, List.setIfInBounds_toArray, List.set_cons_zero, List.set_cons_succ]
    refine' takeF (i := 4) (oi := ({ dst := some 21, op := Op.indexAddr 36 (Operand.tmp 19) (Operand.tmp 20), type := 0, pos := "l5_replay.go:180", after := #[{ on := 2, ground := Ground.data }, { on := 3, ground := Ground.data }], guard := none } : Oper)) rfl ⟨by rfl, fun x hSw => ?h5⟩ hHeld ?r5
    case h5 =>
      go_simp
      try with_reducible rfl
    try simp only [Act.put, List.setIfInBounds_toArray, List.set_cons_zero, List.set_cons_succ]
    refine' takeF (i := 5) (oi := ({ dst := some 22, op := Op.fieldAddr 62 (Operand.tmp 21) 1, type := 0, pos := "l5_replay.go:180", after := #[{ on := 4, ground := Ground.data }], guard := none } : Oper)) rfl ⟨by rfl, fun x hSw => ?h6⟩ hHeld ?r6
    case h6 =>
      go_simp
      try with_reducible rfl
    try simp only [Act.put, List.setIfInBounds_toArray, List.set_cons_zero, List.set_cons_succ]
    refine' takeF (i := 6) (oi := ({ dst := some 23, op := Op.load 40 (Operand.tmp 22), type := 40, pos := "l5_replay.go:180", after := #[{ on := 5, ground := Ground.data }], guard := none } : Oper)) rfl ⟨by rfl, fun x hSw => ?h7⟩ hHeld ?r7
    case h7 =>
      obtain ⟨k0, -⟩ := box1 (rowL r0 hSw); have k1 := keepB hSw e1; obtain ⟨j0_, j1_, j2_, j3_, j4_, j5_, j6_, j7_⟩ := box8 (rowL r1 hSw)
      go_simp
      try with_reducible rfl
    try simp only [Act.put, List.setIfInBounds_toArray, List.set_cons_zero, List.set_cons_succ]
    refine' takeF (i := 8) (oi := ({ dst := some 25, op := Op.load 45 (Operand.tmp 3), type := 45, pos := "l5_replay.go:180", after := #[], guard := none } : Oper)) rfl ⟨by rfl, fun x hSw => ?h8⟩ hHeld ?r8
    case h8 =>
      obtain ⟨k0, -⟩ := box1 (rowL r0 hSw); have k1 := keepB hSw e1; obtain ⟨j0_, j1_, j2_, j3_, j4_, j5_, j6_, j7_⟩ := box8 (rowL r1 hSw)
      go_simp
      try with_reducible rfl
    try simp only [Act.put, List.setIfInBounds_toArray, List.set_cons_zero, List.set_cons_succ]
    refine wpAnyH_ready (rs := [7]) (by kernel_rfl) (by simp) ?_
    refine AllReadyH.cons (o := ({ dst := some 24, op := Op.call { callee := Callee.value (Operand.func 37), args := #[Operand.tmp 23], argTypes := #[40] }, type := 79, pos := "l5_replay.go:180", after := #[{ on := 6, ground := Ground.data }], guard := none } : Oper)) rfl (fun K hK => ?_) AllReadyH.nil
    go_simp
    refine (iScope ac dn cc dC _ (hC.later hHeld) hn1).mono ?_
    rintro e w2 ⟨rfl, hP2, hb2⟩; have hH2 := bstep hHeld hb2
    refine hK.out _ _ (hH2) (fun hHeld => ?_)
    clear hK K
    try simp only [Act.put, List.setIfInBounds_toArray, List.set_cons_zero, List.set_cons_succ]
    refine wpAnyH_ready (rs := [9]) (by kernel_rfl) (by simp) ?_
    refine AllReadyH.cons (o := ({ dst := some 26, op := Op.call { callee := Callee.value (Operand.func 88), args := #[Operand.tmp 24, Operand.tmp 25], argTypes := #[79, 45] }, type := 3, pos := "l5_replay.go:180", after := #[{ on := 7, ground := Ground.data }, { on := 8, ground := Ground.data }, { on := 7, ground := Ground.chain }], guard := none } : Oper)) rfl (fun K hK => ?_) AllReadyH.nil
    go_simp
    refine (iCheckS5 ac dn cc dC _ tb a2 n2 c2 a3 n3 c3 col a5 n5 c5 a6 n6 c6 a7 n7 c7 W m7 O _ (hC.later hHeld) hP2 HDJ.out (hS.ou.later (bstep hb10 hHeld)) (hS.wh.later (bstep hb10 hHeld)) hS.l7 HEX.out HWH.out).mono ?_
    rintro e w3 ⟨rfl, hb3⟩
    refine hK.out _ _ (bstep hHeld hb3) (fun hHeld => ?_)
    clear hK K
    try simp only [Act.put, List.setIfInBounds_toArray, List.set_cons_zero, List.set_cons_succ]
    refine' takeF (i := 10) (oi := ({ dst := some 4, op := Op.assign (Operand.tmp 17), type := 3, pos := "l5_replay.go:180", after := #[{ on := 0, ground := Ground.data }, { on := 9, ground := Ground.chain }, { on := 0, ground := Ground.phase }, { on := 1, ground := Ground.textOnly Departure.lateStores }, { on := 2, ground := Ground.textOnly Departure.lateStores }, { on := 3, ground := Ground.textOnly Departure.lateStores }, { on := 4, ground := Ground.textOnly Departure.lateStores }, { on := 5, ground := Ground.textOnly Departure.lateStores }, { on := 6, ground := Ground.textOnly Departure.lateStores }, { on := 7, ground := Ground.textOnly Departure.lateStoresUnsure }, { on := 8, ground := Ground.textOnly Departure.lateStores }, { on := 9, ground := Ground.textOnly Departure.lateStoresUnsure }], guard := none } : Oper)) rfl ⟨by rfl, fun x hSw => ?h9⟩ hHeld ?r9
    case h9 =>
      go_simp
      try with_reducible rfl
    try simp only [Act.put, List.setIfInBounds_toArray, List.set_cons_zero, List.set_cons_succ]
    refine' takeF (i := 11) (oi := ({ dst := some 5, op := Op.assign (Operand.tmp 26), type := 3, pos := "l5_replay.go:180", after := #[{ on := 9, ground := Ground.data }, { on := 10, ground := Ground.chain }, { on := 0, ground := Ground.phase }, { on := 1, ground := Ground.phase }, { on := 2, ground := Ground.phase }, { on := 3, ground := Ground.phase }, { on := 4, ground := Ground.phase }, { on := 5, ground := Ground.phase }, { on := 6, ground := Ground.phase }, { on := 7, ground := Ground.phase }, { on := 8, ground := Ground.phase }, { on := 9, ground := Ground.phase }, { on := 10, ground := Ground.phase }], guard := none } : Oper)) rfl ⟨by rfl, fun x hSw => ?h10⟩ hHeld ?r10
    case h10 =>
      go_simp
      try with_reducible rfl
    try simp only [Act.put, List.setIfInBounds_toArray, List.set_cons_zero, List.set_cons_succ]
    refine wpAnyH_done (by kernel_rfl) ?_ _
    go_wp2
    refine bodyPost_ret (results_tmp2 rfl _ _ _) rfl ⟨by rw [HA.out]; rfl, bstep hb10 hHeld⟩
end Go.Proofs.YtgeiamgeclbiaaaGreatDoor
namespace Go.Proofs.YtgeiamgeclbiaaaGreatDoor
open Go.RowKit Go.Maps Go.WideMaps
set_option maxRecDepth 20000 in
set_option maxHeartbeats 4000000 in
theorem iTextV (s : ByteArray) (w : World) : Calls Tryz.prog 165 #[.string s] w fun e w' => e = .returned (.agg #[.int .i64 2, .int .i64 0, .string s]) ∧ Below w.heap.size w w' := by
  go_enter Tryz.func165, Tryz.ntmps165
  go_wp2
  exact bodyPost_ret (v := .agg #[.int .i64 2, .int .i64 0, .string s]) (by simp [results, Tryz.results165, go_sem]) rfl ⟨rfl, by first | exact bal _ _ | exact bstep (bal _ _) (bal _ _)⟩
set_option maxRecDepth 20000 in
set_option maxHeartbeats 4000000 in
theorem iTruth (b : Bool) (w : World) : Calls Tryz.prog 166 #[.bool b] w fun e w' => e = .returned (.int .i64 (tvI b)) ∧ w' = w := by
  cases b
  · go_enter Tryz.func166, Tryz.ntmps166
    go_wp2
    go_ret
    exact ⟨rfl, rfl⟩
  · go_enter Tryz.func166, Tryz.ntmps166
    go_wp2
    go_ret
    exact ⟨rfl, rfl⟩
def lesB (o m : Int) (s : ByteArray) (m' : Int) (s' : ByteArray) : Bool := if o = 1 then decide (m < m') else Op.bytesLess s.toList s'.toList
set_option maxRecDepth 20000 in
set_option maxHeartbeats 4000000 in
theorem iIsLess (o m : Int) (s : ByteArray) (o' m' : Int) (s' : ByteArray) (w : World) : Calls Tryz.prog 167 #[.agg #[.int .i64 o, .int .i64 m, .string s], .agg #[.int .i64 o', .int .i64 m', .string s']] w fun e w' => e = .returned (.bool (lesB o m s m' s')) ∧ Below w.heap.size w w' := by
  have hb0 := bstep (bal w (.cells #[.int .i64 o, .int .i64 m, .string s] 66)) (bal _ (.cells #[.int .i64 o', .int .i64 m', .string s'] 66))
  by_cases h : o = 1
  · subst h
    have HE : Hid (lesB 1 m s m' s' = decide (m < m')) := by show _ = _; simp [lesB]
    go_enter Tryz.func167, Tryz.ntmps167
    go_wp2_with (go_at_call 152; refine (cmpLessI m m' _).mono ?_; rintro e w1 ⟨rfl, rfl⟩)
    go_ret
    exact ⟨by rw [HE.out]; rfl, hb0⟩
  · have n1 : (o == 1) = false := by simpa using h
    have HE : Hid (lesB o m s m' s' = Op.bytesLess s.toList s'.toList) := by show _ = _; unfold lesB; rw [if_neg h]
    clear h
    go_enter Tryz.func167, Tryz.ntmps167
    go_wp2_with (go_at_call 122; refine (cmpLess s s' _).mono ?_; rintro e w1 ⟨rfl, rfl⟩)
    go_ret
    exact ⟨by rw [HE.out]; rfl, hb0⟩
def caI (o x y : Int) : Int := if o = 4 then wrap64 (x + y) else if o = 5 then wrap64 (x - y) else if o = 6 then wrap64 (x * y) else if o = 9 then tvI (!decide (x = 0) && !decide (y = 0)) else tvI (!decide (x = 0) || !decide (y = 0))
set_option maxRecDepth 20000 in
set_option maxHeartbeats 4000000 in
theorem iCalc (o x y : Int) (w : World) : Calls Tryz.prog 168 #[.int .i64 o, .int .i64 x, .int .i64 y] w fun e w' => e = .returned (.int .i64 (caI o x y)) ∧ w' = w := by
  by_cases h4 : o = 4
  · subst h4
    go_enter Tryz.func168, Tryz.ntmps168
    go_wp2
    go_ret
    exact ⟨by simp [caI], rfl⟩
  by_cases h5 : o = 5
  · subst h5
    go_enter Tryz.func168, Tryz.ntmps168
    go_wp2
    go_ret
    exact ⟨by simp [caI], rfl⟩
  by_cases h6 : o = 6
  · subst h6
    go_enter Tryz.func168, Tryz.ntmps168
    go_wp2
    go_ret
    exact ⟨by simp [caI], rfl⟩
  have n4 : (o == 4) = false := by simpa using h4
  have n5 : (o == 5) = false := by simpa using h5
  have n6 : (o == 6) = false := by simpa using h6
  have key : ∀ b : Bool, b = (x != 0) → ∀ c : Bool, c = (y != 0) → b = !decide (x = 0) ∧ c = !decide (y = 0) := fun b hb c hc => by
    subst hb; subst hc
    constructor <;> (by_cases h : x = 0 <;> by_cases h' : y = 0 <;> simp [h, h'])
  obtain ⟨b, hb⟩ : ∃ b, (x != 0) = b := ⟨_, rfl⟩
  obtain ⟨c, hc⟩ : ∃ c, (y != 0) = c := ⟨_, rfl⟩
  obtain ⟨k1, k2⟩ := key b hb.symm c hc.symm
  by_cases h9 : o = 9
  · subst h9
    have HE : Hid (caI 9 x y = tvI (b && c)) := by show _ = _; unfold caI; rw [k1, k2]; simp
    clear k1 k2 key h4 h5 h6
    cases b <;> cases c
    all_goals
      go_enter Tryz.func168, Tryz.ntmps168
      go_wp2_with (go_at_call 166; first | (refine (iTruth true _).mono ?_; rintro e w1 ⟨rfl, rfl⟩) | (refine (iTruth false _).mono ?_; rintro e w1 ⟨rfl, rfl⟩))
      go_ret
      exact ⟨by rw [HE.out]; rfl, rfl⟩
  · have n9 : (o == 9) = false := by simpa using h9
    have HE : Hid (caI o x y = tvI (b || c)) := by show _ = _; unfold caI; rw [k1, k2, if_neg h4, if_neg h5, if_neg h6, if_neg h9]
    clear k1 k2 key h4 h5 h6 h9
    cases b <;> cases c
    all_goals
      go_enter Tryz.func168, Tryz.ntmps168
      go_wp2_with (go_at_call 166; first | (refine (iTruth true _).mono ?_; rintro e w1 ⟨rfl, rfl⟩) | (refine (iTruth false _).mono ?_; rintro e w1 ⟨rfl, rfl⟩))
      go_ret
      exact ⟨by rw [HE.out]; rfl, rfl⟩
end Go.Proofs.YtgeiamgeclbiaaaGreatDoor
