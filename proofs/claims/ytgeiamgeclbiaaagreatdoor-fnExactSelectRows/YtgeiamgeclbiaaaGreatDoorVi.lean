/-
  Expressions carried out for a row: the program's way.
-/
import Derived.Test.YtgeiamgeclbiaaaGreatDoorVh
namespace Go.Proofs.YtgeiamgeclbiaaaGreatDoor
open Go.RowKit Go.Maps Go.WideMaps
abbrev qVi0 : Oper := { dst := some 28, op := Op.move (Operand.tmp 1), type := 179, pos := "l5_replay.go:245", after := #[], guard := none }
abbrev qVi1 : Oper := { dst := some 29, op := Op.load 108 (Operand.tmp 9), type := 108, pos := "l5_replay.go:245", after := #[], guard := none }
abbrev qVi2 : Oper := { dst := some 30, op := Op.move (Operand.tmp 7), type := 41, pos := "l5_replay.go:245", after := #[], guard := none }
abbrev qVi3 : Oper := { dst := some 31, op := Op.move (Operand.tmp 10), type := 3, pos := "l5_replay.go:245", after := #[], guard := none }
abbrev qVi4 : Oper := { dst := some 32, op := Op.slice 41 (Operand.tmp 30) (some (Operand.tmp 31)) none none, type := 41, pos := "l5_replay.go:245", after := #[{ on := 2, ground := Ground.data }, { on := 3, ground := Ground.data }], guard := none }
abbrev qVi5 : Oper := { dst := some 33, op := Op.call { callee := Callee.value (Operand.tmp 28), args := #[Operand.tmp 29, Operand.tmp 32], argTypes := #[108, 41] }, type := 176, pos := "l5_replay.go:245", after := #[{ on := 0, ground := Ground.data }, { on := 1, ground := Ground.data }, { on := 4, ground := Ground.data }], guard := none }
abbrev qVi6 : Oper := { dst := some 11, op := Op.alloc 66, type := 0, pos := "l5_replay.go:245", after := #[], guard := none }
abbrev qVi7 : Oper := { dst := some 27, op := Op.move (Operand.tmp 33), type := 176, pos := "l5_replay.go:245", after := #[{ on := 5, ground := Ground.data }], guard := none }
abbrev qVi8 : Oper := { dst := some 34, op := Op.extract (Operand.tmp 27) 0, type := 66, pos := "l5_replay.go:245", after := #[{ on := 6, ground := Ground.data }], guard := none }
abbrev qVi9 : Oper := { dst := some 35, op := Op.extract (Operand.tmp 27) 1, type := 3, pos := "l5_replay.go:245", after := #[{ on := 6, ground := Ground.data }, { on := 10, ground := Ground.gcOnly Departure.lateStores }], guard := none }
abbrev qVi10 : Oper := { dst := none, op := Op.store 66 (Operand.tmp 11) (Operand.tmp 34), type := 0, pos := "l5_replay.go:245", after := #[{ on := 9, ground := Ground.data }, { on := 7, ground := Ground.data }, { on := 5, ground := Ground.chain }, { on := 0, ground := Ground.phase }, { on := 1, ground := Ground.phase }, { on := 2, ground := Ground.phase }, { on := 3, ground := Ground.phase }, { on := 4, ground := Ground.phase }, { on := 5, ground := Ground.phase }, { on := 6, ground := Ground.phase }, { on := 7, ground := Ground.phase }, { on := 8, ground := Ground.textOnly Departure.lateStores }, { on := 9, ground := Ground.phase }], guard := none }
abbrev qVi11 : Oper := { dst := some 12, op := Op.assign (Operand.tmp 35), type := 3, pos := "l5_replay.go:245", after := #[{ on := 8, ground := Ground.data }, { on := 10, ground := Ground.chain }, { on := 0, ground := Ground.phase }, { on := 1, ground := Ground.phase }, { on := 2, ground := Ground.phase }, { on := 3, ground := Ground.phase }, { on := 4, ground := Ground.phase }, { on := 5, ground := Ground.phase }, { on := 6, ground := Ground.phase }, { on := 7, ground := Ground.phase }, { on := 8, ground := Ground.phase }, { on := 9, ground := Ground.phase }, { on := 10, ground := Ground.phase }], guard := none }
abbrev qVi12 : Oper := { dst := some 41, op := Op.move (Operand.tmp 7), type := 41, pos := "l5_replay.go:250", after := #[], guard := none }
abbrev qVi13 : Oper := { dst := some 42, op := Op.move (Operand.tmp 10), type := 3, pos := "l5_replay.go:250", after := #[], guard := none }
abbrev qVi14 : Oper := { dst := some 43, op := Op.slice 41 (Operand.tmp 41) none (some (Operand.tmp 42)) none, type := 41, pos := "l5_replay.go:250", after := #[{ on := 0, ground := Ground.data }, { on := 1, ground := Ground.data }], guard := none }
abbrev qVi15 : Oper := { dst := some 44, op := Op.load 66 (Operand.tmp 11), type := 66, pos := "l5_replay.go:250", after := #[], guard := none }
abbrev qVi16 : Oper := { dst := some 45, op := Op.buildSlice 41 1 #[(0, Operand.tmp 44)], type := 41, pos := "l5_replay.go:250", after := #[{ on := 3, ground := Ground.data }], guard := none }
abbrev qVi17 : Oper := { dst := some 46, op := Op.call { callee := Callee.builtin Builtin.append, args := #[Operand.tmp 43, Operand.tmp 45], argTypes := #[41, 41] }, type := 41, pos := "l5_replay.go:250", after := #[{ on := 2, ground := Ground.data }, { on := 4, ground := Ground.data }], guard := none }
abbrev qVi18 : Oper := { dst := some 7, op := Op.assign (Operand.tmp 46), type := 41, pos := "l5_replay.go:250", after := #[{ on := 5, ground := Ground.data }, { on := 5, ground := Ground.chain }, { on := 0, ground := Ground.phase }, { on := 1, ground := Ground.phase }, { on := 2, ground := Ground.phase }, { on := 3, ground := Ground.phase }, { on := 4, ground := Ground.phase }, { on := 5, ground := Ground.phase }], guard := none }
theorem own_take3 {w : World} {base g cap j : Nat} {L : List Itm} (h : Sv w base g cap L) (hj : j ≤ L.length) : w.ownsRow base 66 3 (.slice (some ⟨g, 0, none⟩) j cap) j (vals (L.take j)) := by
  obtain ⟨hl, hh⟩ := h
  refine ⟨by rw [vals_len, List.length_take]; omega, ?_⟩
  rcases hh with ⟨hh, _⟩ | ⟨gg, cap', cur, e1, e2, e3, e4, e5, e6, e7⟩
  · simp at hh
  · simp only [Value.slice.injEq, Option.some.injEq, Addr.mk.injEq, and_true, true_and] at e1
    obtain ⟨rfl, rfl⟩ := e1
    refine Or.inr ⟨g, cap, cur, rfl, e2, e3, by omega, e5, e6, ?_⟩
    obtain ⟨r, hr⟩ := vals_take L j
    have h1 : (vals L).take (j * 3) = vals (L.take j) := by
      rw [← hr, List.take_append_of_le_length (by rw [vals_len, List.length_take]; omega), List.take_of_length_le (by rw [vals_len, List.length_take]; omega)]
    rw [← h1, ← e7, List.take_take, Nat.min_eq_left (by omega)]
theorem itm1 {L : List Itm} (h : L.length = 1) : ∃ x, L = [x] := List.length_eq_one_iff.1 h
theorem dropI_getD (L : List Itm) (j q : Nat) : (L.drop j).getD q d0 = L.getD (j + q) d0 := by simp
theorem Sv.ilA {w : World} {base g cap : Nat} {L : List Itm} (h : Sv w base g cap L) (hs : sumS L ≤ 1048576) (j : Nat) : IL w (some ⟨g, j * 3, none⟩) (L.length - j) (fun i => (L.drop j).getD i d0) := fun k hk => by
  have := h.il hs j k hk
  simpa [dropI_getD] using this
set_option maxRecDepth 20000 in
set_option maxHeartbeats 16000000 in
theorem iWalkV (n : Nat) (C : Nat → Clm) (mb : Nat) (ar : Option Addr) (cr : Nat) (R : Nat → Itm) (p5 p3 : Nat) (a : Option Addr) (m c : Nat) (I : Nat → Itm) (w : World) (hP : PlAt w mb n C) (hdp : ∀ k, k < n → hasCol C (C k).s k = false) (hR : IL w ar n R) (h5 : w.cell? ⟨p5, 0, none⟩ = some (.slice ar n cr)) (h31 : w.cell? ⟨p3, 1, none⟩ = some (.map (some mb))) (hI : IL w a m I) (hm : m ≤ 100) (hx : ex I m = some 1) (hk0 : (ck C n I m).2 = 0) (hz : ∀ j, j < n → (R j).s.size ≤ 200) (hgR : ∀ j, j < n → goodV (R j) ∧ (R j).o = (C j).t) :
    Calls Tryz.prog 134 #[.slice a m c, .func (.func 135) #[] #[.pointer (some ⟨p5, 0, none⟩), .pointer (some ⟨p3, 0, none⟩)]] w fun e w' => e = .returned (.tuple #[.agg #[.int .i64 (vlR C n R I m).o, .int .i64 (vlR C n R I m).m, .string (vlR C n R I m).s], .int .i64 0]) ∧ Below w.heap.size w w' := by
  have HX : Hid (ex I m = some 1) := hx
  have HK0 : Hid ((ck C n I m).2 = 0) := hk0
  have HSZ : Hid (∀ k, k ≤ m → sumS (vl C n R I k) ≤ 200 * k) := vl_sum hz hx
  have HTY : Hid (∀ k, k ≤ m → typed (vl C n R I k) (ck C n I k).1) := vl_ty hgR hx hk0
  have HDP : Hid (∀ k, k < n → hasCol C (C k).s k = false) := hdp
  clear hx hk0 hz hgR hdp
  obtain ⟨j3, hi3, hz30, hz31, hz32⟩ := info_parts Tryz.infoVal
  have HI3 : Hid (Tryz.prog.info? 66 = some j3) := hi3
  clear hi3
  have hsU : ((w.alloc (.cells #[.int .i64 0, .int .i64 0, .string ⟨#[]⟩] 66)).alloc (.cells #[.int .i64 0, .int .i64 0, .string ⟨#[]⟩] 66)).heap.size = w.heap.size + 2 := by rw [World.size_alloc, World.size_alloc]
  have hmk := make_cap Tryz.underlying41 Tryz.infoVal m (by omega) (by omega) ((w.alloc (.cells #[.int .i64 0, .int .i64 0, .string ⟨#[]⟩] 66)).alloc (.cells #[.int .i64 0, .int .i64 0, .string ⟨#[]⟩] 66))
  have hO0 : Sv (((w.alloc (.cells #[.int .i64 0, .int .i64 0, .string ⟨#[]⟩] 66)).alloc (.cells #[.int .i64 0, .int .i64 0, .string ⟨#[]⟩] 66)).alloc (.cells (madeCells (Value.agg #[.int .i64 0, .int .i64 0, .string ByteArray.empty]).cells (m * 3)) 66)) (w.heap.size + 2) ((w.alloc (.cells #[.int .i64 0, .int .i64 0, .string ⟨#[]⟩] 66)).alloc (.cells #[.int .i64 0, .int .i64 0, .string ⟨#[]⟩] 66)).heap.size m [] := World.ownsRow_made ((w.alloc (.cells #[.int .i64 0, .int .i64 0, .string ⟨#[]⟩] 66)).alloc (.cells #[.int .i64 0, .int .i64 0, .string ⟨#[]⟩] 66)) _ m (by rw [hsU]; exact Nat.le_refl _) (by unfold maxLen; omega) (made_size _ _)
  rw [hsU] at hO0
  have hb0 : Below w.heap.size w (((w.alloc (.cells #[.int .i64 0, .int .i64 0, .string ⟨#[]⟩] 66)).alloc (.cells #[.int .i64 0, .int .i64 0, .string ⟨#[]⟩] 66)).alloc (.cells (madeCells (Value.agg #[.int .i64 0, .int .i64 0, .string ByteArray.empty]).cells (m * 3)) 66)) := bstep (bstep (bal _ _) (bal _ _)) (bal _ _)
  have hq0 : (((w.alloc (.cells #[.int .i64 0, .int .i64 0, .string ⟨#[]⟩] 66)).alloc (.cells #[.int .i64 0, .int .i64 0, .string ⟨#[]⟩] 66)).alloc (.cells (madeCells (Value.agg #[.int .i64 0, .int .i64 0, .string ByteArray.empty]).cells (m * 3)) 66)).heap[w.heap.size]? = some (.cells #[.int .i64 0, .int .i64 0, .string ⟨#[]⟩] 66 (0, 0)) := rowL (rowL (heap_alloc_new w _) (bal _ _)) (bal _ _)
  have hq1 : (((w.alloc (.cells #[.int .i64 0, .int .i64 0, .string ⟨#[]⟩] 66)).alloc (.cells #[.int .i64 0, .int .i64 0, .string ⟨#[]⟩] 66)).alloc (.cells (madeCells (Value.agg #[.int .i64 0, .int .i64 0, .string ByteArray.empty]).cells (m * 3)) 66)).heap[w.heap.size + 1]? = some (.cells #[.int .i64 0, .int .i64 0, .string ⟨#[]⟩] 66 (0, 0)) := by
    have q := heap_alloc_new (w.alloc (.cells #[.int .i64 0, .int .i64 0, .string ⟨#[]⟩] 66)) (.cells #[.int .i64 0, .int .i64 0, .string ⟨#[]⟩] 66)
    rw [World.size_alloc] at q
    exact rowL q (bal _ _)
  have hs0 : w.heap.size + 2 ≤ (((w.alloc (.cells #[.int .i64 0, .int .i64 0, .string ⟨#[]⟩] 66)).alloc (.cells #[.int .i64 0, .int .i64 0, .string ⟨#[]⟩] 66)).alloc (.cells (madeCells (Value.agg #[.int .i64 0, .int .i64 0, .string ByteArray.empty]).cells (m * 3)) 66)).heap.size := by rw [World.size_alloc, hsU]; omega
  rw [hsU] at hmk
  generalize ((w.alloc (.cells #[.int .i64 0, .int .i64 0, .string ⟨#[]⟩] 66)).alloc (.cells #[.int .i64 0, .int .i64 0, .string ⟨#[]⟩] 66)).alloc (.cells (madeCells (Value.agg #[.int .i64 0, .int .i64 0, .string ByteArray.empty]).cells (m * 3)) 66) = w0 at hmk hO0 hb0 hq0 hq1 hs0
  go_enter Tryz.func134, Tryz.ntmps134
  go_wp2
  clear hmk
  go_loopw [7, 9, 10, 11, 12, 18] (fun v7 _ _ _ _ i wr => ∃ (k g cap : Nat) (L : List Itm) (lst : Itm), k ≤ m ∧ i = .int .i64 k ∧ v7 = .slice (some ⟨g, 0, none⟩) L.length cap ∧ vl C n R I k = L ∧ Sv wr (w.heap.size + 2) g cap L ∧ (0 < k → L.getLast? = some lst) ∧ wr.heap[w.heap.size]? = some (.cells #[.int .i64 0, .int .i64 0, .string ⟨#[]⟩] 66 (0, 0)) ∧ wr.heap[w.heap.size + 1]? = some (.cells #[.int .i64 lst.o, .int .i64 lst.m, .string lst.s] 66 (0, 0)) ∧ Below w.heap.size w wr ∧ w.heap.size + 2 ≤ wr.heap.size) (fun _ _ _ _ _ i _ => m - (intOf i).toNat)
  case atStart => exact ⟨0, w.heap.size + 2, m, [], d0, by omega, rfl, rfl, rfl, hO0, fun h => by omega, hq0, hq1, hb0, hs0⟩
  case round =>
    obtain ⟨k, g, cap, L, lst, hk, rfl, rfl, hvl, hO, hlst, hr0, hr1, hb, hsz⟩ := hrel
    have HVL : Hid (vl C n R I k = L ∧ (0 < k → L.getLast? = some lst)) := ⟨hvl, hlst⟩
    clear hvl hlst
    obtain ⟨lo, lm, ls⟩ := lst
    by_cases hlt : k < m
    rotate_left
    · obtain rfl : k = m := by omega
      have e : Hid (vlR C n R I k = ⟨lo, lm, ls⟩) := by
        show _ = _
        have hl1 := vl_len (C := C) (n := n) (R := R) HX.out
        rw [HVL.out.1] at hl1
        have hk1 : 0 < k := by
          have := ex_le HX.out
          omega
        have h3 := HVL.out.2 hk1
        obtain ⟨x, rfl⟩ := itm1 (L := L) (by omega)
        simp at h3
        unfold vlR
        rw [HVL.out.1, h3]
        rfl
      obtain ⟨a0, a1, a2, af0, af1, af2⟩ := box3 hr0
      obtain ⟨b0, b1, b2, -⟩ := box3 hr1
      go_wp2
      refine bodyPost_ret (results_cell_tmp Tryz.results134 _ _ w.heap.size 66 _ (0, 0) _ rfl (row3 hr0 _ _ _) Tryz.underlying66 rfl (by kernel_rfl)) rfl ?_
      exact ⟨by rw [e.out]; rfl, bset3 hb (Nat.le_refl _) _ _ _⟩
    obtain ⟨d, hd, hok, had⟩ := ex_at HX.out hlt
    have hlen : ((L.length : Nat) : Int) = d := by
      have := vl_len (C := C) (n := n) (R := R) hd
      rwa [HVL.out.1] at this
    have hll := ex_le hd
    have hsum : sumS L ≤ 200 * k := by
      have := HSZ.out k (by omega)
      rwa [HVL.out.1] at this
    have hst : vl C n R I (k + 1) = L.take (L.length - arN (I k).o) ++ [itV C n R (I k) (L.drop (L.length - arN (I k).o))] := by
      rw [vl, HVL.out.1]
    have hcol : (I k).o = 3 → ∃ j, colI C (I k).s n = some j := fun ho => ck_col hlt HK0.out ho
    have htyk := HTY.out k (by omega)
    rw [HVL.out.1] at htyk
    have hstp := (ck_step (ck_ok HK0.out (show k + 1 ≤ m by omega)) (ck_ok HK0.out (show k ≤ m by omega))).1
    obtain ⟨b, off, rfl, c0, c1, c2, hs⟩ := hI.later hb k hlt
    obtain ⟨o, mm, s, hIk⟩ : ∃ o mm s, I k = ⟨o, mm, s⟩ := ⟨_, _, _, rfl⟩
    unfold stp at hstp
    rw [hIk] at hok had hst c0 c1 c2 hs hcol hstp
    simp only at hok had hst c0 c1 c2 hs hcol hstp
    have hop := okItem_op hok
    have HOPN : Hid (opn o mm s = arity o) := opn_ok hok
    have ha := arN_eq o
    have hal := arity_le o
    obtain ⟨j, hj⟩ : ∃ j : Nat, L.length - arN o = j := ⟨_, rfl⟩
    rw [← htyk.1, hj] at hstp
    rw [hj] at hst
    have hgood : (o = 7 ∨ o = 8) → goodV ((L.drop j).getD 0 d0) ∧ goodV ((L.drop j).getD 1 d0) ∧ ((L.drop j).getD 0 d0).o = ((L.drop j).getD 1 d0).o := fun h78 => by
      have h2 : arity o = 2 := by rcases h78 with rfl | rfl <;> rfl
      rw [dropI_getD, dropI_getD]
      have t0 := htyk.2 (j + 0) (by omega)
      have t1 := htyk.2 (j + 1) (by omega)
      refine ⟨t0.2, t1.2, ?_⟩
      rw [t0.1, t1.1]
      unfold tyI at hstp
      simp only at hstp
      rw [if_neg (by omega), if_neg (by omega), if_pos h78] at hstp
      by_cases e : ((ck C n I k).1.drop j).getD 0 0 = ((ck C n I k).1.drop j).getD 1 0
      · rwa [drop_getD, drop_getD] at e
      · rw [if_neg e] at hstp; simp at hstp
    have hj1 : ((L.length : Nat) : Int) - arity o = (j : Nat) := by omega
    have hjl : j ≤ L.length := by omega
    have hcp := own_capV hO
    have hjj : (j : Int) ≤ L.length := by omega
    have hjc : (j : Int) ≤ cap := by omega
    have hjc2 : j ≤ cap := by omega
    have hj0 : (0 : Int) ≤ j := by omega
    have hj100 : j ≤ 100 := by omega
    obtain ⟨x, hx⟩ : ∃ x, itV C n R ⟨o, mm, s⟩ (L.drop j) = x := ⟨_, rfl⟩
    have hszd : ∀ i, i < (L.drop j).length → ((L.drop j).getD i d0).s.size ≤ 1000000 := fun i hi => by
      rw [List.length_drop] at hi
      rw [dropI_getD]
      have := sumS_mem (L := L) (k := j + i) (by omega)
      omega
    have HV0 : ∀ (ad : Option Addr) (cx : Nat) W', Below w.heap.size w W' → IL W' ad (L.length - j) (fun i => (L.drop j).getD i d0) → Calls Tryz.prog 135 #[.agg #[.int .i64 o, .int .i64 mm, .string s], .slice ad (L.length - j) cx, .pointer (some ⟨p5, 0, none⟩), .pointer (some ⟨p3, 0, none⟩)] W' (fun e w' => e = .returned (.tuple #[.agg #[.int .i64 x.o, .int .i64 x.m, .string x.s], .int .i64 0]) ∧ Below W'.heap.size W' w') := fun ad cx W' hW hIA => by
      have hln : (L.drop j).length = L.length - j := List.length_drop
      have := iVal1 n C mb ar cr R p5 p3 o mm s ad cx (L.drop j) W' (hP.later hW) HDP.out (hR.later hW) (keepB hW h5) (keepB hW h31) (by rw [hln]; exact hIA) (by rw [hln]; omega) (by rw [hln]; omega) hop hcol hgood hszd hs
      rwa [hx, hln] at this
    have HV : Hid (∀ (ad : Option Addr) (cx : Nat) W', Below w.heap.size w W' → IL W' ad (L.length - j) (fun i => (L.drop j).getD i d0) → Calls Tryz.prog 135 #[.agg #[.int .i64 o, .int .i64 mm, .string s], .slice ad (L.length - j) cx, .pointer (some ⟨p5, 0, none⟩), .pointer (some ⟨p3, 0, none⟩)] W' (fun e w' => e = .returned (.tuple #[.agg #[.int .i64 x.o, .int .i64 x.m, .string x.s], .int .i64 0]) ∧ Below W'.heap.size W' w')) := HV0
    have HST : Hid (vl C n R I (k + 1) = L.take j ++ [x]) := by show _ = _; rw [hst, hx]
    have HLE : Hid (((L.length : Nat) : Int) = d ∧ L.length - arN o = j ∧ L.length ≤ 100) := ⟨hlen, hj, by omega⟩
    have hsumL : sumS L ≤ 1048576 := by omega
    have HIL1 : Hid (∀ W', Below wr.heap.size wr W' → IL W' (some ⟨g, j * 3, none⟩) (L.length - j) (fun i => (L.drop j).getD i d0)) := fun W' hW => Sv.ilA (own_below hO hW) hsumL j
    have HIL0 : Hid (cap = j → ∀ W', IL W' (some ⟨g, 0, none⟩) (L.length - j) (fun i => (L.drop j).getD i d0)) := fun hc W' q hq => by omega
    clear hst hIk hj ha had hd hok hlen hx HV0 hgood hstp htyk hcol hszd
    have hB1 : Below wr.heap.size wr (wr.alloc (.cells #[.int .i64 o, .int .i64 mm, .string s] 108)) := bal _ _
    obtain ⟨y0, y1, y2, -⟩ := box3 (heap_alloc_new wr (.cells #[.int .i64 o, .int .i64 mm, .string s] 108))
    by_cases hcj : cap = j
    · have hOj : Sv wr (w.heap.size + 2) g j L := by rw [← hcj]; exact hO
      go_upto_region 7 with (go_at_call 158; refine (iOperands o mm s _).mono ?_; rintro e w3 ⟨rfl, hb3⟩; rw [HOPN.out]; have y0_ := keepB hb3 y0; have y1_ := keepB hb3 y1; have y2_ := keepB hb3 y2)
      have hb03 := bstep hB1 hb3
      have hs03 := hb03.size
      refine wp_region_held_drew (S := fun x_ => Below w3.heap.size w3 x_) (by kernel_rfl) (bdrV _) (fun hHeld => ?_)
      generalize w3.drew = v at hHeld ⊢
      refine' takeF (i := 0) (oi := qVi0) rfl ⟨by rfl, fun x hSw => ?h1⟩ hHeld ?r1
      case h1 =>
        go_simp
        try with_reducible rfl
      try simp only [Act.put, List.setIfInBounds_toArray, List.set_cons_zero, List.set_cons_succ]
      refine' takeF (i := 1) (oi := qVi1) rfl ⟨by rfl, fun x hSw => ?h2⟩ hHeld ?r2
      case h2 =>
        have k0 := keepB hSw y0_; have k1 := keepB hSw y1_; have k2 := keepB hSw y2_
        go_simp
        try with_reducible rfl
      try simp only [Act.put, List.setIfInBounds_toArray, List.set_cons_zero, List.set_cons_succ]
      refine' takeF (i := 2) (oi := qVi2) rfl ⟨by rfl, fun x hSw => ?h3⟩ hHeld ?r3
      case h3 =>
        go_simp
        try with_reducible rfl
      try simp only [Act.put, List.setIfInBounds_toArray, List.set_cons_zero, List.set_cons_succ]
      refine' takeF (i := 3) (oi := qVi3) rfl ⟨by rfl, fun x hSw => ?h4⟩ hHeld ?r4
      case h4 =>
        go_simp
        try with_reducible rfl
      try simp only [Act.put, List.setIfInBounds_toArray, List.set_cons_zero, List.set_cons_succ]
      refine' takeF (i := 4) (oi := qVi4) rfl ⟨by rfl, fun x hSw => ?h5⟩ hHeld ?r5
      case h5 =>
        go_simp
        try with_reducible rfl
      try simp only [Act.put, List.setIfInBounds_toArray, List.set_cons_zero, List.set_cons_succ]
      refine wpAnyH_ready (rs := [5, 9]) (by kernel_rfl) (by simp) ?_
      refine (AllReadyH.cons (o := qVi5) rfl (fun K hK => ?w1_c2) (AllReadyH.cons (o := qVi6) rfl (fun K hK => ?w1_c1) AllReadyH.nil))
      case' w1_c2 =>
       go_simp
       refine (HV.out (some ⟨g, 0, none⟩) 0 _ (bstep hb (bstep hb03 hHeld)) (HIL0.out hcj _)).mono ?_
       rintro e v ⟨rfl, hb5⟩
       refine hK.out _ _ (bstep hHeld hb5) (fun hHeld => ?_)
       clear hK K
       try simp only [Act.put, List.setIfInBounds_toArray, List.set_cons_zero, List.set_cons_succ]
       clear hb5
       refine' takeF (i := 6) (oi := qVi7) rfl ⟨by rfl, fun x hSw => ?h6⟩ hHeld ?r6
       case h6 =>
         go_simp
         try with_reducible rfl
       try simp only [Act.put, List.setIfInBounds_toArray, List.set_cons_zero, List.set_cons_succ]
       refine' takeF (i := 7) (oi := qVi8) rfl ⟨by rfl, fun x hSw => ?h7⟩ hHeld ?r7
       case h7 =>
         go_simp
         try with_reducible rfl
       try simp only [Act.put, List.setIfInBounds_toArray, List.set_cons_zero, List.set_cons_succ]
       refine' takeF (i := 8) (oi := qVi9) rfl ⟨by rfl, fun x hSw => ?h8⟩ hHeld ?r8
       case h8 =>
         go_simp
         try with_reducible rfl
       try simp only [Act.put, List.setIfInBounds_toArray, List.set_cons_zero, List.set_cons_succ]
       refine wpAnyH_ready (rs := [9]) (by kernel_rfl) (by simp) ?_
       refine AllReadyH.cons (o := qVi6) rfl (fun K hK => ?_) AllReadyH.nil
       have hqT := heap_alloc_new v (.cells #[.int .i64 0, .int .i64 0, .string ⟨#[]⟩] 66)
       have hbT := bal v (.cells #[.int .i64 0, .int .i64 0, .string ⟨#[]⟩] 66)
       have hsT := hHeld.size
       go_simp
       refine hK.out _ _ (bstep hHeld (bal _ _)) (fun hHeld => ?_)
       clear hK K
       try simp only [Act.put, List.setIfInBounds_toArray, List.set_cons_zero, List.set_cons_succ]
       generalize v.heap.size = BT at hqT hsT ⊢
       generalize v.alloc (.cells #[.int .i64 0, .int .i64 0, .string ⟨#[]⟩] 66) = v at hqT hbT  hHeld ⊢
       clear hbT
       refine wpAnyH_ready (rs := [10]) (by kernel_rfl) (by simp) ?_
       refine AllReadyH.cons (o := qVi10) rfl (fun K hK => ?_) AllReadyH.nil
       obtain ⟨s0_, s1_, s2_, sf0_, sf1_, sf2_⟩ := box3 hqT
       go_simp
       refine hK.out _ _ (bset3 hHeld hsT _ _ _) (fun hHeld => ?_)
       clear hK K s0_ s1_ s2_ sf0_ sf1_ sf2_
       try simp only [Act.put, List.setIfInBounds_toArray, List.set_cons_zero, List.set_cons_succ]
       replace hqT := row3t hqT (.int .i64 x.o) (.int .i64 x.m) (.string x.s)
       refine' takeF (i := 11) (oi := qVi11) rfl ⟨by rfl, fun x hSw => ?h9⟩ hHeld ?r9
       case h9 =>
         go_simp
         try with_reducible rfl
       try simp only [Act.put, List.setIfInBounds_toArray, List.set_cons_zero, List.set_cons_succ]
       refine wpAnyH_done (by kernel_rfl) ?_ _
       generalize (((v.setCell ⟨BT, 0, none⟩ (.int .i64 x.o)).setCell ⟨BT, 1, none⟩ (.int .i64 x.m)).setCell ⟨BT, 2, none⟩ (.string x.s)) = w6 at hqT hHeld ⊢
       have hb6 := bstep hb03 hHeld
       have h6s := hb6.size
       clear hHeld
       have q1 := rowL hr1 hb6
       obtain ⟨l0_, l1_, l2_, lf0, lf1, lf2⟩ := box3 q1
       obtain ⟨u0_, u1_, u2_, -⟩ := box3 hqT
       go_upto_region 11 with (fail)
       have p1 : (((w6.setCell ⟨w.heap.size + 1, 0, none⟩ (.int .i64 x.o)).setCell ⟨w.heap.size + 1, 1, none⟩ (.int .i64 x.m)).setCell ⟨w.heap.size + 1, 2, none⟩ (.string x.s)).heap[w.heap.size + 1]? = some (.cells #[.int .i64 x.o, .int .i64 x.m, .string x.s] 66 (0, 0)) := row3t q1 _ _ _
       have p0 : (((w6.setCell ⟨w.heap.size + 1, 0, none⟩ (.int .i64 x.o)).setCell ⟨w.heap.size + 1, 1, none⟩ (.int .i64 x.m)).setCell ⟨w.heap.size + 1, 2, none⟩ (.string x.s)).heap[w.heap.size]? = some (.cells #[.int .i64 0, .int .i64 0, .string ⟨#[]⟩] 66 (0, 0)) := rowO (rowO (rowO (rowL hr0 hb6) (by omega)) (by omega)) (by omega)
       have pT : (((w6.setCell ⟨w.heap.size + 1, 0, none⟩ (.int .i64 x.o)).setCell ⟨w.heap.size + 1, 1, none⟩ (.int .i64 x.m)).setCell ⟨w.heap.size + 1, 2, none⟩ (.string x.s)).heap[BT]? = some (.cells #[.int .i64 x.o, .int .i64 x.m, .string x.s] 66 (0, 0)) := rowO (rowO (rowO hqT (by omega)) (by omega)) (by omega)
       have hO7 : Sv (((w6.setCell ⟨w.heap.size + 1, 0, none⟩ (.int .i64 x.o)).setCell ⟨w.heap.size + 1, 1, none⟩ (.int .i64 x.m)).setCell ⟨w.heap.size + 1, 2, none⟩ (.string x.s)) (w.heap.size + 2) g j L := own_set (own_set (own_set (own_below hOj hb6) (by omega)) (by omega)) (by omega)
       have hb7 : Below w.heap.size w (((w6.setCell ⟨w.heap.size + 1, 0, none⟩ (.int .i64 x.o)).setCell ⟨w.heap.size + 1, 1, none⟩ (.int .i64 x.m)).setCell ⟨w.heap.size + 1, 2, none⟩ (.string x.s)) := bset3 (bstep hb hb6) (by omega) _ _ _
       have hs7 : wr.heap.size ≤ (((w6.setCell ⟨w.heap.size + 1, 0, none⟩ (.int .i64 x.o)).setCell ⟨w.heap.size + 1, 1, none⟩ (.int .i64 x.m)).setCell ⟨w.heap.size + 1, 2, none⟩ (.string x.s)).heap.size := by rw [World.size_setCell, World.size_setCell, World.size_setCell]; exact h6s
       generalize (((w6.setCell ⟨w.heap.size + 1, 0, none⟩ (.int .i64 x.o)).setCell ⟨w.heap.size + 1, 1, none⟩ (.int .i64 x.m)).setCell ⟨w.heap.size + 1, 2, none⟩ (.string x.s)) = w7 at p1 p0 pT hO7 hb7 hs7 ⊢
       clear l0_ l1_ l2_ lf0 lf1 lf2 u0_ u1_ u2_ q1 hqT
       have hTg : BT ≠ g := by have := (hO.lt g rfl).2; omega
       refine wp_region_held_drew (S := fun x_ => x_.heap[BT]? = some (.cells #[.int .i64 x.o, .int .i64 x.m, .string x.s] 66 (0, 0))) (by kernel_rfl) (pT) (fun hHeld => ?_)
       replace p0 : w7.drew.heap[w.heap.size]? = _ := p0
       replace p1 : w7.drew.heap[w.heap.size + 1]? = _ := p1
       replace hO7 : Sv w7.drew (w.heap.size + 2) g j L := hO7
       replace hb7 : Below w.heap.size w w7.drew := bstep hb7 (bdrV _)
       replace hs7 : wr.heap.size ≤ w7.drew.heap.size := hs7
       generalize w7.drew = v at hHeld p0 p1 hO7 hb7 hs7 ⊢
       refine' takeF (i := 0) (oi := qVi12) rfl ⟨by rfl, fun x hSw => ?h10⟩ hHeld ?r10
       case h10 =>
         go_simp
         try with_reducible rfl
       try simp only [Act.put, List.setIfInBounds_toArray, List.set_cons_zero, List.set_cons_succ]
       refine' takeF (i := 1) (oi := qVi13) rfl ⟨by rfl, fun x hSw => ?h11⟩ hHeld ?r11
       case h11 =>
         go_simp
         try with_reducible rfl
       try simp only [Act.put, List.setIfInBounds_toArray, List.set_cons_zero, List.set_cons_succ]
       refine' takeF (i := 2) (oi := qVi14) rfl ⟨by rfl, fun x hSw => ?h12⟩ hHeld ?r12
       case h12 =>
         go_simp
         try with_reducible rfl
       try simp only [Act.put, List.setIfInBounds_toArray, List.set_cons_zero, List.set_cons_succ]
       refine' takeF (i := 3) (oi := qVi15) rfl ⟨by rfl, fun x hSw => ?h13⟩ hHeld ?r13
       case h13 =>
         obtain ⟨k0_, k1_, k2_, -⟩ := box3 hSw
         go_simp
         try with_reducible rfl
       try simp only [Act.put, List.setIfInBounds_toArray, List.set_cons_zero, List.set_cons_succ]
       refine wpAnyH_ready (rs := [4]) (by kernel_rfl) (by simp) ?_
       refine AllReadyH.cons (o := qVi16) rfl (fun K hK => ?_) AllReadyH.nil
       have hqN := heap_alloc_new v (.cells #[.int .i64 x.o, .int .i64 x.m, .string x.s] 66)
       have hbN := bal v (.cells #[.int .i64 x.o, .int .i64 x.m, .string x.s] 66)
       go_simp
       refine hK.out _ _ (rowL hHeld hbN) (fun hHeld => ?_)
       clear hK K
       try simp only [Act.put, List.setIfInBounds_toArray, List.set_cons_zero, List.set_cons_succ]
       replace p0 := rowL p0 hbN
       replace p1 := rowL p1 hbN
       replace hO7 : Sv _ (w.heap.size + 2) g j L := own_below hO7 hbN
       replace hb7 := bstep hb7 hbN
       replace hs7 := Nat.le_trans hs7 hbN.size
       generalize v.heap.size = BN at hqN ⊢
       generalize v.alloc (.cells #[.int .i64 x.o, .int .i64 x.m, .string x.s] 66) = v at hqN hHeld p0 p1 hO7 hb7 hs7 hbN ⊢
       clear hbN
       refine wpAnyH_ready (rs := [5]) (by kernel_rfl) (by simp) ?_
       refine AllReadyH.cons (o := qVi17) rfl (fun K hK => ?_) AllReadyH.nil
       rw [if_pos (by kernel_rfl)]
       refine wp_append_lies _ _ _ _ rfl (w.heap.size + 2) 66 j3 (.agg #[.int .i64 0, .int .i64 0, .string ByteArray.empty]) 3 32 Tryz.underlying41 HI3.out hz30 hz31 hz32 rfl (by omega) (.slice (some ⟨g, 0, none⟩) j j) j (vals (L.take j)) rfl (own_take3 hO7 hjl) ⟨BN, 0, none⟩ 1 1 (v3 x) rfl rfl (World.news_of_block hqN) (vals_one [x]) (by omega) (by unfold maxLen; omega) (by omega) (by omega) _ rfl ?_
       intro g8 cap8 v hO8 hgr8 hat8 hlt8
       have hgl := (hO7.lt g rfl).1
       have hgb : ∀ b, b < w.heap.size + 2 → some b ≠ (Value.slice (some ⟨g, 0, none⟩) j j).ownBlock := fun b hb e => by have e3 : b = g := Option.some.inj e; omega
       have hTne : some BT ≠ (Value.slice (some ⟨g, 0, none⟩) j j).ownBlock := fun e => hTg (Option.some.inj e)
       refine hK.out _ _ (rowR hHeld hgr8 hTne) (fun hHeld => ?_)
       clear hK K hat8
       try simp only [Act.put, List.setIfInBounds_toArray, List.set_cons_zero, List.set_cons_succ]
       replace p0 := rowR p0 hgr8 (hgb _ (by omega))
       replace p1 := rowR p1 hgr8 (hgb _ (by omega))
       replace hb7 := gBr hb7 hgr8 (fun y hy => hgb _ (by omega))
       replace hs7 := Nat.le_trans hs7 hgr8.size
       clear hgr8
       refine' takeF (i := 6) (oi := qVi18) rfl ⟨by rfl, fun x hSw => ?h14⟩ hHeld ?r14
       case h14 =>
         go_simp
         try with_reducible rfl
       try simp only [Act.put, List.setIfInBounds_toArray, List.set_cons_zero, List.set_cons_succ]
       refine wpAnyH_done (by kernel_rfl) ?_ _
       obtain ⟨e1_, e2_⟩ := sv_end (r := x) hjl hO8
       go_wp2
       go_roundw
       case rel => exact ⟨k + 1, g8, cap8, L.take j ++ [x], x, by omega, by go_num, by rw [e1_], HST.out, e2_, fun _ => by simp, p0, p1, hb7, by omega⟩
       case measure => simp [intOf]; omega
      case' w1_c1 =>
       have hqT := heap_alloc_new v (.cells #[.int .i64 0, .int .i64 0, .string ⟨#[]⟩] 66)
       have hbT := bal v (.cells #[.int .i64 0, .int .i64 0, .string ⟨#[]⟩] 66)
       have hsT := hHeld.size
       go_simp
       refine hK.out _ _ (bstep hHeld (bal _ _)) (fun hHeld => ?_)
       clear hK K
       try simp only [Act.put, List.setIfInBounds_toArray, List.set_cons_zero, List.set_cons_succ]
       generalize v.heap.size = BT at hqT hsT ⊢
       generalize v.alloc (.cells #[.int .i64 0, .int .i64 0, .string ⟨#[]⟩] 66) = v at hqT hbT  hHeld ⊢
       clear hbT
       refine wpAnyH_ready (rs := [5]) (by kernel_rfl) (by simp) ?_
       refine AllReadyH.cons (o := qVi5) rfl (fun K hK => ?_) AllReadyH.nil
       go_simp
       refine (HV.out (some ⟨g, 0, none⟩) 0 _ (bstep hb (bstep hb03 hHeld)) (HIL0.out hcj _)).mono ?_
       rintro e v ⟨rfl, hb5⟩
       refine hK.out _ _ (bstep hHeld hb5) (fun hHeld => ?_)
       clear hK K
       try simp only [Act.put, List.setIfInBounds_toArray, List.set_cons_zero, List.set_cons_succ]
       replace hqT := rowL hqT hb5
       clear hb5
       refine' takeF (i := 6) (oi := qVi7) rfl ⟨by rfl, fun x hSw => ?h15⟩ hHeld ?r15
       case h15 =>
         go_simp
         try with_reducible rfl
       try simp only [Act.put, List.setIfInBounds_toArray, List.set_cons_zero, List.set_cons_succ]
       refine' takeF (i := 7) (oi := qVi8) rfl ⟨by rfl, fun x hSw => ?h16⟩ hHeld ?r16
       case h16 =>
         go_simp
         try with_reducible rfl
       try simp only [Act.put, List.setIfInBounds_toArray, List.set_cons_zero, List.set_cons_succ]
       refine' takeF (i := 8) (oi := qVi9) rfl ⟨by rfl, fun x hSw => ?h17⟩ hHeld ?r17
       case h17 =>
         go_simp
         try with_reducible rfl
       try simp only [Act.put, List.setIfInBounds_toArray, List.set_cons_zero, List.set_cons_succ]
       refine wpAnyH_ready (rs := [10]) (by kernel_rfl) (by simp) ?_
       refine AllReadyH.cons (o := qVi10) rfl (fun K hK => ?_) AllReadyH.nil
       obtain ⟨s0_, s1_, s2_, sf0_, sf1_, sf2_⟩ := box3 hqT
       go_simp
       refine hK.out _ _ (bset3 hHeld hsT _ _ _) (fun hHeld => ?_)
       clear hK K s0_ s1_ s2_ sf0_ sf1_ sf2_
       try simp only [Act.put, List.setIfInBounds_toArray, List.set_cons_zero, List.set_cons_succ]
       replace hqT := row3t hqT (.int .i64 x.o) (.int .i64 x.m) (.string x.s)
       refine' takeF (i := 11) (oi := qVi11) rfl ⟨by rfl, fun x hSw => ?h18⟩ hHeld ?r18
       case h18 =>
         go_simp
         try with_reducible rfl
       try simp only [Act.put, List.setIfInBounds_toArray, List.set_cons_zero, List.set_cons_succ]
       refine wpAnyH_done (by kernel_rfl) ?_ _
       generalize (((v.setCell ⟨BT, 0, none⟩ (.int .i64 x.o)).setCell ⟨BT, 1, none⟩ (.int .i64 x.m)).setCell ⟨BT, 2, none⟩ (.string x.s)) = w6 at hqT hHeld ⊢
       have hb6 := bstep hb03 hHeld
       have h6s := hb6.size
       clear hHeld
       have q1 := rowL hr1 hb6
       obtain ⟨l0_, l1_, l2_, lf0, lf1, lf2⟩ := box3 q1
       obtain ⟨u0_, u1_, u2_, -⟩ := box3 hqT
       go_upto_region 11 with (fail)
       have p1 : (((w6.setCell ⟨w.heap.size + 1, 0, none⟩ (.int .i64 x.o)).setCell ⟨w.heap.size + 1, 1, none⟩ (.int .i64 x.m)).setCell ⟨w.heap.size + 1, 2, none⟩ (.string x.s)).heap[w.heap.size + 1]? = some (.cells #[.int .i64 x.o, .int .i64 x.m, .string x.s] 66 (0, 0)) := row3t q1 _ _ _
       have p0 : (((w6.setCell ⟨w.heap.size + 1, 0, none⟩ (.int .i64 x.o)).setCell ⟨w.heap.size + 1, 1, none⟩ (.int .i64 x.m)).setCell ⟨w.heap.size + 1, 2, none⟩ (.string x.s)).heap[w.heap.size]? = some (.cells #[.int .i64 0, .int .i64 0, .string ⟨#[]⟩] 66 (0, 0)) := rowO (rowO (rowO (rowL hr0 hb6) (by omega)) (by omega)) (by omega)
       have pT : (((w6.setCell ⟨w.heap.size + 1, 0, none⟩ (.int .i64 x.o)).setCell ⟨w.heap.size + 1, 1, none⟩ (.int .i64 x.m)).setCell ⟨w.heap.size + 1, 2, none⟩ (.string x.s)).heap[BT]? = some (.cells #[.int .i64 x.o, .int .i64 x.m, .string x.s] 66 (0, 0)) := rowO (rowO (rowO hqT (by omega)) (by omega)) (by omega)
       have hO7 : Sv (((w6.setCell ⟨w.heap.size + 1, 0, none⟩ (.int .i64 x.o)).setCell ⟨w.heap.size + 1, 1, none⟩ (.int .i64 x.m)).setCell ⟨w.heap.size + 1, 2, none⟩ (.string x.s)) (w.heap.size + 2) g j L := own_set (own_set (own_set (own_below hOj hb6) (by omega)) (by omega)) (by omega)
       have hb7 : Below w.heap.size w (((w6.setCell ⟨w.heap.size + 1, 0, none⟩ (.int .i64 x.o)).setCell ⟨w.heap.size + 1, 1, none⟩ (.int .i64 x.m)).setCell ⟨w.heap.size + 1, 2, none⟩ (.string x.s)) := bset3 (bstep hb hb6) (by omega) _ _ _
       have hs7 : wr.heap.size ≤ (((w6.setCell ⟨w.heap.size + 1, 0, none⟩ (.int .i64 x.o)).setCell ⟨w.heap.size + 1, 1, none⟩ (.int .i64 x.m)).setCell ⟨w.heap.size + 1, 2, none⟩ (.string x.s)).heap.size := by rw [World.size_setCell, World.size_setCell, World.size_setCell]; exact h6s
       generalize (((w6.setCell ⟨w.heap.size + 1, 0, none⟩ (.int .i64 x.o)).setCell ⟨w.heap.size + 1, 1, none⟩ (.int .i64 x.m)).setCell ⟨w.heap.size + 1, 2, none⟩ (.string x.s)) = w7 at p1 p0 pT hO7 hb7 hs7 ⊢
       clear l0_ l1_ l2_ lf0 lf1 lf2 u0_ u1_ u2_ q1 hqT
       have hTg : BT ≠ g := by have := (hO.lt g rfl).2; omega
       refine wp_region_held_drew (S := fun x_ => x_.heap[BT]? = some (.cells #[.int .i64 x.o, .int .i64 x.m, .string x.s] 66 (0, 0))) (by kernel_rfl) (pT) (fun hHeld => ?_)
       replace p0 : w7.drew.heap[w.heap.size]? = _ := p0
       replace p1 : w7.drew.heap[w.heap.size + 1]? = _ := p1
       replace hO7 : Sv w7.drew (w.heap.size + 2) g j L := hO7
       replace hb7 : Below w.heap.size w w7.drew := bstep hb7 (bdrV _)
       replace hs7 : wr.heap.size ≤ w7.drew.heap.size := hs7
       generalize w7.drew = v at hHeld p0 p1 hO7 hb7 hs7 ⊢
       refine' takeF (i := 0) (oi := qVi12) rfl ⟨by rfl, fun x hSw => ?h19⟩ hHeld ?r19
       case h19 =>
         go_simp
         try with_reducible rfl
       try simp only [Act.put, List.setIfInBounds_toArray, List.set_cons_zero, List.set_cons_succ]
       refine' takeF (i := 1) (oi := qVi13) rfl ⟨by rfl, fun x hSw => ?h20⟩ hHeld ?r20
       case h20 =>
         go_simp
         try with_reducible rfl
       try simp only [Act.put, List.setIfInBounds_toArray, List.set_cons_zero, List.set_cons_succ]
       refine' takeF (i := 2) (oi := qVi14) rfl ⟨by rfl, fun x hSw => ?h21⟩ hHeld ?r21
       case h21 =>
         go_simp
         try with_reducible rfl
       try simp only [Act.put, List.setIfInBounds_toArray, List.set_cons_zero, List.set_cons_succ]
       refine' takeF (i := 3) (oi := qVi15) rfl ⟨by rfl, fun x hSw => ?h22⟩ hHeld ?r22
       case h22 =>
         obtain ⟨k0_, k1_, k2_, -⟩ := box3 hSw
         go_simp
         try with_reducible rfl
       try simp only [Act.put, List.setIfInBounds_toArray, List.set_cons_zero, List.set_cons_succ]
       refine wpAnyH_ready (rs := [4]) (by kernel_rfl) (by simp) ?_
       refine AllReadyH.cons (o := qVi16) rfl (fun K hK => ?_) AllReadyH.nil
       have hqN := heap_alloc_new v (.cells #[.int .i64 x.o, .int .i64 x.m, .string x.s] 66)
       have hbN := bal v (.cells #[.int .i64 x.o, .int .i64 x.m, .string x.s] 66)
       go_simp
       refine hK.out _ _ (rowL hHeld hbN) (fun hHeld => ?_)
       clear hK K
       try simp only [Act.put, List.setIfInBounds_toArray, List.set_cons_zero, List.set_cons_succ]
       replace p0 := rowL p0 hbN
       replace p1 := rowL p1 hbN
       replace hO7 : Sv _ (w.heap.size + 2) g j L := own_below hO7 hbN
       replace hb7 := bstep hb7 hbN
       replace hs7 := Nat.le_trans hs7 hbN.size
       generalize v.heap.size = BN at hqN ⊢
       generalize v.alloc (.cells #[.int .i64 x.o, .int .i64 x.m, .string x.s] 66) = v at hqN hHeld p0 p1 hO7 hb7 hs7 hbN ⊢
       clear hbN
       refine wpAnyH_ready (rs := [5]) (by kernel_rfl) (by simp) ?_
       refine AllReadyH.cons (o := qVi17) rfl (fun K hK => ?_) AllReadyH.nil
       rw [if_pos (by kernel_rfl)]
       refine wp_append_lies _ _ _ _ rfl (w.heap.size + 2) 66 j3 (.agg #[.int .i64 0, .int .i64 0, .string ByteArray.empty]) 3 32 Tryz.underlying41 HI3.out hz30 hz31 hz32 rfl (by omega) (.slice (some ⟨g, 0, none⟩) j j) j (vals (L.take j)) rfl (own_take3 hO7 hjl) ⟨BN, 0, none⟩ 1 1 (v3 x) rfl rfl (World.news_of_block hqN) (vals_one [x]) (by omega) (by unfold maxLen; omega) (by omega) (by omega) _ rfl ?_
       intro g8 cap8 v hO8 hgr8 hat8 hlt8
       have hgl := (hO7.lt g rfl).1
       have hgb : ∀ b, b < w.heap.size + 2 → some b ≠ (Value.slice (some ⟨g, 0, none⟩) j j).ownBlock := fun b hb e => by have e3 : b = g := Option.some.inj e; omega
       have hTne : some BT ≠ (Value.slice (some ⟨g, 0, none⟩) j j).ownBlock := fun e => hTg (Option.some.inj e)
       refine hK.out _ _ (rowR hHeld hgr8 hTne) (fun hHeld => ?_)
       clear hK K hat8
       try simp only [Act.put, List.setIfInBounds_toArray, List.set_cons_zero, List.set_cons_succ]
       replace p0 := rowR p0 hgr8 (hgb _ (by omega))
       replace p1 := rowR p1 hgr8 (hgb _ (by omega))
       replace hb7 := gBr hb7 hgr8 (fun y hy => hgb _ (by omega))
       replace hs7 := Nat.le_trans hs7 hgr8.size
       clear hgr8
       refine' takeF (i := 6) (oi := qVi18) rfl ⟨by rfl, fun x hSw => ?h23⟩ hHeld ?r23
       case h23 =>
         go_simp
         try with_reducible rfl
       try simp only [Act.put, List.setIfInBounds_toArray, List.set_cons_zero, List.set_cons_succ]
       refine wpAnyH_done (by kernel_rfl) ?_ _
       obtain ⟨e1_, e2_⟩ := sv_end (r := x) hjl hO8
       go_wp2
       go_roundw
       case rel => exact ⟨k + 1, g8, cap8, L.take j ++ [x], x, by omega, by go_num, by rw [e1_], HST.out, e2_, fun _ => by simp, p0, p1, hb7, by omega⟩
       case measure => simp [intOf]; omega
    · have hOj : Sv wr (w.heap.size + 2) g cap L := hO
      go_upto_region 7 with (go_at_call 158; refine (iOperands o mm s _).mono ?_; rintro e w3 ⟨rfl, hb3⟩; rw [HOPN.out]; have y0_ := keepB hb3 y0; have y1_ := keepB hb3 y1; have y2_ := keepB hb3 y2)
      have hb03 := bstep hB1 hb3
      have hs03 := hb03.size
      refine wp_region_held_drew (S := fun x_ => Below w3.heap.size w3 x_) (by kernel_rfl) (bdrV _) (fun hHeld => ?_)
      generalize w3.drew = v at hHeld ⊢
      refine' takeF (i := 0) (oi := qVi0) rfl ⟨by rfl, fun x hSw => ?h24⟩ hHeld ?r24
      case h24 =>
        go_simp
        try with_reducible rfl
      try simp only [Act.put, List.setIfInBounds_toArray, List.set_cons_zero, List.set_cons_succ]
      refine' takeF (i := 1) (oi := qVi1) rfl ⟨by rfl, fun x hSw => ?h25⟩ hHeld ?r25
      case h25 =>
        have k0 := keepB hSw y0_; have k1 := keepB hSw y1_; have k2 := keepB hSw y2_
        go_simp
        try with_reducible rfl
      try simp only [Act.put, List.setIfInBounds_toArray, List.set_cons_zero, List.set_cons_succ]
      refine' takeF (i := 2) (oi := qVi2) rfl ⟨by rfl, fun x hSw => ?h26⟩ hHeld ?r26
      case h26 =>
        go_simp
        try with_reducible rfl
      try simp only [Act.put, List.setIfInBounds_toArray, List.set_cons_zero, List.set_cons_succ]
      refine' takeF (i := 3) (oi := qVi3) rfl ⟨by rfl, fun x hSw => ?h27⟩ hHeld ?r27
      case h27 =>
        go_simp
        try with_reducible rfl
      try simp only [Act.put, List.setIfInBounds_toArray, List.set_cons_zero, List.set_cons_succ]
      refine' takeF (i := 4) (oi := qVi4) rfl ⟨by rfl, fun x hSw => ?h28⟩ hHeld ?r28
      case h28 =>
        go_simp
        try with_reducible rfl
      try simp only [Act.put, List.setIfInBounds_toArray, List.set_cons_zero, List.set_cons_succ]
      refine wpAnyH_ready (rs := [5, 9]) (by kernel_rfl) (by simp) ?_
      refine (AllReadyH.cons (o := qVi5) rfl (fun K hK => ?w4_c2) (AllReadyH.cons (o := qVi6) rfl (fun K hK => ?w4_c1) AllReadyH.nil))
      case' w4_c2 =>
       go_simp
       refine (HV.out (some ⟨g, j * 3, none⟩) (cap - j) _ (bstep hb (bstep hb03 hHeld)) (HIL1.out _ (bstep hb03 hHeld))).mono ?_
       rintro e v ⟨rfl, hb5⟩
       refine hK.out _ _ (bstep hHeld hb5) (fun hHeld => ?_)
       clear hK K
       try simp only [Act.put, List.setIfInBounds_toArray, List.set_cons_zero, List.set_cons_succ]
       clear hb5
       refine' takeF (i := 6) (oi := qVi7) rfl ⟨by rfl, fun x hSw => ?h29⟩ hHeld ?r29
       case h29 =>
         go_simp
         try with_reducible rfl
       try simp only [Act.put, List.setIfInBounds_toArray, List.set_cons_zero, List.set_cons_succ]
       refine' takeF (i := 7) (oi := qVi8) rfl ⟨by rfl, fun x hSw => ?h30⟩ hHeld ?r30
       case h30 =>
         go_simp
         try with_reducible rfl
       try simp only [Act.put, List.setIfInBounds_toArray, List.set_cons_zero, List.set_cons_succ]
       refine' takeF (i := 8) (oi := qVi9) rfl ⟨by rfl, fun x hSw => ?h31⟩ hHeld ?r31
       case h31 =>
         go_simp
         try with_reducible rfl
       try simp only [Act.put, List.setIfInBounds_toArray, List.set_cons_zero, List.set_cons_succ]
       refine wpAnyH_ready (rs := [9]) (by kernel_rfl) (by simp) ?_
       refine AllReadyH.cons (o := qVi6) rfl (fun K hK => ?_) AllReadyH.nil
       have hqT := heap_alloc_new v (.cells #[.int .i64 0, .int .i64 0, .string ⟨#[]⟩] 66)
       have hbT := bal v (.cells #[.int .i64 0, .int .i64 0, .string ⟨#[]⟩] 66)
       have hsT := hHeld.size
       go_simp
       refine hK.out _ _ (bstep hHeld (bal _ _)) (fun hHeld => ?_)
       clear hK K
       try simp only [Act.put, List.setIfInBounds_toArray, List.set_cons_zero, List.set_cons_succ]
       generalize v.heap.size = BT at hqT hsT ⊢
       generalize v.alloc (.cells #[.int .i64 0, .int .i64 0, .string ⟨#[]⟩] 66) = v at hqT hbT  hHeld ⊢
       clear hbT
       refine wpAnyH_ready (rs := [10]) (by kernel_rfl) (by simp) ?_
       refine AllReadyH.cons (o := qVi10) rfl (fun K hK => ?_) AllReadyH.nil
       obtain ⟨s0_, s1_, s2_, sf0_, sf1_, sf2_⟩ := box3 hqT
       go_simp
       refine hK.out _ _ (bset3 hHeld hsT _ _ _) (fun hHeld => ?_)
       clear hK K s0_ s1_ s2_ sf0_ sf1_ sf2_
       try simp only [Act.put, List.setIfInBounds_toArray, List.set_cons_zero, List.set_cons_succ]
       replace hqT := row3t hqT (.int .i64 x.o) (.int .i64 x.m) (.string x.s)
       refine' takeF (i := 11) (oi := qVi11) rfl ⟨by rfl, fun x hSw => ?h32⟩ hHeld ?r32
       case h32 =>
         go_simp
         try with_reducible rfl
       try simp only [Act.put, List.setIfInBounds_toArray, List.set_cons_zero, List.set_cons_succ]
       refine wpAnyH_done (by kernel_rfl) ?_ _
       generalize (((v.setCell ⟨BT, 0, none⟩ (.int .i64 x.o)).setCell ⟨BT, 1, none⟩ (.int .i64 x.m)).setCell ⟨BT, 2, none⟩ (.string x.s)) = w6 at hqT hHeld ⊢
       have hb6 := bstep hb03 hHeld
       have h6s := hb6.size
       clear hHeld
       have q1 := rowL hr1 hb6
       obtain ⟨l0_, l1_, l2_, lf0, lf1, lf2⟩ := box3 q1
       obtain ⟨u0_, u1_, u2_, -⟩ := box3 hqT
       go_upto_region 11 with (fail)
       have p1 : (((w6.setCell ⟨w.heap.size + 1, 0, none⟩ (.int .i64 x.o)).setCell ⟨w.heap.size + 1, 1, none⟩ (.int .i64 x.m)).setCell ⟨w.heap.size + 1, 2, none⟩ (.string x.s)).heap[w.heap.size + 1]? = some (.cells #[.int .i64 x.o, .int .i64 x.m, .string x.s] 66 (0, 0)) := row3t q1 _ _ _
       have p0 : (((w6.setCell ⟨w.heap.size + 1, 0, none⟩ (.int .i64 x.o)).setCell ⟨w.heap.size + 1, 1, none⟩ (.int .i64 x.m)).setCell ⟨w.heap.size + 1, 2, none⟩ (.string x.s)).heap[w.heap.size]? = some (.cells #[.int .i64 0, .int .i64 0, .string ⟨#[]⟩] 66 (0, 0)) := rowO (rowO (rowO (rowL hr0 hb6) (by omega)) (by omega)) (by omega)
       have pT : (((w6.setCell ⟨w.heap.size + 1, 0, none⟩ (.int .i64 x.o)).setCell ⟨w.heap.size + 1, 1, none⟩ (.int .i64 x.m)).setCell ⟨w.heap.size + 1, 2, none⟩ (.string x.s)).heap[BT]? = some (.cells #[.int .i64 x.o, .int .i64 x.m, .string x.s] 66 (0, 0)) := rowO (rowO (rowO hqT (by omega)) (by omega)) (by omega)
       have hO7 : Sv (((w6.setCell ⟨w.heap.size + 1, 0, none⟩ (.int .i64 x.o)).setCell ⟨w.heap.size + 1, 1, none⟩ (.int .i64 x.m)).setCell ⟨w.heap.size + 1, 2, none⟩ (.string x.s)) (w.heap.size + 2) g cap L := own_set (own_set (own_set (own_below hOj hb6) (by omega)) (by omega)) (by omega)
       have hb7 : Below w.heap.size w (((w6.setCell ⟨w.heap.size + 1, 0, none⟩ (.int .i64 x.o)).setCell ⟨w.heap.size + 1, 1, none⟩ (.int .i64 x.m)).setCell ⟨w.heap.size + 1, 2, none⟩ (.string x.s)) := bset3 (bstep hb hb6) (by omega) _ _ _
       have hs7 : wr.heap.size ≤ (((w6.setCell ⟨w.heap.size + 1, 0, none⟩ (.int .i64 x.o)).setCell ⟨w.heap.size + 1, 1, none⟩ (.int .i64 x.m)).setCell ⟨w.heap.size + 1, 2, none⟩ (.string x.s)).heap.size := by rw [World.size_setCell, World.size_setCell, World.size_setCell]; exact h6s
       generalize (((w6.setCell ⟨w.heap.size + 1, 0, none⟩ (.int .i64 x.o)).setCell ⟨w.heap.size + 1, 1, none⟩ (.int .i64 x.m)).setCell ⟨w.heap.size + 1, 2, none⟩ (.string x.s)) = w7 at p1 p0 pT hO7 hb7 hs7 ⊢
       clear l0_ l1_ l2_ lf0 lf1 lf2 u0_ u1_ u2_ q1 hqT
       have hTg : BT ≠ g := by have := (hO.lt g rfl).2; omega
       refine wp_region_held_drew (S := fun x_ => x_.heap[BT]? = some (.cells #[.int .i64 x.o, .int .i64 x.m, .string x.s] 66 (0, 0))) (by kernel_rfl) (pT) (fun hHeld => ?_)
       replace p0 : w7.drew.heap[w.heap.size]? = _ := p0
       replace p1 : w7.drew.heap[w.heap.size + 1]? = _ := p1
       replace hO7 : Sv w7.drew (w.heap.size + 2) g cap L := hO7
       replace hb7 : Below w.heap.size w w7.drew := bstep hb7 (bdrV _)
       replace hs7 : wr.heap.size ≤ w7.drew.heap.size := hs7
       generalize w7.drew = v at hHeld p0 p1 hO7 hb7 hs7 ⊢
       refine' takeF (i := 0) (oi := qVi12) rfl ⟨by rfl, fun x hSw => ?h33⟩ hHeld ?r33
       case h33 =>
         go_simp
         try with_reducible rfl
       try simp only [Act.put, List.setIfInBounds_toArray, List.set_cons_zero, List.set_cons_succ]
       refine' takeF (i := 1) (oi := qVi13) rfl ⟨by rfl, fun x hSw => ?h34⟩ hHeld ?r34
       case h34 =>
         go_simp
         try with_reducible rfl
       try simp only [Act.put, List.setIfInBounds_toArray, List.set_cons_zero, List.set_cons_succ]
       refine' takeF (i := 2) (oi := qVi14) rfl ⟨by rfl, fun x hSw => ?h35⟩ hHeld ?r35
       case h35 =>
         go_simp
         try with_reducible rfl
       try simp only [Act.put, List.setIfInBounds_toArray, List.set_cons_zero, List.set_cons_succ]
       refine' takeF (i := 3) (oi := qVi15) rfl ⟨by rfl, fun x hSw => ?h36⟩ hHeld ?r36
       case h36 =>
         obtain ⟨k0_, k1_, k2_, -⟩ := box3 hSw
         go_simp
         try with_reducible rfl
       try simp only [Act.put, List.setIfInBounds_toArray, List.set_cons_zero, List.set_cons_succ]
       refine wpAnyH_ready (rs := [4]) (by kernel_rfl) (by simp) ?_
       refine AllReadyH.cons (o := qVi16) rfl (fun K hK => ?_) AllReadyH.nil
       have hqN := heap_alloc_new v (.cells #[.int .i64 x.o, .int .i64 x.m, .string x.s] 66)
       have hbN := bal v (.cells #[.int .i64 x.o, .int .i64 x.m, .string x.s] 66)
       go_simp
       refine hK.out _ _ (rowL hHeld hbN) (fun hHeld => ?_)
       clear hK K
       try simp only [Act.put, List.setIfInBounds_toArray, List.set_cons_zero, List.set_cons_succ]
       replace p0 := rowL p0 hbN
       replace p1 := rowL p1 hbN
       replace hO7 : Sv _ (w.heap.size + 2) g cap L := own_below hO7 hbN
       replace hb7 := bstep hb7 hbN
       replace hs7 := Nat.le_trans hs7 hbN.size
       generalize v.heap.size = BN at hqN ⊢
       generalize v.alloc (.cells #[.int .i64 x.o, .int .i64 x.m, .string x.s] 66) = v at hqN hHeld p0 p1 hO7 hb7 hs7 hbN ⊢
       clear hbN
       refine wpAnyH_ready (rs := [5]) (by kernel_rfl) (by simp) ?_
       refine AllReadyH.cons (o := qVi17) rfl (fun K hK => ?_) AllReadyH.nil
       rw [if_pos (by kernel_rfl)]
       refine wp_append_lies _ _ _ _ rfl (w.heap.size + 2) 66 j3 (.agg #[.int .i64 0, .int .i64 0, .string ByteArray.empty]) 3 32 Tryz.underlying41 HI3.out hz30 hz31 hz32 rfl (by omega) (.slice (some ⟨g, 0, none⟩) j cap) j (vals (L.take j)) rfl (own_take3 hO7 hjl) ⟨BN, 0, none⟩ 1 1 (v3 x) rfl rfl (World.news_of_block hqN) (vals_one [x]) (by omega) (by unfold maxLen; omega) (by omega) (by omega) _ rfl ?_
       intro g8 cap8 v hO8 hgr8 hat8 hlt8
       have hgl := (hO7.lt g rfl).1
       have hgb : ∀ b, b < w.heap.size + 2 → some b ≠ (Value.slice (some ⟨g, 0, none⟩) j cap).ownBlock := fun b hb e => by have e3 : b = g := Option.some.inj e; omega
       have hTne : some BT ≠ (Value.slice (some ⟨g, 0, none⟩) j cap).ownBlock := fun e => hTg (Option.some.inj e)
       refine hK.out _ _ (rowR hHeld hgr8 hTne) (fun hHeld => ?_)
       clear hK K hat8
       try simp only [Act.put, List.setIfInBounds_toArray, List.set_cons_zero, List.set_cons_succ]
       replace p0 := rowR p0 hgr8 (hgb _ (by omega))
       replace p1 := rowR p1 hgr8 (hgb _ (by omega))
       replace hb7 := gBr hb7 hgr8 (fun y hy => hgb _ (by omega))
       replace hs7 := Nat.le_trans hs7 hgr8.size
       clear hgr8
       refine' takeF (i := 6) (oi := qVi18) rfl ⟨by rfl, fun x hSw => ?h37⟩ hHeld ?r37
       case h37 =>
         go_simp
         try with_reducible rfl
       try simp only [Act.put, List.setIfInBounds_toArray, List.set_cons_zero, List.set_cons_succ]
       refine wpAnyH_done (by kernel_rfl) ?_ _
       obtain ⟨e1_, e2_⟩ := sv_end (r := x) hjl hO8
       go_wp2
       go_roundw
       case rel => exact ⟨k + 1, g8, cap8, L.take j ++ [x], x, by omega, by go_num, by rw [e1_], HST.out, e2_, fun _ => by simp, p0, p1, hb7, by omega⟩
       case measure => simp [intOf]; omega
      case' w4_c1 =>
       have hqT := heap_alloc_new v (.cells #[.int .i64 0, .int .i64 0, .string ⟨#[]⟩] 66)
       have hbT := bal v (.cells #[.int .i64 0, .int .i64 0, .string ⟨#[]⟩] 66)
       have hsT := hHeld.size
       go_simp
       refine hK.out _ _ (bstep hHeld (bal _ _)) (fun hHeld => ?_)
       clear hK K
       try simp only [Act.put, List.setIfInBounds_toArray, List.set_cons_zero, List.set_cons_succ]
       generalize v.heap.size = BT at hqT hsT ⊢
       generalize v.alloc (.cells #[.int .i64 0, .int .i64 0, .string ⟨#[]⟩] 66) = v at hqT hbT  hHeld ⊢
       clear hbT
       refine wpAnyH_ready (rs := [5]) (by kernel_rfl) (by simp) ?_
       refine AllReadyH.cons (o := qVi5) rfl (fun K hK => ?_) AllReadyH.nil
       go_simp
       refine (HV.out (some ⟨g, j * 3, none⟩) (cap - j) _ (bstep hb (bstep hb03 hHeld)) (HIL1.out _ (bstep hb03 hHeld))).mono ?_
       rintro e v ⟨rfl, hb5⟩
       refine hK.out _ _ (bstep hHeld hb5) (fun hHeld => ?_)
       clear hK K
       try simp only [Act.put, List.setIfInBounds_toArray, List.set_cons_zero, List.set_cons_succ]
       replace hqT := rowL hqT hb5
       clear hb5
       refine' takeF (i := 6) (oi := qVi7) rfl ⟨by rfl, fun x hSw => ?h38⟩ hHeld ?r38
       case h38 =>
         go_simp
         try with_reducible rfl
       try simp only [Act.put, List.setIfInBounds_toArray, List.set_cons_zero, List.set_cons_succ]
       refine' takeF (i := 7) (oi := qVi8) rfl ⟨by rfl, fun x hSw => ?h39⟩ hHeld ?r39
       case h39 =>
         go_simp
         try with_reducible rfl
       try simp only [Act.put, List.setIfInBounds_toArray, List.set_cons_zero, List.set_cons_succ]
       refine' takeF (i := 8) (oi := qVi9) rfl ⟨by rfl, fun x hSw => ?h40⟩ hHeld ?r40
       case h40 =>
         go_simp
         try with_reducible rfl
       try simp only [Act.put, List.setIfInBounds_toArray, List.set_cons_zero, List.set_cons_succ]
       refine wpAnyH_ready (rs := [10]) (by kernel_rfl) (by simp) ?_
       refine AllReadyH.cons (o := qVi10) rfl (fun K hK => ?_) AllReadyH.nil
       obtain ⟨s0_, s1_, s2_, sf0_, sf1_, sf2_⟩ := box3 hqT
       go_simp
       refine hK.out _ _ (bset3 hHeld hsT _ _ _) (fun hHeld => ?_)
       clear hK K s0_ s1_ s2_ sf0_ sf1_ sf2_
       try simp only [Act.put, List.setIfInBounds_toArray, List.set_cons_zero, List.set_cons_succ]
       replace hqT := row3t hqT (.int .i64 x.o) (.int .i64 x.m) (.string x.s)
       refine' takeF (i := 11) (oi := qVi11) rfl ⟨by rfl, fun x hSw => ?h41⟩ hHeld ?r41
       case h41 =>
         go_simp
         try with_reducible rfl
       try simp only [Act.put, List.setIfInBounds_toArray, List.set_cons_zero, List.set_cons_succ]
       refine wpAnyH_done (by kernel_rfl) ?_ _
       generalize (((v.setCell ⟨BT, 0, none⟩ (.int .i64 x.o)).setCell ⟨BT, 1, none⟩ (.int .i64 x.m)).setCell ⟨BT, 2, none⟩ (.string x.s)) = w6 at hqT hHeld ⊢
       have hb6 := bstep hb03 hHeld
       have h6s := hb6.size
       clear hHeld
       have q1 := rowL hr1 hb6
       obtain ⟨l0_, l1_, l2_, lf0, lf1, lf2⟩ := box3 q1
       obtain ⟨u0_, u1_, u2_, -⟩ := box3 hqT
       go_upto_region 11 with (fail)
       have p1 : (((w6.setCell ⟨w.heap.size + 1, 0, none⟩ (.int .i64 x.o)).setCell ⟨w.heap.size + 1, 1, none⟩ (.int .i64 x.m)).setCell ⟨w.heap.size + 1, 2, none⟩ (.string x.s)).heap[w.heap.size + 1]? = some (.cells #[.int .i64 x.o, .int .i64 x.m, .string x.s] 66 (0, 0)) := row3t q1 _ _ _
       have p0 : (((w6.setCell ⟨w.heap.size + 1, 0, none⟩ (.int .i64 x.o)).setCell ⟨w.heap.size + 1, 1, none⟩ (.int .i64 x.m)).setCell ⟨w.heap.size + 1, 2, none⟩ (.string x.s)).heap[w.heap.size]? = some (.cells #[.int .i64 0, .int .i64 0, .string ⟨#[]⟩] 66 (0, 0)) := rowO (rowO (rowO (rowL hr0 hb6) (by omega)) (by omega)) (by omega)
       have pT : (((w6.setCell ⟨w.heap.size + 1, 0, none⟩ (.int .i64 x.o)).setCell ⟨w.heap.size + 1, 1, none⟩ (.int .i64 x.m)).setCell ⟨w.heap.size + 1, 2, none⟩ (.string x.s)).heap[BT]? = some (.cells #[.int .i64 x.o, .int .i64 x.m, .string x.s] 66 (0, 0)) := rowO (rowO (rowO hqT (by omega)) (by omega)) (by omega)
       have hO7 : Sv (((w6.setCell ⟨w.heap.size + 1, 0, none⟩ (.int .i64 x.o)).setCell ⟨w.heap.size + 1, 1, none⟩ (.int .i64 x.m)).setCell ⟨w.heap.size + 1, 2, none⟩ (.string x.s)) (w.heap.size + 2) g cap L := own_set (own_set (own_set (own_below hOj hb6) (by omega)) (by omega)) (by omega)
       have hb7 : Below w.heap.size w (((w6.setCell ⟨w.heap.size + 1, 0, none⟩ (.int .i64 x.o)).setCell ⟨w.heap.size + 1, 1, none⟩ (.int .i64 x.m)).setCell ⟨w.heap.size + 1, 2, none⟩ (.string x.s)) := bset3 (bstep hb hb6) (by omega) _ _ _
       have hs7 : wr.heap.size ≤ (((w6.setCell ⟨w.heap.size + 1, 0, none⟩ (.int .i64 x.o)).setCell ⟨w.heap.size + 1, 1, none⟩ (.int .i64 x.m)).setCell ⟨w.heap.size + 1, 2, none⟩ (.string x.s)).heap.size := by rw [World.size_setCell, World.size_setCell, World.size_setCell]; exact h6s
       generalize (((w6.setCell ⟨w.heap.size + 1, 0, none⟩ (.int .i64 x.o)).setCell ⟨w.heap.size + 1, 1, none⟩ (.int .i64 x.m)).setCell ⟨w.heap.size + 1, 2, none⟩ (.string x.s)) = w7 at p1 p0 pT hO7 hb7 hs7 ⊢
       clear l0_ l1_ l2_ lf0 lf1 lf2 u0_ u1_ u2_ q1 hqT
       have hTg : BT ≠ g := by have := (hO.lt g rfl).2; omega
       refine wp_region_held_drew (S := fun x_ => x_.heap[BT]? = some (.cells #[.int .i64 x.o, .int .i64 x.m, .string x.s] 66 (0, 0))) (by kernel_rfl) (pT) (fun hHeld => ?_)
       replace p0 : w7.drew.heap[w.heap.size]? = _ := p0
       replace p1 : w7.drew.heap[w.heap.size + 1]? = _ := p1
       replace hO7 : Sv w7.drew (w.heap.size + 2) g cap L := hO7
       replace hb7 : Below w.heap.size w w7.drew := bstep hb7 (bdrV _)
       replace hs7 : wr.heap.size ≤ w7.drew.heap.size := hs7
       generalize w7.drew = v at hHeld p0 p1 hO7 hb7 hs7 ⊢
       refine' takeF (i := 0) (oi := qVi12) rfl ⟨by rfl, fun x hSw => ?h42⟩ hHeld ?r42
       case h42 =>
         go_simp
         try with_reducible rfl
       try simp only [Act.put, List.setIfInBounds_toArray, List.set_cons_zero, List.set_cons_succ]
       refine' takeF (i := 1) (oi := qVi13) rfl ⟨by rfl, fun x hSw => ?h43⟩ hHeld ?r43
       case h43 =>
         go_simp
         try with_reducible rfl
       try simp only [Act.put, List.setIfInBounds_toArray, List.set_cons_zero, List.set_cons_succ]
       refine' takeF (i := 2) (oi := qVi14) rfl ⟨by rfl, fun x hSw => ?h44⟩ hHeld ?r44
       case h44 =>
         go_simp
         try with_reducible rfl
       try simp only [Act.put, List.setIfInBounds_toArray, List.set_cons_zero, List.set_cons_succ]
       refine' takeF (i := 3) (oi := qVi15) rfl ⟨by rfl, fun x hSw => ?h45⟩ hHeld ?r45
       case h45 =>
         obtain ⟨k0_, k1_, k2_, -⟩ := box3 hSw
         go_simp
         try with_reducible rfl
       try simp only [Act.put, List.setIfInBounds_toArray, List.set_cons_zero, List.set_cons_succ]
       refine wpAnyH_ready (rs := [4]) (by kernel_rfl) (by simp) ?_
       refine AllReadyH.cons (o := qVi16) rfl (fun K hK => ?_) AllReadyH.nil
       have hqN := heap_alloc_new v (.cells #[.int .i64 x.o, .int .i64 x.m, .string x.s] 66)
       have hbN := bal v (.cells #[.int .i64 x.o, .int .i64 x.m, .string x.s] 66)
       go_simp
       refine hK.out _ _ (rowL hHeld hbN) (fun hHeld => ?_)
       clear hK K
       try simp only [Act.put, List.setIfInBounds_toArray, List.set_cons_zero, List.set_cons_succ]
       replace p0 := rowL p0 hbN
       replace p1 := rowL p1 hbN
       replace hO7 : Sv _ (w.heap.size + 2) g cap L := own_below hO7 hbN
       replace hb7 := bstep hb7 hbN
       replace hs7 := Nat.le_trans hs7 hbN.size
       generalize v.heap.size = BN at hqN ⊢
       generalize v.alloc (.cells #[.int .i64 x.o, .int .i64 x.m, .string x.s] 66) = v at hqN hHeld p0 p1 hO7 hb7 hs7 hbN ⊢
       clear hbN
       refine wpAnyH_ready (rs := [5]) (by kernel_rfl) (by simp) ?_
       refine AllReadyH.cons (o := qVi17) rfl (fun K hK => ?_) AllReadyH.nil
       rw [if_pos (by kernel_rfl)]
       refine wp_append_lies _ _ _ _ rfl (w.heap.size + 2) 66 j3 (.agg #[.int .i64 0, .int .i64 0, .string ByteArray.empty]) 3 32 Tryz.underlying41 HI3.out hz30 hz31 hz32 rfl (by omega) (.slice (some ⟨g, 0, none⟩) j cap) j (vals (L.take j)) rfl (own_take3 hO7 hjl) ⟨BN, 0, none⟩ 1 1 (v3 x) rfl rfl (World.news_of_block hqN) (vals_one [x]) (by omega) (by unfold maxLen; omega) (by omega) (by omega) _ rfl ?_
       intro g8 cap8 v hO8 hgr8 hat8 hlt8
       have hgl := (hO7.lt g rfl).1
       have hgb : ∀ b, b < w.heap.size + 2 → some b ≠ (Value.slice (some ⟨g, 0, none⟩) j cap).ownBlock := fun b hb e => by have e3 : b = g := Option.some.inj e; omega
       have hTne : some BT ≠ (Value.slice (some ⟨g, 0, none⟩) j cap).ownBlock := fun e => hTg (Option.some.inj e)
       refine hK.out _ _ (rowR hHeld hgr8 hTne) (fun hHeld => ?_)
       clear hK K hat8
       try simp only [Act.put, List.setIfInBounds_toArray, List.set_cons_zero, List.set_cons_succ]
       replace p0 := rowR p0 hgr8 (hgb _ (by omega))
       replace p1 := rowR p1 hgr8 (hgb _ (by omega))
       replace hb7 := gBr hb7 hgr8 (fun y hy => hgb _ (by omega))
       replace hs7 := Nat.le_trans hs7 hgr8.size
       clear hgr8
       refine' takeF (i := 6) (oi := qVi18) rfl ⟨by rfl, fun x hSw => ?h46⟩ hHeld ?r46
       case h46 =>
         go_simp
         try with_reducible rfl
       try simp only [Act.put, List.setIfInBounds_toArray, List.set_cons_zero, List.set_cons_succ]
       refine wpAnyH_done (by kernel_rfl) ?_ _
       obtain ⟨e1_, e2_⟩ := sv_end (r := x) hjl hO8
       go_wp2
       go_roundw
       case rel => exact ⟨k + 1, g8, cap8, L.take j ++ [x], x, by omega, by go_num, by rw [e1_], HST.out, e2_, fun _ => by simp, p0, p1, hb7, by omega⟩
       case measure => simp [intOf]; omega
end Go.Proofs.YtgeiamgeclbiaaaGreatDoor
