/-
  Expressions checked: the program's way.
-/
import Derived.Test.YtgeiamgeclbiaaaGreatDoorVc
namespace Go.Proofs.YtgeiamgeclbiaaaGreatDoor
open Go.RowKit Go.Maps Go.WideMaps
abbrev qVd0 : Oper := { dst := some 28, op := Op.move (Operand.tmp 1), type := 203, pos := "l5_replay.go:245", after := #[], guard := none }
abbrev qVd1 : Oper := { dst := some 29, op := Op.load 108 (Operand.tmp 9), type := 108, pos := "l5_replay.go:245", after := #[], guard := none }
abbrev qVd2 : Oper := { dst := some 30, op := Op.move (Operand.tmp 7), type := 148, pos := "l5_replay.go:245", after := #[], guard := none }
abbrev qVd3 : Oper := { dst := some 31, op := Op.move (Operand.tmp 10), type := 3, pos := "l5_replay.go:245", after := #[], guard := none }
abbrev qVd4 : Oper := { dst := some 32, op := Op.slice 148 (Operand.tmp 30) (some (Operand.tmp 31)) none none, type := 148, pos := "l5_replay.go:245", after := #[{ on := 2, ground := Ground.data }, { on := 3, ground := Ground.data }], guard := none }
abbrev qVd5 : Oper := { dst := some 33, op := Op.call { callee := Callee.value (Operand.tmp 28), args := #[Operand.tmp 29, Operand.tmp 32], argTypes := #[108, 148] }, type := 75, pos := "l5_replay.go:245", after := #[{ on := 0, ground := Ground.data }, { on := 1, ground := Ground.data }, { on := 4, ground := Ground.data }], guard := none }
abbrev qVd6 : Oper := { dst := some 27, op := Op.move (Operand.tmp 33), type := 75, pos := "l5_replay.go:245", after := #[{ on := 5, ground := Ground.data }], guard := none }
abbrev qVd7 : Oper := { dst := some 34, op := Op.extract (Operand.tmp 27) 0, type := 3, pos := "l5_replay.go:245", after := #[{ on := 6, ground := Ground.data }], guard := none }
abbrev qVd8 : Oper := { dst := some 35, op := Op.extract (Operand.tmp 27) 1, type := 3, pos := "l5_replay.go:245", after := #[{ on := 6, ground := Ground.data }, { on := 9, ground := Ground.gcOnly Departure.lateStores }], guard := none }
abbrev qVd9 : Oper := { dst := some 11, op := Op.assign (Operand.tmp 34), type := 3, pos := "l5_replay.go:245", after := #[{ on := 7, ground := Ground.data }, { on := 5, ground := Ground.chain }, { on := 0, ground := Ground.phase }, { on := 1, ground := Ground.phase }, { on := 2, ground := Ground.phase }, { on := 3, ground := Ground.phase }, { on := 4, ground := Ground.phase }, { on := 5, ground := Ground.phase }, { on := 6, ground := Ground.phase }, { on := 7, ground := Ground.phase }, { on := 8, ground := Ground.textOnly Departure.lateStores }], guard := none }
abbrev qVd10 : Oper := { dst := some 12, op := Op.assign (Operand.tmp 35), type := 3, pos := "l5_replay.go:245", after := #[{ on := 8, ground := Ground.data }, { on := 9, ground := Ground.chain }, { on := 0, ground := Ground.phase }, { on := 1, ground := Ground.phase }, { on := 2, ground := Ground.phase }, { on := 3, ground := Ground.phase }, { on := 4, ground := Ground.phase }, { on := 5, ground := Ground.phase }, { on := 6, ground := Ground.phase }, { on := 7, ground := Ground.phase }, { on := 8, ground := Ground.phase }, { on := 9, ground := Ground.phase }], guard := none }
theorem make_cap {t e : TypeId} {z : Value} {size bytes : Nat} (ht : Tryz.prog.underlying t = some (.slice e)) (hinfo : (Tryz.prog.info? e).map (fun i => (i.zero, i.size, i.bytes)) = some (some z, size, bytes)) (n : Nat) (hn : n ≤ 1048576) (hb : bytes ≤ 1000) (w : World) :
    (Instr.makeSlice t (.int .i64 0) (.int .i64 (n : Int))).run Tryz.prog w = .ok (.slice (some ⟨w.heap.size, 0, none⟩) 0 n) (w.alloc (.cells (madeCells z.cells (n * size)) e)) := by
  obtain ⟨i, hi, hzz⟩ := Option.map_eq_some_iff.1 hinfo
  simp only [Prod.mk.injEq] at hzz
  obtain ⟨hz, hs, hbb⟩ := hzz
  have h1 : ((i.bytes : Int) * (n : Int)) ≤ 281474976710656 := by
    rw [hbb]
    have : bytes * n ≤ 1000 * 1048576 := Nat.mul_le_mul hb hn
    have h2 : ((bytes : Int) * (n : Int)) = ((bytes * n : Nat) : Int) := by simp
    omega
  have := run_make (P := Tryz.prog) w t e i z ht hi hz .i64 .i64 0 n (by omega) (by omega) h1 (by omega)
  rw [hs] at this
  simp only [Int.toNat_natCast] at this
  exact this
theorem opn_ok {o m : Int} {s : ByteArray} (h : okItem o m s = true) : opn o m s = arity o := by
  simp only [okItem, Bool.or_eq_true, Bool.and_eq_true, decide_eq_true_eq, beq_iff_eq] at h
  unfold opn arity
  rcases h with ((⟨⟨rfl, -⟩, hs⟩ | ⟨⟨rfl, hm⟩, -⟩) | ⟨⟨rfl, hm⟩, -⟩) | ⟨⟨hb, hm⟩, hs⟩
  · simp [hs]
  · simp [hm]
  · simp [hm]
  · have hb2 := hb
    simp only [btw, Bool.and_eq_true, decide_eq_true_eq] at hb2
    rw [if_neg (by omega)]
    by_cases h1 : o = 11 ∨ o = 13
    · rw [if_pos ⟨h1, hm, hs⟩, if_neg (by omega), if_pos h1]
    · have hS : isSign o = true := by
        unfold isSign btw
        simp only [Bool.or_eq_true, Bool.and_eq_true, decide_eq_true_eq, beq_iff_eq]
        omega
      rw [if_neg (fun h => h1 h.1), if_pos ⟨hm, hs, hS⟩, if_neg (by omega), if_neg h1]
theorem ty_fail {C : Nat → Clm} {n : Nat} {t : Itm} {L : List Int} : ¬ (tyI C n t L).2 = 0 → (tyI C n t L).1 = 0 := by
  intro h
  unfold tyI at h ⊢
  by_cases h2 : t.o = 2
  · rw [if_pos h2] at h; exact absurd rfl h
  rw [if_neg h2] at h ⊢
  by_cases h3 : t.o = 3
  · rw [if_pos h3] at h ⊢
    revert h
    cases colI C t.s n <;> simp
  rw [if_neg h3] at h ⊢
  by_cases h7 : t.o = 7 ∨ t.o = 8
  · rw [if_pos h7] at h ⊢
    by_cases e : L.getD 0 0 = L.getD 1 0
    · rw [if_pos e] at h; exact absurd rfl h
    · rw [if_neg e]
  rw [if_neg h7] at h ⊢
  by_cases h12 : t.o = 12
  · rw [if_pos h12] at h ⊢
    by_cases e : L.getD 0 0 = 2 ∧ L.getD 1 0 = 2
    · rw [if_pos e] at h; exact absurd rfl h
    · rw [if_neg e]
  rw [if_neg h12] at h ⊢
  by_cases h13 : t.o = 13
  · rw [if_pos h13] at h ⊢
    by_cases e : L.getD 0 0 = 2
    · rw [if_pos e] at h; exact absurd rfl h
    · rw [if_neg e]
  rw [if_neg h13] at h ⊢
  by_cases e : L.all (fun x => x == 1) = true
  · rw [if_pos e] at h; exact absurd rfl h
  · rw [if_neg e]
theorem Sk.ni {w : World} {base g cap : Nat} {L : List Int} (h : Sk w base g cap L) (j : Nat) : NI w (some ⟨g, j, none⟩) (L.drop j) := fun k hk => by
  rw [List.length_drop] at hk
  refine ⟨g, j, rfl, ?_⟩
  rw [drop_getD]
  exact h.at (by omega)
theorem own_takeI {w : World} {base g cap j : Nat} {L : List Int} (h : Sk w base g cap L) (hj : j ≤ L.length) : w.ownsRow base 3 1 (.slice (some ⟨g, 0, none⟩) j cap) j (ints (L.take j)) := by
  have := own_take h hj
  rwa [show (ints L).take j = ints (L.take j) from by unfold ints; rw [List.map_take]] at this
set_option maxRecDepth 20000 in
set_option maxHeartbeats 16000000 in
theorem iWalkI (ac : Option Addr) (n cc : Nat) (C : Nat → Clm) (mb : Nat) (a : Option Addr) (m c : Nat) (I : Nat → Itm) (w : World) (hC : CL w ac n C) (hP : PlAt w mb n C) (hdp : ∀ k, k < n → hasCol C (C k).s k = false) (hI : IL w a m I) (hm : m ≤ 100) (hx : ex I m = some 1) :
    Calls Tryz.prog 163 #[.slice a m c, .func (.func 164) #[.agg #[.slice ac n cc, .map (some mb)]] #[]] w fun e w' => e = .returned (.tuple #[.int .i64 (ckR C n I m).1, .int .i64 (ckR C n I m).2]) ∧ Below w.heap.size w w' := by
  have HX : Hid (ex I m = some 1) := hx
  have HDP : Hid (∀ k, k < n → hasCol C (C k).s k = false) := hdp
  clear hx hdp
  obtain ⟨i0, hi, hz0, hz1, hz2⟩ := info_parts Tryz.infoInt
  have HI : Hid (Tryz.prog.info? 3 = some i0) := hi
  clear hi
  have hmk := make_cap Tryz.underlying148 Tryz.infoInt m (by omega) (by omega) w
  have hO0 : Sk (w.alloc (.cells (madeCells (Value.int .i64 0).cells (m * 1)) 3)) w.heap.size w.heap.size m [] := World.ownsRow_made w _ m (Nat.le_refl _) (by unfold maxLen; omega) (made_size _ _)
  have hb0 := bal w (.cells (madeCells (Value.int .i64 0).cells (m * 1)) 3)
  generalize w.alloc (.cells (madeCells (Value.int .i64 0).cells (m * 1)) 3) = w0 at hmk hO0 hb0
  go_enter Tryz.func163, Tryz.ntmps163
  go_wp2
  clear hmk
  go_loopw [6, 7, 9, 10, 11, 12, 18] (fun v6 v7 _ _ _ _ i wr => ∃ (k g cap : Nat) (L : List Int) (lst : Int), k ≤ m ∧ i = .int .i64 k ∧ v6 = .int .i64 lst ∧ v7 = .slice (some ⟨g, 0, none⟩) L.length cap ∧ ck C n I k = (L, 0) ∧ Sk wr w.heap.size g cap L ∧ (0 < k → L.getLast? = some lst) ∧ Below w.heap.size w wr) (fun _ _ _ _ _ _ i _ => m - (intOf i).toNat)
  case atStart => exact ⟨0, w.heap.size, m, [], 0, by omega, rfl, rfl, rfl, rfl, hO0, fun h => by omega, hb0⟩
  case round =>
    obtain ⟨k, g, cap, L, lst, hk, rfl, rfl, rfl, hck, hO, hlst, hb⟩ := hrel
    have HCK : Hid (ck C n I k = (L, 0) ∧ (0 < k → L.getLast? = some lst)) := ⟨hck, hlst⟩
    clear hck hlst
    have hsw := hb.size
    by_cases hlt : k < m
    rotate_left
    · obtain rfl : k = m := by omega
      have e : Hid (ckR C n I k = (lst, 0)) := by
        show _ = _
        have hl1 := ck_len (C := C) (n := n) HX.out (by rw [HCK.out.1])
        rw [HCK.out.1] at hl1
        simp only at hl1
        have hk1 : 0 < k := by
          have := ex_le HX.out
          omega
        have h3 := HCK.out.2 hk1
        obtain ⟨x, rfl⟩ := len1 (L := L) (by omega)
        simp at h3
        unfold ckR
        rw [HCK.out.1, h3]
        rfl
      go_wp2
      refine bodyPost_ret (results_tmp2 rfl _ _ _) rfl ⟨by rw [e.out]; rfl, hb⟩
    obtain ⟨d, hd, hok, had⟩ := ex_at HX.out hlt
    have hlen : ((L.length : Nat) : Int) = d := by
      have := ck_len (C := C) (n := n) hd (by rw [HCK.out.1])
      rwa [HCK.out.1] at this
    have hll := ex_le hd
    have hst : ck C n I (k + 1) = if (tyI C n (I k) (L.drop (L.length - arN (I k).o))).2 ≠ 0 then (L, (tyI C n (I k) (L.drop (L.length - arN (I k).o))).2) else (L.take (L.length - arN (I k).o) ++ [(tyI C n (I k) (L.drop (L.length - arN (I k).o))).1], 0) := by
      rw [ck, HCK.out.1]
      simp only [stp]
      rw [if_neg (by simp)]
      rfl
    obtain ⟨b, off, rfl, c0, c1, c2, hs⟩ := hI.later hb k hlt
    obtain ⟨o, mm, s, hIk⟩ : ∃ o mm s, I k = ⟨o, mm, s⟩ := ⟨_, _, _, rfl⟩
    rw [hIk] at hok had hst c0 c1 c2 hs
    simp only at hok had hst c0 c1 c2 hs
    have hop := okItem_op hok
    have HOPN : Hid (opn o mm s = arity o) := opn_ok hok
    have ha := arN_eq o
    have hal := arity_le o
    obtain ⟨j, hj⟩ : ∃ j : Nat, L.length - arN o = j := ⟨_, rfl⟩
    rw [hj] at hst
    have hj1 : ((L.length : Nat) : Int) - arity o = (j : Nat) := by omega
    have hjl : j ≤ L.length := by omega
    have hcp := own_capS hO
    have hjj : (j : Int) ≤ L.length := by omega
    have hjc : (j : Int) ≤ cap := by omega
    have hjc2 : j ≤ cap := by omega
    have hj0 : (0 : Int) ≤ j := by omega
    have hj100 : j ≤ 100 := by omega
    have hdr : (L.drop j).length = arN o := by rw [List.length_drop]; omega
    obtain ⟨r1, r2, hr⟩ : ∃ r1 r2, tyI C n ⟨o, mm, s⟩ (L.drop j) = (r1, r2) := ⟨_, _, rfl⟩
    have HTY : ∀ (ad : Option Addr) (cx : Nat) W', Below wr.heap.size wr W' → NI W' ad (L.drop j) → Calls Tryz.prog 164 #[.agg #[.slice ac n cc, .map (some mb)], .agg #[.int .i64 o, .int .i64 mm, .string s], .slice ad (L.length - j) cx] W' (fun e w' => e = .returned (.tuple #[.int .i64 r1, .int .i64 r2]) ∧ Below W'.heap.size W' w') := fun ad cx W' hW hNI => by
      have := iTypeOf ac n cc C mb o mm s ad cx (L.drop j) W' (hC.later (bstep hb hW)) (hP.later (bstep hb hW)) HDP.out hNI hdr hop hs
      rwa [hr, List.length_drop] at this
    have HTYH : Hid (∀ (ad : Option Addr) (cx : Nat) W', Below wr.heap.size wr W' → NI W' ad (L.drop j) → Calls Tryz.prog 164 #[.agg #[.slice ac n cc, .map (some mb)], .agg #[.int .i64 o, .int .i64 mm, .string s], .slice ad (L.length - j) cx] W' (fun e w' => e = .returned (.tuple #[.int .i64 r1, .int .i64 r2]) ∧ Below W'.heap.size W' w')) := HTY
    have HST : Hid (ck C n I (k + 1) = if ¬ r2 = 0 then (L, r2) else (L.take j ++ [r1], 0)) := by show _ = _; rw [hst, hr]
    have HR1 : Hid (¬ r2 = 0 → r1 = 0) := fun h2 => by
      have := ty_fail (C := C) (n := n) (t := ⟨o, mm, s⟩) (L := L.drop j)
      rw [hr] at this
      exact this h2
    have HLE : Hid (((L.length : Nat) : Int) = d ∧ L.length - arN o = j ∧ L.length ≤ 100) := ⟨hlen, hj, by omega⟩
    clear hst hIk hj ha had hd hok hlen hr HTY hdr
    have hB1 : Below wr.heap.size wr (wr.alloc (.cells #[.int .i64 o, .int .i64 mm, .string s] 108)) := bal _ _
    have hrow := heap_alloc_new wr (.cells #[.int .i64 o, .int .i64 mm, .string s] 108)
    obtain ⟨y0, y1, y2, -⟩ := box3 hrow
    have hsW : (wr.alloc (.cells #[.int .i64 o, .int .i64 mm, .string s] 108)).heap.size = wr.heap.size + 1 := World.size_alloc _ _
    have HNI1 : Hid (∀ W', Below wr.heap.size wr W' → NI W' (some ⟨g, j, none⟩) (L.drop j)) := fun W' hW => Sk.ni (own_below hO hW) j
    have HNI0 : Hid (cap = j → ∀ W', NI W' (some ⟨g, 0, none⟩) (L.drop j)) := fun hc W' q hq => by rw [List.length_drop] at hq; omega
    by_cases hcj : cap = j
    · have hOj : Sk wr w.heap.size g j L := by rw [← hcj]; exact hO
      go_upto_region 7 with (go_at_call 158; refine (iOperands o mm s _).mono ?_; rintro e w3 ⟨rfl, hb3⟩; rw [HOPN.out]; have y0_ := keepB hb3 y0; have y1_ := keepB hb3 y1; have y2_ := keepB hb3 y2)
      refine wp_region_held_drew (S := fun x => Below w3.heap.size w3 x) (by kernel_rfl) (bdrV _) (fun hHeld => ?_)
      refine' takeF (i := 0) (oi := qVd0) rfl ⟨by rfl, fun x hSw => ?h1⟩ hHeld ?r1
      case h1 =>
        go_simp
        try with_reducible rfl
      try simp only [Act.put, List.setIfInBounds_toArray, List.set_cons_zero, List.set_cons_succ]
      refine' takeF (i := 1) (oi := qVd1) rfl ⟨by rfl, fun x hSw => ?h2⟩ hHeld ?r2
      case h2 =>
        have k0 := keepB hSw y0_; have k1 := keepB hSw y1_; have k2 := keepB hSw y2_
        go_simp
        try with_reducible rfl
      try simp only [Act.put, List.setIfInBounds_toArray, List.set_cons_zero, List.set_cons_succ]
      refine' takeF (i := 2) (oi := qVd2) rfl ⟨by rfl, fun x hSw => ?h3⟩ hHeld ?r3
      case h3 =>
        go_simp
        try with_reducible rfl
      try simp only [Act.put, List.setIfInBounds_toArray, List.set_cons_zero, List.set_cons_succ]
      refine' takeF (i := 3) (oi := qVd3) rfl ⟨by rfl, fun x hSw => ?h4⟩ hHeld ?r4
      case h4 =>
        go_simp
        try with_reducible rfl
      try simp only [Act.put, List.setIfInBounds_toArray, List.set_cons_zero, List.set_cons_succ]
      refine' takeF (i := 4) (oi := qVd4) rfl ⟨by rfl, fun x hSw => ?h5⟩ hHeld ?r5
      case h5 =>
        go_simp
        try with_reducible rfl
      try simp only [Act.put, List.setIfInBounds_toArray, List.set_cons_zero, List.set_cons_succ]
      refine wpAnyH_ready (rs := [5]) (by kernel_rfl) (by simp) ?_
      refine AllReadyH.cons (o := qVd5) rfl (fun K hK => ?_) AllReadyH.nil
      go_simp
      refine (HTYH.out (some ⟨g, 0, none⟩) 0 _ (bstep hB1 (bstep hb3 hHeld)) (HNI0.out hcj _)).mono ?_
      rintro e w4 ⟨rfl, hb4⟩
      refine hK.out _ _ (bstep hHeld hb4) (fun hHeld => ?_)
      clear hK K
      try simp only [Act.put, List.setIfInBounds_toArray, List.set_cons_zero, List.set_cons_succ]
      refine' takeF (i := 6) (oi := qVd6) rfl ⟨by rfl, fun x hSw => ?h6⟩ hHeld ?r6
      case h6 =>
        go_simp
        try with_reducible rfl
      try simp only [Act.put, List.setIfInBounds_toArray, List.set_cons_zero, List.set_cons_succ]
      refine' takeF (i := 7) (oi := qVd7) rfl ⟨by rfl, fun x hSw => ?h7⟩ hHeld ?r7
      case h7 =>
        go_simp
        try with_reducible rfl
      try simp only [Act.put, List.setIfInBounds_toArray, List.set_cons_zero, List.set_cons_succ]
      refine' takeF (i := 8) (oi := qVd8) rfl ⟨by rfl, fun x hSw => ?h8⟩ hHeld ?r8
      case h8 =>
        go_simp
        try with_reducible rfl
      try simp only [Act.put, List.setIfInBounds_toArray, List.set_cons_zero, List.set_cons_succ]
      refine' takeF (i := 9) (oi := qVd9) rfl ⟨by rfl, fun x hSw => ?h9⟩ hHeld ?r9
      case h9 =>
        go_simp
        try with_reducible rfl
      try simp only [Act.put, List.setIfInBounds_toArray, List.set_cons_zero, List.set_cons_succ]
      refine' takeF (i := 10) (oi := qVd10) rfl ⟨by rfl, fun x hSw => ?h10⟩ hHeld ?r10
      case h10 =>
        go_simp
        try with_reducible rfl
      try simp only [Act.put, List.setIfInBounds_toArray, List.set_cons_zero, List.set_cons_succ]
      refine wpAnyH_done (by kernel_rfl) ?_ _
      have hb34 : Below wr.heap.size wr w4 := bstep hB1 (bstep hb3 hHeld)
      clear hHeld
      have hO4 : Sk w4 w.heap.size g j L := own_below hOj hb34
      have hss4 := hb34.size
      by_cases he : r2 = 0
      · subst he
        go_wp2_with (at_builtin; refine wpList_append_lies _ rfl _ _ _ rfl w.heap.size 3 i0 (.int .i64 0) 1 8 Tryz.underlying148 HI.out hz0 hz1 hz2 rfl (by omega) (.slice (some ⟨g, 0, none⟩) j j) j (ints (L.take j)) rfl (own_below (own_takeI hO4 hjl) (bal _ _)) ⟨w4.heap.size, 0, none⟩ 1 1 [.int .i64 r1] rfl rfl (World.news_of_block (heap_alloc_new w4 _)) (ones _ rfl) (by omega) (by unfold maxLen; omega) (by omega) (by simp; omega) _ rfl ?_; intro g6 cap6 w6 hO6 hgr6 hat6 hlt6)
        obtain ⟨q1, q2⟩ := sk_end hjl hO6
        have hgl := hO4.lt g rfl
        have hb6 := gB (bstep (bstep hb hb34) (bal _ _)) (r := g) hgr6 hgl.1
        go_roundw
        case rel => exact ⟨k + 1, g6, cap6, L.take j ++ [r1], r1, by omega, by go_num, rfl, by rw [q1], by rw [HST.out]; rfl, q2, fun _ => by simp, hb6⟩
        case measure => simp [intOf]; omega
      · have n0 : (r2 != 0) = true := by simpa using he
        have hE : Hid (ckR C n I m = (r1, r2)) := by
          show _ = _
          have e1 : ck C n I (k + 1) = (L, r2) := by rw [HST.out, if_pos he]
          have e2 := ck_fail (C := C) (n := n) (I := I) (k := k + 1) (by rw [e1]; exact he) m hlt
          unfold ckR
          rw [e2, e1, if_pos he, HR1.out he]
        clear he
        go_wp2
        refine bodyPost_ret (results_tmp2 rfl _ _ _) rfl ⟨by rw [hE.out]; rfl, bstep hb hb34⟩
    · skip
      go_upto_region 7 with (go_at_call 158; refine (iOperands o mm s _).mono ?_; rintro e w3 ⟨rfl, hb3⟩; rw [HOPN.out]; have y0_ := keepB hb3 y0; have y1_ := keepB hb3 y1; have y2_ := keepB hb3 y2)
      refine wp_region_held_drew (S := fun x => Below w3.heap.size w3 x) (by kernel_rfl) (bdrV _) (fun hHeld => ?_)
      refine' takeF (i := 0) (oi := qVd0) rfl ⟨by rfl, fun x hSw => ?h11⟩ hHeld ?r11
      case h11 =>
        go_simp
        try with_reducible rfl
      try simp only [Act.put, List.setIfInBounds_toArray, List.set_cons_zero, List.set_cons_succ]
      refine' takeF (i := 1) (oi := qVd1) rfl ⟨by rfl, fun x hSw => ?h12⟩ hHeld ?r12
      case h12 =>
        have k0 := keepB hSw y0_; have k1 := keepB hSw y1_; have k2 := keepB hSw y2_
        go_simp
        try with_reducible rfl
      try simp only [Act.put, List.setIfInBounds_toArray, List.set_cons_zero, List.set_cons_succ]
      refine' takeF (i := 2) (oi := qVd2) rfl ⟨by rfl, fun x hSw => ?h13⟩ hHeld ?r13
      case h13 =>
        go_simp
        try with_reducible rfl
      try simp only [Act.put, List.setIfInBounds_toArray, List.set_cons_zero, List.set_cons_succ]
      refine' takeF (i := 3) (oi := qVd3) rfl ⟨by rfl, fun x hSw => ?h14⟩ hHeld ?r14
      case h14 =>
        go_simp
        try with_reducible rfl
      try simp only [Act.put, List.setIfInBounds_toArray, List.set_cons_zero, List.set_cons_succ]
      refine' takeF (i := 4) (oi := qVd4) rfl ⟨by rfl, fun x hSw => ?h15⟩ hHeld ?r15
      case h15 =>
        go_simp
        try with_reducible rfl
      try simp only [Act.put, List.setIfInBounds_toArray, List.set_cons_zero, List.set_cons_succ]
      refine wpAnyH_ready (rs := [5]) (by kernel_rfl) (by simp) ?_
      refine AllReadyH.cons (o := qVd5) rfl (fun K hK => ?_) AllReadyH.nil
      go_simp
      refine (HTYH.out (some ⟨g, j, none⟩) (cap - j) _ (bstep hB1 (bstep hb3 hHeld)) (HNI1.out _ (bstep hB1 (bstep hb3 hHeld)))).mono ?_
      rintro e w4 ⟨rfl, hb4⟩
      refine hK.out _ _ (bstep hHeld hb4) (fun hHeld => ?_)
      clear hK K
      try simp only [Act.put, List.setIfInBounds_toArray, List.set_cons_zero, List.set_cons_succ]
      refine' takeF (i := 6) (oi := qVd6) rfl ⟨by rfl, fun x hSw => ?h16⟩ hHeld ?r16
      case h16 =>
        go_simp
        try with_reducible rfl
      try simp only [Act.put, List.setIfInBounds_toArray, List.set_cons_zero, List.set_cons_succ]
      refine' takeF (i := 7) (oi := qVd7) rfl ⟨by rfl, fun x hSw => ?h17⟩ hHeld ?r17
      case h17 =>
        go_simp
        try with_reducible rfl
      try simp only [Act.put, List.setIfInBounds_toArray, List.set_cons_zero, List.set_cons_succ]
      refine' takeF (i := 8) (oi := qVd8) rfl ⟨by rfl, fun x hSw => ?h18⟩ hHeld ?r18
      case h18 =>
        go_simp
        try with_reducible rfl
      try simp only [Act.put, List.setIfInBounds_toArray, List.set_cons_zero, List.set_cons_succ]
      refine' takeF (i := 9) (oi := qVd9) rfl ⟨by rfl, fun x hSw => ?h19⟩ hHeld ?r19
      case h19 =>
        go_simp
        try with_reducible rfl
      try simp only [Act.put, List.setIfInBounds_toArray, List.set_cons_zero, List.set_cons_succ]
      refine' takeF (i := 10) (oi := qVd10) rfl ⟨by rfl, fun x hSw => ?h20⟩ hHeld ?r20
      case h20 =>
        go_simp
        try with_reducible rfl
      try simp only [Act.put, List.setIfInBounds_toArray, List.set_cons_zero, List.set_cons_succ]
      refine wpAnyH_done (by kernel_rfl) ?_ _
      have hb34 : Below wr.heap.size wr w4 := bstep hB1 (bstep hb3 hHeld)
      clear hHeld
      have hO4 : Sk w4 w.heap.size g cap L := own_below hO hb34
      have hss4 := hb34.size
      by_cases he : r2 = 0
      · subst he
        go_wp2_with (at_builtin; refine wpList_append_lies _ rfl _ _ _ rfl w.heap.size 3 i0 (.int .i64 0) 1 8 Tryz.underlying148 HI.out hz0 hz1 hz2 rfl (by omega) (.slice (some ⟨g, 0, none⟩) j cap) j (ints (L.take j)) rfl (own_below (own_takeI hO4 hjl) (bal _ _)) ⟨w4.heap.size, 0, none⟩ 1 1 [.int .i64 r1] rfl rfl (World.news_of_block (heap_alloc_new w4 _)) (ones _ rfl) (by omega) (by unfold maxLen; omega) (by omega) (by simp; omega) _ rfl ?_; intro g6 cap6 w6 hO6 hgr6 hat6 hlt6)
        obtain ⟨q1, q2⟩ := sk_end hjl hO6
        have hgl := hO4.lt g rfl
        have hb6 := gB (bstep (bstep hb hb34) (bal _ _)) (r := g) hgr6 hgl.1
        go_roundw
        case rel => exact ⟨k + 1, g6, cap6, L.take j ++ [r1], r1, by omega, by go_num, rfl, by rw [q1], by rw [HST.out]; rfl, q2, fun _ => by simp, hb6⟩
        case measure => simp [intOf]; omega
      · have n0 : (r2 != 0) = true := by simpa using he
        have hE : Hid (ckR C n I m = (r1, r2)) := by
          show _ = _
          have e1 : ck C n I (k + 1) = (L, r2) := by rw [HST.out, if_pos he]
          have e2 := ck_fail (C := C) (n := n) (I := I) (k := k + 1) (by rw [e1]; exact he) m hlt
          unfold ckR
          rw [e2, e1, if_pos he, HR1.out he]
        clear he
        go_wp2
        refine bodyPost_ret (results_tmp2 rfl _ _ _) rfl ⟨by rw [hE.out]; rfl, bstep hb hb34⟩
end Go.Proofs.YtgeiamgeclbiaaaGreatDoor
