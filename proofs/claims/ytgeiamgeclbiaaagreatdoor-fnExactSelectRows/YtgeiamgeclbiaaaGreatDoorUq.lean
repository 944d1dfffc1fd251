/-
  Rows sorted by halves: the specification's way.
-/
import Derived.Test.YtgeiamgeclbiaaaGreatDoorUp
namespace Go.Proofs.YtgeiamgeclbiaaaGreatDoor
open Go.RowKit Go.Maps Go.WideMaps
abbrev qUq0 : Oper := { dst := some 35, op := Op.move (Operand.tmp 7), type := 3, pos := "l5_replay.go:236", after := #[], guard := none }
abbrev qUq1 : Oper := { dst := some 36, op := Op.move (Operand.tmp 4), type := 33, pos := "l5_replay.go:236", after := #[], guard := none }
abbrev qUq2 : Oper := { dst := some 37, op := Op.call { callee := Callee.builtin Builtin.len, args := #[Operand.tmp 36], argTypes := #[33] }, type := 3, pos := "l5_replay.go:236", after := #[{ on := 1, ground := Ground.data }], guard := none }
abbrev qUq3 : Oper := { dst := some 38, op := Op.binOp BinOp.eql 3 (Operand.tmp 35) (Operand.tmp 37) 3, type := 4, pos := "l5_replay.go:236", after := #[{ on := 0, ground := Ground.data }, { on := 2, ground := Ground.data }], guard := none }
abbrev qUq4 : Oper := { dst := some 39, op := Op.move (Operand.tmp 38), type := 4, pos := "l5_replay.go:236", after := #[{ on := 3, ground := Ground.data }], guard := none }
abbrev qUq5 : Oper := { dst := some 40, op := Op.move (Operand.tmp 6), type := 3, pos := "l5_replay.go:236", after := #[{ on := 4, ground := Ground.guard }], guard := some (4, false) }
abbrev qUq6 : Oper := { dst := some 41, op := Op.move (Operand.tmp 3), type := 33, pos := "l5_replay.go:236", after := #[{ on := 4, ground := Ground.guard }], guard := some (4, false) }
abbrev qUq7 : Oper := { dst := some 42, op := Op.call { callee := Callee.builtin Builtin.len, args := #[Operand.tmp 41], argTypes := #[33] }, type := 3, pos := "l5_replay.go:236", after := #[{ on := 6, ground := Ground.data }, { on := 4, ground := Ground.guard }], guard := some (4, false) }
abbrev qUq8 : Oper := { dst := some 43, op := Op.binOp BinOp.lss 3 (Operand.tmp 40) (Operand.tmp 42) 3, type := 4, pos := "l5_replay.go:236", after := #[{ on := 5, ground := Ground.data }, { on := 7, ground := Ground.data }, { on := 4, ground := Ground.guard }], guard := some (4, false) }
abbrev qUq9 : Oper := { dst := some 44, op := Op.move (Operand.tmp 43), type := 4, pos := "l5_replay.go:236", after := #[{ on := 8, ground := Ground.data }, { on := 4, ground := Ground.chain }, { on := 4, ground := Ground.guard }], guard := some (4, false) }
abbrev qUq10 : Oper := { dst := some 45, op := Op.move (Operand.tmp 3), type := 33, pos := "l5_replay.go:236", after := #[{ on := 9, ground := Ground.guard }], guard := some (9, true) }
abbrev qUq11 : Oper := { dst := some 46, op := Op.move (Operand.tmp 6), type := 3, pos := "l5_replay.go:236", after := #[{ on := 9, ground := Ground.guard }], guard := some (9, true) }
abbrev qUq12 : Oper := { dst := some 47, op := Op.indexAddr 33 (Operand.tmp 45) (Operand.tmp 46), type := 0, pos := "l5_replay.go:236", after := #[{ on := 10, ground := Ground.data }, { on := 11, ground := Ground.data }, { on := 9, ground := Ground.guard }], guard := some (9, true) }
abbrev qUq13 : Oper := { dst := some 48, op := Op.load 41 (Operand.tmp 47), type := 41, pos := "l5_replay.go:236", after := #[{ on := 12, ground := Ground.data }, { on := 9, ground := Ground.guard }], guard := some (9, true) }
abbrev qUq14 : Oper := { dst := some 49, op := Op.indexAddr 41 (Operand.tmp 48) (Operand.const (Value.int IntKind.i64 0)), type := 0, pos := "l5_replay.go:236", after := #[{ on := 13, ground := Ground.data }, { on := 9, ground := Ground.guard }], guard := some (9, true) }
abbrev qUq15 : Oper := { dst := some 50, op := Op.load 66 (Operand.tmp 49), type := 66, pos := "l5_replay.go:236", after := #[{ on := 14, ground := Ground.data }, { on := 9, ground := Ground.guard }], guard := some (9, true) }
abbrev qUq16 : Oper := { dst := some 51, op := Op.move (Operand.tmp 4), type := 33, pos := "l5_replay.go:236", after := #[{ on := 9, ground := Ground.guard }], guard := some (9, true) }
abbrev qUq17 : Oper := { dst := some 52, op := Op.move (Operand.tmp 7), type := 3, pos := "l5_replay.go:236", after := #[{ on := 9, ground := Ground.guard }], guard := some (9, true) }
abbrev qUq18 : Oper := { dst := some 53, op := Op.indexAddr 33 (Operand.tmp 51) (Operand.tmp 52), type := 0, pos := "l5_replay.go:236", after := #[{ on := 16, ground := Ground.data }, { on := 17, ground := Ground.data }, { on := 9, ground := Ground.guard }], guard := some (9, true) }
abbrev qUq19 : Oper := { dst := some 54, op := Op.load 41 (Operand.tmp 53), type := 41, pos := "l5_replay.go:236", after := #[{ on := 18, ground := Ground.data }, { on := 9, ground := Ground.guard }], guard := some (9, true) }
abbrev qUq20 : Oper := { dst := some 55, op := Op.indexAddr 41 (Operand.tmp 54) (Operand.const (Value.int IntKind.i64 0)), type := 0, pos := "l5_replay.go:236", after := #[{ on := 19, ground := Ground.data }, { on := 9, ground := Ground.guard }], guard := some (9, true) }
abbrev qUq21 : Oper := { dst := some 56, op := Op.load 66 (Operand.tmp 55), type := 66, pos := "l5_replay.go:236", after := #[{ on := 20, ground := Ground.data }, { on := 9, ground := Ground.guard }], guard := some (9, true) }
abbrev qUq22 : Oper := { dst := some 57, op := Op.call { callee := Callee.value (Operand.func 106), args := #[Operand.tmp 50, Operand.tmp 56], argTypes := #[66, 66] }, type := 3, pos := "l5_replay.go:236", after := #[{ on := 15, ground := Ground.data }, { on := 21, ground := Ground.data }, { on := 9, ground := Ground.chain }, { on := 9, ground := Ground.guard }], guard := some (9, true) }
abbrev qUq23 : Oper := { dst := some 58, op := Op.binOp BinOp.leq 3 (Operand.tmp 57) (Operand.const (Value.int IntKind.i64 0)) 3, type := 4, pos := "l5_replay.go:236", after := #[{ on := 22, ground := Ground.data }, { on := 9, ground := Ground.guard }], guard := some (9, true) }
abbrev qUq24 : Oper := { dst := some 59, op := Op.pick (Operand.tmp 44) (Operand.tmp 58) (Operand.const (Value.bool false)), type := 4, pos := "l5_replay.go:236", after := #[{ on := 9, ground := Ground.data }, { on := 23, ground := Ground.data }, { on := 4, ground := Ground.guard }], guard := some (4, false) }
abbrev qUq25 : Oper := { dst := some 60, op := Op.pick (Operand.tmp 39) (Operand.const (Value.bool true)) (Operand.tmp 59), type := 4, pos := "l5_replay.go:236", after := #[{ on := 4, ground := Ground.data }, { on := 24, ground := Ground.data }], guard := none }
def SrtA (D : Nat → Prop) (w : World) (A : List Rw) (e : Ending) (w' : World) : Prop := ∃ a' c', e = .returned (.slice a' A.length c') ∧ A.length ≤ c' ∧ OD D w' a' A ∧ Below w.heap.size w w'
theorem own_cap2 {w : World} {base e size n g cap : Nat} {xs : List Value} (h : w.ownsRow base e size (.slice (some ⟨g, 0, none⟩) n cap) n xs) : n ≤ cap := by
  rcases h.2 with ⟨e, -⟩ | ⟨g', cap', cur, e, -, -, h1, -⟩
  · simp at e
  · simp only [Value.slice.injEq, Option.some.injEq, Addr.mk.injEq, and_true, true_and] at e
    omega
theorem OD.at {D : Nat → Prop} {w : World} {a : Option Addr} {A : List Rw} (h : OD D w a A) {k : Nat} (hk : k < A.length) (h0 : ∀ x ∈ A, 0 < x.1) : ∃ (b off c bq offq m : Nat) (F : Nat → Itm) (o mm : Int) (s : ByteArray), A.getD k r0 = (m, F) ∧ F 0 = ⟨o, mm, s⟩ ∧ 0 < m ∧ a = some ⟨b, off, none⟩ ∧ w.cell? ⟨b, off + k, none⟩ = some (.slice (some ⟨bq, offq, none⟩) m c) ∧ w.cell? ⟨bq, offq, none⟩ = some (.int .i64 o) ∧ w.cell? ⟨bq, offq + 1, none⟩ = some (.int .i64 mm) ∧ w.cell? ⟨bq, offq + 2, none⟩ = some (.string s) ∧ Liv D w (ER [.slice (some ⟨bq, offq, none⟩) m c] (m, F)) := by
  obtain ⟨b, off, i, c, e, -, c0, hl⟩ := h k hk
  have hp := h0 _ (getD_mem (y := r0) hk)
  obtain ⟨m, F, hx⟩ : ∃ m F, A.getD k r0 = (m, F) := ⟨_, _, rfl⟩
  rw [hx] at c0 hl hp
  obtain ⟨a2, c2, e2, hI, -⟩ := hl.now
  simp only [List.cons.injEq, and_true, Value.slice.injEq, true_and] at e2
  obtain ⟨rfl, rfl⟩ := e2
  obtain ⟨bq, offq, rfl, y0, y1, y2, -⟩ := hI 0 hp
  simp only [Nat.zero_mul, Nat.add_zero] at y0 y1 y2
  exact ⟨b, off, c, bq, offq, m, F, _, _, _, hx, rfl, hp, e, c0, y0, y1, y2, hl⟩
set_option maxRecDepth 20000 in
set_option maxHeartbeats 16000000 in
theorem sSort (D : Nat → Prop) : ∀ (fu : Nat) (A : List Rw) (a : Option Addr) (c : Nat) (w : World), A.length ≤ fu → A.length ≤ 1000000 → A.length ≤ c → OD D w a A → (∀ x ∈ A, 0 < x.1) → (∀ b, w.heap.size ≤ b → D b) → Calls Tryz.prog 105 #[.slice a A.length c] w (SrtA D w (srt fu A)) := by
  intro fu
  induction fu with
  | zero =>
    intro A a c w hf hm hc h h0 hD
    have hl : A.length = 0 := by omega
    have HA : Hid (srt 0 A = A) := rfl
    have hl2 : (A.length : Int) < 2 := by omega
    go_enter Tryz.func105, Tryz.ntmps105
    go_wp2
    go_ret
    rw [HA.out]
    exact ⟨a, c, rfl, hc, h, Below.refl _ _⟩
  | succ fu ih =>
    intro A a c w hf hm hc h h0 hD
    by_cases hs : A.length < 2
    · have HA : Hid (srt (fu + 1) A = A) := by show _ = _; rw [srt, if_pos hs]
      have hl2 : (A.length : Int) < 2 := by omega
      go_enter Tryz.func105, Tryz.ntmps105
      go_wp2
      go_ret
      rw [HA.out]
      exact ⟨a, c, rfl, hc, h, Below.refl _ _⟩
    have hl2 : ¬ (A.length : Int) < 2 := by omega
    obtain ⟨hh, hhe⟩ : ∃ hh, A.length / 2 = hh := ⟨_, rfl⟩
    have hh1 : hh < A.length := by omega
    have hh2 : 0 < hh := by omega
    obtain ⟨S1, hS1⟩ : ∃ S1, srt fu (A.take hh) = S1 := ⟨_, rfl⟩
    obtain ⟨S2, hS2⟩ : ∃ S2, srt fu (A.drop hh) = S2 := ⟨_, rfl⟩
    have l1 : S1.length = hh := by rw [← hS1, srt_len, List.length_take]; omega
    have l2 : S2.length = A.length - hh := by rw [← hS2, srt_len, List.length_drop]
    have HA : Hid (srt (fu + 1) A = mgF (S1.length + S2.length) S1 S2) := by
      show _ = _
      rw [srt, if_neg hs, hhe, hS1, hS2, l1, l2]
      congr 1
      omega
    have HM1 : Hid (∀ x ∈ S1, 0 < x.1) := by rw [← hS1]; exact srt_mem _ _ (fun x hx => h0 x (List.mem_of_mem_take hx))
    have HM2 : Hid (∀ x ∈ S2, 0 < x.1) := by rw [← hS2]; exact srt_mem _ _ (fun x hx => h0 x (List.mem_of_mem_drop hx))
    obtain ⟨b, off, -, -, rfl, -⟩ := h 0 (by omega)
    have HC1 := ih (A.take hh) (some ⟨b, off, none⟩) c w (by rw [List.length_take]; omega) (by rw [List.length_take]; omega) (by rw [List.length_take]; omega) (h.take hh) (fun x hx => h0 x (List.mem_of_mem_take hx)) hD
    rw [hS1, show (A.take hh).length = hh from by rw [List.length_take]; omega] at HC1
    have HC2 : ∀ w1, Below w.heap.size w w1 → Calls Tryz.prog 105 #[.slice (some ⟨b, off + hh, none⟩) (A.length - hh) (c - hh)] w1 (SrtA D w1 S2) := fun w1 hb => by
      have := ih (A.drop hh) (some ⟨b, off + hh, none⟩) (c - hh) w1 (by rw [List.length_drop]; omega) (by rw [List.length_drop]; omega) (by rw [List.length_drop]; omega) ((h.later hb).drop hh) (fun x hx => h0 x (List.mem_of_mem_drop hx)) (fun b hb' => hD b (by have := hb.size; omega))
      rwa [hS2, List.length_drop] at this
    have HC2' : Hid (∀ w1, Below w.heap.size w w1 → Calls Tryz.prog 105 #[.slice (some ⟨b, off + hh, none⟩) (A.length - hh) (c - hh)] w1 (SrtA D w1 S2)) := HC2
    have HL12 : Hid (S1.length = hh ∧ S2.length = A.length - hh) := ⟨l1, l2⟩
    have hl1m : S1.length ≤ 1000000 := by omega
    have hl2m : S2.length ≤ 1000000 := by omega
    have HHE : Hid (A.length / 2 = hh) := hhe
    have hq : ((A.length : Int) / 2) = (hh : Int) := by omega
    clear ih h0 hS1 hS2 HC2 hs hhe l1 l2
    have hhc : (hh : Int) ≤ c := by omega
    have hhc3 : ¬ c = hh := by omega
    have hhc2 : hh ≤ c := by omega
    have hh0 : (0 : Int) ≤ hh := by omega
    have hhl : (hh : Int) ≤ A.length := by omega
    have hhl2 : hh ≤ A.length := by omega
    obtain ⟨jr, hir, hzr0, hzr1, hzr2⟩ := info_parts Tryz.infoRow
    have HIr : Hid (Tryz.prog.info? 41 = some jr) := hir
    clear hir
    go_enter Tryz.func105, Tryz.ntmps105
    go_wp2_with (first | (go_at_call 105; have _h := hb1; refine (HC2'.out _ hb1).mono ?_; rintro e w2 ⟨a2, cc2, rfl, hcc2, hOD2, hb2⟩) | (go_at_call 105; refine HC1.mono ?_; rintro e w1 ⟨a1, cc1, rfl, hcc1, hOD1, hb1⟩))
    have hbw2 := bstep hb1 hb2
    have hA1 := (hOD1.later hb2).cut
    have hA2 := hOD2.cut
    have hsw2 := hbw2.size
    clear hOD1 hOD2 _h
    have hO0 : (w2.alloc (.cells #[] 41)).ownsRow w2.heap.size 41 1 (.slice (some ⟨w2.heap.size, 0, none⟩) 0 0) 0 [] := World.ownsRow_made w2 #[] 0 (Nat.le_refl _) (by unfold maxLen; omega) rfl
    go_loopw [5, 6, 7] (fun v5 v6 v7 wr => ∃ (i j g cap : Nat) (O : List Rw) (f : Nat → List Value), i ≤ S1.length ∧ j ≤ S2.length ∧ v6 = .int .i64 i ∧ v7 = .int .i64 j ∧ v5 = .slice (some ⟨g, 0, none⟩) O.length cap ∧ O.length = i + j ∧ O ++ mgF (S1.length - i + (S2.length - j)) (S1.drop i) (S2.drop j) = mgF (S1.length + S2.length) S1 S2 ∧ RO w2.heap.size (fun b => D b ∧ b < w2.heap.size) wr (.slice (some ⟨g, 0, none⟩) O.length cap) O.length (fun i => O.getD i r0) f ∧ Below w2.heap.size w2 wr) (fun _ v6 v7 _ => S1.length + S2.length - ((intOf v6).toNat + (intOf v7).toNat))
    case atStart => exact ⟨0, 0, w2.heap.size, 0, [], fun _ => [], Nat.zero_le _, Nat.zero_le _, rfl, rfl, rfl, rfl, rfl, GO.nil hO0, bal _ _⟩
    case round =>
      obtain ⟨i, j, g, cap, O, f, hi, hj, rfl, rfl, rfl, hOl, hinv, hRO, hbr⟩ := hrel
      have HINV : Hid (O.length = i + j ∧ O ++ mgF (S1.length - i + (S2.length - j)) (S1.drop i) (S2.drop j) = mgF (S1.length + S2.length) S1 S2) := ⟨hOl, hinv⟩
      have hOm : O.length ≤ 2000000 := by omega
      clear hOl hinv
      have hsr := hbr.size
      have hgl := hRO.own.lt g rfl
      have hB1 := hA1.later hbr
      have hB2 := hA2.later hbr
      have hi0 : (0 : Int) ≤ i := by omega
      have hj0 : (0 : Int) ≤ j := by omega
      by_cases hjl : j < S2.length
      · have hjl2 : (j : Int) < S2.length := by omega
        have hjn : ((j : Int) == S2.length) = false := by simp; omega
        obtain ⟨bB, offB, cB, bqB, offqB, mB, FB, oB, mmB, sB, hxB, hFB, hm0B, rfl, e0B, y0B, y1B, y2B, hLB⟩ := hB2.at hjl HM2.out
        have HXB : Hid (S2.getD j r0 = (mB, FB) ∧ FB 0 = ⟨oB, mmB, sB⟩) := ⟨hxB, hFB⟩
        have hmB : (0 : Int) < mB := by omega
        clear hxB hFB
        by_cases hil : i < S1.length
        · have hil2 : (i : Int) < S1.length := by omega
          obtain ⟨bA, offA, cA, bqA, offqA, mA, FA, oA, mmA, sA, hxA, hFA, hm0A, rfl, e0A, y0A, y1A, y2A, hLA⟩ := hB1.at hil HM1.out
          have HXA : Hid (S1.getD i r0 = (mA, FA) ∧ FA 0 = ⟨oA, mmA, sA⟩) := ⟨hxA, hFA⟩
          have hmA : (0 : Int) < mA := by omega
          clear hxA hFA
          obtain ⟨cz, hcz⟩ : ∃ cz, cmpV mmA sA mmB sB = cz := ⟨_, rfl⟩
          have HCZ : Hid (keyC (S1.getD i r0) (S2.getD j r0) = cz) := by show _ = _; unfold keyC; rw [HXA.out.1, HXB.out.1]; show cmpV (FA 0).m (FA 0).s (FB 0).m (FB 0).s = cz; rw [HXA.out.2, HXB.out.2]; exact hcz
          have hCmp := fun W => sCompare2 oA mmA sA oB mmB sB W
          simp only [hcz] at hCmp
          clear hcz
          go_upto_region 9 with (fail)
          refine wp_region_held_drew (S := fun x => Below wr.heap.size wr x) (by kernel_rfl) (bdrew _) (fun hHeld => ?_)
          refine' takeF (i := 0) (oi := qUq0) rfl ⟨by rfl, fun x hSw => ?h1⟩ hHeld ?r1
          case h1 =>
            go_simp
            try with_reducible rfl
          try simp only [Act.put, List.setIfInBounds_toArray, List.set_cons_zero, List.set_cons_succ]
          refine' takeF (i := 1) (oi := qUq1) rfl ⟨by rfl, fun x hSw => ?h2⟩ hHeld ?r2
          case h2 =>
            go_simp
            try with_reducible rfl
          try simp only [Act.put, List.setIfInBounds_toArray, List.set_cons_zero, List.set_cons_succ]
          refine' takeF (i := 2) (oi := qUq2) rfl ⟨by rfl, fun x hSw => ?h3⟩ hHeld ?r3
          case h3 =>
            go_simp
            try with_reducible rfl
          try simp only [Act.put, List.setIfInBounds_toArray, List.set_cons_zero, List.set_cons_succ]
          refine' takeF (i := 3) (oi := qUq3) rfl ⟨by rfl, fun x hSw => ?h4⟩ hHeld ?r4
          case h4 =>
            go_simp
            try with_reducible rfl
          try simp only [Act.put, List.setIfInBounds_toArray, List.set_cons_zero, List.set_cons_succ]
          refine' takeF (i := 4) (oi := qUq4) rfl ⟨by rfl, fun x hSw => ?h5⟩ hHeld ?r5
          case h5 =>
            go_simp
            try with_reducible rfl
          try simp only [Act.put, List.setIfInBounds_toArray, List.set_cons_zero, List.set_cons_succ]
          refine' takeF (i := 5) (oi := qUq5) rfl ⟨by rfl, fun x hSw => ?h6⟩ hHeld ?r6
          case h6 =>
            go_simp
            try with_reducible rfl
          try simp only [Act.put, List.setIfInBounds_toArray, List.set_cons_zero, List.set_cons_succ]
          refine' takeF (i := 6) (oi := qUq6) rfl ⟨by rfl, fun x hSw => ?h7⟩ hHeld ?r7
          case h7 =>
            go_simp
            try with_reducible rfl
          try simp only [Act.put, List.setIfInBounds_toArray, List.set_cons_zero, List.set_cons_succ]
          refine' takeF (i := 7) (oi := qUq7) rfl ⟨by rfl, fun x hSw => ?h8⟩ hHeld ?r8
          case h8 =>
            go_simp
            try with_reducible rfl
          try simp only [Act.put, List.setIfInBounds_toArray, List.set_cons_zero, List.set_cons_succ]
          refine' takeF (i := 8) (oi := qUq8) rfl ⟨by rfl, fun x hSw => ?h9⟩ hHeld ?r9
          case h9 =>
            go_simp
            try with_reducible rfl
          try simp only [Act.put, List.setIfInBounds_toArray, List.set_cons_zero, List.set_cons_succ]
          refine' takeF (i := 9) (oi := qUq9) rfl ⟨by rfl, fun x hSw => ?h10⟩ hHeld ?r10
          case h10 =>
            go_simp
            try with_reducible rfl
          try simp only [Act.put, List.setIfInBounds_toArray, List.set_cons_zero, List.set_cons_succ]
          refine' takeF (i := 10) (oi := qUq10) rfl ⟨by rfl, fun x hSw => ?h11⟩ hHeld ?r11
          case h11 =>
            go_simp
            try with_reducible rfl
          try simp only [Act.put, List.setIfInBounds_toArray, List.set_cons_zero, List.set_cons_succ]
          refine' takeF (i := 11) (oi := qUq11) rfl ⟨by rfl, fun x hSw => ?h12⟩ hHeld ?r12
          case h12 =>
            go_simp
            try with_reducible rfl
          try simp only [Act.put, List.setIfInBounds_toArray, List.set_cons_zero, List.set_cons_succ]
          refine' takeF (i := 12) (oi := qUq12) rfl ⟨by rfl, fun x hSw => ?h13⟩ hHeld ?r13
          case h13 =>
            go_simp
            try with_reducible rfl
          try simp only [Act.put, List.setIfInBounds_toArray, List.set_cons_zero, List.set_cons_succ]
          refine' takeF (i := 13) (oi := qUq13) rfl ⟨by rfl, fun x hSw => ?h14⟩ hHeld ?r14
          case h14 =>
            have k0 := keepB hSw e0A; have k1 := keepB hSw y0A; have k2 := keepB hSw y1A; have k3 := keepB hSw y2A; have k4 := keepB hSw e0B; have k5 := keepB hSw y0B; have k6 := keepB hSw y1B; have k7 := keepB hSw y2B
            go_simp
            try with_reducible rfl
          try simp only [Act.put, List.setIfInBounds_toArray, List.set_cons_zero, List.set_cons_succ]
          refine' takeF (i := 14) (oi := qUq14) rfl ⟨by rfl, fun x hSw => ?h15⟩ hHeld ?r15
          case h15 =>
            go_simp
            try with_reducible rfl
          try simp only [Act.put, List.setIfInBounds_toArray, List.set_cons_zero, List.set_cons_succ]
          refine' takeF (i := 15) (oi := qUq15) rfl ⟨by rfl, fun x hSw => ?h16⟩ hHeld ?r16
          case h16 =>
            have k0 := keepB hSw e0A; have k1 := keepB hSw y0A; have k2 := keepB hSw y1A; have k3 := keepB hSw y2A; have k4 := keepB hSw e0B; have k5 := keepB hSw y0B; have k6 := keepB hSw y1B; have k7 := keepB hSw y2B
            go_simp
            try with_reducible rfl
          try simp only [Act.put, List.setIfInBounds_toArray, List.set_cons_zero, List.set_cons_succ]
          refine' takeF (i := 16) (oi := qUq16) rfl ⟨by rfl, fun x hSw => ?h17⟩ hHeld ?r17
          case h17 =>
            go_simp
            try with_reducible rfl
          try simp only [Act.put, List.setIfInBounds_toArray, List.set_cons_zero, List.set_cons_succ]
          refine' takeF (i := 17) (oi := qUq17) rfl ⟨by rfl, fun x hSw => ?h18⟩ hHeld ?r18
          case h18 =>
            go_simp
            try with_reducible rfl
          try simp only [Act.put, List.setIfInBounds_toArray, List.set_cons_zero, List.set_cons_succ]
          refine' takeF (i := 18) (oi := qUq18) rfl ⟨by rfl, fun x hSw => ?h19⟩ hHeld ?r19
          case h19 =>
            go_simp
            try with_reducible rfl
          try simp only [Act.put, List.setIfInBounds_toArray, List.set_cons_zero, List.set_cons_succ]
          refine' takeF (i := 19) (oi := qUq19) rfl ⟨by rfl, fun x hSw => ?h20⟩ hHeld ?r20
          case h20 =>
            have k0 := keepB hSw e0A; have k1 := keepB hSw y0A; have k2 := keepB hSw y1A; have k3 := keepB hSw y2A; have k4 := keepB hSw e0B; have k5 := keepB hSw y0B; have k6 := keepB hSw y1B; have k7 := keepB hSw y2B
            go_simp
            try with_reducible rfl
          try simp only [Act.put, List.setIfInBounds_toArray, List.set_cons_zero, List.set_cons_succ]
          refine' takeF (i := 20) (oi := qUq20) rfl ⟨by rfl, fun x hSw => ?h21⟩ hHeld ?r21
          case h21 =>
            go_simp
            try with_reducible rfl
          try simp only [Act.put, List.setIfInBounds_toArray, List.set_cons_zero, List.set_cons_succ]
          refine' takeF (i := 21) (oi := qUq21) rfl ⟨by rfl, fun x hSw => ?h22⟩ hHeld ?r22
          case h22 =>
            have k0 := keepB hSw e0A; have k1 := keepB hSw y0A; have k2 := keepB hSw y1A; have k3 := keepB hSw y2A; have k4 := keepB hSw e0B; have k5 := keepB hSw y0B; have k6 := keepB hSw y1B; have k7 := keepB hSw y2B
            go_simp
            try with_reducible rfl
          try simp only [Act.put, List.setIfInBounds_toArray, List.set_cons_zero, List.set_cons_succ]
          refine wpAnyH_ready (rs := [22]) (by kernel_rfl) (by simp) ?_
          refine AllReadyH.cons (o := qUq22) rfl (fun K hK => ?_) AllReadyH.nil
          go_simp
          refine (hCmp _).mono ?_
          rintro e w4 ⟨rfl, hb4⟩
          refine hK.out _ _ (bstep hHeld hb4) (fun hHeld => ?_)
          clear hK K
          try simp only [Act.put, List.setIfInBounds_toArray, List.set_cons_zero, List.set_cons_succ]
          refine' takeF (i := 23) (oi := qUq23) rfl ⟨by rfl, fun x hSw => ?h23⟩ hHeld ?r23
          case h23 =>
            go_simp
            try with_reducible rfl
          try simp only [Act.put, List.setIfInBounds_toArray, List.set_cons_zero, List.set_cons_succ]
          refine' takeF (i := 24) (oi := qUq24) rfl ⟨by rfl, fun x hSw => ?h24⟩ hHeld ?r24
          case h24 =>
            go_simp
            try with_reducible rfl
          try simp only [Act.put, List.setIfInBounds_toArray, List.set_cons_zero, List.set_cons_succ]
          refine' takeF (i := 25) (oi := qUq25) rfl ⟨by rfl, fun x hSw => ?h25⟩ hHeld ?r25
          case h25 =>
            go_simp
            try with_reducible rfl
          try simp only [Act.put, List.setIfInBounds_toArray, List.set_cons_zero, List.set_cons_succ]
          refine wpAnyH_done (by kernel_rfl) ?_ _
          have hb4w : Below wr.heap.size wr w4 := hHeld
          clear hHeld
          by_cases hc0 : cz ≤ 0
          · skip
            have hROt := hRO.later hb4w
            have hst := (hb4w).size
            have et := keepB hb4w e0A
            go_wp2_with (first | (at_builtin; refine wpList_append_lies _ rfl _ _ _ rfl w2.heap.size 41 jr (.slice none 0 0) 1 24 Tryz.underlying33 HIr.out hzr0 hzr1 hzr2 rfl (by omega) (.slice (some ⟨g, 0, none⟩) O.length cap) O.length (flt f O.length) rfl (hROt.later (bal _ _)).own ⟨w4.heap.size, 0, none⟩ 1 1 [.slice (some ⟨bqA, offqA, none⟩) mA cA] rfl rfl (World.news_of_block (heap_alloc_new w4 _)) (ones _ rfl) (by omega) (by unfold maxLen; omega) (by omega) (by simp; omega) _ rfl ?_; intro g8 cap8 w8 hO8 hgr8 hat8 hlt8))
            have hLt : Liv (fun b => (D b ∧ b < w2.heap.size) ∧ some b ≠ (Value.slice (some ⟨g, 0, none⟩) O.length cap).ownBlock) w4 (ER [.slice (some ⟨bqA, offqA, none⟩) mA cA] (mA, FA)) := (hLA.later hb4w).wide (fun b hx _ => ⟨hx, by show some b ≠ some g; intro e2; have e3 : b = g := Option.some.inj e2; omega⟩)
            have hP := GO.snoc (x := (mA, FA)) (hROt.later (bal _ _)) (c := [.slice (some ⟨bqA, offqA, none⟩) mA cA]) rfl (hLt.later (bal _ _)) hO8 hgr8 hat8
            have hb8 := gB (bstep (bstep hbr hb4w) (bal _ _)) (r := g) hgr8 hgl.1
            have eA : (O ++ [(mA, FA)]).length = O.length + 1 := by simp
            go_roundw
            case rel => exact ⟨i + 1, j, g8, cap8, O ++ [(mA, FA)], _, by omega, by omega, by go_num, by go_num, by rw [eA], by rw [eA, HINV.out.1]; omega, by
              have := HINV.out.2
              rw [mg_a hil (Or.inr ⟨hjl, by rw [HCZ.out]; exact hc0⟩), HXA.out.1] at this
              rw [List.append_assoc]; exact this, hP, hb8⟩
            case measure => simp [intOf]; omega
          · skip
            have hROt := hRO.later hb4w
            have hst := (hb4w).size
            have et := keepB hb4w e0B
            go_wp2_with (first | (at_builtin; refine wpList_append_lies _ rfl _ _ _ rfl w2.heap.size 41 jr (.slice none 0 0) 1 24 Tryz.underlying33 HIr.out hzr0 hzr1 hzr2 rfl (by omega) (.slice (some ⟨g, 0, none⟩) O.length cap) O.length (flt f O.length) rfl (hROt.later (bal _ _)).own ⟨w4.heap.size, 0, none⟩ 1 1 [.slice (some ⟨bqB, offqB, none⟩) mB cB] rfl rfl (World.news_of_block (heap_alloc_new w4 _)) (ones _ rfl) (by omega) (by unfold maxLen; omega) (by omega) (by simp; omega) _ rfl ?_; intro g8 cap8 w8 hO8 hgr8 hat8 hlt8))
            have hLt : Liv (fun b => (D b ∧ b < w2.heap.size) ∧ some b ≠ (Value.slice (some ⟨g, 0, none⟩) O.length cap).ownBlock) w4 (ER [.slice (some ⟨bqB, offqB, none⟩) mB cB] (mB, FB)) := (hLB.later hb4w).wide (fun b hx _ => ⟨hx, by show some b ≠ some g; intro e2; have e3 : b = g := Option.some.inj e2; omega⟩)
            have hP := GO.snoc (x := (mB, FB)) (hROt.later (bal _ _)) (c := [.slice (some ⟨bqB, offqB, none⟩) mB cB]) rfl (hLt.later (bal _ _)) hO8 hgr8 hat8
            have hb8 := gB (bstep (bstep hbr hb4w) (bal _ _)) (r := g) hgr8 hgl.1
            have eA : (O ++ [(mB, FB)]).length = O.length + 1 := by simp
            go_roundw
            case rel => exact ⟨i, j + 1, g8, cap8, O ++ [(mB, FB)], _, by omega, by omega, by go_num, by go_num, by rw [eA], by rw [eA, HINV.out.1]; omega, by
              have := HINV.out.2
              rw [mg_b hjl (Or.inr ⟨hil, by rw [HCZ.out]; exact hc0⟩), HXB.out.1] at this
              rw [List.append_assoc]; exact this, hP, hb8⟩
            case measure => simp [intOf]; omega
        · obtain rfl : i = S1.length := by omega
          have hil2 : ¬ (S1.length : Int) < S1.length := by omega
          go_upto_region 9 with (fail)
          refine wp_region_held_drew (S := fun x => Below wr.heap.size wr x) (by kernel_rfl) (bdrew _) (fun hHeld => ?_)
          refine' takeF (i := 0) (oi := qUq0) rfl ⟨by rfl, fun x hSw => ?h26⟩ hHeld ?r26
          case h26 =>
            go_simp
            try with_reducible rfl
          try simp only [Act.put, List.setIfInBounds_toArray, List.set_cons_zero, List.set_cons_succ]
          refine' takeF (i := 1) (oi := qUq1) rfl ⟨by rfl, fun x hSw => ?h27⟩ hHeld ?r27
          case h27 =>
            go_simp
            try with_reducible rfl
          try simp only [Act.put, List.setIfInBounds_toArray, List.set_cons_zero, List.set_cons_succ]
          refine' takeF (i := 2) (oi := qUq2) rfl ⟨by rfl, fun x hSw => ?h28⟩ hHeld ?r28
          case h28 =>
            go_simp
            try with_reducible rfl
          try simp only [Act.put, List.setIfInBounds_toArray, List.set_cons_zero, List.set_cons_succ]
          refine' takeF (i := 3) (oi := qUq3) rfl ⟨by rfl, fun x hSw => ?h29⟩ hHeld ?r29
          case h29 =>
            go_simp
            try with_reducible rfl
          try simp only [Act.put, List.setIfInBounds_toArray, List.set_cons_zero, List.set_cons_succ]
          refine' takeF (i := 4) (oi := qUq4) rfl ⟨by rfl, fun x hSw => ?h30⟩ hHeld ?r30
          case h30 =>
            go_simp
            try with_reducible rfl
          try simp only [Act.put, List.setIfInBounds_toArray, List.set_cons_zero, List.set_cons_succ]
          refine' takeF (i := 5) (oi := qUq5) rfl ⟨by rfl, fun x hSw => ?h31⟩ hHeld ?r31
          case h31 =>
            go_simp
            try with_reducible rfl
          try simp only [Act.put, List.setIfInBounds_toArray, List.set_cons_zero, List.set_cons_succ]
          refine' takeF (i := 6) (oi := qUq6) rfl ⟨by rfl, fun x hSw => ?h32⟩ hHeld ?r32
          case h32 =>
            go_simp
            try with_reducible rfl
          try simp only [Act.put, List.setIfInBounds_toArray, List.set_cons_zero, List.set_cons_succ]
          refine' takeF (i := 7) (oi := qUq7) rfl ⟨by rfl, fun x hSw => ?h33⟩ hHeld ?r33
          case h33 =>
            go_simp
            try with_reducible rfl
          try simp only [Act.put, List.setIfInBounds_toArray, List.set_cons_zero, List.set_cons_succ]
          refine' takeF (i := 8) (oi := qUq8) rfl ⟨by rfl, fun x hSw => ?h34⟩ hHeld ?r34
          case h34 =>
            go_simp
            try with_reducible rfl
          try simp only [Act.put, List.setIfInBounds_toArray, List.set_cons_zero, List.set_cons_succ]
          refine' takeF (i := 9) (oi := qUq9) rfl ⟨by rfl, fun x hSw => ?h35⟩ hHeld ?r35
          case h35 =>
            go_simp
            try with_reducible rfl
          try simp only [Act.put, List.setIfInBounds_toArray, List.set_cons_zero, List.set_cons_succ]
          refine wpAnyH_take (i := 10) (oi := qUq10) (v := undef) rfl (by kernel_rfl) (by kernel_rfl) (by kernel_rfl) (fun _ _ _ h => h) (Or.inr ⟨by rfl, rfl⟩) hHeld ?_
          try simp only [Act.put, List.setIfInBounds_toArray, List.set_cons_zero, List.set_cons_succ]
          refine wpAnyH_take (i := 11) (oi := qUq11) (v := undef) rfl (by kernel_rfl) (by kernel_rfl) (by kernel_rfl) (fun _ _ _ h => h) (Or.inr ⟨by rfl, rfl⟩) hHeld ?_
          try simp only [Act.put, List.setIfInBounds_toArray, List.set_cons_zero, List.set_cons_succ]
          refine wpAnyH_take (i := 12) (oi := qUq12) (v := undef) rfl (by kernel_rfl) (by kernel_rfl) (by kernel_rfl) (fun _ _ _ h => h) (Or.inr ⟨by rfl, rfl⟩) hHeld ?_
          try simp only [Act.put, List.setIfInBounds_toArray, List.set_cons_zero, List.set_cons_succ]
          refine wpAnyH_take (i := 13) (oi := qUq13) (v := undef) rfl (by kernel_rfl) (by kernel_rfl) (by kernel_rfl) (fun _ _ _ h => h) (Or.inr ⟨by rfl, rfl⟩) hHeld ?_
          try simp only [Act.put, List.setIfInBounds_toArray, List.set_cons_zero, List.set_cons_succ]
          refine wpAnyH_take (i := 14) (oi := qUq14) (v := undef) rfl (by kernel_rfl) (by kernel_rfl) (by kernel_rfl) (fun _ _ _ h => h) (Or.inr ⟨by rfl, rfl⟩) hHeld ?_
          try simp only [Act.put, List.setIfInBounds_toArray, List.set_cons_zero, List.set_cons_succ]
          refine wpAnyH_take (i := 15) (oi := qUq15) (v := undef) rfl (by kernel_rfl) (by kernel_rfl) (by kernel_rfl) (fun _ _ _ h => h) (Or.inr ⟨by rfl, rfl⟩) hHeld ?_
          try simp only [Act.put, List.setIfInBounds_toArray, List.set_cons_zero, List.set_cons_succ]
          refine wpAnyH_take (i := 16) (oi := qUq16) (v := undef) rfl (by kernel_rfl) (by kernel_rfl) (by kernel_rfl) (fun _ _ _ h => h) (Or.inr ⟨by rfl, rfl⟩) hHeld ?_
          try simp only [Act.put, List.setIfInBounds_toArray, List.set_cons_zero, List.set_cons_succ]
          refine wpAnyH_take (i := 17) (oi := qUq17) (v := undef) rfl (by kernel_rfl) (by kernel_rfl) (by kernel_rfl) (fun _ _ _ h => h) (Or.inr ⟨by rfl, rfl⟩) hHeld ?_
          try simp only [Act.put, List.setIfInBounds_toArray, List.set_cons_zero, List.set_cons_succ]
          refine wpAnyH_take (i := 18) (oi := qUq18) (v := undef) rfl (by kernel_rfl) (by kernel_rfl) (by kernel_rfl) (fun _ _ _ h => h) (Or.inr ⟨by rfl, rfl⟩) hHeld ?_
          try simp only [Act.put, List.setIfInBounds_toArray, List.set_cons_zero, List.set_cons_succ]
          refine wpAnyH_take (i := 19) (oi := qUq19) (v := undef) rfl (by kernel_rfl) (by kernel_rfl) (by kernel_rfl) (fun _ _ _ h => h) (Or.inr ⟨by rfl, rfl⟩) hHeld ?_
          try simp only [Act.put, List.setIfInBounds_toArray, List.set_cons_zero, List.set_cons_succ]
          refine wpAnyH_take (i := 20) (oi := qUq20) (v := undef) rfl (by kernel_rfl) (by kernel_rfl) (by kernel_rfl) (fun _ _ _ h => h) (Or.inr ⟨by rfl, rfl⟩) hHeld ?_
          try simp only [Act.put, List.setIfInBounds_toArray, List.set_cons_zero, List.set_cons_succ]
          refine wpAnyH_take (i := 21) (oi := qUq21) (v := undef) rfl (by kernel_rfl) (by kernel_rfl) (by kernel_rfl) (fun _ _ _ h => h) (Or.inr ⟨by rfl, rfl⟩) hHeld ?_
          try simp only [Act.put, List.setIfInBounds_toArray, List.set_cons_zero, List.set_cons_succ]
          refine wpAnyH_take (i := 22) (oi := qUq22) (v := undef) rfl (by kernel_rfl) (by kernel_rfl) (by kernel_rfl) (fun _ _ _ h => h) (Or.inr ⟨by rfl, rfl⟩) hHeld ?_
          try simp only [Act.put, List.setIfInBounds_toArray, List.set_cons_zero, List.set_cons_succ]
          refine wpAnyH_take (i := 23) (oi := qUq23) (v := undef) rfl (by kernel_rfl) (by kernel_rfl) (by kernel_rfl) (fun _ _ _ h => h) (Or.inr ⟨by rfl, rfl⟩) hHeld ?_
          try simp only [Act.put, List.setIfInBounds_toArray, List.set_cons_zero, List.set_cons_succ]
          refine' takeF (i := 24) (oi := qUq24) rfl ⟨by rfl, fun x hSw => ?h36⟩ hHeld ?r36
          case h36 =>
            go_simp
            try with_reducible rfl
          try simp only [Act.put, List.setIfInBounds_toArray, List.set_cons_zero, List.set_cons_succ]
          refine' takeF (i := 25) (oi := qUq25) rfl ⟨by rfl, fun x hSw => ?h37⟩ hHeld ?r37
          case h37 =>
            go_simp
            try with_reducible rfl
          try simp only [Act.put, List.setIfInBounds_toArray, List.set_cons_zero, List.set_cons_succ]
          refine wpAnyH_done (by kernel_rfl) ?_ _
          generalize wr.drew = w4 at hHeld ⊢
          have hb4w : Below wr.heap.size wr w4 := hHeld
          clear hHeld
          have hROt := hRO.later hb4w
          have hst := (hb4w).size
          have et := keepB hb4w e0B
          go_wp2_with (first | (at_builtin; refine wpList_append_lies _ rfl _ _ _ rfl w2.heap.size 41 jr (.slice none 0 0) 1 24 Tryz.underlying33 HIr.out hzr0 hzr1 hzr2 rfl (by omega) (.slice (some ⟨g, 0, none⟩) O.length cap) O.length (flt f O.length) rfl (hROt.later (bal _ _)).own ⟨w4.heap.size, 0, none⟩ 1 1 [.slice (some ⟨bqB, offqB, none⟩) mB cB] rfl rfl (World.news_of_block (heap_alloc_new w4 _)) (ones _ rfl) (by omega) (by unfold maxLen; omega) (by omega) (by simp; omega) _ rfl ?_; intro g8 cap8 w8 hO8 hgr8 hat8 hlt8))
          have hLt : Liv (fun b => (D b ∧ b < w2.heap.size) ∧ some b ≠ (Value.slice (some ⟨g, 0, none⟩) O.length cap).ownBlock) w4 (ER [.slice (some ⟨bqB, offqB, none⟩) mB cB] (mB, FB)) := (hLB.later hb4w).wide (fun b hx _ => ⟨hx, by show some b ≠ some g; intro e2; have e3 : b = g := Option.some.inj e2; omega⟩)
          have hP := GO.snoc (x := (mB, FB)) (hROt.later (bal _ _)) (c := [.slice (some ⟨bqB, offqB, none⟩) mB cB]) rfl (hLt.later (bal _ _)) hO8 hgr8 hat8
          have hb8 := gB (bstep (bstep hbr hb4w) (bal _ _)) (r := g) hgr8 hgl.1
          have eA : (O ++ [(mB, FB)]).length = O.length + 1 := by simp
          go_roundw
          case rel => exact ⟨S1.length, j + 1, g8, cap8, O ++ [(mB, FB)], _, by omega, by omega, by go_num, by go_num, by rw [eA], by rw [eA, HINV.out.1]; omega, by
            have := HINV.out.2
            rw [mg_b hjl (Or.inl rfl), HXB.out.1] at this
            rw [List.append_assoc]; exact this, hP, hb8⟩
          case measure => simp [intOf]; omega
      · obtain rfl : j = S2.length := by omega
        have hjn : ((S2.length : Int) == S2.length) = true := by simp
        by_cases hil : i < S1.length
        · have hil2 : (i : Int) < S1.length := by omega
          obtain ⟨bA, offA, cA, bqA, offqA, mA, FA, oA, mmA, sA, hxA, hFA, hm0A, rfl, e0A, y0A, y1A, y2A, hLA⟩ := hB1.at hil HM1.out
          have HXA : Hid (S1.getD i r0 = (mA, FA)) := hxA
          clear hxA hFA
          go_upto_region 9 with (fail)
          refine wp_region_held_drew (S := fun x => Below wr.heap.size wr x) (by kernel_rfl) (bdrew _) (fun hHeld => ?_)
          refine' takeF (i := 0) (oi := qUq0) rfl ⟨by rfl, fun x hSw => ?h38⟩ hHeld ?r38
          case h38 =>
            go_simp
            try with_reducible rfl
          try simp only [Act.put, List.setIfInBounds_toArray, List.set_cons_zero, List.set_cons_succ]
          refine' takeF (i := 1) (oi := qUq1) rfl ⟨by rfl, fun x hSw => ?h39⟩ hHeld ?r39
          case h39 =>
            go_simp
            try with_reducible rfl
          try simp only [Act.put, List.setIfInBounds_toArray, List.set_cons_zero, List.set_cons_succ]
          refine' takeF (i := 2) (oi := qUq2) rfl ⟨by rfl, fun x hSw => ?h40⟩ hHeld ?r40
          case h40 =>
            go_simp
            try with_reducible rfl
          try simp only [Act.put, List.setIfInBounds_toArray, List.set_cons_zero, List.set_cons_succ]
          refine' takeF (i := 3) (oi := qUq3) rfl ⟨by rfl, fun x hSw => ?h41⟩ hHeld ?r41
          case h41 =>
            go_simp
            try with_reducible rfl
          try simp only [Act.put, List.setIfInBounds_toArray, List.set_cons_zero, List.set_cons_succ]
          refine' takeF (i := 4) (oi := qUq4) rfl ⟨by rfl, fun x hSw => ?h42⟩ hHeld ?r42
          case h42 =>
            go_simp
            try with_reducible rfl
          try simp only [Act.put, List.setIfInBounds_toArray, List.set_cons_zero, List.set_cons_succ]
          refine wpAnyH_take (i := 5) (oi := qUq5) (v := undef) rfl (by kernel_rfl) (by kernel_rfl) (by kernel_rfl) (fun _ _ _ h => h) (Or.inr ⟨by rfl, rfl⟩) hHeld ?_
          try simp only [Act.put, List.setIfInBounds_toArray, List.set_cons_zero, List.set_cons_succ]
          refine wpAnyH_take (i := 6) (oi := qUq6) (v := undef) rfl (by kernel_rfl) (by kernel_rfl) (by kernel_rfl) (fun _ _ _ h => h) (Or.inr ⟨by rfl, rfl⟩) hHeld ?_
          try simp only [Act.put, List.setIfInBounds_toArray, List.set_cons_zero, List.set_cons_succ]
          refine wpAnyH_take (i := 7) (oi := qUq7) (v := undef) rfl (by kernel_rfl) (by kernel_rfl) (by kernel_rfl) (fun _ _ _ h => h) (Or.inr ⟨by rfl, rfl⟩) hHeld ?_
          try simp only [Act.put, List.setIfInBounds_toArray, List.set_cons_zero, List.set_cons_succ]
          refine wpAnyH_take (i := 8) (oi := qUq8) (v := undef) rfl (by kernel_rfl) (by kernel_rfl) (by kernel_rfl) (fun _ _ _ h => h) (Or.inr ⟨by rfl, rfl⟩) hHeld ?_
          try simp only [Act.put, List.setIfInBounds_toArray, List.set_cons_zero, List.set_cons_succ]
          refine wpAnyH_take (i := 9) (oi := qUq9) (v := undef) rfl (by kernel_rfl) (by kernel_rfl) (by kernel_rfl) (fun _ _ _ h => h) (Or.inr ⟨by rfl, rfl⟩) hHeld ?_
          try simp only [Act.put, List.setIfInBounds_toArray, List.set_cons_zero, List.set_cons_succ]
          refine wpAnyH_take (i := 10) (oi := qUq10) (v := undef) rfl (by kernel_rfl) (by kernel_rfl) (by kernel_rfl) (fun _ _ _ h => h) (Or.inr ⟨by rfl, rfl⟩) hHeld ?_
          try simp only [Act.put, List.setIfInBounds_toArray, List.set_cons_zero, List.set_cons_succ]
          refine wpAnyH_take (i := 11) (oi := qUq11) (v := undef) rfl (by kernel_rfl) (by kernel_rfl) (by kernel_rfl) (fun _ _ _ h => h) (Or.inr ⟨by rfl, rfl⟩) hHeld ?_
          try simp only [Act.put, List.setIfInBounds_toArray, List.set_cons_zero, List.set_cons_succ]
          refine wpAnyH_take (i := 12) (oi := qUq12) (v := undef) rfl (by kernel_rfl) (by kernel_rfl) (by kernel_rfl) (fun _ _ _ h => h) (Or.inr ⟨by rfl, rfl⟩) hHeld ?_
          try simp only [Act.put, List.setIfInBounds_toArray, List.set_cons_zero, List.set_cons_succ]
          refine wpAnyH_take (i := 13) (oi := qUq13) (v := undef) rfl (by kernel_rfl) (by kernel_rfl) (by kernel_rfl) (fun _ _ _ h => h) (Or.inr ⟨by rfl, rfl⟩) hHeld ?_
          try simp only [Act.put, List.setIfInBounds_toArray, List.set_cons_zero, List.set_cons_succ]
          refine wpAnyH_take (i := 14) (oi := qUq14) (v := undef) rfl (by kernel_rfl) (by kernel_rfl) (by kernel_rfl) (fun _ _ _ h => h) (Or.inr ⟨by rfl, rfl⟩) hHeld ?_
          try simp only [Act.put, List.setIfInBounds_toArray, List.set_cons_zero, List.set_cons_succ]
          refine wpAnyH_take (i := 15) (oi := qUq15) (v := undef) rfl (by kernel_rfl) (by kernel_rfl) (by kernel_rfl) (fun _ _ _ h => h) (Or.inr ⟨by rfl, rfl⟩) hHeld ?_
          try simp only [Act.put, List.setIfInBounds_toArray, List.set_cons_zero, List.set_cons_succ]
          refine wpAnyH_take (i := 16) (oi := qUq16) (v := undef) rfl (by kernel_rfl) (by kernel_rfl) (by kernel_rfl) (fun _ _ _ h => h) (Or.inr ⟨by rfl, rfl⟩) hHeld ?_
          try simp only [Act.put, List.setIfInBounds_toArray, List.set_cons_zero, List.set_cons_succ]
          refine wpAnyH_take (i := 17) (oi := qUq17) (v := undef) rfl (by kernel_rfl) (by kernel_rfl) (by kernel_rfl) (fun _ _ _ h => h) (Or.inr ⟨by rfl, rfl⟩) hHeld ?_
          try simp only [Act.put, List.setIfInBounds_toArray, List.set_cons_zero, List.set_cons_succ]
          refine wpAnyH_take (i := 18) (oi := qUq18) (v := undef) rfl (by kernel_rfl) (by kernel_rfl) (by kernel_rfl) (fun _ _ _ h => h) (Or.inr ⟨by rfl, rfl⟩) hHeld ?_
          try simp only [Act.put, List.setIfInBounds_toArray, List.set_cons_zero, List.set_cons_succ]
          refine wpAnyH_take (i := 19) (oi := qUq19) (v := undef) rfl (by kernel_rfl) (by kernel_rfl) (by kernel_rfl) (fun _ _ _ h => h) (Or.inr ⟨by rfl, rfl⟩) hHeld ?_
          try simp only [Act.put, List.setIfInBounds_toArray, List.set_cons_zero, List.set_cons_succ]
          refine wpAnyH_take (i := 20) (oi := qUq20) (v := undef) rfl (by kernel_rfl) (by kernel_rfl) (by kernel_rfl) (fun _ _ _ h => h) (Or.inr ⟨by rfl, rfl⟩) hHeld ?_
          try simp only [Act.put, List.setIfInBounds_toArray, List.set_cons_zero, List.set_cons_succ]
          refine wpAnyH_take (i := 21) (oi := qUq21) (v := undef) rfl (by kernel_rfl) (by kernel_rfl) (by kernel_rfl) (fun _ _ _ h => h) (Or.inr ⟨by rfl, rfl⟩) hHeld ?_
          try simp only [Act.put, List.setIfInBounds_toArray, List.set_cons_zero, List.set_cons_succ]
          refine wpAnyH_take (i := 22) (oi := qUq22) (v := undef) rfl (by kernel_rfl) (by kernel_rfl) (by kernel_rfl) (fun _ _ _ h => h) (Or.inr ⟨by rfl, rfl⟩) hHeld ?_
          try simp only [Act.put, List.setIfInBounds_toArray, List.set_cons_zero, List.set_cons_succ]
          refine wpAnyH_take (i := 23) (oi := qUq23) (v := undef) rfl (by kernel_rfl) (by kernel_rfl) (by kernel_rfl) (fun _ _ _ h => h) (Or.inr ⟨by rfl, rfl⟩) hHeld ?_
          try simp only [Act.put, List.setIfInBounds_toArray, List.set_cons_zero, List.set_cons_succ]
          refine wpAnyH_take (i := 24) (oi := qUq24) (v := undef) rfl (by kernel_rfl) (by kernel_rfl) (by kernel_rfl) (fun _ _ _ h => h) (Or.inr ⟨by rfl, rfl⟩) hHeld ?_
          try simp only [Act.put, List.setIfInBounds_toArray, List.set_cons_zero, List.set_cons_succ]
          refine' takeF (i := 25) (oi := qUq25) rfl ⟨by rfl, fun x hSw => ?h43⟩ hHeld ?r43
          case h43 =>
            go_simp
            try with_reducible rfl
          try simp only [Act.put, List.setIfInBounds_toArray, List.set_cons_zero, List.set_cons_succ]
          refine wpAnyH_done (by kernel_rfl) ?_ _
          generalize wr.drew = w4 at hHeld ⊢
          have hb4w : Below wr.heap.size wr w4 := hHeld
          clear hHeld
          have hROt := hRO.later hb4w
          have hst := (hb4w).size
          have et := keepB hb4w e0A
          go_wp2_with (first | (at_builtin; refine wpList_append_lies _ rfl _ _ _ rfl w2.heap.size 41 jr (.slice none 0 0) 1 24 Tryz.underlying33 HIr.out hzr0 hzr1 hzr2 rfl (by omega) (.slice (some ⟨g, 0, none⟩) O.length cap) O.length (flt f O.length) rfl (hROt.later (bal _ _)).own ⟨w4.heap.size, 0, none⟩ 1 1 [.slice (some ⟨bqA, offqA, none⟩) mA cA] rfl rfl (World.news_of_block (heap_alloc_new w4 _)) (ones _ rfl) (by omega) (by unfold maxLen; omega) (by omega) (by simp; omega) _ rfl ?_; intro g8 cap8 w8 hO8 hgr8 hat8 hlt8))
          have hLt : Liv (fun b => (D b ∧ b < w2.heap.size) ∧ some b ≠ (Value.slice (some ⟨g, 0, none⟩) O.length cap).ownBlock) w4 (ER [.slice (some ⟨bqA, offqA, none⟩) mA cA] (mA, FA)) := (hLA.later hb4w).wide (fun b hx _ => ⟨hx, by show some b ≠ some g; intro e2; have e3 : b = g := Option.some.inj e2; omega⟩)
          have hP := GO.snoc (x := (mA, FA)) (hROt.later (bal _ _)) (c := [.slice (some ⟨bqA, offqA, none⟩) mA cA]) rfl (hLt.later (bal _ _)) hO8 hgr8 hat8
          have hb8 := gB (bstep (bstep hbr hb4w) (bal _ _)) (r := g) hgr8 hgl.1
          have eA : (O ++ [(mA, FA)]).length = O.length + 1 := by simp
          go_roundw
          case rel => exact ⟨i + 1, S2.length, g8, cap8, O ++ [(mA, FA)], _, by omega, by omega, by go_num, by go_num, by rw [eA], by rw [eA, HINV.out.1]; omega, by
            have := HINV.out.2
            rw [mg_a hil (Or.inl rfl), HXA.out] at this
            rw [List.append_assoc]; exact this, hP, hb8⟩
          case measure => simp [intOf]; omega
        · obtain rfl : i = S1.length := by omega
          have HO : Hid (O = mgF (S1.length + S2.length) S1 S2) := by
            have := HINV.out.2
            rw [Nat.sub_self, Nat.sub_self] at this
            show O = _
            simpa [mgF] using this
          have hil2 : ¬ (S1.length : Int) < S1.length := by omega
          have hjl2 : ¬ (S2.length : Int) < S2.length := by omega
          obtain ⟨a', c', e', hOD'⟩ := RO.od (D' := D) hRO (fun b hx => hx.1) (fun b hx => hD b (by omega))
          obtain ⟨rfl, rfl⟩ : some ⟨g, 0, none⟩ = a' ∧ cap = c' := by simpa using e'
          have hcp := own_cap2 hRO.own
          go_wp2
          go_ret
          rw [HA.out, ← HO.out]
          exact ⟨_, _, rfl, hcp, hOD', bstep hbw2 hbr⟩
end Go.Proofs.YtgeiamgeclbiaaaGreatDoor
