/-
  Statements as bytes (the specification's way): that they are short.
-/
import Derived.Test.YtjbbbfplephkpaaGreatDoorJd
import Derived.Test.YtjbbbfplephkpaaGreatDoorJg
import Derived.Deep.RegionHeld3
namespace Go.Proofs.YtjbbbfplephkpaaGreatDoor
open Go.RowKit
theorem bstep {a b c : World} (h : Below a.heap.size a b) (k : Below b.heap.size b c) : Below a.heap.size a c := h.trans (k.mono h.size)
set_option maxRecDepth 20000 in
theorem expBytes_two (x : Value) (w : World) (hx : ∃ a n c, x = .slice a n c ∧ It w a n ∧ n ≤ 100) : Calls Tryz.prog 46 #[x] w fun e w' => IsT 8192 e ∧ Below w.heap.size w w' := by
  obtain ⟨a, n, c, rfl, h, hn⟩ := hx
  exact expBytes_any a n c w h hn
set_option maxRecDepth 20000 in
set_option maxHeartbeats 2000000 in
theorem encode_any (p : SP) (w : World) (h : Sm w p) : Calls Tryz.prog 30 #[.agg p.cs] w fun e w' => IsT 60000 e ∧ Below w.heap.size w w' := by
  have hb0 := bal w (.cells p.cs 61)
  have H0 := h.later hb0
  have Q0 := B8.new w p 61
  obtain ⟨k, tb, a2, n2, c2, a3, n3, c3, col, a5, n5, c5, a6, n6, c6, a7, n7, c7⟩ := p
  obtain ⟨htb, hcol, -, -, -, -, -, -, -, -, -, -⟩ := id h
  dsimp only at htb hcol
  go_enter Tryz.func30, Tryz.ntmps30
  go_upto_region 3 with (go_at_call 42; refine (stmOK_any ⟨k, tb, a2, n2, c2, a3, n3, c3, col, a5, n5, c5, a6, n6, c6, a7, n7, c7⟩ _ H0).mono ?_; rintro e w1 ⟨⟨b, rfl⟩, hb1⟩; have H1 := H0.later hb1; have Q1 := Q0.later hb1; obtain ⟨q0, q1, q2, q3, q4, q5, q6, q7⟩ := id Q1; dsimp only at q0 q1 q2 q3 q4 q5 q6 q7; replace hb1 := hb0.trans (hb1.mono hb0.size); cases b)
  · go_ret
    exact ⟨⟨_, rfl, Nat.zero_le _⟩, hb1⟩
  clear H0 Q0 h
  have hsz : w.heap.size < w1.heap.size := World.block_lt_of_cell? _ _ q0
  go_cut [3] (fun v wx => (∃ T : ByteArray, v = .string T ∧ T.size ≤ 100) ∧ Below w1.heap.size w1 wx)
  case first =>
    have hbd : Below w1.heap.size w1 w1.drew := (Below.refl _ _).drew
    go_region_held3 (fun w' => w'.cell? ⟨w.heap.size, 0, none⟩ = some (.int .i64 k) ∧ w'.cell? ⟨w.heap.size, 1, none⟩ = some (.string tb)) (go_keep) (first | (go_at_call 43; refine (nub_any _ _ _ (by omega) (by omega)).mono ?_; rintro e w' ⟨⟨T1, rfl, hT1⟩, hbx⟩; have hbd := bstep hbd hbx; have m0 := keepB hbd q0; have m1 := keepB hbd q1; try have hsum : ¬ 9223372036854775807 < T1.size + T2.size := (by omega)) | (go_at_call 44; refine (s8_any tb _ (by omega)).mono ?_; rintro e w' ⟨⟨T2, rfl, hT2⟩, hbx⟩; have hbd := bstep hbd hbx; have m0 := keepB hbd q0; have m1 := keepB hbd q1; try have hsum : ¬ 9223372036854775807 < T1.size + T2.size := (by omega)))
    all_goals
      go_wp2_with fail
      go_meet
      exact ⟨⟨_, rfl, by simp; omega⟩, hbd⟩
  case rest =>
    obtain ⟨⟨T, rfl, hT⟩, hb2⟩ := hcut
    have H2 := H1.later hb2
    obtain ⟨q0, q1, q2, q3, q4, q5, q6, q7⟩ := Q1.later hb2
    dsimp only at q0 q1 q2 q3 q4 q5 q6 q7
    replace hb2 := bstep hb1 hb2
    clear H1 Q1 hb1
    obtain ⟨-, -, hco, hva, hex, hwh, hou, l2, l3, l5, l6, l7⟩ := id H2
    dsimp only at hco hva hex hwh hou l2 l3 l5 l6 l7
    have hcur := Below.refl wc.heap.size wc
    by_cases e1 : k = 1
    · subst e1
      go_wp2_with (go_at_call 43; refine (nub_any _ _ _ (by omega) (by omega)).mono ?_; rintro e w' ⟨⟨T1, rfl, hT1⟩, hbx⟩; have hcur := bstep hcur hbx; have m0 := keepB hcur q2)
      go_loopw [3, 5, 33] (fun v _ i wr => ∃ (j : Nat) (U : ByteArray), j ≤ n2 ∧ i = .int .i64 j ∧ v = .string U ∧ U.size ≤ 108 + 60 * j ∧ Below wc.heap.size wc wr) (fun _ _ i _ => n2 - (intOf i).toNat)
      case atStart => exact ⟨0, _, by omega, rfl, rfl, by simp; omega, hcur⟩
      case round =>
        obtain ⟨j, U, hj, rfl, rfl, hU, hb⟩ := hrel
        by_cases hlt : j < n2
        · obtain ⟨b, off, m, s, rfl, d0, d1, hs⟩ := hco.later hb j hlt
          have f0 := (kept2 (Below.refl _ (wr.alloc (.cells #[.string s, .int .i64 m] 76)))).1
          have f1 := (kept2 (Below.refl _ (wr.alloc (.cells #[.string s, .int .i64 m] 76)))).2
          have hcw := (Below.refl (wr.alloc (.cells #[.string s, .int .i64 m] 76)).heap.size (wr.alloc (.cells #[.string s, .int .i64 m] 76))).drew
          have k0 := keepB hcw f0
          have k1 := keepB hcw f1
          go_wp2
          go_region_held3 (fun w' => w'.cell? ⟨wr.heap.size, 0, none⟩ = some (.string s) ∧ w'.cell? ⟨wr.heap.size, 1, none⟩ = some (.int .i64 m)) (go_keep) (first | (go_at_call 43; refine (nub_any _ _ _ (by omega) (by omega)).mono ?_; rintro e w' ⟨⟨T1, rfl, hT1⟩, hbx⟩; have hcw := bstep hcw hbx; have m0 := keepB hcw f0; have m1 := keepB hcw f1; try have hsum : ¬ 9223372036854775807 < T2.size + T1.size := (by omega); try have hsum2 : ¬ 9223372036854775807 < U.size + (T2.size + T1.size) := (by omega)) | (go_at_call 44; refine (s8_any s _ (by omega)).mono ?_; rintro e w' ⟨⟨T2, rfl, hT2⟩, hbx⟩; have hcw := bstep hcw hbx; have m0 := keepB hcw f0; have m1 := keepB hcw f1; try have hsum : ¬ 9223372036854775807 < T2.size + T1.size := (by omega); try have hsum2 : ¬ 9223372036854775807 < U.size + (T2.size + T1.size) := (by omega)))
          all_goals
            go_wp2_with fail
            go_roundw
            case rel => exact ⟨j + 1, _, by omega, by go_num, rfl, by simp; omega, bstep hb (bal2 hcw)⟩
            case measure => simp [intOf]; omega
        · go_wp2
          all_goals
            go_ret
            first
              | exact ⟨⟨_, rfl, Nat.zero_le _⟩, bstep hb2 hb⟩
              | exact ⟨⟨_, rfl, by simp at *; omega⟩, bstep hb2 hb⟩
    by_cases e2 : k = 2
    · subst e2
      go_wp2_with (go_at_call 43; refine (nub_any _ _ _ (by omega) (by omega)).mono ?_; rintro e w' ⟨⟨T1, rfl, hT1⟩, hbx⟩; have hcur := bstep hcur hbx; have m0 := keepB hcur q3)
      go_loopw [3, 7, 58] (fun v _ i wr => ∃ (j : Nat) (U : ByteArray), j ≤ n3 ∧ i = .int .i64 j ∧ v = .string U ∧ U.size ≤ 108 + 60 * j ∧ Below wc.heap.size wc wr) (fun _ _ i _ => n3 - (intOf i).toNat)
      case atStart => exact ⟨0, _, by omega, rfl, rfl, by simp; omega, hcur⟩
      case round =>
        obtain ⟨j, U, hj, rfl, rfl, hU, hb⟩ := hrel
        by_cases hlt : j < n3
        · obtain ⟨b, off, o, m, s, rfl, d0, d1, d2, hs⟩ := hva.later hb j hlt
          have hcw := Below.refl (wr.alloc (.cells #[.int .i64 o, .int .i64 m, .string s] 78)).heap.size (wr.alloc (.cells #[.int .i64 o, .int .i64 m, .string s] 78))
          obtain ⟨f0, f1, f2⟩ := kept3 hcw
          go_wp2_with (first | (go_at_call 43; refine (nub_any _ _ _ (by omega) (by omega)).mono ?_; rintro e w' ⟨⟨T1, rfl, hT1⟩, hbx⟩; have hcw := bstep hcw hbx; have m0 := keepB hcw f0; have m1 := keepB hcw f1; have m2 := keepB hcw f2) | (go_at_call 45; refine (s16_any s _ (by omega)).mono ?_; rintro e w' ⟨⟨T2, rfl, hT2⟩, hbx⟩; have hcw := bstep hcw hbx; have m0 := keepB hcw f0))
          all_goals
            go_roundw
            case rel => exact ⟨j + 1, _, by omega, by go_num, rfl, by simp; omega, bstep hb (bal2 hcw)⟩
            case measure => simp [intOf]; omega
        · go_wp2
          all_goals
            go_ret
            first
              | exact ⟨⟨_, rfl, Nat.zero_le _⟩, bstep hb2 hb⟩
              | exact ⟨⟨_, rfl, by simp at *; omega⟩, bstep hb2 hb⟩
    by_cases e4 : k = 4
    · subst e4
      go_wp2_with (go_at_call 46; refine (expBytes_any a6 n6 c6 _ hwh (by omega)).mono ?_; rintro e w' ⟨⟨T1, rfl, hT1⟩, hbx⟩; have hcur := bstep hcur hbx; have m0 := keepB hcur q6)
      all_goals
        go_ret
        first
          | exact ⟨⟨_, rfl, Nat.zero_le _⟩, bstep hb2 hcur⟩
          | exact ⟨⟨_, rfl, by simp at *; omega⟩, bstep hb2 hcur⟩
    by_cases e5 : k = 5
    · subst e5
      go_wp2_with (go_at_call 43; refine (nub_any _ _ _ (by omega) (by omega)).mono ?_; rintro e w' ⟨⟨T1, rfl, hT1⟩, hbx⟩; have hcur := bstep hcur hbx; have m0 := keepB hcur q7; have m1 := keepB hcur q6)
      go_loopw [3, 9, 114] (fun v _ i wr => ∃ (j : Nat) (U : ByteArray), j ≤ n7 ∧ i = .int .i64 j ∧ v = .string U ∧ U.size ≤ 108 + 8192 * j ∧ Below wc.heap.size wc wr) (fun _ _ i _ => n7 - (intOf i).toNat)
      case atStart => exact ⟨0, _, by omega, rfl, rfl, by simp; omega, hcur⟩
      case round =>
        obtain ⟨j, U, hj, rfl, rfl, hU, hb⟩ := hrel
        have t6 := keepB hb q6
        by_cases hlt : j < n7
        · obtain ⟨b, off, i, m, c, rfl, d0, di, dm⟩ := hou.later hb j hlt
          go_wp2_with (go_at_call 46; refine (expBytes_any i m c _ di (by omega)).mono ?_; rintro e w' ⟨⟨T1, rfl, hT1⟩, hbx⟩; have hb := bstep hb hbx)
          go_roundw
          case rel => exact ⟨j + 1, _, by omega, by go_num, rfl, by simp; omega, hb⟩
          case measure => simp [intOf]; omega
        · go_wp2_with (go_at_call 46; refine (expBytes_any a6 n6 c6 _ (hwh.later hb) (by omega)).mono ?_; rintro e w' ⟨⟨T1, rfl, hT1⟩, hbx⟩; have hb := bstep hb hbx)
          all_goals
            go_ret
            first
              | exact ⟨⟨_, rfl, Nat.zero_le _⟩, bstep hb2 hb⟩
              | exact ⟨⟨_, rfl, by simp at *; omega⟩, bstep hb2 hb⟩
    by_cases e3 : k = 3
    · subst e3
      have hcw := (Below.refl wc.heap.size wc).drew
      have k4 := keepB hcw q4
      have k5 := keepB hcw q5
      have k6 := keepB hcw q6
      go_wp2
      go_region_held3 (fun w' => w'.cell? ⟨w.heap.size, 4, none⟩ = some (.string col) ∧ w'.cell? ⟨w.heap.size, 5, none⟩ = some (.slice a5 n5 c5) ∧ w'.cell? ⟨w.heap.size, 6, none⟩ = some (.slice a6 n6 c6)) (go_keep) (first | (go_at_call 44; refine (s8_any col _ (by omega)).mono ?_; rintro e w' ⟨⟨T1, rfl, hT1⟩, hbx⟩; have hcw := bstep hcw hbx; have m4 := keepB hcw q4; have m5 := keepB hcw q5; have m6 := keepB hcw q6; try have hsum : ¬ 9223372036854775807 < T1.size + T2.size := (by omega); try have hsum2 : ¬ 9223372036854775807 < T1.size + T2.size + T3.size := (by omega); try have hsum3 : ¬ 9223372036854775807 < T.size + (T1.size + T2.size + T3.size) := (by omega)) | (go_at_call 46; refine (expBytes_two _ _ (by exact ⟨a5, n5, c5, rfl, hex.later hcw, l5⟩)).mono ?_; rintro e w' ⟨⟨T2, rfl, hT2⟩, hbx⟩; have hcw := bstep hcw hbx; have m4 := keepB hcw q4; have m5 := keepB hcw q5; have m6 := keepB hcw q6; try have hsum : ¬ 9223372036854775807 < T1.size + T2.size := (by omega); try have hsum2 : ¬ 9223372036854775807 < T1.size + T2.size + T3.size := (by omega); try have hsum3 : ¬ 9223372036854775807 < T.size + (T1.size + T2.size + T3.size) := (by omega)) | (go_at_call 46; refine (expBytes_two _ _ (by exact ⟨a6, n6, c6, rfl, hwh.later hcw, l6⟩)).mono ?_; rintro e w' ⟨⟨T3, rfl, hT3⟩, hbx⟩; have hcw := bstep hcw hbx; have m4 := keepB hcw q4; have m5 := keepB hcw q5; have m6 := keepB hcw q6; try have hsum : ¬ 9223372036854775807 < T1.size + T2.size := (by omega); try have hsum2 : ¬ 9223372036854775807 < T1.size + T2.size + T3.size := (by omega); try have hsum3 : ¬ 9223372036854775807 < T.size + (T1.size + T2.size + T3.size) := (by omega)))
      all_goals go_wp2_with fail
      all_goals
        go_ret
        first
          | exact ⟨⟨_, rfl, Nat.zero_le _⟩, bstep hb2 hcw⟩
          | exact ⟨⟨_, rfl, by simp at *; omega⟩, bstep hb2 hcw⟩
    go_wp2
    all_goals
      go_ret
      first
        | exact ⟨⟨_, rfl, Nat.zero_le _⟩, hb2⟩
        | exact ⟨⟨_, rfl, by simp at *; omega⟩, hb2⟩
end Go.Proofs.YtjbbbfplephkpaaGreatDoor
