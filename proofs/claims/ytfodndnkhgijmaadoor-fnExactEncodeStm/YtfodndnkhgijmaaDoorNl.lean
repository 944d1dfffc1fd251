/-
  Statements: StmOK, the specification's way, exactly.
-/
import Derived.Test.YtfodndnkhgijmaaDoorNlx
namespace Go.Proofs.YtfodndnkhgijmaaDoor
open Go.RowKit Go.Maps Go.WideMaps
set_option maxRecDepth 20000 in
set_option maxHeartbeats 8000000 in
theorem sStm_as (k : Int) (tb : ByteArray) (n2 : Nat) (C : Nat → Clm) (n3 : Nat) (V : Nat → Itm) (col : ByteArray) (n5 : Nat) (E : Nat → Itm) (n6 : Nat) (W : Nat → Itm) (n7 : Nat) (m7 : Nat → Nat) (O : Nat → Nat → Itm)
    (a2 : Option Addr) (c2 : Nat) (a3 : Option Addr) (c3 : Nat) (a5 : Option Addr) (c5 : Nat) (a6 : Option Addr) (c6 : Nat) (a7 : Option Addr) (c7 : Nat) (D : St) (hD : (⟨k, tb, n2, C, n3, V, col, n5, E, n6, W, n7, m7, O⟩ : St) = D)
    (w : World) (h : SM w ⟨k, tb, n2, C, n3, V, col, n5, E, n6, W, n7, m7, O⟩ ⟨a2, c2, a3, c3, a5, c5, a6, c6, a7, c7⟩) :
    Calls Tryd.prog 12 #[.agg #[.int .i64 k, .string tb, .slice a2 n2 c2, .slice a3 n3 c3, .string col, .slice a5 n5 c5, .slice a6 n6 c6, .slice a7 n7 c7]] w fun e w' => e = .returned (.bool (okStm D)) ∧ Below w.heap.size w w' := by
  have hb0 := bal w (.cells #[.int .i64 k, .string tb, .slice a2 n2 c2, .slice a3 n3 c3, .string col, .slice a5 n5 c5, .slice a6 n6 c6, .slice a7 n7 c7] 46)
  have H0 := h.later hb0
  have q0 : B8 (w.alloc (.cells #[.int .i64 k, .string tb, .slice a2 n2 c2, .slice a3 n3 c3, .string col, .slice a5 n5 c5, .slice a6 n6 c6, .slice a7 n7 c7] 46)) w.heap.size ⟨k, tb, n2, C, n3, V, col, n5, E, n6, W, n7, m7, O⟩ ⟨a2, c2, a3, c3, a5, c5, a6, c6, a7, c7⟩ := B8.new w ⟨k, tb, n2, C, n3, V, col, n5, E, n6, W, n7, m7, O⟩ ⟨a2, c2, a3, c3, a5, c5, a6, c6, a7, c7⟩ 46
  have hE := isE col
  obtain ⟨htb, hcol, -, -, -, -, -, -, -, -, -, -⟩ := id h
  dsimp only at htb hcol
  have hB : badS D = ((k != 1 && (n2 : Int) != 0) || (k != 2 && (n3 : Int) != 0) || (k != 3 && (!decide (col.size = 0) || (n5 : Int) != 0)) || (k != 5 && (n7 : Int) != 0)) := by rw [← hD]; rfl
  have hO1 : okStm D = (okName tb && !badS D && !(decide (k < 3) && (n6 : Int) != 0) && restS D) := by rw [← hD]; rfl
  have hR1 : Hid (k = 1 → restS D = (btw n2 1 20 && allN n2 (fun j => okCol (C j).s (C j).t))) := fun e => by rw [← hD]; simp [restS, e]
  have hR2 : Hid (k = 2 → restS D = (btw n3 1 20 && allN n3 (fun j => okValue (V j).o (V j).m (V j).s))) := fun e => by rw [← hD]; simp [restS, e]
  have hR3 : Hid (k = 3 → restS D = (okName col && okExp E n5 && okWhere W n6)) := fun e => by rw [← hD]; simp [restS, e]
  have hR4 : Hid (k = 4 → restS D = okWhere W n6) := fun e => by rw [← hD]; simp [restS, e]
  have hR5 : Hid (k = 5 → restS D = (btw n7 1 20 && allN n7 (fun j => okExp (O j) (m7 j)) && okWhere W n6)) := fun e => by rw [← hD]; simp [restS, e]
  have hR0 : Hid (¬ k = 1 → ¬ k = 2 → ¬ k = 3 → ¬ k = 4 → ¬ k = 5 → restS D = false) := fun e1 e2 e3 e4 e5 => by rw [← hD]; simp [restS, e1, e2, e3, e4, e5]
  have HB : Hid (badS D = _) := hB
  have HO : Hid (okStm D = _) := hO1
  clear hB hD hO1
  go_enter Tryd.func12, Tryd.ntmps12
  go_upto_region 4 with (go_at_call 31; refine (sName _ _ htb).mono ?_; rintro e w1 ⟨rfl, hb1⟩; have H1 := H0.later hb1; have Q1 := q0.later hb1; obtain ⟨q0, q1, q2, q3, q4, q5, q6, q7⟩ := id Q1; dsimp only at q0 q1 q2 q3 q4 q5 q6 q7; replace hb1 := hb0.trans (hb1.mono hb0.size); rcases hnm : okName tb)
  · go_ret
    exact ⟨retB (by rw [HO.out]; simp [hnm]), hb1⟩
  go_cut [0, 3, 58] (fun _ v3 v wx => v3 = .int .i64 k ∧ v = .bool (badS D) ∧ wx = w1)
  case first =>
    go_wp2
    all_goals go_meet
    all_goals exact ⟨by first | rfl | simp [*], congrArg Value.bool (by rw [HB.out]; simp [*]), rfl⟩
  case rest =>
    obtain ⟨rfl, rfl, rfl⟩ := hcut
    obtain ⟨-, -, hco, hva, hex, hwh, hou, l2, l3, l5, l6, l7⟩ := id H1
    dsimp only at hco hva hex hwh hou l2 l3 l5 l6 l7
    rcases hbad : badS D
    · by_cases hk3 : k < 3
      · by_cases e6 : n6 = 0
        · subst e6
          by_cases e1 : k = 1
          · subst e1
            have HR : Hid (okStm D = (btw n2 1 20 && allN n2 (fun j => okCol (C j).s (C j).t))) := by rw [Hid, HO.out, hbad, hR1.out rfl, hnm]; simp
            clear hR1 hR2 hR3 hR4 hR5 hR0 HO HB hbad
            go_wp2
            go_loopw [2, 5, 73] (fun _ _ i wr => ∃ k : Nat, k ≤ n2 ∧ i = .int .i64 k ∧ (0 < k → n2 ≤ 20) ∧ (∀ j, j < k → okCol (C j).s (C j).t = true) ∧ Below wc.heap.size wc wr) (fun _ _ i _ => n2 - (intOf i).toNat)
            case atStart => exact ⟨0, by omega, rfl, fun hh => by omega, fun j hj => by omega, Below.refl _ _⟩
            case round =>
              obtain ⟨j, hj, rfl, hm, hall, hb2⟩ := hrel
              have t2 := keepB hb2 q2
              by_cases hlt : j < n2
              · obtain ⟨b, off, rfl, d0, d1, hs⟩ := hco.later hb2 j hlt
                have t3 := keepB (bal wr (.cells #[.string (C j).s, .int .i64 (C j).t] 70)) t2
                go_wp2_with (first | (go_at_call 31; refine (sName _ _ hs).mono ?_; rintro e w3 ⟨rfl, hb3⟩; obtain ⟨f0, f1⟩ := kept2 hb3; replace hb3 := bj hb2 hb3; rcases ho : okName (C j).s) | (go_at_call 32; refine (sType _ _).mono ?_; rintro e w4 ⟨rfl, rfl⟩; rcases ht : isTyp (C j).t))
                all_goals try (go_ret; first | (refine ⟨retB (HR.out.trans (and_no hlt ?_)).symm, hb1.trans (hb3.mono hb1.size)⟩; first | (right; omega) | (left; simp [okCol, ho]; done) | (left; simp [okCol, ht]; done)) | (refine ⟨retB (HR.out.trans (and_no hlt ?_)).symm, hb1.trans ((hb2.trans ((bal _ _).mono hb2.size)).mono hb1.size)⟩; right; omega))
                go_roundw
                case rel => exact ⟨j + 1, by omega, by go_num, fun _ => by omega, fun i hi => by
                  by_cases e : i = j
                  · subst e; simp [okCol, ho, ht]
                  · exact hall i (by omega), hb3⟩
                case measure => simp [intOf]; omega
              · obtain rfl : j = n2 := by omega
                go_wp2
                go_ret
                exact ⟨retB (HR.out.trans (and_yes hall hm)).symm, hb1.trans (hb2.mono hb1.size)⟩
          · by_cases e2 : k = 2
            · subst e2
              have HR : Hid (okStm D = (btw n3 1 20 && allN n3 (fun j => okValue (V j).o (V j).m (V j).s))) := by rw [Hid, HO.out, hbad, hR2.out rfl, hnm]; simp
              clear hR1 hR2 hR3 hR4 hR5 hR0 HO HB hbad
              go_wp2
              go_loopw [2, 7, 103] (fun _ _ i wr => ∃ k : Nat, k ≤ n3 ∧ i = .int .i64 k ∧ (0 < k → n3 ≤ 20) ∧ (∀ j, j < k → okValue (V j).o (V j).m (V j).s = true) ∧ Below wc.heap.size wc wr) (fun _ _ i _ => n3 - (intOf i).toNat)
              case atStart => exact ⟨0, by omega, rfl, fun hh => by omega, fun j hj => by omega, Below.refl _ _⟩
              case round =>
                obtain ⟨j, hj, rfl, hm, hall, hb2⟩ := hrel
                have t2 := keepB hb2 q3
                by_cases hlt : j < n3
                · obtain ⟨b, off, rfl, d0, d1, d2, hs⟩ := hva.later hb2 j hlt
                  have t3 := keepB (bal wr (.cells #[.int .i64 (V j).o, .int .i64 (V j).m, .string (V j).s] 73)) t2
                  go_wp2_with (go_at_call 33; refine (sValue _ _ _ _ hs).mono ?_; rintro e w3 ⟨rfl, hb3⟩; replace hb3 := bj hb2 hb3; rcases ho : okValue (V j).o (V j).m (V j).s)
                  all_goals try (go_ret; first | (refine ⟨retB (HR.out.trans (and_no hlt ?_)).symm, hb1.trans (hb3.mono hb1.size)⟩; first | (right; omega) | (left; exact ho)) | (refine ⟨retB (HR.out.trans (and_no hlt ?_)).symm, hb1.trans ((hb2.trans ((bal _ _).mono hb2.size)).mono hb1.size)⟩; right; omega))
                  go_roundw
                  case rel => exact ⟨j + 1, by omega, by go_num, fun _ => by omega, fun i hi => by
                    by_cases e : i = j
                    · subst e; exact ho
                    · exact hall i (by omega), hb3⟩
                  case measure => simp [intOf]; omega
                · obtain rfl : j = n3 := by omega
                  go_wp2
                  go_ret
                  exact ⟨retB (HR.out.trans (and_yes hall hm)).symm, hb1.trans (hb2.mono hb1.size)⟩
            · have HR : Hid (okStm D = false) := by rw [Hid, HO.out, hR0.out e1 e2 (by omega) (by omega) (by omega)]; simp
              clear hR1 hR2 hR3 hR4 hR5 hR0 HO HB hbad
              go_wp2
              go_ret
              exact ⟨retB (by rw [HR.out]), hb1⟩
        · have e6i : ¬ (n6 : Int) = 0 := by omega
          have HR : Hid (okStm D = false) := by rw [Hid, HO.out]; simp [hk3, e6]
          clear hR1 hR2 hR3 hR4 hR5 hR0 HO HB hbad
          go_wp2
          go_ret
          exact ⟨retB (by rw [HR.out]), hb1⟩
      · have hk3' : 3 ≤ k := by omega
        have HO3 : Hid (okStm D = restS D) := by rw [Hid, HO.out, hbad, hnm]; simp [hk3]
        clear hR1 hR2 HO HB hbad
        by_cases e3 : k = 3
        · subst e3
          have HR : Hid (okStm D = (okName col && okExp E n5 && okWhere W n6)) := HO3.out.trans (hR3.out rfl)
          clear hR3 hR4 hR5 hR0 HO3
          go_wp2_with (first | (go_at_call 31; refine (sName col _ hcol).mono ?_; rintro e w2 ⟨rfl, hb2⟩; have H2 := H1.later hb2; obtain ⟨-, -, -, -, -, r5, r6, -⟩ := Q1.later hb2; dsimp only at r5 r6; replace hb2 := hb1.trans (hb2.mono hb1.size); rcases ho : okName col) | (go_at_call 34; refine (sExp a5 n5 c5 E _ H2.ex l5).mono ?_; rintro e w3 ⟨rfl, hb3⟩; have H3 := H2.later hb3; have s6 := keepB hb3 r6; replace hb3 := hb2.trans (hb3.mono hb2.size); rcases hx : okExp E n5) | (go_at_call 35; refine (sWhere a6 n6 c6 W _ H3.wh l6).mono ?_; rintro e w4 ⟨rfl, hb4⟩; replace hb4 := hb3.trans (hb4.mono hb3.size)))
          · go_ret
            exact ⟨retB (by rw [HR.out, ho]; simp), hb2⟩
          · go_ret
            exact ⟨retB (by rw [HR.out, hx]; simp), hb3⟩
          · go_ret
            exact ⟨retB (by rw [HR.out, ho, hx]; simp), hb4⟩
        by_cases e4 : k = 4
        · subst e4
          have HR : Hid (okStm D = okWhere W n6) := HO3.out.trans (hR4.out rfl)
          clear hR3 hR4 hR5 hR0 HO3
          go_wp2_with (go_at_call 35; refine (sWhere a6 n6 c6 W _ hwh l6).mono ?_; rintro e w4 ⟨rfl, hb4⟩; replace hb4 := hb1.trans (hb4.mono hb1.size))
          go_ret
          exact ⟨retB (by rw [HR.out]), hb4⟩
        by_cases e5 : k = 5
        · subst e5
          have HR : Hid (okStm D = ((btw n7 1 20 && allN n7 (fun j => okExp (O j) (m7 j))) && okWhere W n6)) := HO3.out.trans (hR5.out rfl)
          clear hR3 hR4 hR5 hR0 HO3
          go_wp2
          go_loopw [2, 9, 146] (fun _ _ i wr => ∃ k : Nat, k ≤ n7 ∧ i = .int .i64 k ∧ (0 < k → n7 ≤ 20) ∧ (∀ j, j < k → okExp (O j) (m7 j) = true) ∧ Below wc.heap.size wc wr) (fun _ _ i _ => n7 - (intOf i).toNat)
          case atStart => exact ⟨0, by omega, rfl, fun hh => by omega, fun j hj => by omega, Below.refl _ _⟩
          case round =>
            obtain ⟨j, hj, rfl, hm, hall, hb2⟩ := hrel
            have t2 := keepB hb2 q7
            have t6 := keepB hb2 q6
            by_cases hlt : j < n7
            · obtain ⟨b, off, i, c, rfl, d0, di, dm⟩ := hou.later hb2 j hlt
              go_wp2_with (go_at_call 34; refine (sExp i _ c _ _ di dm).mono ?_; rintro e w3 ⟨rfl, hb3⟩; replace hb3 := hb2.trans (hb3.mono hb2.size); rcases ho : okExp (O j) (m7 j))
              all_goals try (go_ret; first | (refine ⟨retB (HR.out.trans (and_no2 (and_no hlt ?_))).symm, hb1.trans (hb3.mono hb1.size)⟩; first | (right; omega) | (left; exact ho)) | (refine ⟨retB (HR.out.trans (and_no2 (and_no hlt ?_))).symm, hb1.trans (hb2.mono hb1.size)⟩; right; omega))
              go_roundw
              case rel => exact ⟨j + 1, by omega, by go_num, fun _ => by omega, fun i hi => by
                by_cases e : i = j
                · subst e; exact ho
                · exact hall i (by omega), hb3⟩
              case measure => simp [intOf]; omega
            · obtain rfl : j = n7 := by omega
              have hyy := and_yes hall hm
              by_cases h0 : 0 < (j : Int)
              · go_wp2_with (go_at_call 35; refine (sWhere a6 n6 c6 W _ (hwh.later hb2) l6).mono ?_; rintro e w3 ⟨rfl, hb3⟩; replace hb3 := hb2.trans (hb3.mono hb2.size))
                go_ret
                exact ⟨retB (by rw [HR.out, hyy, decide_eq_true (show 0 < j by omega)]; simp), hb1.trans (hb3.mono hb1.size)⟩
              · have h0' : decide (0 < (j : Int)) = false := by simp; omega
                go_wp2
                go_ret
                exact ⟨retB (by rw [HR.out, hyy, decide_eq_false (show ¬ 0 < j by omega)]; simp), hb1.trans (hb2.mono hb1.size)⟩
        have HR : Hid (okStm D = false) := HO3.out.trans (hR0.out (by omega) (by omega) e3 e4 e5)
        clear hR3 hR4 hR5 hR0 HO3
        go_wp2
        go_ret
        exact ⟨retB (by rw [HR.out]), hb1⟩
    · have HR : Hid (okStm D = false) := by rw [Hid, HO.out, hbad]; simp
      clear hR1 hR2 hR3 hR4 hR5 hR0 HO HB
      go_wp2
      go_ret
      exact ⟨retB (by rw [HR.out]), hb1⟩
theorem sStm (d : St) (p : Sa) (w : World) (h : SM w d p) : Calls Tryd.prog 12 #[.agg (cs8 d p)] w fun e w' => e = .returned (.bool (okStm d)) ∧ Below w.heap.size w w' := by
  obtain ⟨k, tb, n2, C, n3, V, col, n5, E, n6, W, n7, m7, O⟩ := d
  obtain ⟨a2, c2, a3, c3, a5, c5, a6, c6, a7, c7⟩ := p
  exact sStm_as k tb n2 C n3 V col n5 E n6 W n7 m7 O a2 c2 a3 c3 a5 c5 a6 c6 a7 c7 _ rfl w h
end Go.Proofs.YtfodndnkhgijmaaDoor
