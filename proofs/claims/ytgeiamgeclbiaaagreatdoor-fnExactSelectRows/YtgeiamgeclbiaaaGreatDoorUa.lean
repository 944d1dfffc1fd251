/-
  Expressions carried out: the specification's small functions.
-/
import Derived.Test.YtgeiamgeclbiaaaGreatDoorNr
import Derived.Test.YtgeiamgeclbiaaaGreatDoorTf
import Derived.Laws.Cover1
namespace Go.Proofs.YtgeiamgeclbiaaaGreatDoor
open Go.RowKit Go.Maps Go.WideMaps
set_option maxRecDepth 20000 in
set_option maxHeartbeats 8000000 in
theorem sStm_as (k : Int) (tb : ByteArray) (n2 : Nat) (C : Nat → Clm) (n3 : Nat) (V : Nat → Itm) (col : ByteArray) (n5 : Nat) (E : Nat → Itm) (n6 : Nat) (W : Nat → Itm) (n7 : Nat) (m7 : Nat → Nat) (O : Nat → Nat → Itm)
    (a2 : Option Addr) (c2 : Nat) (a3 : Option Addr) (c3 : Nat) (a5 : Option Addr) (c5 : Nat) (a6 : Option Addr) (c6 : Nat) (a7 : Option Addr) (c7 : Nat) (D : St) (hD : (⟨k, tb, n2, C, n3, V, col, n5, E, n6, W, n7, m7, O⟩ : St) = D)
    (w : World) (h : SM w ⟨k, tb, n2, C, n3, V, col, n5, E, n6, W, n7, m7, O⟩ ⟨a2, c2, a3, c3, a5, c5, a6, c6, a7, c7⟩) :
    Calls Tryz.prog 51 #[.agg #[.int .i64 k, .string tb, .slice a2 n2 c2, .slice a3 n3 c3, .string col, .slice a5 n5 c5, .slice a6 n6 c6, .slice a7 n7 c7]] w fun e w' => e = .returned (.bool (okStm D)) ∧ Below w.heap.size w w' := by
  have hb0 := bal w (.cells #[.int .i64 k, .string tb, .slice a2 n2 c2, .slice a3 n3 c3, .string col, .slice a5 n5 c5, .slice a6 n6 c6, .slice a7 n7 c7] 45)
  have H0 := h.later hb0
  have q0 : B8 (w.alloc (.cells #[.int .i64 k, .string tb, .slice a2 n2 c2, .slice a3 n3 c3, .string col, .slice a5 n5 c5, .slice a6 n6 c6, .slice a7 n7 c7] 45)) w.heap.size ⟨k, tb, n2, C, n3, V, col, n5, E, n6, W, n7, m7, O⟩ ⟨a2, c2, a3, c3, a5, c5, a6, c6, a7, c7⟩ := B8.new w ⟨k, tb, n2, C, n3, V, col, n5, E, n6, W, n7, m7, O⟩ ⟨a2, c2, a3, c3, a5, c5, a6, c6, a7, c7⟩ 45
  have hE := isE col
  obtain ⟨htb, hcol, -, -, -, -, -, -, -, -, -, -⟩ := id h
  dsimp only at htb hcol
  have hB : badS D = ((k != 1 && (n2 : Int) != 0) || (k != 2 && (n3 : Int) != 0) || (k != 3 && (!decide (col.size = 0) || (n5 : Int) != 0)) || (k != 5 && (n7 : Int) != 0)) := by rw [← hD]; rfl
  have hO1 : okStm D = (okName tb && !badS D && !(decide (k < 3) && (n6 : Int) != 0) && restS D) := by rw [← hD]; rfl
  have hR1 : Hid (k = 1 → restS D = (btw n2 1 20 && allN n2 (fun j => okCol (C j).s (C j).t))) := fun e => by rw [← hD]; simp [restS, e]
  have hR2 : Hid (k = 2 → restS D = (btw n3 1 20 && allN n3 (fun j => okValue (V j).o (V j).m (V j).s))) := fun e => by rw [← hD]; simp [restS, e]
  have hR3 : Hid (k = 3 → restS D = (okName col && okExp E n5 && okWhere W n6)) := fun e => by rw [← hD]; simp [restS, e]
  have hR4 : Hid (k = 4 → restS D = okWhere W n6) := fun e => by rw [← hD]; simp [restS, e]
  have hR5 : Hid (k = 5 → restS D = (btw n7 1 20 && allN n7 (fun j => okExp (O j) (m7 j)) && okWhere W n6)) := fun e => by rw [← hD]; simp [restS, e]
  have hR0 : Hid (¬ k = 1 → ¬ k = 2 → ¬ k = 3 → ¬ k = 4 → ¬ k = 5 → restS D = false) := fun e1 e2 e3 e4 e5 => by rw [← hD]; simp [restS, e1, e2, e3, e4, e5]
  have HB : Hid (badS D = _) := hB
  have HO : Hid (okStm D = _) := hO1
  clear hB hD hO1
  go_enter Tryz.func51, Tryz.ntmps51
  go_upto_region 4 with (go_at_call 98; refine (sName _ _ htb).mono ?_; rintro e w1 ⟨rfl, hb1⟩; have H1 := H0.later hb1; have Q1 := q0.later hb1; obtain ⟨q0, q1, q2, q3, q4, q5, q6, q7⟩ := id Q1; dsimp only at q0 q1 q2 q3 q4 q5 q6 q7; replace hb1 := hb0.trans (hb1.mono hb0.size); rcases hnm : okName tb)
  · go_ret
    exact ⟨retB (by rw [HO.out]; simp [hnm]), hb1⟩
  go_cut [0, 3, 58] (fun _ v3 v wx => v3 = .int .i64 k ∧ v = .bool (badS D) ∧ wx = w1)
  case first =>
    go_wp2
    all_goals go_meet
    all_goals exact ⟨by first | rfl | simp [*], congrArg Value.bool (by rw [HB.out]; simp [*]), rfl⟩
  case rest =>
    obtain ⟨rfl, rfl, rfl⟩ := hcut
    obtain ⟨-, -, hco, hva, hex, hwh, hou, l2, l3, l5, l6, l7⟩ := id H1
    dsimp only at hco hva hex hwh hou l2 l3 l5 l6 l7
    rcases hbad : badS D
    · by_cases hk3 : k < 3
      · by_cases e6 : n6 = 0
        · subst e6
          by_cases e1 : k = 1
          · subst e1
            have HR : Hid (okStm D = (btw n2 1 20 && allN n2 (fun j => okCol (C j).s (C j).t))) := by rw [Hid, HO.out, hbad, hR1.out rfl, hnm]; simp
            clear hR1 hR2 hR3 hR4 hR5 hR0 HO HB hbad
            go_wp2
            go_loopw [2, 5, 73] (fun _ _ i wr => ∃ k : Nat, k ≤ n2 ∧ i = .int .i64 k ∧ (0 < k → n2 ≤ 20) ∧ (∀ j, j < k → okCol (C j).s (C j).t = true) ∧ Below wc.heap.size wc wr) (fun _ _ i _ => n2 - (intOf i).toNat)
            case atStart => exact ⟨0, by omega, rfl, fun hh => by omega, fun j hj => by omega, Below.refl _ _⟩
            case round =>
              obtain ⟨j, hj, rfl, hm, hall, hb2⟩ := hrel
              have t2 := keepB hb2 q2
              by_cases hlt : j < n2
              · obtain ⟨b, off, rfl, d0, d1, hs⟩ := hco.later hb2 j hlt
                have t3 := keepB (bal wr (.cells #[.string (C j).s, .int .i64 (C j).t] 113)) t2
                go_wp2_with (first | (go_at_call 98; refine (sName _ _ hs).mono ?_; rintro e w3 ⟨rfl, hb3⟩; obtain ⟨f0, f1⟩ := kept2 hb3; replace hb3 := bj hb2 hb3; rcases ho : okName (C j).s) | (go_at_call 99; refine (sType _ _).mono ?_; rintro e w4 ⟨rfl, rfl⟩; rcases ht : isTyp (C j).t))
                all_goals try (go_ret; first | (refine ⟨retB (HR.out.trans (and_no hlt ?_)).symm, hb1.trans (hb3.mono hb1.size)⟩; first | (right; omega) | (left; simp [okCol, ho]; done) | (left; simp [okCol, ht]; done)) | (refine ⟨retB (HR.out.trans (and_no hlt ?_)).symm, hb1.trans ((hb2.trans ((bal _ _).mono hb2.size)).mono hb1.size)⟩; right; omega))
                go_roundw
                case rel => exact ⟨j + 1, by omega, by go_num, fun _ => by omega, fun i hi => by
                  by_cases e : i = j
                  · subst e; simp [okCol, ho, ht]
                  · exact hall i (by omega), hb3⟩
                case measure => simp [intOf]; omega
              · obtain rfl : j = n2 := by omega
                go_wp2
                go_ret
                exact ⟨retB (HR.out.trans (and_yes hall hm)).symm, hb1.trans (hb2.mono hb1.size)⟩
          · by_cases e2 : k = 2
            · subst e2
              have HR : Hid (okStm D = (btw n3 1 20 && allN n3 (fun j => okValue (V j).o (V j).m (V j).s))) := by rw [Hid, HO.out, hbad, hR2.out rfl, hnm]; simp
              clear hR1 hR2 hR3 hR4 hR5 hR0 HO HB hbad
              go_wp2
              go_loopw [2, 7, 103] (fun _ _ i wr => ∃ k : Nat, k ≤ n3 ∧ i = .int .i64 k ∧ (0 < k → n3 ≤ 20) ∧ (∀ j, j < k → okValue (V j).o (V j).m (V j).s = true) ∧ Below wc.heap.size wc wr) (fun _ _ i _ => n3 - (intOf i).toNat)
              case atStart => exact ⟨0, by omega, rfl, fun hh => by omega, fun j hj => by omega, Below.refl _ _⟩
              case round =>
                obtain ⟨j, hj, rfl, hm, hall, hb2⟩ := hrel
                have t2 := keepB hb2 q3
                by_cases hlt : j < n3
                · obtain ⟨b, off, rfl, d0, d1, d2, hs⟩ := hva.later hb2 j hlt
                  have t3 := keepB (bal wr (.cells #[.int .i64 (V j).o, .int .i64 (V j).m, .string (V j).s] 66)) t2
                  go_wp2_with (go_at_call 100; refine (sValue _ _ _ _ hs).mono ?_; rintro e w3 ⟨rfl, hb3⟩; replace hb3 := bj hb2 hb3; rcases ho : okValue (V j).o (V j).m (V j).s)
                  all_goals try (go_ret; first | (refine ⟨retB (HR.out.trans (and_no hlt ?_)).symm, hb1.trans (hb3.mono hb1.size)⟩; first | (right; omega) | (left; exact ho)) | (refine ⟨retB (HR.out.trans (and_no hlt ?_)).symm, hb1.trans ((hb2.trans ((bal _ _).mono hb2.size)).mono hb1.size)⟩; right; omega))
                  go_roundw
                  case rel => exact ⟨j + 1, by omega, by go_num, fun _ => by omega, fun i hi => by
                    by_cases e : i = j
                    · subst e; exact ho
                    · exact hall i (by omega), hb3⟩
                  case measure => simp [intOf]; omega
                · obtain rfl : j = n3 := by omega
                  go_wp2
                  go_ret
                  exact ⟨retB (HR.out.trans (and_yes hall hm)).symm, hb1.trans (hb2.mono hb1.size)⟩
            · have HR : Hid (okStm D = false) := by rw [Hid, HO.out, hR0.out e1 e2 (by omega) (by omega) (by omega)]; simp
              clear hR1 hR2 hR3 hR4 hR5 hR0 HO HB hbad
              go_wp2
              go_ret
              exact ⟨retB (by rw [HR.out]), hb1⟩
        · have e6i : ¬ (n6 : Int) = 0 := by omega
          have HR : Hid (okStm D = false) := by rw [Hid, HO.out]; simp [hk3, e6]
          clear hR1 hR2 hR3 hR4 hR5 hR0 HO HB hbad
          go_wp2
          go_ret
          exact ⟨retB (by rw [HR.out]), hb1⟩
      · have hk3' : 3 ≤ k := by omega
        have HO3 : Hid (okStm D = restS D) := by rw [Hid, HO.out, hbad, hnm]; simp [hk3]
        clear hR1 hR2 HO HB hbad
        by_cases e3 : k = 3
        · subst e3
          have HR : Hid (okStm D = (okName col && okExp E n5 && okWhere W n6)) := HO3.out.trans (hR3.out rfl)
          clear hR3 hR4 hR5 hR0 HO3
          go_wp2_with (first | (go_at_call 98; refine (sName col _ hcol).mono ?_; rintro e w2 ⟨rfl, hb2⟩; have H2 := H1.later hb2; obtain ⟨-, -, -, -, -, r5, r6, -⟩ := Q1.later hb2; dsimp only at r5 r6; replace hb2 := hb1.trans (hb2.mono hb1.size); rcases ho : okName col) | (go_at_call 101; refine (sExp a5 n5 c5 E _ H2.ex l5).mono ?_; rintro e w3 ⟨rfl, hb3⟩; have H3 := H2.later hb3; have s6 := keepB hb3 r6; replace hb3 := hb2.trans (hb3.mono hb2.size); rcases hx : okExp E n5) | (go_at_call 102; refine (sWhere a6 n6 c6 W _ H3.wh l6).mono ?_; rintro e w4 ⟨rfl, hb4⟩; replace hb4 := hb3.trans (hb4.mono hb3.size)))
          · go_ret
            exact ⟨retB (by rw [HR.out, ho]; simp), hb2⟩
          · go_ret
            exact ⟨retB (by rw [HR.out, hx]; simp), hb3⟩
          · go_ret
            exact ⟨retB (by rw [HR.out, ho, hx]; simp), hb4⟩
        by_cases e4 : k = 4
        · subst e4
          have HR : Hid (okStm D = okWhere W n6) := HO3.out.trans (hR4.out rfl)
          clear hR3 hR4 hR5 hR0 HO3
          go_wp2_with (go_at_call 102; refine (sWhere a6 n6 c6 W _ hwh l6).mono ?_; rintro e w4 ⟨rfl, hb4⟩; replace hb4 := hb1.trans (hb4.mono hb1.size))
          go_ret
          exact ⟨retB (by rw [HR.out]), hb4⟩
        by_cases e5 : k = 5
        · subst e5
          have HR : Hid (okStm D = ((btw n7 1 20 && allN n7 (fun j => okExp (O j) (m7 j))) && okWhere W n6)) := HO3.out.trans (hR5.out rfl)
          clear hR3 hR4 hR5 hR0 HO3
          go_wp2
          go_loopw [2, 9, 146] (fun _ _ i wr => ∃ k : Nat, k ≤ n7 ∧ i = .int .i64 k ∧ (0 < k → n7 ≤ 20) ∧ (∀ j, j < k → okExp (O j) (m7 j) = true) ∧ Below wc.heap.size wc wr) (fun _ _ i _ => n7 - (intOf i).toNat)
          case atStart => exact ⟨0, by omega, rfl, fun hh => by omega, fun j hj => by omega, Below.refl _ _⟩
          case round =>
            obtain ⟨j, hj, rfl, hm, hall, hb2⟩ := hrel
            have t2 := keepB hb2 q7
            have t6 := keepB hb2 q6
            by_cases hlt : j < n7
            · obtain ⟨b, off, i, c, rfl, d0, di, dm⟩ := hou.later hb2 j hlt
              go_wp2_with (go_at_call 101; refine (sExp i _ c _ _ di dm).mono ?_; rintro e w3 ⟨rfl, hb3⟩; replace hb3 := hb2.trans (hb3.mono hb2.size); rcases ho : okExp (O j) (m7 j))
              all_goals try (go_ret; first | (refine ⟨retB (HR.out.trans (and_no2 (and_no hlt ?_))).symm, hb1.trans (hb3.mono hb1.size)⟩; first | (right; omega) | (left; exact ho)) | (refine ⟨retB (HR.out.trans (and_no2 (and_no hlt ?_))).symm, hb1.trans (hb2.mono hb1.size)⟩; right; omega))
              go_roundw
              case rel => exact ⟨j + 1, by omega, by go_num, fun _ => by omega, fun i hi => by
                by_cases e : i = j
                · subst e; exact ho
                · exact hall i (by omega), hb3⟩
              case measure => simp [intOf]; omega
            · obtain rfl : j = n7 := by omega
              have hyy := and_yes hall hm
              by_cases h0 : 0 < (j : Int)
              · go_wp2_with (go_at_call 102; refine (sWhere a6 n6 c6 W _ (hwh.later hb2) l6).mono ?_; rintro e w3 ⟨rfl, hb3⟩; replace hb3 := hb2.trans (hb3.mono hb2.size))
                go_ret
                exact ⟨retB (by rw [HR.out, hyy, decide_eq_true (show 0 < j by omega)]; simp), hb1.trans (hb3.mono hb1.size)⟩
              · have h0' : decide (0 < (j : Int)) = false := by simp; omega
                go_wp2
                go_ret
                exact ⟨retB (by rw [HR.out, hyy, decide_eq_false (show ¬ 0 < j by omega)]; simp), hb1.trans (hb2.mono hb1.size)⟩
        have HR : Hid (okStm D = false) := HO3.out.trans (hR0.out (by omega) (by omega) e3 e4 e5)
        clear hR3 hR4 hR5 hR0 HO3
        go_wp2
        go_ret
        exact ⟨retB (by rw [HR.out]), hb1⟩
    · have HR : Hid (okStm D = false) := by rw [Hid, HO.out, hbad]; simp
      clear hR1 hR2 hR3 hR4 hR5 hR0 HO HB
      go_wp2
      go_ret
      exact ⟨retB (by rw [HR.out]), hb1⟩
end Go.Proofs.YtgeiamgeclbiaaaGreatDoor
namespace Go.Proofs.YtgeiamgeclbiaaaGreatDoor
open Go.RowKit Go.Maps Go.WideMaps
/-- A value is right for a column of type k. -/
def rightB (o m : Int) (s : ByteArray) (k : Int) : Bool := o == k && (if k == 1 then decide (s.size = 0) else m == 0 && okText s)
set_option maxRecDepth 20000 in
set_option maxHeartbeats 2000000 in
theorem sRight (o m : Int) (s : ByteArray) (k : Int) (w : World) (hs : s.size ≤ 1048576) : Calls Tryz.prog 138 #[.agg #[.int .i64 o, .int .i64 m, .string s], .int .i64 k] w fun e w' => e = .returned (.bool (rightB o m s k)) ∧ Below w.heap.size w w' := by
  have hb0 := bal w (.cells #[.int .i64 o, .int .i64 m, .string s] 66)
  have hE := isE s
  rcases h1 : (o == k)
  · go_enter Tryz.func138, Tryz.ntmps138
    go_wp2
    go_ret
    exact ⟨retB (by simp [rightB, h1]), hb0⟩
  rcases h2 : (k == 1)
  · rcases h3 : (m == 0)
    · go_enter Tryz.func138, Tryz.ntmps138
      go_wp2
      go_ret
      exact ⟨retB (by simp [rightB, h1, h2, h3]), hb0⟩
    · go_enter Tryz.func138, Tryz.ntmps138
      go_wp2_with (go_at_call 144; refine (sText s _ hs).mono ?_; rintro e w1 ⟨rfl, hb1⟩)
      go_ret
      exact ⟨retB (by simp [rightB, h1, h2, h3]), hb0⟩
  · go_enter Tryz.func138, Tryz.ntmps138
    go_wp2
    go_ret
    exact ⟨retB (by simp [rightB, h1, h2]), hb0⟩
/-- One value comes before another of its type. -/
def befV (m : Int) (s : ByteArray) (m' : Int) (s' : ByteArray) : Bool := decide (m < m') || Op.bytesLess s.toList s'.toList
set_option maxRecDepth 20000 in
set_option maxHeartbeats 4000000 in
theorem sCompare (o m : Int) (s : ByteArray) (o' m' : Int) (s' : ByteArray) (w : World) : Calls Tryz.prog 106 #[.agg #[.int .i64 o, .int .i64 m, .string s], .agg #[.int .i64 o', .int .i64 m', .string s']] w fun e w' => ∃ r : Int, e = .returned (.int .i64 r) ∧ (0 ≤ r ↔ befV m s m' s' = false) ∧ Below w.heap.size w w' := by
  have hb0 := bstep (bal w (.cells #[.int .i64 o, .int .i64 m, .string s] 66)) (bal _ (.cells #[.int .i64 o', .int .i64 m', .string s'] 66))
  by_cases h1 : m < m'
  · have HB : Hid (befV m s m' s' = true) := by simp [Hid, befV, h1]
    go_enter Tryz.func106, Tryz.ntmps106
    go_wp2
    all_goals go_ret
    all_goals exact ⟨_, rfl, by rw [HB.out]; simp, hb0⟩
  rcases h2 : Op.bytesLess s.toList s'.toList
  · have HB : Hid (befV m s m' s' = false) := by simp [Hid, befV, h2]; omega
    by_cases h3 : m' < m
    · go_enter Tryz.func106, Tryz.ntmps106
      go_wp2
      all_goals go_ret
      all_goals exact ⟨_, rfl, by rw [HB.out]; simp, hb0⟩
    · rcases h4 : (s.toList == s'.toList)
      · go_enter Tryz.func106, Tryz.ntmps106
        go_wp2
        all_goals go_ret
        all_goals exact ⟨_, rfl, by rw [HB.out]; simp, hb0⟩
      · go_enter Tryz.func106, Tryz.ntmps106
        go_wp2
        all_goals go_ret
        all_goals exact ⟨_, rfl, by rw [HB.out]; simp, hb0⟩
  · have HB : Hid (befV m s m' s' = true) := by simp [Hid, befV, h2]
    go_enter Tryz.func106, Tryz.ntmps106
    go_wp2
    all_goals go_ret
    all_goals exact ⟨_, rfl, by rw [HB.out]; simp, hb0⟩
/-- One of the first n columns bears this name. -/
def hasCol (C : Nat → Clm) (s : ByteArray) : Nat → Bool
  | 0 => false
  | k + 1 => hasCol C s k || (C k).s.toList == s.toList
theorem hasCol_mono {C : Nat → Clm} {s : ByteArray} {k : Nat} (h : hasCol C s k = true) : ∀ n, k ≤ n → hasCol C s n = true := by
  intro n hn
  induction n with
  | zero => obtain rfl : k = 0 := by omega
            exact h
  | succ n ih =>
    by_cases e : k = n + 1
    · subst e; exact h
    · rw [hasCol, ih (by omega)]; rfl
set_option maxRecDepth 20000 in
set_option maxHeartbeats 4000000 in
theorem sCol (a : Option Addr) (n c : Nat) (C : Nat → Clm) (s : ByteArray) (w : World) (h : CL w a n C) (hn : n ≤ 1048576) : Calls Tryz.prog 67 #[.slice a n c, .string s] w fun e w' => ∃ r : Int, e = .returned (.int .i64 r) ∧ (0 ≤ r ↔ hasCol C s n = true) ∧ Below w.heap.size w w' := by
  have hb0 := Below.refl w.heap.size w
  go_enter Tryz.func67, Tryz.ntmps67
  go_wp2
  go_loopw [5, 6, 9] (fun _ _ i wr => ∃ k : Nat, k ≤ n ∧ i = .int .i64 k ∧ hasCol C s k = false ∧ Below w.heap.size w wr) (fun _ _ i _ => n - (intOf i).toNat)
  case atStart => exact ⟨0, by omega, rfl, rfl, hb0⟩
  case round =>
    obtain ⟨k, hk, rfl, hno, hb⟩ := hrel
    by_cases hlt : k < n
    · obtain ⟨b, off, rfl, d0, d1, hs⟩ := h.later hb k hlt
      have HN : Hid (hasCol C s (k + 1) = (hasCol C s k || (C k).s.toList == s.toList)) := rfl
      rcases he : ((C k).s.toList == s.toList)
      · go_wp2
        go_roundw
        case rel => exact ⟨k + 1, by omega, by go_num, by rw [HN.out, hno, he]; rfl, bj hb (Below.refl _ _)⟩
        case measure => simp [intOf]; omega
      · go_wp2
        go_ret
        refine ⟨_, rfl, ⟨fun _ => hasCol_mono (k := k + 1) (by rw [HN.out, he]; simp) n (by omega), fun _ => by omega⟩, bj hb (Below.refl _ _)⟩
    · obtain rfl : k = n := by omega
      go_wp2
      go_ret
      exact ⟨_, rfl, by rw [hno]; simp, hb⟩
end Go.Proofs.YtgeiamgeclbiaaaGreatDoor
namespace Go.Proofs.YtgeiamgeclbiaaaGreatDoor
open Go.RowKit Go.Maps Go.WideMaps
/-- How two values of one type stand to each other. -/
def cmpV (m : Int) (s : ByteArray) (m' : Int) (s' : ByteArray) : Int := if befV m s m' s' = true then -1 else if (decide (m' < m) || !(s.toList == s'.toList)) = true then 1 else 0
set_option maxRecDepth 20000 in
set_option maxHeartbeats 4000000 in
theorem sCompare2 (o m : Int) (s : ByteArray) (o' m' : Int) (s' : ByteArray) (w : World) : Calls Tryz.prog 106 #[.agg #[.int .i64 o, .int .i64 m, .string s], .agg #[.int .i64 o', .int .i64 m', .string s']] w fun e w' => e = .returned (.int .i64 (cmpV m s m' s')) ∧ Below w.heap.size w w' := by
  have hb0 := bstep (bal w (.cells #[.int .i64 o, .int .i64 m, .string s] 66)) (bal _ (.cells #[.int .i64 o', .int .i64 m', .string s'] 66))
  by_cases h1 : m < m'
  · have HB : Hid (cmpV m s m' s' = -1) := by simp [Hid, cmpV, befV, h1]
    go_enter Tryz.func106, Tryz.ntmps106
    go_wp2
    all_goals go_ret
    all_goals exact ⟨by rw [HB.out]; rfl, hb0⟩
  rcases h2 : Op.bytesLess s.toList s'.toList
  · by_cases h3 : m' < m
    · have HB : Hid (cmpV m s m' s' = 1) := by simp [Hid, cmpV, befV, h1, h2, h3]
      go_enter Tryz.func106, Tryz.ntmps106
      go_wp2
      all_goals go_ret
      all_goals exact ⟨by rw [HB.out]; rfl, hb0⟩
    · rcases h4 : (s.toList == s'.toList)
      · have HB : Hid (cmpV m s m' s' = 1) := by simp [Hid, cmpV, befV, h1, h2, h3, h4]
        go_enter Tryz.func106, Tryz.ntmps106
        go_wp2
        all_goals go_ret
        all_goals exact ⟨by rw [HB.out]; rfl, hb0⟩
      · have HB : Hid (cmpV m s m' s' = 0) := by simp [Hid, cmpV, befV, h1, h2, h3, h4]
        go_enter Tryz.func106, Tryz.ntmps106
        go_wp2
        all_goals go_ret
        all_goals exact ⟨by rw [HB.out]; rfl, hb0⟩
  · have HB : Hid (cmpV m s m' s' = -1) := by simp [Hid, cmpV, befV, h2]
    go_enter Tryz.func106, Tryz.ntmps106
    go_wp2
    all_goals go_ret
    all_goals exact ⟨by rw [HB.out]; rfl, hb0⟩
/-- The place of the first column of a name. -/
def colI (C : Nat → Clm) (s : ByteArray) : Nat → Option Nat
  | 0 => none
  | k + 1 => match colI C s k with
    | some j => some j
    | none => if ((C k).s.toList == s.toList) = true then some k else none
def colZ (o : Option Nat) : Int := match o with
  | some j => (j : Int)
  | none => -1
theorem colI_mono {C : Nat → Clm} {s : ByteArray} {k j : Nat} (h : colI C s k = some j) : ∀ n, k ≤ n → colI C s n = some j := by
  intro n hn
  induction n with
  | zero => obtain rfl : k = 0 := by omega
            exact h
  | succ n ih =>
    by_cases e : k = n + 1
    · subst e; exact h
    · rw [colI, ih (by omega)]
theorem colI_lt {C : Nat → Clm} {s : ByteArray} : ∀ {n j : Nat}, colI C s n = some j → j < n ∧ (C j).s = s
  | 0, j, h => by cases h
  | n + 1, j, h => by
    rw [colI] at h
    split at h
    · rename_i i hi
      cases h
      have := colI_lt hi
      exact ⟨by omega, this.2⟩
    · split at h
      · rename_i he
        cases h
        exact ⟨by omega, bytes_inj2 (eq_of_beq he)⟩
      · cases h
set_option maxRecDepth 20000 in
set_option maxHeartbeats 4000000 in
theorem sCol2 (a : Option Addr) (n c : Nat) (C : Nat → Clm) (s : ByteArray) (w : World) (h : CL w a n C) (hn : n ≤ 1048576) : Calls Tryz.prog 67 #[.slice a n c, .string s] w fun e w' => e = .returned (.int .i64 (colZ (colI C s n))) ∧ Below w.heap.size w w' := by
  have hb0 := Below.refl w.heap.size w
  go_enter Tryz.func67, Tryz.ntmps67
  go_wp2
  go_loopw [5, 6, 9] (fun _ _ i wr => ∃ k : Nat, k ≤ n ∧ i = .int .i64 k ∧ colI C s k = none ∧ Below w.heap.size w wr) (fun _ _ i _ => n - (intOf i).toNat)
  case atStart => exact ⟨0, by omega, rfl, rfl, hb0⟩
  case round =>
    obtain ⟨k, hk, rfl, hno, hb⟩ := hrel
    have HNO : Hid (colI C s k = none) := hno
    clear hno
    by_cases hlt : k < n
    · obtain ⟨b, off, rfl, d0, d1, hs⟩ := h.later hb k hlt
      have HN : Hid (colI C s (k + 1) = if ((C k).s.toList == s.toList) = true then some k else none) := by show _ = _; rw [colI, HNO.out]
      rcases he : ((C k).s.toList == s.toList)
      · go_wp2
        go_roundw
        case rel => exact ⟨k + 1, by omega, by go_num, by rw [HN.out, he]; rfl, bj hb (Below.refl _ _)⟩
        case measure => simp [intOf]; omega
      · go_wp2
        go_ret
        refine ⟨?_, bj hb (Below.refl _ _)⟩
        rw [colI_mono (k := k + 1) (j := k) (by rw [HN.out, he]; rfl) n (by omega)]
        rfl
    · obtain rfl : k = n := by omega
      go_wp2
      go_ret
      exact ⟨by rw [HNO.out]; rfl, hb⟩
def tvI (b : Bool) : Int := if b = true then 1 else 0
def tru (b : Bool) : Itm := ⟨1, tvI b, ⟨#[]⟩⟩
set_option maxRecDepth 20000 in
set_option maxHeartbeats 4000000 in
theorem sTruth (b : Bool) (w : World) : Calls Tryz.prog 113 #[.bool b] w fun e w' => e = .returned (.agg #[.int .i64 1, .int .i64 (tvI b), .string ⟨#[]⟩]) ∧ Below w.heap.size w w' := by
  cases b
  · go_enter Tryz.func113, Tryz.ntmps113
    go_wp2
    exact bodyPost_ret (v := .agg #[.int .i64 1, .int .i64 0, .string ⟨#[]⟩]) (by simp [results, Tryz.results113, go_sem]) rfl ⟨rfl, bal _ _⟩
  · go_enter Tryz.func113, Tryz.ntmps113
    go_wp2
    exact bodyPost_ret (v := .agg #[.int .i64 1, .int .i64 1, .string ⟨#[]⟩]) (by simp [results, Tryz.results113, go_sem]) rfl ⟨rfl, bal _ _⟩
end Go.Proofs.YtgeiamgeclbiaaaGreatDoor
