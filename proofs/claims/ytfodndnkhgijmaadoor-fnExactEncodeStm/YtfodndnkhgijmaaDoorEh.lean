/-
  Statements as bytes: EncodeStm, the specification's way.
-/
import Derived.Test.YtfodndnkhgijmaaDoorEm
import Derived.Deep.RegionHeld3
namespace Go.Proofs.YtfodndnkhgijmaaDoor
open Go.RowKit Go.Maps Go.WideMaps
set_option maxRecDepth 400000 in
set_option maxHeartbeats 8000000 in
theorem sEnc1 (tb : ByteArray) (n2 : Nat) (C : Nat → Clm) (n3 : Nat) (V : Nat → Itm) (col : ByteArray) (n5 : Nat) (E : Nat → Itm) (n6 : Nat) (W : Nat → Itm) (n7 : Nat) (m7 : Nat → Nat) (O : Nat → Nat → Itm)
    (a2 : Option Addr) (c2 : Nat) (a3 : Option Addr) (c3 : Nat) (a5 : Option Addr) (c5 : Nat) (a6 : Option Addr) (c6 : Nat) (a7 : Option Addr) (c7 : Nat) (D : St) (hD : (⟨1, tb, n2, C, n3, V, col, n5, E, n6, W, n7, m7, O⟩ : St) = D)
    (w : World) (h : SM w ⟨1, tb, n2, C, n3, V, col, n5, E, n6, W, n7, m7, O⟩ ⟨a2, c2, a3, c3, a5, c5, a6, c6, a7, c7⟩) :
    Calls Tryd.prog 16 #[.agg #[.int .i64 1, .string tb, .slice a2 n2 c2, .slice a3 n3 c3, .string col, .slice a5 n5 c5, .slice a6 n6 c6, .slice a7 n7 c7]] w fun e w' => e = .returned (.string (encS D)) ∧ Below w.heap.size w w' := by
  have hb0 := bal w (.cells #[.int .i64 1, .string tb, .slice a2 n2 c2, .slice a3 n3 c3, .string col, .slice a5 n5 c5, .slice a6 n6 c6, .slice a7 n7 c7] 46)
  have H0 := h.later hb0
  have q0 : B8 (w.alloc (.cells #[.int .i64 1, .string tb, .slice a2 n2 c2, .slice a3 n3 c3, .string col, .slice a5 n5 c5, .slice a6 n6 c6, .slice a7 n7 c7] 46)) w.heap.size ⟨1, tb, n2, C, n3, V, col, n5, E, n6, W, n7, m7, O⟩ ⟨a2, c2, a3, c3, a5, c5, a6, c6, a7, c7⟩ := B8.new w ⟨1, tb, n2, C, n3, V, col, n5, E, n6, W, n7, m7, O⟩ ⟨a2, c2, a3, c3, a5, c5, a6, c6, a7, c7⟩ 46
  obtain ⟨htb, hcol, -, -, -, -, -, l2, l3, l5, l6, l7⟩ := id h
  dsimp only at htb hcol l2 l3 l5 l6 l7
  replace hD : Hid ((⟨1, tb, n2, C, n3, V, col, n5, E, n6, W, n7, m7, O⟩ : St) = D) := hD
  have HL : Hid (encL D = numI 1 1 ++ s8 tb ++ (numI 1 n2 ++ listB (fun j => colB (C j)) n2)) := by rw [← hD.out]; rfl
  have HO : Hid (okStm D = true → tb.size ≤ 30 ∧ n2 ≤ 20 ∧ ∀ j, j < n2 → (C j).s.size ≤ 30) := fun x => by
    rw [← hD.out] at x
    exact ⟨okStm_tb x, ok1 x rfl⟩
  go_enter Tryd.func16, Tryd.ntmps16
  go_wp2_with (go_at_call 12; refine (sStmD _ tb n2 C n3 V col n5 E n6 W n7 m7 O a2 c2 a3 c3 a5 c5 a6 c6 a7 c7 D hD _ H0).mono ?_; rintro e w1 ⟨rfl, hb1⟩; have H1 := H0.later hb1; have Q1 := q0.later hb1; obtain ⟨q0, q1, q2, q3, q4, q5, q6, q7⟩ := id Q1; dsimp only at q0 q1 q2 q3 q4 q5 q6 q7; replace hb1 := bstep hb0 hb1; rcases hok : okStm D)
  · go_ret
    exact ⟨congrArg (fun x => Ending.returned (.string x)) (enc_no hok).symm, hb1⟩
  obtain ⟨htb', hn, hc⟩ := HO.out hok
  have z1 : (bs (numI 1 1)).size ≤ 1 := by rw [bs_size, numI_len]; omega
  have z2 : (bs (s8 tb)).size ≤ 31 := by rw [bs_size, s8_len]; omega
  clear h H0 hb0 HO
  have y0 : ¬ 9223372036854775807 < (bs (numI 1 1)).size + (bs (s8 tb)).size := by omega
  go_region_held3 (fun w' => w'.cell? ⟨w.heap.size, 0, none⟩ = some (.int .i64 1) ∧ w'.cell? ⟨w.heap.size, 1, none⟩ = some (.string tb)) (first | exact ⟨q0, q1⟩ | exact ⟨r0, r1⟩ | exact ⟨u0, u1⟩ | go_keep) (first | (go_at_call 53; refine (sNum1 1 _).mono ?_; rintro e w2 ⟨rfl, hb2⟩; have H2 := H1.later (undrew hb2); have Q2 := Q1.later (undrew hb2); replace hb2 := bstep hb1 (undrew hb2); obtain ⟨r0, r1, r2, r3, r4, r5, r6, r7⟩ := id Q2; dsimp only at r0 r1 r2 r3 r4 r5 r6 r7) | (go_at_call 54; refine (sS8 tb _ htb).mono ?_; rintro e w3 ⟨rfl, hb3⟩; have H3 := H2.later hb3; have Q3 := Q2.later hb3; replace hb3 := bstep hb2 hb3; obtain ⟨u0, u1, u2, u3, u4, u5, u6, u7⟩ := id Q3; dsimp only at u0 u1 u2 u3 u4 u5 u6 u7))
  have zn : (bs (numI 1 (n2 : Int))).size ≤ 1 := by rw [bs_size, numI_len]; omega
  go_wp2_with (go_at_call 53; refine (sNum1 n2 _).mono ?_; rintro e w4 ⟨rfl, hb4⟩; have H4 := H3.later hb4; have Q4 := Q3.later hb4; replace hb4 := bstep hb3 hb4; obtain ⟨v0, v1, v2, v3, v4, v5, v6, v7⟩ := id Q4; dsimp only at v0 v1 v2 v3 v4 v5 v6 v7)
  go_loopw [3, 5, 33] (fun o _ i wr => ∃ (k : Nat) (t : ByteArray), k ≤ n2 ∧ i = .int .i64 k ∧ o = .string t ∧ t = bs (numI 1 1 ++ s8 tb ++ numI 1 n2 ++ listB (fun j => colB (C j)) k) ∧ Below w4.heap.size w4 wr) (fun _ _ i _ => n2 - (intOf i).toNat)
  case atStart => exact ⟨0, _, by omega, rfl, rfl, by rw [listB, List.append_nil]; simp only [bs_app], Below.refl _ _⟩
  case round =>
    obtain ⟨k, t, hk, rfl, rfl, et, hb⟩ := hrel
    replace et : Hid (t = bs (numI 1 1 ++ s8 tb ++ numI 1 n2 ++ listB (fun j => colB (C j)) k)) := et
    have tz : t.size ≤ 33 + 100 * k := by
      have := listB_len (B := fun j => colB (C j)) (c := 100) (n := k) (fun j hj => by have := hc j (by omega); simp [colB, s8_len, numI_len]; omega)
      rw [et.out, bs_size]
      simp only [List.length_append, numI_len, s8_len]
      omega
    have hbw := bstep hb4 hb
    by_cases hlt : k < n2
    · have HN : Hid (listB (fun j => colB (C j)) (k + 1) = listB (fun j => colB (C j)) k ++ colB (C k)) := rfl
      obtain ⟨b, off, rfl, d0, d1, -⟩ := H4.co.later hb k hlt
      have hck := hc k hlt
      have x1 : (bs (s8 (C k).s)).size ≤ 31 := by rw [bs_size, s8_len]; omega
      have x2 : (bs (numI 1 (C k).t)).size ≤ 1 := by rw [bs_size, numI_len]; omega
      have x3 : ¬ 9223372036854775807 < (bs (s8 (C k).s)).size + (bs (numI 1 (C k).t)).size := by omega
      have x4 : ¬ 9223372036854775807 < t.size + ((bs (s8 (C k).s)).size + (bs (numI 1 (C k).t)).size) := by omega
      have G := kept2 (Below.refl (wr.alloc (.cells #[.string (C k).s, .int .i64 (C k).t] 70)).heap.size (wr.alloc (.cells #[.string (C k).s, .int .i64 (C k).t] 70)))
      obtain ⟨g0, g1⟩ := id G
      go_wp2
      go_region_held3 (fun w' => w'.cell? ⟨wr.heap.size, 0, none⟩ = some (.string (C k).s) ∧ w'.cell? ⟨wr.heap.size, 1, none⟩ = some (.int .i64 (C k).t)) (first | exact G | exact G2 | exact G3 | go_keep) (first | (go_at_call 54; refine (sS8 (C k).s _ (by omega)).mono ?_; rintro e w5 ⟨rfl, hb5⟩; have G2 := kept2 (undrew hb5); replace hb5 := bj hb (undrew hb5)) | (go_at_call 53; refine (sNum1 (C k).t _).mono ?_; rintro e w6 ⟨rfl, hb6⟩; have G3 := And.intro (keepB hb6 G2.1) (keepB hb6 G2.2); replace hb6 := bstep hb5 hb6))
      go_wp2
      go_roundw
      case rel => exact ⟨k + 1, t ++ (bs (s8 (C k).s) ++ bs (numI 1 (C k).t)), by omega, by go_num, rfl, by rw [HN.out, et.out]; simp only [bs_app, colB, List.append_assoc], hb6⟩
      case measure => simp [intOf]; omega
    · obtain rfl : k = n2 := by omega
      have tw0 : t.size = (encL D).length := by rw [HL.out, et.out, bs_size]; simp only [List.append_assoc]
      have tw : Hid (t.size = (encL D).length) := tw0
      clear tw0
      clear tz
      go_wp2
      · go_ret
        rename_i hx
        exact ⟨congrArg (fun x => Ending.returned (.string x)) (enc_big hok rfl (by rw [bs_size, ← tw.out]; omega)).symm, hbw⟩
      · go_ret
        rename_i hx
        exact ⟨congrArg (fun x => Ending.returned (.string x)) (enc_yes (s := t) hok (by rw [HL.out, et.out]; simp only [List.append_assoc]) (by omega)).symm, hbw⟩
set_option maxRecDepth 400000 in
set_option maxHeartbeats 8000000 in
theorem sEnc2 (tb : ByteArray) (n2 : Nat) (C : Nat → Clm) (n3 : Nat) (V : Nat → Itm) (col : ByteArray) (n5 : Nat) (E : Nat → Itm) (n6 : Nat) (W : Nat → Itm) (n7 : Nat) (m7 : Nat → Nat) (O : Nat → Nat → Itm)
    (a2 : Option Addr) (c2 : Nat) (a3 : Option Addr) (c3 : Nat) (a5 : Option Addr) (c5 : Nat) (a6 : Option Addr) (c6 : Nat) (a7 : Option Addr) (c7 : Nat) (D : St) (hD : (⟨2, tb, n2, C, n3, V, col, n5, E, n6, W, n7, m7, O⟩ : St) = D)
    (w : World) (h : SM w ⟨2, tb, n2, C, n3, V, col, n5, E, n6, W, n7, m7, O⟩ ⟨a2, c2, a3, c3, a5, c5, a6, c6, a7, c7⟩) :
    Calls Tryd.prog 16 #[.agg #[.int .i64 2, .string tb, .slice a2 n2 c2, .slice a3 n3 c3, .string col, .slice a5 n5 c5, .slice a6 n6 c6, .slice a7 n7 c7]] w fun e w' => e = .returned (.string (encS D)) ∧ Below w.heap.size w w' := by
  have hb0 := bal w (.cells #[.int .i64 2, .string tb, .slice a2 n2 c2, .slice a3 n3 c3, .string col, .slice a5 n5 c5, .slice a6 n6 c6, .slice a7 n7 c7] 46)
  have H0 := h.later hb0
  have q0 : B8 (w.alloc (.cells #[.int .i64 2, .string tb, .slice a2 n2 c2, .slice a3 n3 c3, .string col, .slice a5 n5 c5, .slice a6 n6 c6, .slice a7 n7 c7] 46)) w.heap.size ⟨2, tb, n2, C, n3, V, col, n5, E, n6, W, n7, m7, O⟩ ⟨a2, c2, a3, c3, a5, c5, a6, c6, a7, c7⟩ := B8.new w ⟨2, tb, n2, C, n3, V, col, n5, E, n6, W, n7, m7, O⟩ ⟨a2, c2, a3, c3, a5, c5, a6, c6, a7, c7⟩ 46
  obtain ⟨htb, hcol, -, -, -, -, -, l2, l3, l5, l6, l7⟩ := id h
  dsimp only at htb hcol l2 l3 l5 l6 l7
  replace hD : Hid ((⟨2, tb, n2, C, n3, V, col, n5, E, n6, W, n7, m7, O⟩ : St) = D) := hD
  have HL : Hid (encL D = numI 1 2 ++ s8 tb ++ (numI 1 n3 ++ listB (fun j => valB (V j)) n3)) := by rw [← hD.out]; rfl
  have HO : Hid (okStm D = true → tb.size ≤ 30 ∧ n3 ≤ 20 ∧ ∀ j, j < n3 → (V j).s.size ≤ 200) := fun x => by
    rw [← hD.out] at x
    exact ⟨okStm_tb x, ok2 x rfl⟩
  go_enter Tryd.func16, Tryd.ntmps16
  go_wp2_with (go_at_call 12; refine (sStmD _ tb n2 C n3 V col n5 E n6 W n7 m7 O a2 c2 a3 c3 a5 c5 a6 c6 a7 c7 D hD _ H0).mono ?_; rintro e w1 ⟨rfl, hb1⟩; have H1 := H0.later hb1; have Q1 := q0.later hb1; obtain ⟨q0, q1, q2, q3, q4, q5, q6, q7⟩ := id Q1; dsimp only at q0 q1 q2 q3 q4 q5 q6 q7; replace hb1 := bstep hb0 hb1; rcases hok : okStm D)
  · go_ret
    exact ⟨congrArg (fun x => Ending.returned (.string x)) (enc_no hok).symm, hb1⟩
  obtain ⟨htb', hn, hc⟩ := HO.out hok
  have z1 : (bs (numI 1 2)).size ≤ 1 := by rw [bs_size, numI_len]; omega
  have z2 : (bs (s8 tb)).size ≤ 31 := by rw [bs_size, s8_len]; omega
  clear h H0 hb0 HO
  have y0 : ¬ 9223372036854775807 < (bs (numI 1 2)).size + (bs (s8 tb)).size := by omega
  go_region_held3 (fun w' => w'.cell? ⟨w.heap.size, 0, none⟩ = some (.int .i64 2) ∧ w'.cell? ⟨w.heap.size, 1, none⟩ = some (.string tb)) (first | exact ⟨q0, q1⟩ | exact ⟨r0, r1⟩ | exact ⟨u0, u1⟩ | go_keep) (first | (go_at_call 53; refine (sNum1 2 _).mono ?_; rintro e w2 ⟨rfl, hb2⟩; have H2 := H1.later (undrew hb2); have Q2 := Q1.later (undrew hb2); replace hb2 := bstep hb1 (undrew hb2); obtain ⟨r0, r1, r2, r3, r4, r5, r6, r7⟩ := id Q2; dsimp only at r0 r1 r2 r3 r4 r5 r6 r7) | (go_at_call 54; refine (sS8 tb _ htb).mono ?_; rintro e w3 ⟨rfl, hb3⟩; have H3 := H2.later hb3; have Q3 := Q2.later hb3; replace hb3 := bstep hb2 hb3; obtain ⟨u0, u1, u2, u3, u4, u5, u6, u7⟩ := id Q3; dsimp only at u0 u1 u2 u3 u4 u5 u6 u7))
  have zn : (bs (numI 1 (n3 : Int))).size ≤ 1 := by rw [bs_size, numI_len]; omega
  go_wp2_with (go_at_call 53; refine (sNum1 n3 _).mono ?_; rintro e w4 ⟨rfl, hb4⟩; have H4 := H3.later hb4; have Q4 := Q3.later hb4; replace hb4 := bstep hb3 hb4; obtain ⟨v0, v1, v2, v3, v4, v5, v6, v7⟩ := id Q4; dsimp only at v0 v1 v2 v3 v4 v5 v6 v7)
  go_loopw [3, 7, 58] (fun o _ i wr => ∃ (k : Nat) (t : ByteArray), k ≤ n3 ∧ i = .int .i64 k ∧ o = .string t ∧ t = bs (numI 1 2 ++ s8 tb ++ numI 1 n3 ++ listB (fun j => valB (V j)) k) ∧ Below w4.heap.size w4 wr) (fun _ _ i _ => n3 - (intOf i).toNat)
  case atStart => exact ⟨0, _, by omega, rfl, rfl, by rw [listB, List.append_nil]; simp only [bs_app], Below.refl _ _⟩
  case round =>
    obtain ⟨k, t, hk, rfl, rfl, et, hb⟩ := hrel
    replace et : Hid (t = bs (numI 1 2 ++ s8 tb ++ numI 1 n3 ++ listB (fun j => valB (V j)) k)) := et
    have tz : t.size ≤ 33 + 300 * k := by
      have := listB_len (B := fun j => valB (V j)) (c := 300) (n := k) (fun j hj => by have := hc j (by omega); unfold valB; rw [List.length_append, numI_len]; split <;> simp [numI_len, s16_len] <;> omega)
      rw [et.out, bs_size]
      simp only [List.length_append, numI_len, s8_len]
      omega
    have hbw := bstep hb4 hb
    by_cases hlt : k < n3
    · have HN : Hid (listB (fun j => valB (V j)) (k + 1) = listB (fun j => valB (V j)) k ++ valB (V k)) := rfl
      obtain ⟨b, off, rfl, d0, d1, d2, -⟩ := H4.va.later hb k hlt
      have hck := hc k hlt
      have hone : True := trivial
      have x1 : (bs (numI 1 (V k).o)).size ≤ 1 := by rw [bs_size, numI_len]; omega
      have x2 : (bs (numI 8 (V k).m)).size ≤ 8 := by rw [bs_size, numI_len]; omega
      have x3 : (bs (s16 (V k).s)).size ≤ 202 := by rw [bs_size, s16_len]; omega
      by_cases h1 : (V k).o = 1
      · have h1' : ((V k).o == 1) = true := by simp [h1]
        have HQ : Hid (valB (V k) = numI 1 (V k).o ++ numI 8 (V k).m) := by simp [Hid, valB, h1]
        clear h1
        go_wp2_with (first | (go_at_call 53; have _h := hone; refine (sNum1 (V k).o _).mono ?_; rintro e w5 ⟨rfl, hb5⟩; obtain ⟨g0, g1, g2⟩ := kept3 hb5; replace hb5 := bj hb hb5; clear hone) | (go_at_call 53; refine (sNum8 (V k).m _).mono ?_; rintro e w6 ⟨rfl, hb6⟩; replace hb6 := bstep hb5 hb6))
        go_roundw
        case rel => exact ⟨k + 1, t ++ bs (numI 1 (V k).o) ++ bs (numI 8 (V k).m), by omega, by go_num, rfl, by rw [HN.out, et.out, HQ.out]; simp only [bs_app, List.append_assoc], hb6⟩
        case measure => simp [intOf]; omega
      · have h1' : ((V k).o == 1) = false := by simp [h1]
        have HQ : Hid (valB (V k) = numI 1 (V k).o ++ s16 (V k).s) := by simp [Hid, valB, h1]
        clear h1
        go_wp2_with (first | (go_at_call 53; refine (sNum1 (V k).o _).mono ?_; rintro e w5 ⟨rfl, hb5⟩; obtain ⟨g0, g1, g2⟩ := kept3 hb5; replace hb5 := bj hb hb5) | (go_at_call 55; refine (sS16 (V k).s _ (by omega)).mono ?_; rintro e w6 ⟨rfl, hb6⟩; replace hb6 := bstep hb5 hb6))
        go_roundw
        case rel => exact ⟨k + 1, t ++ bs (numI 1 (V k).o) ++ bs (s16 (V k).s), by omega, by go_num, rfl, by rw [HN.out, et.out, HQ.out]; simp only [bs_app, List.append_assoc], hb6⟩
        case measure => simp [intOf]; omega
    · obtain rfl : k = n3 := by omega
      have tw0 : t.size = (encL D).length := by rw [HL.out, et.out, bs_size]; simp only [List.append_assoc]
      have tw : Hid (t.size = (encL D).length) := tw0
      clear tw0
      clear tz
      go_wp2
      · go_ret
        rename_i hx
        exact ⟨congrArg (fun x => Ending.returned (.string x)) (enc_big hok rfl (by rw [bs_size, ← tw.out]; omega)).symm, hbw⟩
      · go_ret
        rename_i hx
        exact ⟨congrArg (fun x => Ending.returned (.string x)) (enc_yes (s := t) hok (by rw [HL.out, et.out]; simp only [List.append_assoc]) (by omega)).symm, hbw⟩
set_option maxRecDepth 400000 in
set_option maxHeartbeats 8000000 in
theorem sEnc0 (k : Int) (e1 : ¬ k = 1) (e2 : ¬ k = 2) (e3 : ¬ k = 3) (e4 : ¬ k = 4) (e5 : ¬ k = 5) (tb : ByteArray) (n2 : Nat) (C : Nat → Clm) (n3 : Nat) (V : Nat → Itm) (col : ByteArray) (n5 : Nat) (E : Nat → Itm) (n6 : Nat) (W : Nat → Itm) (n7 : Nat) (m7 : Nat → Nat) (O : Nat → Nat → Itm)
    (a2 : Option Addr) (c2 : Nat) (a3 : Option Addr) (c3 : Nat) (a5 : Option Addr) (c5 : Nat) (a6 : Option Addr) (c6 : Nat) (a7 : Option Addr) (c7 : Nat) (D : St) (hD : (⟨k, tb, n2, C, n3, V, col, n5, E, n6, W, n7, m7, O⟩ : St) = D)
    (w : World) (h : SM w ⟨k, tb, n2, C, n3, V, col, n5, E, n6, W, n7, m7, O⟩ ⟨a2, c2, a3, c3, a5, c5, a6, c6, a7, c7⟩) :
    Calls Tryd.prog 16 #[.agg #[.int .i64 k, .string tb, .slice a2 n2 c2, .slice a3 n3 c3, .string col, .slice a5 n5 c5, .slice a6 n6 c6, .slice a7 n7 c7]] w fun e w' => e = .returned (.string (encS D)) ∧ Below w.heap.size w w' := by
  have hb0 := bal w (.cells #[.int .i64 k, .string tb, .slice a2 n2 c2, .slice a3 n3 c3, .string col, .slice a5 n5 c5, .slice a6 n6 c6, .slice a7 n7 c7] 46)
  have H0 := h.later hb0
  have q0 : B8 (w.alloc (.cells #[.int .i64 k, .string tb, .slice a2 n2 c2, .slice a3 n3 c3, .string col, .slice a5 n5 c5, .slice a6 n6 c6, .slice a7 n7 c7] 46)) w.heap.size ⟨k, tb, n2, C, n3, V, col, n5, E, n6, W, n7, m7, O⟩ ⟨a2, c2, a3, c3, a5, c5, a6, c6, a7, c7⟩ := B8.new w ⟨k, tb, n2, C, n3, V, col, n5, E, n6, W, n7, m7, O⟩ ⟨a2, c2, a3, c3, a5, c5, a6, c6, a7, c7⟩ 46
  obtain ⟨htb, hcol, -, -, -, -, -, l2, l3, l5, l6, l7⟩ := id h
  dsimp only at htb hcol l2 l3 l5 l6 l7
  replace hD : Hid ((⟨k, tb, n2, C, n3, V, col, n5, E, n6, W, n7, m7, O⟩ : St) = D) := hD
  have HZ : okStm D = false := by rw [← hD.out]; exact stm0 ⟨k, tb, n2, C, n3, V, col, n5, E, n6, W, n7, m7, O⟩ e1 e2 e3 e4 e5
  go_enter Tryd.func16, Tryd.ntmps16
  go_wp2_with (go_at_call 12; refine (sStmD _ tb n2 C n3 V col n5 E n6 W n7 m7 O a2 c2 a3 c3 a5 c5 a6 c6 a7 c7 D hD _ H0).mono ?_; rintro e w1 ⟨rfl, hb1⟩; have H1 := H0.later hb1; have Q1 := q0.later hb1; obtain ⟨q0, q1, q2, q3, q4, q5, q6, q7⟩ := id Q1; dsimp only at q0 q1 q2 q3 q4 q5 q6 q7; replace hb1 := bstep hb0 hb1; rcases hok : okStm D)
  · go_ret
    exact ⟨congrArg (fun x => Ending.returned (.string x)) (enc_no hok).symm, hb1⟩
  · rw [HZ] at hok; cases hok
set_option maxRecDepth 400000 in
set_option maxHeartbeats 8000000 in
theorem sEnc3 (tb : ByteArray) (n2 : Nat) (C : Nat → Clm) (n3 : Nat) (V : Nat → Itm) (col : ByteArray) (n5 : Nat) (E : Nat → Itm) (n6 : Nat) (W : Nat → Itm) (n7 : Nat) (m7 : Nat → Nat) (O : Nat → Nat → Itm)
    (a2 : Option Addr) (c2 : Nat) (a3 : Option Addr) (c3 : Nat) (a5 : Option Addr) (c5 : Nat) (a6 : Option Addr) (c6 : Nat) (a7 : Option Addr) (c7 : Nat) (D : St) (hD : (⟨3, tb, n2, C, n3, V, col, n5, E, n6, W, n7, m7, O⟩ : St) = D)
    (w : World) (h : SM w ⟨3, tb, n2, C, n3, V, col, n5, E, n6, W, n7, m7, O⟩ ⟨a2, c2, a3, c3, a5, c5, a6, c6, a7, c7⟩) :
    Calls Tryd.prog 16 #[.agg #[.int .i64 3, .string tb, .slice a2 n2 c2, .slice a3 n3 c3, .string col, .slice a5 n5 c5, .slice a6 n6 c6, .slice a7 n7 c7]] w fun e w' => e = .returned (.string (encS D)) ∧ Below w.heap.size w w' := by
  have hb0 := bal w (.cells #[.int .i64 3, .string tb, .slice a2 n2 c2, .slice a3 n3 c3, .string col, .slice a5 n5 c5, .slice a6 n6 c6, .slice a7 n7 c7] 46)
  have H0 := h.later hb0
  have q0 : B8 (w.alloc (.cells #[.int .i64 3, .string tb, .slice a2 n2 c2, .slice a3 n3 c3, .string col, .slice a5 n5 c5, .slice a6 n6 c6, .slice a7 n7 c7] 46)) w.heap.size ⟨3, tb, n2, C, n3, V, col, n5, E, n6, W, n7, m7, O⟩ ⟨a2, c2, a3, c3, a5, c5, a6, c6, a7, c7⟩ := B8.new w ⟨3, tb, n2, C, n3, V, col, n5, E, n6, W, n7, m7, O⟩ ⟨a2, c2, a3, c3, a5, c5, a6, c6, a7, c7⟩ 46
  obtain ⟨htb, hcol, -, -, -, -, -, l2, l3, l5, l6, l7⟩ := id h
  dsimp only at htb hcol l2 l3 l5 l6 l7
  replace hD : Hid ((⟨3, tb, n2, C, n3, V, col, n5, E, n6, W, n7, m7, O⟩ : St) = D) := hD
  have HL : Hid (encL D = numI 1 3 ++ s8 tb ++ (s8 col ++ expB E n5 ++ expB W n6)) := by rw [← hD.out]; rfl
  have HO : Hid (okStm D = true → tb.size ≤ 30 ∧ col.size ≤ 30 ∧ (n5 ≤ 100 ∧ ∀ j, j < n5 → (E j).s.size ≤ 200) ∧ (n6 ≤ 100 ∧ ∀ j, j < n6 → (W j).s.size ≤ 200)) := fun x => by
    rw [← hD.out] at x
    exact ⟨okStm_tb x, ok3 x rfl⟩
  go_enter Tryd.func16, Tryd.ntmps16
  go_wp2_with (go_at_call 12; refine (sStmD _ tb n2 C n3 V col n5 E n6 W n7 m7 O a2 c2 a3 c3 a5 c5 a6 c6 a7 c7 D hD _ H0).mono ?_; rintro e w1 ⟨rfl, hb1⟩; have H1 := H0.later hb1; have Q1 := q0.later hb1; obtain ⟨q0, q1, q2, q3, q4, q5, q6, q7⟩ := id Q1; dsimp only at q0 q1 q2 q3 q4 q5 q6 q7; replace hb1 := bstep hb0 hb1; rcases hok : okStm D)
  · go_ret
    exact ⟨congrArg (fun x => Ending.returned (.string x)) (enc_no hok).symm, hb1⟩
  obtain ⟨htb', hc', ⟨hn5, ht5⟩, ⟨hn6, ht6⟩⟩ := HO.out hok
  have z1 : (bs (numI 1 3)).size ≤ 1 := by rw [bs_size, numI_len]; omega
  have z2 : (bs (s8 tb)).size ≤ 31 := by rw [bs_size, s8_len]; omega
  clear h H0 hb0 HO
  have z3 : (bs (s8 col)).size ≤ 31 := by rw [bs_size, s8_len]; omega
  have z4 : (bs (expB E n5)).size ≤ 30002 := by rw [bs_size]; exact expB_len hn5 ht5
  have z5 : (bs (expB W n6)).size ≤ 30002 := by rw [bs_size]; exact expB_len hn6 ht6
  have y0 : ¬ 9223372036854775807 < (bs (numI 1 3)).size + (bs (s8 tb)).size := by omega
  have y1 : ¬ 9223372036854775807 < (bs (s8 col)).size + (bs (expB E n5)).size := by omega
  have y2 : ¬ 9223372036854775807 < (bs (s8 col)).size + (bs (expB E n5)).size + (bs (expB W n6)).size := by omega
  have y3 : ¬ 9223372036854775807 < (bs (numI 1 3)).size + (bs (s8 tb)).size + ((bs (s8 col)).size + (bs (expB E n5)).size + (bs (expB W n6)).size) := by omega
  go_region_held3 (fun w' => w'.cell? ⟨w.heap.size, 0, none⟩ = some (.int .i64 3) ∧ w'.cell? ⟨w.heap.size, 1, none⟩ = some (.string tb)) (first | exact ⟨q0, q1⟩ | exact ⟨r0, r1⟩ | exact ⟨u0, u1⟩ | go_keep) (first | (go_at_call 53; refine (sNum1 3 _).mono ?_; rintro e w2 ⟨rfl, hb2⟩; have H2 := H1.later (undrew hb2); have Q2 := Q1.later (undrew hb2); replace hb2 := bstep hb1 (undrew hb2); obtain ⟨r0, r1, r2, r3, r4, r5, r6, r7⟩ := id Q2; dsimp only at r0 r1 r2 r3 r4 r5 r6 r7) | (go_at_call 54; refine (sS8 tb _ htb).mono ?_; rintro e w3 ⟨rfl, hb3⟩; have H3 := H2.later hb3; have Q3 := Q2.later hb3; replace hb3 := bstep hb2 hb3; obtain ⟨u0, u1, u2, u3, u4, u5, u6, u7⟩ := id Q3; dsimp only at u0 u1 u2 u3 u4 u5 u6 u7))
  go_wp2
  have hone : True := trivial
  go_region_held3 (fun w' => w'.cell? ⟨w.heap.size, 4, none⟩ = some (.string col) ∧ w'.cell? ⟨w.heap.size, 5, none⟩ = some (.slice a5 n5 c5) ∧ w'.cell? ⟨w.heap.size, 6, none⟩ = some (.slice a6 n6 c6)) (first | exact ⟨u4, u5, u6⟩ | exact ⟨v4, v5, v6⟩ | exact ⟨x4, x5, x6⟩ | exact ⟨y4, y5, y6⟩ | go_keep) (first | (go_at_call 54; refine (sS8 col _ hcol).mono ?_; rintro e w5 ⟨rfl, hb5⟩; have H5 := H3.later (undrew hb5); have Q5 := Q3.later (undrew hb5); replace hb5 := bstep hb3 (undrew hb5); obtain ⟨v0, v1, v2, v3, v4, v5, v6, v7⟩ := id Q5; dsimp only at v0 v1 v2 v3 v4 v5 v6 v7) | (go_at_call 56; have _h := hone; refine (sExpB a5 n5 c5 E _ H5.ex hn5 ht5).mono ?_; rintro e w6 ⟨rfl, hb6⟩; clear hone; have H6 := H5.later hb6; have Q6 := Q5.later hb6; replace hb6 := bstep hb5 hb6; obtain ⟨x0, x1, x2, x3, x4, x5, x6, x7⟩ := id Q6; dsimp only at x0 x1 x2 x3 x4 x5 x6 x7) | (go_at_call 56; refine (sExpB a6 n6 c6 W _ H6.wh hn6 ht6).mono ?_; rintro e w4 ⟨rfl, hb4⟩; have H4 := H6.later hb4; have Q4 := Q6.later hb4; replace hb4 := bstep hb6 hb4; obtain ⟨y0, y1, y2, y3, y4, y5, y6, y7⟩ := id Q4; dsimp only at y0 y1 y2 y3 y4 y5 y6 y7))
  go_wp2
  · go_ret
    rename_i hx
    simp only [bs_size] at hx
    exact ⟨congrArg (fun x => Ending.returned (.string x)) (enc_big hok rfl (by rw [HL.out]; simp only [bs_size, List.length_append]; omega)).symm, hb4⟩
  · go_ret
    rename_i hx
    simp only [bs_size] at hx
    exact ⟨congrArg (fun x => Ending.returned (.string x)) (enc_yes (s := bs (numI 1 3) ++ bs (s8 tb) ++ (bs (s8 col) ++ bs (expB E n5) ++ bs (expB W n6))) hok (by rw [HL.out]; simp only [bs_app]) (by simp only [bs_app, bs_size, List.length_append]; omega)).symm, hb4⟩
set_option maxRecDepth 400000 in
set_option maxHeartbeats 8000000 in
theorem sEnc4 (tb : ByteArray) (n2 : Nat) (C : Nat → Clm) (n3 : Nat) (V : Nat → Itm) (col : ByteArray) (n5 : Nat) (E : Nat → Itm) (n6 : Nat) (W : Nat → Itm) (n7 : Nat) (m7 : Nat → Nat) (O : Nat → Nat → Itm)
    (a2 : Option Addr) (c2 : Nat) (a3 : Option Addr) (c3 : Nat) (a5 : Option Addr) (c5 : Nat) (a6 : Option Addr) (c6 : Nat) (a7 : Option Addr) (c7 : Nat) (D : St) (hD : (⟨4, tb, n2, C, n3, V, col, n5, E, n6, W, n7, m7, O⟩ : St) = D)
    (w : World) (h : SM w ⟨4, tb, n2, C, n3, V, col, n5, E, n6, W, n7, m7, O⟩ ⟨a2, c2, a3, c3, a5, c5, a6, c6, a7, c7⟩) :
    Calls Tryd.prog 16 #[.agg #[.int .i64 4, .string tb, .slice a2 n2 c2, .slice a3 n3 c3, .string col, .slice a5 n5 c5, .slice a6 n6 c6, .slice a7 n7 c7]] w fun e w' => e = .returned (.string (encS D)) ∧ Below w.heap.size w w' := by
  have hb0 := bal w (.cells #[.int .i64 4, .string tb, .slice a2 n2 c2, .slice a3 n3 c3, .string col, .slice a5 n5 c5, .slice a6 n6 c6, .slice a7 n7 c7] 46)
  have H0 := h.later hb0
  have q0 : B8 (w.alloc (.cells #[.int .i64 4, .string tb, .slice a2 n2 c2, .slice a3 n3 c3, .string col, .slice a5 n5 c5, .slice a6 n6 c6, .slice a7 n7 c7] 46)) w.heap.size ⟨4, tb, n2, C, n3, V, col, n5, E, n6, W, n7, m7, O⟩ ⟨a2, c2, a3, c3, a5, c5, a6, c6, a7, c7⟩ := B8.new w ⟨4, tb, n2, C, n3, V, col, n5, E, n6, W, n7, m7, O⟩ ⟨a2, c2, a3, c3, a5, c5, a6, c6, a7, c7⟩ 46
  obtain ⟨htb, hcol, -, -, -, -, -, l2, l3, l5, l6, l7⟩ := id h
  dsimp only at htb hcol l2 l3 l5 l6 l7
  replace hD : Hid ((⟨4, tb, n2, C, n3, V, col, n5, E, n6, W, n7, m7, O⟩ : St) = D) := hD
  have HL : Hid (encL D = numI 1 4 ++ s8 tb ++ (expB W n6)) := by rw [← hD.out]; rfl
  have HO : Hid (okStm D = true → tb.size ≤ 30 ∧ n6 ≤ 100 ∧ ∀ j, j < n6 → (W j).s.size ≤ 200) := fun x => by
    rw [← hD.out] at x
    exact ⟨okStm_tb x, ok4 x rfl⟩
  go_enter Tryd.func16, Tryd.ntmps16
  go_wp2_with (go_at_call 12; refine (sStmD _ tb n2 C n3 V col n5 E n6 W n7 m7 O a2 c2 a3 c3 a5 c5 a6 c6 a7 c7 D hD _ H0).mono ?_; rintro e w1 ⟨rfl, hb1⟩; have H1 := H0.later hb1; have Q1 := q0.later hb1; obtain ⟨q0, q1, q2, q3, q4, q5, q6, q7⟩ := id Q1; dsimp only at q0 q1 q2 q3 q4 q5 q6 q7; replace hb1 := bstep hb0 hb1; rcases hok : okStm D)
  · go_ret
    exact ⟨congrArg (fun x => Ending.returned (.string x)) (enc_no hok).symm, hb1⟩
  obtain ⟨htb', hn6, ht6⟩ := HO.out hok
  have z1 : (bs (numI 1 4)).size ≤ 1 := by rw [bs_size, numI_len]; omega
  have z2 : (bs (s8 tb)).size ≤ 31 := by rw [bs_size, s8_len]; omega
  clear h H0 hb0 HO
  have z3 : (bs (expB W n6)).size ≤ 30002 := by rw [bs_size]; exact expB_len hn6 ht6
  have y0 : ¬ 9223372036854775807 < (bs (numI 1 4)).size + (bs (s8 tb)).size := by omega
  go_region_held3 (fun w' => w'.cell? ⟨w.heap.size, 0, none⟩ = some (.int .i64 4) ∧ w'.cell? ⟨w.heap.size, 1, none⟩ = some (.string tb)) (first | exact ⟨q0, q1⟩ | exact ⟨r0, r1⟩ | exact ⟨u0, u1⟩ | go_keep) (first | (go_at_call 53; refine (sNum1 4 _).mono ?_; rintro e w2 ⟨rfl, hb2⟩; have H2 := H1.later (undrew hb2); have Q2 := Q1.later (undrew hb2); replace hb2 := bstep hb1 (undrew hb2); obtain ⟨r0, r1, r2, r3, r4, r5, r6, r7⟩ := id Q2; dsimp only at r0 r1 r2 r3 r4 r5 r6 r7) | (go_at_call 54; refine (sS8 tb _ htb).mono ?_; rintro e w3 ⟨rfl, hb3⟩; have H3 := H2.later hb3; have Q3 := Q2.later hb3; replace hb3 := bstep hb2 hb3; obtain ⟨u0, u1, u2, u3, u4, u5, u6, u7⟩ := id Q3; dsimp only at u0 u1 u2 u3 u4 u5 u6 u7))
  go_wp2_with (go_at_call 56; refine (sExpB a6 n6 c6 W _ H3.wh hn6 ht6).mono ?_; rintro e w4 ⟨rfl, hb4⟩; replace hb4 := bstep hb3 hb4)
  go_ret
  exact ⟨congrArg (fun x => Ending.returned (.string x)) (enc_yes (s := bs (numI 1 4) ++ bs (s8 tb) ++ bs (expB W n6)) hok (by rw [HL.out]; simp only [bs_app]) (by rw [ByteArray.size_append, ByteArray.size_append]; omega)).symm, hb4⟩
set_option maxRecDepth 400000 in
set_option maxHeartbeats 8000000 in
theorem sEnc5 (tb : ByteArray) (n2 : Nat) (C : Nat → Clm) (n3 : Nat) (V : Nat → Itm) (col : ByteArray) (n5 : Nat) (E : Nat → Itm) (n6 : Nat) (W : Nat → Itm) (n7 : Nat) (m7 : Nat → Nat) (O : Nat → Nat → Itm)
    (a2 : Option Addr) (c2 : Nat) (a3 : Option Addr) (c3 : Nat) (a5 : Option Addr) (c5 : Nat) (a6 : Option Addr) (c6 : Nat) (a7 : Option Addr) (c7 : Nat) (D : St) (hD : (⟨5, tb, n2, C, n3, V, col, n5, E, n6, W, n7, m7, O⟩ : St) = D)
    (w : World) (h : SM w ⟨5, tb, n2, C, n3, V, col, n5, E, n6, W, n7, m7, O⟩ ⟨a2, c2, a3, c3, a5, c5, a6, c6, a7, c7⟩) :
    Calls Tryd.prog 16 #[.agg #[.int .i64 5, .string tb, .slice a2 n2 c2, .slice a3 n3 c3, .string col, .slice a5 n5 c5, .slice a6 n6 c6, .slice a7 n7 c7]] w fun e w' => e = .returned (.string (encS D)) ∧ Below w.heap.size w w' := by
  have hb0 := bal w (.cells #[.int .i64 5, .string tb, .slice a2 n2 c2, .slice a3 n3 c3, .string col, .slice a5 n5 c5, .slice a6 n6 c6, .slice a7 n7 c7] 46)
  have H0 := h.later hb0
  have q0 : B8 (w.alloc (.cells #[.int .i64 5, .string tb, .slice a2 n2 c2, .slice a3 n3 c3, .string col, .slice a5 n5 c5, .slice a6 n6 c6, .slice a7 n7 c7] 46)) w.heap.size ⟨5, tb, n2, C, n3, V, col, n5, E, n6, W, n7, m7, O⟩ ⟨a2, c2, a3, c3, a5, c5, a6, c6, a7, c7⟩ := B8.new w ⟨5, tb, n2, C, n3, V, col, n5, E, n6, W, n7, m7, O⟩ ⟨a2, c2, a3, c3, a5, c5, a6, c6, a7, c7⟩ 46
  obtain ⟨htb, hcol, -, -, -, -, -, l2, l3, l5, l6, l7⟩ := id h
  dsimp only at htb hcol l2 l3 l5 l6 l7
  replace hD : Hid ((⟨5, tb, n2, C, n3, V, col, n5, E, n6, W, n7, m7, O⟩ : St) = D) := hD
  have HL : Hid (encL D = numI 1 5 ++ s8 tb ++ ((numI 1 n7 ++ listB (fun j => expB (O j) (m7 j)) n7) ++ expB W n6)) := by rw [← hD.out]; rfl
  have HO : Hid (okStm D = true → tb.size ≤ 30 ∧ n7 ≤ 20 ∧ (∀ j, j < n7 → m7 j ≤ 100 ∧ ∀ q, q < m7 j → (O j q).s.size ≤ 200) ∧ (n6 ≤ 100 ∧ ∀ j, j < n6 → (W j).s.size ≤ 200)) := fun x => by
    rw [← hD.out] at x
    exact ⟨okStm_tb x, ok5 x rfl⟩
  go_enter Tryd.func16, Tryd.ntmps16
  go_wp2_with (go_at_call 12; refine (sStmD _ tb n2 C n3 V col n5 E n6 W n7 m7 O a2 c2 a3 c3 a5 c5 a6 c6 a7 c7 D hD _ H0).mono ?_; rintro e w1 ⟨rfl, hb1⟩; have H1 := H0.later hb1; have Q1 := q0.later hb1; obtain ⟨q0, q1, q2, q3, q4, q5, q6, q7⟩ := id Q1; dsimp only at q0 q1 q2 q3 q4 q5 q6 q7; replace hb1 := bstep hb0 hb1; rcases hok : okStm D)
  · go_ret
    exact ⟨congrArg (fun x => Ending.returned (.string x)) (enc_no hok).symm, hb1⟩
  obtain ⟨htb', hn, hc, ⟨hn6, ht6⟩⟩ := HO.out hok
  have z1 : (bs (numI 1 5)).size ≤ 1 := by rw [bs_size, numI_len]; omega
  have z2 : (bs (s8 tb)).size ≤ 31 := by rw [bs_size, s8_len]; omega
  clear h H0 hb0 HO
  have z4 : (bs (expB W n6)).size ≤ 30002 := by rw [bs_size]; exact expB_len hn6 ht6
  have y0 : ¬ 9223372036854775807 < (bs (numI 1 5)).size + (bs (s8 tb)).size := by omega
  go_region_held3 (fun w' => w'.cell? ⟨w.heap.size, 0, none⟩ = some (.int .i64 5) ∧ w'.cell? ⟨w.heap.size, 1, none⟩ = some (.string tb)) (first | exact ⟨q0, q1⟩ | exact ⟨r0, r1⟩ | exact ⟨u0, u1⟩ | go_keep) (first | (go_at_call 53; refine (sNum1 5 _).mono ?_; rintro e w2 ⟨rfl, hb2⟩; have H2 := H1.later (undrew hb2); have Q2 := Q1.later (undrew hb2); replace hb2 := bstep hb1 (undrew hb2); obtain ⟨r0, r1, r2, r3, r4, r5, r6, r7⟩ := id Q2; dsimp only at r0 r1 r2 r3 r4 r5 r6 r7) | (go_at_call 54; refine (sS8 tb _ htb).mono ?_; rintro e w3 ⟨rfl, hb3⟩; have H3 := H2.later hb3; have Q3 := Q2.later hb3; replace hb3 := bstep hb2 hb3; obtain ⟨u0, u1, u2, u3, u4, u5, u6, u7⟩ := id Q3; dsimp only at u0 u1 u2 u3 u4 u5 u6 u7))
  have zn : (bs (numI 1 (n7 : Int))).size ≤ 1 := by rw [bs_size, numI_len]; omega
  go_wp2_with (go_at_call 53; refine (sNum1 n7 _).mono ?_; rintro e w4 ⟨rfl, hb4⟩; have H4 := H3.later hb4; have Q4 := Q3.later hb4; replace hb4 := bstep hb3 hb4; obtain ⟨v0, v1, v2, v3, v4, v5, v6, v7⟩ := id Q4; dsimp only at v0 v1 v2 v3 v4 v5 v6 v7)
  go_loopw [3, 9, 114] (fun o _ i wr => ∃ (k : Nat) (t : ByteArray), k ≤ n7 ∧ i = .int .i64 k ∧ o = .string t ∧ t = bs (numI 1 5 ++ s8 tb ++ numI 1 n7 ++ listB (fun j => expB (O j) (m7 j)) k) ∧ Below w4.heap.size w4 wr) (fun _ _ i _ => n7 - (intOf i).toNat)
  case atStart => exact ⟨0, _, by omega, rfl, rfl, by rw [listB, List.append_nil]; simp only [bs_app], Below.refl _ _⟩
  case round =>
    obtain ⟨k, t, hk, rfl, rfl, et, hb⟩ := hrel
    replace et : Hid (t = bs (numI 1 5 ++ s8 tb ++ numI 1 n7 ++ listB (fun j => expB (O j) (m7 j)) k)) := et
    have tz : t.size ≤ 33 + 30002 * k := by
      have := listB_len (B := fun j => expB (O j) (m7 j)) (c := 30002) (n := k) (fun j hj => expB_len (hc j (by omega)).1 (hc j (by omega)).2)
      rw [et.out, bs_size]
      simp only [List.length_append, numI_len, s8_len]
      omega
    have hbw := bstep hb4 hb
    by_cases hlt : k < n7
    · have HN : Hid (listB (fun j => expB (O j) (m7 j)) (k + 1) = listB (fun j => expB (O j) (m7 j)) k ++ expB (O k) (m7 k)) := rfl
      obtain ⟨b, off, i, c', rfl, d0, di, dm⟩ := H4.ou.later hb k hlt
      obtain ⟨hm', ht'⟩ := hc k hlt
      have x1 : (bs (expB (O k) (m7 k))).size ≤ 30002 := by rw [bs_size]; exact expB_len hm' ht'
      go_wp2_with (go_at_call 56; refine (sExpB i _ c' (O k) _ di hm' ht').mono ?_; rintro e w5 ⟨rfl, hb5⟩; replace hb5 := bstep hb hb5)
      go_roundw
      case rel => exact ⟨k + 1, t ++ bs (expB (O k) (m7 k)), by omega, by go_num, rfl, by rw [HN.out, et.out]; simp only [bs_app, List.append_assoc], hb5⟩
      case measure => simp [intOf]; omega
    · obtain rfl : k = n7 := by omega
      have tw0 : t.size + (bs (expB W n6)).size = (encL D).length := by rw [HL.out, et.out]; simp only [bs_size, List.length_append]; omega
      have tw : Hid (t.size + (bs (expB W n6)).size = (encL D).length) := tw0
      clear tw0
      have f6 := keepB hb v6
      have z6 : t.size + (bs (expB W n6)).size ≤ 100000000 := by omega
      clear tz
      go_wp2_with (go_at_call 56; refine (sExpB a6 n6 c6 W _ (H4.wh.later hb) hn6 ht6).mono ?_; rintro e w7 ⟨rfl, hb7⟩; replace hb7 := bstep hbw hb7)
      · go_ret
        rename_i hx
        exact ⟨congrArg (fun x => Ending.returned (.string x)) (enc_big hok rfl (by rw [bs_size, ← tw.out]; omega)).symm, hb7⟩
      · go_ret
        rename_i hx
        exact ⟨congrArg (fun x => Ending.returned (.string x)) (enc_yes (s := t ++ bs (expB W n6)) hok (by rw [HL.out, et.out]; simp only [bs_app, List.append_assoc]) (by rw [ByteArray.size_append]; omega)).symm, hb7⟩
end Go.Proofs.YtfodndnkhgijmaaDoor
