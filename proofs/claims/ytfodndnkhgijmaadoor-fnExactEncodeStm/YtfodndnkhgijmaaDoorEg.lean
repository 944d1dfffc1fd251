/-
  Statements as bytes: EncodeStm, the program's way.
-/
import Derived.Test.YtfodndnkhgijmaaDoorEe
import Derived.Deep.RegionHeld3
namespace Go.Proofs.YtfodndnkhgijmaaDoor
open Go.RowKit Go.Maps Go.WideMaps
set_option maxRecDepth 400000 in
set_option maxHeartbeats 8000000 in
theorem iEnc3 (tb : ByteArray) (n2 : Nat) (C : Nat → Clm) (n3 : Nat) (V : Nat → Itm) (col : ByteArray) (n5 : Nat) (E : Nat → Itm) (n6 : Nat) (W : Nat → Itm) (n7 : Nat) (m7 : Nat → Nat) (O : Nat → Nat → Itm)
    (a2 : Option Addr) (c2 : Nat) (a3 : Option Addr) (c3 : Nat) (a5 : Option Addr) (c5 : Nat) (a6 : Option Addr) (c6 : Nat) (a7 : Option Addr) (c7 : Nat) (D : St) (hD : (⟨3, tb, n2, C, n3, V, col, n5, E, n6, W, n7, m7, O⟩ : St) = D)
    (w : World) (h : SM w ⟨3, tb, n2, C, n3, V, col, n5, E, n6, W, n7, m7, O⟩ ⟨a2, c2, a3, c3, a5, c5, a6, c6, a7, c7⟩) (hT : SpT w) :
    Calls Tryd.prog 17 #[.agg #[.int .i64 3, .string tb, .slice a2 n2 c2, .slice a3 n3 c3, .string col, .slice a5 n5 c5, .slice a6 n6 c6, .slice a7 n7 c7]] w fun e w' => e = .returned (.string (encS D)) ∧ Below w.heap.size w w' := by
  have hb0 := bal w (.cells #[.int .i64 3, .string tb, .slice a2 n2 c2, .slice a3 n3 c3, .string col, .slice a5 n5 c5, .slice a6 n6 c6, .slice a7 n7 c7] 46)
  have H0 := h.later hb0
  have q0 : B8 (w.alloc (.cells #[.int .i64 3, .string tb, .slice a2 n2 c2, .slice a3 n3 c3, .string col, .slice a5 n5 c5, .slice a6 n6 c6, .slice a7 n7 c7] 46)) w.heap.size ⟨3, tb, n2, C, n3, V, col, n5, E, n6, W, n7, m7, O⟩ ⟨a2, c2, a3, c3, a5, c5, a6, c6, a7, c7⟩ := B8.new w ⟨3, tb, n2, C, n3, V, col, n5, E, n6, W, n7, m7, O⟩ ⟨a2, c2, a3, c3, a5, c5, a6, c6, a7, c7⟩ 46
  obtain ⟨htb, hcol, -, -, -, -, -, l2, l3, l5, l6, l7⟩ := id h
  dsimp only at htb hcol l2 l3 l5 l6 l7
  replace hD : Hid ((⟨3, tb, n2, C, n3, V, col, n5, E, n6, W, n7, m7, O⟩ : St) = D) := hD
  have HL : Hid (encL D = numI 1 3 ++ s8 tb ++ (s8 col ++ expB E n5 ++ expB W n6)) := by rw [← hD.out]; rfl
  have HO : Hid (okStm D = true → tb.size ≤ 30 ∧ col.size ≤ 30 ∧ (n5 ≤ 100 ∧ ∀ j, j < n5 → (E j).s.size ≤ 200) ∧ (n6 ≤ 100 ∧ ∀ j, j < n6 → (W j).s.size ≤ 200)) := fun x => by
    rw [← hD.out] at x
    exact ⟨okStm_tb x, ok3 x rfl⟩
  go_enter Tryd.func17, Tryd.ntmps17
  go_wp2_with (go_at_call 14; refine (iStmD _ tb n2 C n3 V col n5 E n6 W n7 m7 O a2 c2 a3 c3 a5 c5 a6 c6 a7 c7 D hD _ H0 (hT.later hb0)).mono ?_; rintro e w1 ⟨rfl, hb1⟩; have H1 := H0.later hb1; have Q1 := q0.later hb1; obtain ⟨q0, q1, q2, q3, q4, q5, q6, q7⟩ := id Q1; dsimp only at q0 q1 q2 q3 q4 q5 q6 q7; replace hb1 := bstep hb0 hb1; rcases hok : okStm D)
  · go_ret
    exact ⟨congrArg (fun x => Ending.returned (.string x)) (enc_no hok).symm, hb1⟩
  obtain ⟨htb', hc', ⟨hn5, ht5⟩, ⟨hn6, ht6⟩⟩ := HO.out hok
  have z1 : (bs (numI 1 3)).size ≤ 1 := by rw [bs_size, numI_len]; omega
  have z2 : (bs (s8 tb)).size ≤ 31 := by rw [bs_size, s8_len]; omega
  clear h H0 hb0 hT HO
  have z3 : (bs (s8 col)).size ≤ 31 := by rw [bs_size, s8_len]; omega
  have z4 : (bs (expB E n5)).size ≤ 30002 := by rw [bs_size]; exact expB_len hn5 ht5
  have z5 : (bs (expB W n6)).size ≤ 30002 := by rw [bs_size]; exact expB_len hn6 ht6
  have y0 : ¬ 9223372036854775807 < (bs (numI 1 3)).size + (bs (s8 tb)).size := by omega
  have y1 : ¬ 9223372036854775807 < (bs (s8 col)).size + (bs (expB E n5)).size := by omega
  have y2 : ¬ 9223372036854775807 < (bs (s8 col)).size + (bs (expB E n5)).size + (bs (expB W n6)).size := by omega
  have y3 : ¬ 9223372036854775807 < (bs (numI 1 3)).size + (bs (s8 tb)).size + ((bs (s8 col)).size + (bs (expB E n5)).size + (bs (expB W n6)).size) := by omega
  go_region_held3 (fun w' => w'.cell? ⟨w.heap.size, 0, none⟩ = some (.int .i64 3) ∧ w'.cell? ⟨w.heap.size, 1, none⟩ = some (.string tb)) (first | exact ⟨q0, q1⟩ | exact ⟨r0, r1⟩ | exact ⟨u0, u1⟩ | go_keep) (first | (go_at_call 57; refine (iHk3 _).mono ?_; rintro e w2 ⟨rfl, hb2⟩; have H2 := H1.later (undrew hb2); have Q2 := Q1.later (undrew hb2); replace hb2 := bstep hb1 (undrew hb2); obtain ⟨r0, r1, r2, r3, r4, r5, r6, r7⟩ := id Q2; dsimp only at r0 r1 r2 r3 r4 r5 r6 r7) | (go_at_call 58; refine (iSized1 tb _ htb).mono ?_; rintro e w3 ⟨rfl, hb3⟩; have H3 := H2.later hb3; have Q3 := Q2.later hb3; replace hb3 := bstep hb2 hb3; obtain ⟨u0, u1, u2, u3, u4, u5, u6, u7⟩ := id Q3; dsimp only at u0 u1 u2 u3 u4 u5 u6 u7))
  go_wp2
  have hone : True := trivial
  go_region_held3 (fun w' => w'.cell? ⟨w.heap.size, 4, none⟩ = some (.string col) ∧ w'.cell? ⟨w.heap.size, 5, none⟩ = some (.slice a5 n5 c5) ∧ w'.cell? ⟨w.heap.size, 6, none⟩ = some (.slice a6 n6 c6)) (first | exact ⟨u4, u5, u6⟩ | exact ⟨v4, v5, v6⟩ | exact ⟨x4, x5, x6⟩ | exact ⟨y4, y5, y6⟩ | go_keep) (first | (go_at_call 58; refine (iSized1 col _ hcol).mono ?_; rintro e w5 ⟨rfl, hb5⟩; have H5 := H3.later (undrew hb5); have Q5 := Q3.later (undrew hb5); replace hb5 := bstep hb3 (undrew hb5); obtain ⟨v0, v1, v2, v3, v4, v5, v6, v7⟩ := id Q5; dsimp only at v0 v1 v2 v3 v4 v5 v6 v7) | (go_at_call 63; have _h := hone; refine (iExpB a5 n5 c5 E _ H5.ex l5).mono ?_; rintro e w6 ⟨rfl, hb6⟩; clear hone; have H6 := H5.later hb6; have Q6 := Q5.later hb6; replace hb6 := bstep hb5 hb6; obtain ⟨x0, x1, x2, x3, x4, x5, x6, x7⟩ := id Q6; dsimp only at x0 x1 x2 x3 x4 x5 x6 x7) | (go_at_call 63; refine (iExpB a6 n6 c6 W _ H6.wh l6).mono ?_; rintro e w4 ⟨rfl, hb4⟩; have H4 := H6.later hb4; have Q4 := Q6.later hb4; replace hb4 := bstep hb6 hb4; obtain ⟨y0, y1, y2, y3, y4, y5, y6, y7⟩ := id Q4; dsimp only at y0 y1 y2 y3 y4 y5 y6 y7))
  go_wp2
  · go_ret
    rename_i hx
    simp only [bs_size] at hx
    exact ⟨congrArg (fun x => Ending.returned (.string x)) (enc_big hok rfl (by rw [HL.out]; simp only [bs_size, List.length_append]; omega)).symm, hb4⟩
  · go_ret
    rename_i hx
    simp only [bs_size] at hx
    exact ⟨congrArg (fun x => Ending.returned (.string x)) (enc_yes (s := bs (numI 1 3) ++ bs (s8 tb) ++ (bs (s8 col) ++ bs (expB E n5) ++ bs (expB W n6))) hok (by rw [HL.out]; simp only [bs_app]) (by simp only [bs_app, bs_size, List.length_append]; omega)).symm, hb4⟩
set_option maxRecDepth 400000 in
set_option maxHeartbeats 8000000 in
theorem iEnc5 (tb : ByteArray) (n2 : Nat) (C : Nat → Clm) (n3 : Nat) (V : Nat → Itm) (col : ByteArray) (n5 : Nat) (E : Nat → Itm) (n6 : Nat) (W : Nat → Itm) (n7 : Nat) (m7 : Nat → Nat) (O : Nat → Nat → Itm)
    (a2 : Option Addr) (c2 : Nat) (a3 : Option Addr) (c3 : Nat) (a5 : Option Addr) (c5 : Nat) (a6 : Option Addr) (c6 : Nat) (a7 : Option Addr) (c7 : Nat) (D : St) (hD : (⟨5, tb, n2, C, n3, V, col, n5, E, n6, W, n7, m7, O⟩ : St) = D)
    (w : World) (h : SM w ⟨5, tb, n2, C, n3, V, col, n5, E, n6, W, n7, m7, O⟩ ⟨a2, c2, a3, c3, a5, c5, a6, c6, a7, c7⟩) (hT : SpT w) :
    Calls Tryd.prog 17 #[.agg #[.int .i64 5, .string tb, .slice a2 n2 c2, .slice a3 n3 c3, .string col, .slice a5 n5 c5, .slice a6 n6 c6, .slice a7 n7 c7]] w fun e w' => e = .returned (.string (encS D)) ∧ Below w.heap.size w w' := by
  have hb0 := bal w (.cells #[.int .i64 5, .string tb, .slice a2 n2 c2, .slice a3 n3 c3, .string col, .slice a5 n5 c5, .slice a6 n6 c6, .slice a7 n7 c7] 46)
  have H0 := h.later hb0
  have q0 : B8 (w.alloc (.cells #[.int .i64 5, .string tb, .slice a2 n2 c2, .slice a3 n3 c3, .string col, .slice a5 n5 c5, .slice a6 n6 c6, .slice a7 n7 c7] 46)) w.heap.size ⟨5, tb, n2, C, n3, V, col, n5, E, n6, W, n7, m7, O⟩ ⟨a2, c2, a3, c3, a5, c5, a6, c6, a7, c7⟩ := B8.new w ⟨5, tb, n2, C, n3, V, col, n5, E, n6, W, n7, m7, O⟩ ⟨a2, c2, a3, c3, a5, c5, a6, c6, a7, c7⟩ 46
  obtain ⟨htb, hcol, -, -, -, -, -, l2, l3, l5, l6, l7⟩ := id h
  dsimp only at htb hcol l2 l3 l5 l6 l7
  replace hD : Hid ((⟨5, tb, n2, C, n3, V, col, n5, E, n6, W, n7, m7, O⟩ : St) = D) := hD
  have HL : Hid (encL D = numI 1 5 ++ s8 tb ++ ((numI 1 n7 ++ listB (fun j => expB (O j) (m7 j)) n7) ++ expB W n6)) := by rw [← hD.out]; rfl
  have HO : Hid (okStm D = true → tb.size ≤ 30 ∧ n7 ≤ 20 ∧ (∀ j, j < n7 → m7 j ≤ 100 ∧ ∀ q, q < m7 j → (O j q).s.size ≤ 200) ∧ (n6 ≤ 100 ∧ ∀ j, j < n6 → (W j).s.size ≤ 200)) := fun x => by
    rw [← hD.out] at x
    exact ⟨okStm_tb x, ok5 x rfl⟩
  go_enter Tryd.func17, Tryd.ntmps17
  go_wp2_with (go_at_call 14; refine (iStmD _ tb n2 C n3 V col n5 E n6 W n7 m7 O a2 c2 a3 c3 a5 c5 a6 c6 a7 c7 D hD _ H0 (hT.later hb0)).mono ?_; rintro e w1 ⟨rfl, hb1⟩; have H1 := H0.later hb1; have Q1 := q0.later hb1; obtain ⟨q0, q1, q2, q3, q4, q5, q6, q7⟩ := id Q1; dsimp only at q0 q1 q2 q3 q4 q5 q6 q7; replace hb1 := bstep hb0 hb1; rcases hok : okStm D)
  · go_ret
    exact ⟨congrArg (fun x => Ending.returned (.string x)) (enc_no hok).symm, hb1⟩
  obtain ⟨htb', hn7, ht7, ⟨hn6, ht6⟩⟩ := HO.out hok
  have z1 : (bs (numI 1 5)).size ≤ 1 := by rw [bs_size, numI_len]; omega
  have z2 : (bs (s8 tb)).size ≤ 31 := by rw [bs_size, s8_len]; omega
  clear h H0 hb0 hT HO
  have z3 : (bs (numI 1 n7 ++ listB (fun j => expB (O j) (m7 j)) n7)).size ≤ 1000000 := by
    have := listB_len (B := fun j => expB (O j) (m7 j)) (c := 30002) (n := n7) (fun j hj => expB_len (ht7 j hj).1 (ht7 j hj).2)
    rw [bs_size, List.length_append, numI_len]
    omega
  have z4 : (bs (expB W n6)).size ≤ 30002 := by rw [bs_size]; exact expB_len hn6 ht6
  have y0 : ¬ 9223372036854775807 < (bs (numI 1 5)).size + (bs (s8 tb)).size := by omega
  have y1 : ¬ 9223372036854775807 < (bs (numI 1 n7 ++ listB (fun j => expB (O j) (m7 j)) n7)).size + (bs (expB W n6)).size := by omega
  have y3 : ¬ 9223372036854775807 < (bs (numI 1 5)).size + (bs (s8 tb)).size + ((bs (numI 1 n7 ++ listB (fun j => expB (O j) (m7 j)) n7)).size + (bs (expB W n6)).size) := by omega
  go_region_held3 (fun w' => w'.cell? ⟨w.heap.size, 0, none⟩ = some (.int .i64 5) ∧ w'.cell? ⟨w.heap.size, 1, none⟩ = some (.string tb)) (first | exact ⟨q0, q1⟩ | exact ⟨r0, r1⟩ | exact ⟨u0, u1⟩ | go_keep) (first | (go_at_call 57; refine (iHk5 _).mono ?_; rintro e w2 ⟨rfl, hb2⟩; have H2 := H1.later (undrew hb2); have Q2 := Q1.later (undrew hb2); replace hb2 := bstep hb1 (undrew hb2); obtain ⟨r0, r1, r2, r3, r4, r5, r6, r7⟩ := id Q2; dsimp only at r0 r1 r2 r3 r4 r5 r6 r7) | (go_at_call 58; refine (iSized1 tb _ htb).mono ?_; rintro e w3 ⟨rfl, hb3⟩; have H3 := H2.later hb3; have Q3 := Q2.later hb3; replace hb3 := bstep hb2 hb3; obtain ⟨u0, u1, u2, u3, u4, u5, u6, u7⟩ := id Q3; dsimp only at u0 u1 u2 u3 u4 u5 u6 u7))
  go_wp2
  go_region_held3 (fun w' => w'.cell? ⟨w.heap.size, 6, none⟩ = some (.slice a6 n6 c6) ∧ w'.cell? ⟨w.heap.size, 7, none⟩ = some (.slice a7 n7 c7)) (first | exact ⟨u6, u7⟩ | exact ⟨v6, v7⟩ | exact ⟨y6, y7⟩ | go_keep) (first | (go_at_call 64; refine (iOutsB a7 n7 c7 m7 O _ (olDrew H3.ou) (fun j hj => (ht7 j hj).1) (fun j hj => (ht7 j hj).2) l7).mono ?_; rintro e w5 ⟨rfl, hb5⟩; have H5 := H3.later (undrew hb5); have Q5 := Q3.later (undrew hb5); replace hb5 := bstep hb3 (undrew hb5); obtain ⟨v0, v1, v2, v3, v4, v5, v6, v7⟩ := id Q5; dsimp only at v0 v1 v2 v3 v4 v5 v6 v7) | (go_at_call 63; refine (iExpB a6 n6 c6 W _ H5.wh l6).mono ?_; rintro e w4 ⟨rfl, hb4⟩; have H4 := H5.later hb4; have Q4 := Q5.later hb4; replace hb4 := bstep hb5 hb4; obtain ⟨y0, y1, y2, y3, y4, y5, y6, y7⟩ := id Q4; dsimp only at y0 y1 y2 y3 y4 y5 y6 y7))
  go_wp2
  · go_ret
    rename_i hx
    simp only [bs_size, List.length_append] at hx
    exact ⟨congrArg (fun x => Ending.returned (.string x)) (enc_big hok rfl (by rw [HL.out]; simp only [bs_size, List.length_append]; omega)).symm, hb4⟩
  · go_ret
    rename_i hx
    simp only [bs_size, List.length_append] at hx
    exact ⟨congrArg (fun x => Ending.returned (.string x)) (enc_yes (s := bs (numI 1 5) ++ bs (s8 tb) ++ (bs (numI 1 n7 ++ listB (fun j => expB (O j) (m7 j)) n7) ++ bs (expB W n6))) hok (by rw [HL.out]; simp only [bs_app]) (by simp only [bs_app, bs_size, List.length_append]; omega)).symm, hb4⟩
end Go.Proofs.YtfodndnkhgijmaaDoor
