/-
  Statements as bytes: EncodeStm, the program's way.
-/
import Derived.Test.YtfodndnkhgijmaaDoorEm
import Derived.Deep.RegionHeld3
namespace Go.Proofs.YtfodndnkhgijmaaDoor
open Go.RowKit Go.Maps Go.WideMaps
theorem iHk1 (w : World) : Calls Tryd.prog 57 #[.int .u64 1, .int .i64 1] w fun e w' => e = .returned (.string (bs (numI 1 1))) ∧ Below w.heap.size w w' := iHigh1 1 w
theorem iHk2 (w : World) : Calls Tryd.prog 57 #[.int .u64 2, .int .i64 1] w fun e w' => e = .returned (.string (bs (numI 1 2))) ∧ Below w.heap.size w w' := iHigh1 2 w
theorem iHk3 (w : World) : Calls Tryd.prog 57 #[.int .u64 3, .int .i64 1] w fun e w' => e = .returned (.string (bs (numI 1 3))) ∧ Below w.heap.size w w' := iHigh1 3 w
theorem iHk4 (w : World) : Calls Tryd.prog 57 #[.int .u64 4, .int .i64 1] w fun e w' => e = .returned (.string (bs (numI 1 4))) ∧ Below w.heap.size w w' := iHigh1 4 w
theorem iHk5 (w : World) : Calls Tryd.prog 57 #[.int .u64 5, .int .i64 1] w fun e w' => e = .returned (.string (bs (numI 1 5))) ∧ Below w.heap.size w w' := iHigh1 5 w
theorem olDrew {w : World} {a : Option Addr} {n : Nat} {m : Nat → Nat} {O : Nat → Nat → Itm} (h : OL w a n m O) : OL w.drew a n m O := h
set_option maxRecDepth 400000 in
set_option maxHeartbeats 8000000 in
theorem iEnc1 (tb : ByteArray) (n2 : Nat) (C : Nat → Clm) (n3 : Nat) (V : Nat → Itm) (col : ByteArray) (n5 : Nat) (E : Nat → Itm) (n6 : Nat) (W : Nat → Itm) (n7 : Nat) (m7 : Nat → Nat) (O : Nat → Nat → Itm)
    (a2 : Option Addr) (c2 : Nat) (a3 : Option Addr) (c3 : Nat) (a5 : Option Addr) (c5 : Nat) (a6 : Option Addr) (c6 : Nat) (a7 : Option Addr) (c7 : Nat) (D : St) (hD : (⟨1, tb, n2, C, n3, V, col, n5, E, n6, W, n7, m7, O⟩ : St) = D)
    (w : World) (h : SM w ⟨1, tb, n2, C, n3, V, col, n5, E, n6, W, n7, m7, O⟩ ⟨a2, c2, a3, c3, a5, c5, a6, c6, a7, c7⟩) (hT : SpT w) :
    Calls Tryd.prog 17 #[.agg #[.int .i64 1, .string tb, .slice a2 n2 c2, .slice a3 n3 c3, .string col, .slice a5 n5 c5, .slice a6 n6 c6, .slice a7 n7 c7]] w fun e w' => e = .returned (.string (encS D)) ∧ Below w.heap.size w w' := by
  have hb0 := bal w (.cells #[.int .i64 1, .string tb, .slice a2 n2 c2, .slice a3 n3 c3, .string col, .slice a5 n5 c5, .slice a6 n6 c6, .slice a7 n7 c7] 46)
  have H0 := h.later hb0
  have q0 : B8 (w.alloc (.cells #[.int .i64 1, .string tb, .slice a2 n2 c2, .slice a3 n3 c3, .string col, .slice a5 n5 c5, .slice a6 n6 c6, .slice a7 n7 c7] 46)) w.heap.size ⟨1, tb, n2, C, n3, V, col, n5, E, n6, W, n7, m7, O⟩ ⟨a2, c2, a3, c3, a5, c5, a6, c6, a7, c7⟩ := B8.new w ⟨1, tb, n2, C, n3, V, col, n5, E, n6, W, n7, m7, O⟩ ⟨a2, c2, a3, c3, a5, c5, a6, c6, a7, c7⟩ 46
  obtain ⟨htb, hcol, -, -, -, -, -, l2, l3, l5, l6, l7⟩ := id h
  dsimp only at htb hcol l2 l3 l5 l6 l7
  replace hD : Hid ((⟨1, tb, n2, C, n3, V, col, n5, E, n6, W, n7, m7, O⟩ : St) = D) := hD
  have HL : Hid (encL D = numI 1 1 ++ s8 tb ++ (numI 1 n2 ++ listB (fun j => colB (C j)) n2)) := by rw [← hD.out]; rfl
  have HO : Hid (okStm D = true → tb.size ≤ 30 ∧ n2 ≤ 20 ∧ ∀ j, j < n2 → (C j).s.size ≤ 30) := fun x => by
    rw [← hD.out] at x
    exact ⟨okStm_tb x, ok1 x rfl⟩
  go_enter Tryd.func17, Tryd.ntmps17
  go_wp2_with (go_at_call 14; refine (iStmD _ tb n2 C n3 V col n5 E n6 W n7 m7 O a2 c2 a3 c3 a5 c5 a6 c6 a7 c7 D hD _ H0 (hT.later hb0)).mono ?_; rintro e w1 ⟨rfl, hb1⟩; have H1 := H0.later hb1; have Q1 := q0.later hb1; obtain ⟨q0, q1, q2, q3, q4, q5, q6, q7⟩ := id Q1; dsimp only at q0 q1 q2 q3 q4 q5 q6 q7; replace hb1 := bstep hb0 hb1; rcases hok : okStm D)
  · go_ret
    exact ⟨congrArg (fun x => Ending.returned (.string x)) (enc_no hok).symm, hb1⟩
  obtain ⟨htb', hn, hc⟩ := HO.out hok
  have z1 : (bs (numI 1 1)).size ≤ 1 := by rw [bs_size, numI_len]; omega
  have z2 : (bs (s8 tb)).size ≤ 31 := by rw [bs_size, s8_len]; omega
  clear h H0 hb0 hT HO
  have z3 : (bs (numI 1 n2 ++ listB (fun j => colB (C j)) n2)).size ≤ 100000 := by
    have := listB_len (B := fun j => colB (C j)) (c := 100) (n := n2) (fun j hj => by have := hc j hj; simp [colB, s8_len, numI_len]; omega)
    rw [bs_size, List.length_append, numI_len]
    omega
  have y0 : ¬ 9223372036854775807 < (bs (numI 1 1)).size + (bs (s8 tb)).size := by omega
  go_region_held3 (fun w' => w'.cell? ⟨w.heap.size, 0, none⟩ = some (.int .i64 1) ∧ w'.cell? ⟨w.heap.size, 1, none⟩ = some (.string tb)) (first | exact ⟨q0, q1⟩ | exact ⟨r0, r1⟩ | exact ⟨u0, u1⟩ | go_keep) (first | (go_at_call 57; refine (iHk1 _).mono ?_; rintro e w2 ⟨rfl, hb2⟩; have H2 := H1.later (undrew hb2); have Q2 := Q1.later (undrew hb2); replace hb2 := bstep hb1 (undrew hb2); obtain ⟨r0, r1, r2, r3, r4, r5, r6, r7⟩ := id Q2; dsimp only at r0 r1 r2 r3 r4 r5 r6 r7) | (go_at_call 58; refine (iSized1 tb _ htb).mono ?_; rintro e w3 ⟨rfl, hb3⟩; have H3 := H2.later hb3; have Q3 := Q2.later hb3; replace hb3 := bstep hb2 hb3; obtain ⟨u0, u1, u2, u3, u4, u5, u6, u7⟩ := id Q3; dsimp only at u0 u1 u2 u3 u4 u5 u6 u7))
  go_wp2_with (go_at_call 59; refine (iColsB a2 n2 c2 C _ H3.co l2).mono ?_; rintro e w4 ⟨rfl, hb4⟩; replace hb4 := bstep hb3 hb4)
  · go_ret
    rename_i hx
    simp only [bs_size, List.length_append] at hx
    exact ⟨congrArg (fun x => Ending.returned (.string x)) (enc_big hok rfl (by rw [HL.out]; simp only [bs_size, List.length_append]; omega)).symm, hb4⟩
  · go_ret
    rename_i hx
    simp only [bs_size, List.length_append] at hx
    exact ⟨congrArg (fun x => Ending.returned (.string x)) (enc_yes (s := bs (numI 1 1) ++ bs (s8 tb) ++ bs (numI 1 n2 ++ listB (fun j => colB (C j)) n2)) hok (by rw [HL.out]; simp only [bs_app]) (by simp only [bs_app, bs_size, List.length_append]; omega)).symm, hb4⟩
set_option maxRecDepth 400000 in
set_option maxHeartbeats 8000000 in
theorem iEnc2 (tb : ByteArray) (n2 : Nat) (C : Nat → Clm) (n3 : Nat) (V : Nat → Itm) (col : ByteArray) (n5 : Nat) (E : Nat → Itm) (n6 : Nat) (W : Nat → Itm) (n7 : Nat) (m7 : Nat → Nat) (O : Nat → Nat → Itm)
    (a2 : Option Addr) (c2 : Nat) (a3 : Option Addr) (c3 : Nat) (a5 : Option Addr) (c5 : Nat) (a6 : Option Addr) (c6 : Nat) (a7 : Option Addr) (c7 : Nat) (D : St) (hD : (⟨2, tb, n2, C, n3, V, col, n5, E, n6, W, n7, m7, O⟩ : St) = D)
    (w : World) (h : SM w ⟨2, tb, n2, C, n3, V, col, n5, E, n6, W, n7, m7, O⟩ ⟨a2, c2, a3, c3, a5, c5, a6, c6, a7, c7⟩) (hT : SpT w) :
    Calls Tryd.prog 17 #[.agg #[.int .i64 2, .string tb, .slice a2 n2 c2, .slice a3 n3 c3, .string col, .slice a5 n5 c5, .slice a6 n6 c6, .slice a7 n7 c7]] w fun e w' => e = .returned (.string (encS D)) ∧ Below w.heap.size w w' := by
  have hb0 := bal w (.cells #[.int .i64 2, .string tb, .slice a2 n2 c2, .slice a3 n3 c3, .string col, .slice a5 n5 c5, .slice a6 n6 c6, .slice a7 n7 c7] 46)
  have H0 := h.later hb0
  have q0 : B8 (w.alloc (.cells #[.int .i64 2, .string tb, .slice a2 n2 c2, .slice a3 n3 c3, .string col, .slice a5 n5 c5, .slice a6 n6 c6, .slice a7 n7 c7] 46)) w.heap.size ⟨2, tb, n2, C, n3, V, col, n5, E, n6, W, n7, m7, O⟩ ⟨a2, c2, a3, c3, a5, c5, a6, c6, a7, c7⟩ := B8.new w ⟨2, tb, n2, C, n3, V, col, n5, E, n6, W, n7, m7, O⟩ ⟨a2, c2, a3, c3, a5, c5, a6, c6, a7, c7⟩ 46
  obtain ⟨htb, hcol, -, -, -, -, -, l2, l3, l5, l6, l7⟩ := id h
  dsimp only at htb hcol l2 l3 l5 l6 l7
  replace hD : Hid ((⟨2, tb, n2, C, n3, V, col, n5, E, n6, W, n7, m7, O⟩ : St) = D) := hD
  have HL : Hid (encL D = numI 1 2 ++ s8 tb ++ (numI 1 n3 ++ listB (fun j => valB (V j)) n3)) := by rw [← hD.out]; rfl
  have HO : Hid (okStm D = true → tb.size ≤ 30 ∧ n3 ≤ 20 ∧ ∀ j, j < n3 → (V j).s.size ≤ 200) := fun x => by
    rw [← hD.out] at x
    exact ⟨okStm_tb x, ok2 x rfl⟩
  go_enter Tryd.func17, Tryd.ntmps17
  go_wp2_with (go_at_call 14; refine (iStmD _ tb n2 C n3 V col n5 E n6 W n7 m7 O a2 c2 a3 c3 a5 c5 a6 c6 a7 c7 D hD _ H0 (hT.later hb0)).mono ?_; rintro e w1 ⟨rfl, hb1⟩; have H1 := H0.later hb1; have Q1 := q0.later hb1; obtain ⟨q0, q1, q2, q3, q4, q5, q6, q7⟩ := id Q1; dsimp only at q0 q1 q2 q3 q4 q5 q6 q7; replace hb1 := bstep hb0 hb1; rcases hok : okStm D)
  · go_ret
    exact ⟨congrArg (fun x => Ending.returned (.string x)) (enc_no hok).symm, hb1⟩
  obtain ⟨htb', hn, hc⟩ := HO.out hok
  have z1 : (bs (numI 1 2)).size ≤ 1 := by rw [bs_size, numI_len]; omega
  have z2 : (bs (s8 tb)).size ≤ 31 := by rw [bs_size, s8_len]; omega
  clear h H0 hb0 hT HO
  have z3 : (bs (numI 1 n3 ++ listB (fun j => valB (V j)) n3)).size ≤ 100000 := by
    have := listB_len (B := fun j => valB (V j)) (c := 300) (n := n3) (fun j hj => by have := hc j hj; unfold valB; rw [List.length_append, numI_len]; split <;> simp [numI_len, s16_len] <;> omega)
    rw [bs_size, List.length_append, numI_len]
    omega
  have y0 : ¬ 9223372036854775807 < (bs (numI 1 2)).size + (bs (s8 tb)).size := by omega
  go_region_held3 (fun w' => w'.cell? ⟨w.heap.size, 0, none⟩ = some (.int .i64 2) ∧ w'.cell? ⟨w.heap.size, 1, none⟩ = some (.string tb)) (first | exact ⟨q0, q1⟩ | exact ⟨r0, r1⟩ | exact ⟨u0, u1⟩ | go_keep) (first | (go_at_call 57; refine (iHk2 _).mono ?_; rintro e w2 ⟨rfl, hb2⟩; have H2 := H1.later (undrew hb2); have Q2 := Q1.later (undrew hb2); replace hb2 := bstep hb1 (undrew hb2); obtain ⟨r0, r1, r2, r3, r4, r5, r6, r7⟩ := id Q2; dsimp only at r0 r1 r2 r3 r4 r5 r6 r7) | (go_at_call 58; refine (iSized1 tb _ htb).mono ?_; rintro e w3 ⟨rfl, hb3⟩; have H3 := H2.later hb3; have Q3 := Q2.later hb3; replace hb3 := bstep hb2 hb3; obtain ⟨u0, u1, u2, u3, u4, u5, u6, u7⟩ := id Q3; dsimp only at u0 u1 u2 u3 u4 u5 u6 u7))
  go_wp2_with (go_at_call 61; refine (iValsB a3 n3 c3 V _ H3.va l3).mono ?_; rintro e w4 ⟨rfl, hb4⟩; replace hb4 := bstep hb3 hb4)
  · go_ret
    rename_i hx
    simp only [bs_size, List.length_append] at hx
    exact ⟨congrArg (fun x => Ending.returned (.string x)) (enc_big hok rfl (by rw [HL.out]; simp only [bs_size, List.length_append]; omega)).symm, hb4⟩
  · go_ret
    rename_i hx
    simp only [bs_size, List.length_append] at hx
    exact ⟨congrArg (fun x => Ending.returned (.string x)) (enc_yes (s := bs (numI 1 2) ++ bs (s8 tb) ++ bs (numI 1 n3 ++ listB (fun j => valB (V j)) n3)) hok (by rw [HL.out]; simp only [bs_app]) (by simp only [bs_app, bs_size, List.length_append]; omega)).symm, hb4⟩
set_option maxRecDepth 400000 in
set_option maxHeartbeats 8000000 in
theorem iEnc4 (tb : ByteArray) (n2 : Nat) (C : Nat → Clm) (n3 : Nat) (V : Nat → Itm) (col : ByteArray) (n5 : Nat) (E : Nat → Itm) (n6 : Nat) (W : Nat → Itm) (n7 : Nat) (m7 : Nat → Nat) (O : Nat → Nat → Itm)
    (a2 : Option Addr) (c2 : Nat) (a3 : Option Addr) (c3 : Nat) (a5 : Option Addr) (c5 : Nat) (a6 : Option Addr) (c6 : Nat) (a7 : Option Addr) (c7 : Nat) (D : St) (hD : (⟨4, tb, n2, C, n3, V, col, n5, E, n6, W, n7, m7, O⟩ : St) = D)
    (w : World) (h : SM w ⟨4, tb, n2, C, n3, V, col, n5, E, n6, W, n7, m7, O⟩ ⟨a2, c2, a3, c3, a5, c5, a6, c6, a7, c7⟩) (hT : SpT w) :
    Calls Tryd.prog 17 #[.agg #[.int .i64 4, .string tb, .slice a2 n2 c2, .slice a3 n3 c3, .string col, .slice a5 n5 c5, .slice a6 n6 c6, .slice a7 n7 c7]] w fun e w' => e = .returned (.string (encS D)) ∧ Below w.heap.size w w' := by
  have hb0 := bal w (.cells #[.int .i64 4, .string tb, .slice a2 n2 c2, .slice a3 n3 c3, .string col, .slice a5 n5 c5, .slice a6 n6 c6, .slice a7 n7 c7] 46)
  have H0 := h.later hb0
  have q0 : B8 (w.alloc (.cells #[.int .i64 4, .string tb, .slice a2 n2 c2, .slice a3 n3 c3, .string col, .slice a5 n5 c5, .slice a6 n6 c6, .slice a7 n7 c7] 46)) w.heap.size ⟨4, tb, n2, C, n3, V, col, n5, E, n6, W, n7, m7, O⟩ ⟨a2, c2, a3, c3, a5, c5, a6, c6, a7, c7⟩ := B8.new w ⟨4, tb, n2, C, n3, V, col, n5, E, n6, W, n7, m7, O⟩ ⟨a2, c2, a3, c3, a5, c5, a6, c6, a7, c7⟩ 46
  obtain ⟨htb, hcol, -, -, -, -, -, l2, l3, l5, l6, l7⟩ := id h
  dsimp only at htb hcol l2 l3 l5 l6 l7
  replace hD : Hid ((⟨4, tb, n2, C, n3, V, col, n5, E, n6, W, n7, m7, O⟩ : St) = D) := hD
  have HL : Hid (encL D = numI 1 4 ++ s8 tb ++ (expB W n6)) := by rw [← hD.out]; rfl
  have HO : Hid (okStm D = true → tb.size ≤ 30 ∧ n6 ≤ 100 ∧ ∀ j, j < n6 → (W j).s.size ≤ 200) := fun x => by
    rw [← hD.out] at x
    exact ⟨okStm_tb x, ok4 x rfl⟩
  go_enter Tryd.func17, Tryd.ntmps17
  go_wp2_with (go_at_call 14; refine (iStmD _ tb n2 C n3 V col n5 E n6 W n7 m7 O a2 c2 a3 c3 a5 c5 a6 c6 a7 c7 D hD _ H0 (hT.later hb0)).mono ?_; rintro e w1 ⟨rfl, hb1⟩; have H1 := H0.later hb1; have Q1 := q0.later hb1; obtain ⟨q0, q1, q2, q3, q4, q5, q6, q7⟩ := id Q1; dsimp only at q0 q1 q2 q3 q4 q5 q6 q7; replace hb1 := bstep hb0 hb1; rcases hok : okStm D)
  · go_ret
    exact ⟨congrArg (fun x => Ending.returned (.string x)) (enc_no hok).symm, hb1⟩
  obtain ⟨htb', hn6, ht6⟩ := HO.out hok
  have z1 : (bs (numI 1 4)).size ≤ 1 := by rw [bs_size, numI_len]; omega
  have z2 : (bs (s8 tb)).size ≤ 31 := by rw [bs_size, s8_len]; omega
  clear h H0 hb0 hT HO
  have z3 : (bs (expB W n6)).size ≤ 30002 := by rw [bs_size]; exact expB_len hn6 ht6
  have y0 : ¬ 9223372036854775807 < (bs (numI 1 4)).size + (bs (s8 tb)).size := by omega
  go_region_held3 (fun w' => w'.cell? ⟨w.heap.size, 0, none⟩ = some (.int .i64 4) ∧ w'.cell? ⟨w.heap.size, 1, none⟩ = some (.string tb)) (first | exact ⟨q0, q1⟩ | exact ⟨r0, r1⟩ | exact ⟨u0, u1⟩ | go_keep) (first | (go_at_call 57; refine (iHk4 _).mono ?_; rintro e w2 ⟨rfl, hb2⟩; have H2 := H1.later (undrew hb2); have Q2 := Q1.later (undrew hb2); replace hb2 := bstep hb1 (undrew hb2); obtain ⟨r0, r1, r2, r3, r4, r5, r6, r7⟩ := id Q2; dsimp only at r0 r1 r2 r3 r4 r5 r6 r7) | (go_at_call 58; refine (iSized1 tb _ htb).mono ?_; rintro e w3 ⟨rfl, hb3⟩; have H3 := H2.later hb3; have Q3 := Q2.later hb3; replace hb3 := bstep hb2 hb3; obtain ⟨u0, u1, u2, u3, u4, u5, u6, u7⟩ := id Q3; dsimp only at u0 u1 u2 u3 u4 u5 u6 u7))
  go_wp2_with (go_at_call 63; refine (iExpB a6 n6 c6 W _ H3.wh l6).mono ?_; rintro e w4 ⟨rfl, hb4⟩; replace hb4 := bstep hb3 hb4)
  go_ret
  exact ⟨congrArg (fun x => Ending.returned (.string x)) (enc_yes (s := bs (numI 1 4) ++ bs (s8 tb) ++ bs (expB W n6)) hok (by rw [HL.out]; simp only [bs_app]) (by rw [ByteArray.size_append, ByteArray.size_append]; omega)).symm, hb4⟩
set_option maxRecDepth 400000 in
set_option maxHeartbeats 8000000 in
theorem iEnc0 (k : Int) (e1 : ¬ k = 1) (e2 : ¬ k = 2) (e3 : ¬ k = 3) (e4 : ¬ k = 4) (e5 : ¬ k = 5) (tb : ByteArray) (n2 : Nat) (C : Nat → Clm) (n3 : Nat) (V : Nat → Itm) (col : ByteArray) (n5 : Nat) (E : Nat → Itm) (n6 : Nat) (W : Nat → Itm) (n7 : Nat) (m7 : Nat → Nat) (O : Nat → Nat → Itm)
    (a2 : Option Addr) (c2 : Nat) (a3 : Option Addr) (c3 : Nat) (a5 : Option Addr) (c5 : Nat) (a6 : Option Addr) (c6 : Nat) (a7 : Option Addr) (c7 : Nat) (D : St) (hD : (⟨k, tb, n2, C, n3, V, col, n5, E, n6, W, n7, m7, O⟩ : St) = D)
    (w : World) (h : SM w ⟨k, tb, n2, C, n3, V, col, n5, E, n6, W, n7, m7, O⟩ ⟨a2, c2, a3, c3, a5, c5, a6, c6, a7, c7⟩) (hT : SpT w) :
    Calls Tryd.prog 17 #[.agg #[.int .i64 k, .string tb, .slice a2 n2 c2, .slice a3 n3 c3, .string col, .slice a5 n5 c5, .slice a6 n6 c6, .slice a7 n7 c7]] w fun e w' => e = .returned (.string (encS D)) ∧ Below w.heap.size w w' := by
  have hb0 := bal w (.cells #[.int .i64 k, .string tb, .slice a2 n2 c2, .slice a3 n3 c3, .string col, .slice a5 n5 c5, .slice a6 n6 c6, .slice a7 n7 c7] 46)
  have H0 := h.later hb0
  have q0 : B8 (w.alloc (.cells #[.int .i64 k, .string tb, .slice a2 n2 c2, .slice a3 n3 c3, .string col, .slice a5 n5 c5, .slice a6 n6 c6, .slice a7 n7 c7] 46)) w.heap.size ⟨k, tb, n2, C, n3, V, col, n5, E, n6, W, n7, m7, O⟩ ⟨a2, c2, a3, c3, a5, c5, a6, c6, a7, c7⟩ := B8.new w ⟨k, tb, n2, C, n3, V, col, n5, E, n6, W, n7, m7, O⟩ ⟨a2, c2, a3, c3, a5, c5, a6, c6, a7, c7⟩ 46
  obtain ⟨htb, hcol, -, -, -, -, -, l2, l3, l5, l6, l7⟩ := id h
  dsimp only at htb hcol l2 l3 l5 l6 l7
  replace hD : Hid ((⟨k, tb, n2, C, n3, V, col, n5, E, n6, W, n7, m7, O⟩ : St) = D) := hD
  have HZ : okStm D = false := by rw [← hD.out]; exact stm0 ⟨k, tb, n2, C, n3, V, col, n5, E, n6, W, n7, m7, O⟩ e1 e2 e3 e4 e5
  go_enter Tryd.func17, Tryd.ntmps17
  go_wp2_with (go_at_call 14; refine (iStmD _ tb n2 C n3 V col n5 E n6 W n7 m7 O a2 c2 a3 c3 a5 c5 a6 c6 a7 c7 D hD _ H0 (hT.later hb0)).mono ?_; rintro e w1 ⟨rfl, hb1⟩; have H1 := H0.later hb1; have Q1 := q0.later hb1; obtain ⟨q0, q1, q2, q3, q4, q5, q6, q7⟩ := id Q1; dsimp only at q0 q1 q2 q3 q4 q5 q6 q7; replace hb1 := bstep hb0 hb1; rcases hok : okStm D)
  · go_ret
    exact ⟨congrArg (fun x => Ending.returned (.string x)) (enc_no hok).symm, hb1⟩
  · rw [HZ] at hok; cases hok
end Go.Proofs.YtfodndnkhgijmaaDoor
