/-
  Statements: StmOK, the program's way.
-/
import Derived.Test.YtfodndnkhgijmaaDoorNm
namespace Go.Proofs.YtfodndnkhgijmaaDoor
open Go.RowKit Go.Maps Go.WideMaps
theorem eqZ (n : Nat) : ((n : Int) == 0) = decide (n = 0) := by rw [Bool.eq_iff_iff]; simp
theorem neZ (n : Nat) : ((n : Int) != 0) = !decide (n = 0) := by rw [bne, eqZ]
theorem stm1 (D : St) (e : D.k = 1) : okStm D = (okName D.tb && (bareB 0 D.n3 D.col D.n5 D.n6 D.n7 && (btw D.n2 1 20 && allN D.n2 (fun j => okCol (D.C j).s (D.C j).t)))) := by
  simp only [okStm, badS, restS, e, bareB, eqZ, neZ]
  by_cases h1 : D.n3 = 0 <;> by_cases h2 : D.col.size = 0 <;> by_cases h3 : D.n5 = 0 <;> by_cases h4 : D.n6 = 0 <;> by_cases h5 : D.n7 = 0 <;> simp [h1, h2, h3, h4, h5]
theorem stm2 (D : St) (e : D.k = 2) : okStm D = (okName D.tb && (bareB D.n2 0 D.col D.n5 D.n6 D.n7 && (btw D.n3 1 20 && allN D.n3 (fun j => okValue (D.V j).o (D.V j).m (D.V j).s)))) := by
  simp only [okStm, badS, restS, e, bareB, eqZ, neZ]
  by_cases h1 : D.n2 = 0 <;> by_cases h2 : D.col.size = 0 <;> by_cases h3 : D.n5 = 0 <;> by_cases h4 : D.n6 = 0 <;> by_cases h5 : D.n7 = 0 <;> simp [h1, h2, h3, h4, h5]
theorem stm3 (D : St) (e : D.k = 3) : okStm D = (okName D.tb && (bareB D.n2 D.n3 ⟨#[]⟩ 0 0 D.n7 && (okName D.col && okExp D.E D.n5 && okWhere D.W D.n6))) := by
  have z : (⟨#[]⟩ : ByteArray).size = 0 := rfl
  simp only [okStm, badS, restS, e, bareB, eqZ, neZ, z]
  by_cases h1 : D.n2 = 0 <;> by_cases h2 : D.n3 = 0 <;> by_cases h3 : D.n7 = 0 <;> simp [h1, h2, h3]
theorem stm4 (D : St) (e : D.k = 4) : okStm D = (okName D.tb && (bareB D.n2 D.n3 D.col D.n5 0 D.n7 && okWhere D.W D.n6)) := by
  simp only [okStm, badS, restS, e, bareB, eqZ, neZ]
  by_cases h1 : D.n2 = 0 <;> by_cases h2 : D.n3 = 0 <;> by_cases h3 : D.n7 = 0 <;> by_cases h4 : D.col.size = 0 <;> by_cases h5 : D.n5 = 0 <;> simp [h1, h2, h3, h4, h5]
theorem stm5 (D : St) (e : D.k = 5) : okStm D = (okName D.tb && (bareB D.n2 D.n3 D.col D.n5 0 0 && ((btw D.n7 1 20 && allN D.n7 (fun j => okExp (D.O j) (D.m7 j))) && okWhere D.W D.n6))) := by
  simp only [okStm, badS, restS, e, bareB, eqZ, neZ]
  by_cases h1 : D.n2 = 0 <;> by_cases h2 : D.n3 = 0 <;> by_cases h4 : D.col.size = 0 <;> by_cases h5 : D.n5 = 0 <;> simp [h1, h2, h4, h5]
theorem stm0 (D : St) (e1 : ¬ D.k = 1) (e2 : ¬ D.k = 2) (e3 : ¬ D.k = 3) (e4 : ¬ D.k = 4) (e5 : ¬ D.k = 5) : okStm D = false := by
  simp [okStm, restS, e1, e2, e3, e4, e5]
set_option maxRecDepth 20000 in
set_option maxHeartbeats 8000000 in
theorem iStm1 (tb : ByteArray) (n2 : Nat) (C : Nat → Clm) (n3 : Nat) (V : Nat → Itm) (col : ByteArray) (n5 : Nat) (E : Nat → Itm) (n6 : Nat) (W : Nat → Itm) (n7 : Nat) (m7 : Nat → Nat) (O : Nat → Nat → Itm)
    (a2 : Option Addr) (c2 : Nat) (a3 : Option Addr) (c3 : Nat) (a5 : Option Addr) (c5 : Nat) (a6 : Option Addr) (c6 : Nat) (a7 : Option Addr) (c7 : Nat) (D : St) (hD : (⟨1, tb, n2, C, n3, V, col, n5, E, n6, W, n7, m7, O⟩ : St) = D)
    (w : World) (h : SM w ⟨1, tb, n2, C, n3, V, col, n5, E, n6, W, n7, m7, O⟩ ⟨a2, c2, a3, c3, a5, c5, a6, c6, a7, c7⟩) (hT : SpT w) :
    Calls Tryd.prog 14 #[.agg #[.int .i64 1, .string tb, .slice a2 n2 c2, .slice a3 n3 c3, .string col, .slice a5 n5 c5, .slice a6 n6 c6, .slice a7 n7 c7]] w fun e w' => e = .returned (.bool (okStm D)) ∧ Below w.heap.size w w' := by
  have hb0 := bal w (.cells #[.int .i64 1, .string tb, .slice a2 n2 c2, .slice a3 n3 c3, .string col, .slice a5 n5 c5, .slice a6 n6 c6, .slice a7 n7 c7] 46)
  have H0 := h.later hb0
  have q0 : B8 (w.alloc (.cells #[.int .i64 1, .string tb, .slice a2 n2 c2, .slice a3 n3 c3, .string col, .slice a5 n5 c5, .slice a6 n6 c6, .slice a7 n7 c7] 46)) w.heap.size ⟨1, tb, n2, C, n3, V, col, n5, E, n6, W, n7, m7, O⟩ ⟨a2, c2, a3, c3, a5, c5, a6, c6, a7, c7⟩ := B8.new w ⟨1, tb, n2, C, n3, V, col, n5, E, n6, W, n7, m7, O⟩ ⟨a2, c2, a3, c3, a5, c5, a6, c6, a7, c7⟩ 46
  obtain ⟨htb, hcol, -, -, -, -, -, l2, l3, l5, l6, l7⟩ := id h
  dsimp only at htb hcol l2 l3 l5 l6 l7
  have HR : Hid (okStm D = (okName tb && (bareB 0 n3 col n5 n6 n7 && (btw n2 1 20 && allN n2 (fun j => okCol (C j).s (C j).t))))) := (hD ▸ stm1 ⟨1, tb, n2, C, n3, V, col, n5, E, n6, W, n7, m7, O⟩ rfl)
  clear hD
  go_enter Tryd.func14, Tryd.ntmps14
  go_upto_region 4 with (first | (go_at_call 22; refine (iKeywords _ (hT.later hb0)).mono ?_; rintro e w1 ⟨kb, rfl, hK1, hb1⟩; have H1 := H0.later hb1; have Q1 := q0.later hb1; have q1' := Q1.c1; dsimp only at q1'; replace hb1 := bstep hb0 hb1) | (go_at_call 40; refine (iName kb tb _ hK1 htb).mono ?_; rintro e w2 ⟨rfl, hb2⟩; have hK2 := hK1.later hb2; have H2 := H1.later hb2; have Q2 := Q1.later hb2; obtain ⟨q0, q1, q2, q3, q4, q5, q6, q7⟩ := id Q2; dsimp only at q0 q1 q2 q3 q4 q5 q6 q7; replace hb2 := bstep hb1 hb2; rcases hnm : okName tb))
  · go_ret
    exact ⟨retB (by rw [HR.out]; simp [hnm]), hb2⟩
  go_wp2_with (first | (go_at_call 41; refine (iBare _ _ _ _ _ _ _ _ _ _ _ _ _ _ _ _ _ _ _).mono ?_; rintro e w3 ⟨rfl, hb3⟩; have hK3 := hK2.later (bal2 hb3); have H3 := H2.later (bal2 hb3); have Q3 := Q2.later (bal2 hb3); obtain ⟨r0, r1, r2, r3, r4, r5, r6, r7⟩ := id Q3; dsimp only at r0 r1 r2 r3 r4 r5 r6 r7; replace hb3 := bstep hb2 (bal2 hb3); rcases hbr : bareB 0 n3 col n5 n6 n7) | (go_at_call 42; refine (iAllCol kb a2 n2 c2 C _ hK3 H3.co l2).mono ?_; rintro e w4 ⟨rfl, hb4⟩; replace hb4 := bstep hb3 hb4))
  · go_ret
    exact ⟨retB (by rw [HR.out]; simp [hbr]), hb3⟩
  · go_ret
    exact ⟨retB (by rw [HR.out]; simp [hbr, hnm]), hb4⟩
set_option maxRecDepth 20000 in
set_option maxHeartbeats 8000000 in
theorem iStm2 (tb : ByteArray) (n2 : Nat) (C : Nat → Clm) (n3 : Nat) (V : Nat → Itm) (col : ByteArray) (n5 : Nat) (E : Nat → Itm) (n6 : Nat) (W : Nat → Itm) (n7 : Nat) (m7 : Nat → Nat) (O : Nat → Nat → Itm)
    (a2 : Option Addr) (c2 : Nat) (a3 : Option Addr) (c3 : Nat) (a5 : Option Addr) (c5 : Nat) (a6 : Option Addr) (c6 : Nat) (a7 : Option Addr) (c7 : Nat) (D : St) (hD : (⟨2, tb, n2, C, n3, V, col, n5, E, n6, W, n7, m7, O⟩ : St) = D)
    (w : World) (h : SM w ⟨2, tb, n2, C, n3, V, col, n5, E, n6, W, n7, m7, O⟩ ⟨a2, c2, a3, c3, a5, c5, a6, c6, a7, c7⟩) (hT : SpT w) :
    Calls Tryd.prog 14 #[.agg #[.int .i64 2, .string tb, .slice a2 n2 c2, .slice a3 n3 c3, .string col, .slice a5 n5 c5, .slice a6 n6 c6, .slice a7 n7 c7]] w fun e w' => e = .returned (.bool (okStm D)) ∧ Below w.heap.size w w' := by
  have hb0 := bal w (.cells #[.int .i64 2, .string tb, .slice a2 n2 c2, .slice a3 n3 c3, .string col, .slice a5 n5 c5, .slice a6 n6 c6, .slice a7 n7 c7] 46)
  have H0 := h.later hb0
  have q0 : B8 (w.alloc (.cells #[.int .i64 2, .string tb, .slice a2 n2 c2, .slice a3 n3 c3, .string col, .slice a5 n5 c5, .slice a6 n6 c6, .slice a7 n7 c7] 46)) w.heap.size ⟨2, tb, n2, C, n3, V, col, n5, E, n6, W, n7, m7, O⟩ ⟨a2, c2, a3, c3, a5, c5, a6, c6, a7, c7⟩ := B8.new w ⟨2, tb, n2, C, n3, V, col, n5, E, n6, W, n7, m7, O⟩ ⟨a2, c2, a3, c3, a5, c5, a6, c6, a7, c7⟩ 46
  obtain ⟨htb, hcol, -, -, -, -, -, l2, l3, l5, l6, l7⟩ := id h
  dsimp only at htb hcol l2 l3 l5 l6 l7
  have HR : Hid (okStm D = (okName tb && (bareB n2 0 col n5 n6 n7 && (btw n3 1 20 && allN n3 (fun j => okValue (V j).o (V j).m (V j).s))))) := (hD ▸ stm2 ⟨2, tb, n2, C, n3, V, col, n5, E, n6, W, n7, m7, O⟩ rfl)
  clear hD
  go_enter Tryd.func14, Tryd.ntmps14
  go_upto_region 4 with (first | (go_at_call 22; refine (iKeywords _ (hT.later hb0)).mono ?_; rintro e w1 ⟨kb, rfl, hK1, hb1⟩; have H1 := H0.later hb1; have Q1 := q0.later hb1; have q1' := Q1.c1; dsimp only at q1'; replace hb1 := bstep hb0 hb1) | (go_at_call 40; refine (iName kb tb _ hK1 htb).mono ?_; rintro e w2 ⟨rfl, hb2⟩; have hK2 := hK1.later hb2; have H2 := H1.later hb2; have Q2 := Q1.later hb2; obtain ⟨q0, q1, q2, q3, q4, q5, q6, q7⟩ := id Q2; dsimp only at q0 q1 q2 q3 q4 q5 q6 q7; replace hb2 := bstep hb1 hb2; rcases hnm : okName tb))
  · go_ret
    exact ⟨retB (by rw [HR.out]; simp [hnm]), hb2⟩
  go_wp2_with (first | (go_at_call 41; refine (iBare _ _ _ _ _ _ _ _ _ _ _ _ _ _ _ _ _ _ _).mono ?_; rintro e w3 ⟨rfl, hb3⟩; have hK3 := hK2.later (bal2 hb3); have H3 := H2.later (bal2 hb3); have Q3 := Q2.later (bal2 hb3); obtain ⟨r0, r1, r2, r3, r4, r5, r6, r7⟩ := id Q3; dsimp only at r0 r1 r2 r3 r4 r5 r6 r7; replace hb3 := bstep hb2 (bal2 hb3); rcases hbr : bareB n2 0 col n5 n6 n7) | (go_at_call 44; refine (iAllVal a3 n3 c3 V _ H3.va l3).mono ?_; rintro e w4 ⟨rfl, hb4⟩; replace hb4 := bstep hb3 hb4))
  · go_ret
    exact ⟨retB (by rw [HR.out]; simp [hbr]), hb3⟩
  · go_ret
    exact ⟨retB (by rw [HR.out]; simp [hbr, hnm]), hb4⟩
set_option maxRecDepth 20000 in
set_option maxHeartbeats 8000000 in
theorem iStm3 (tb : ByteArray) (n2 : Nat) (C : Nat → Clm) (n3 : Nat) (V : Nat → Itm) (col : ByteArray) (n5 : Nat) (E : Nat → Itm) (n6 : Nat) (W : Nat → Itm) (n7 : Nat) (m7 : Nat → Nat) (O : Nat → Nat → Itm)
    (a2 : Option Addr) (c2 : Nat) (a3 : Option Addr) (c3 : Nat) (a5 : Option Addr) (c5 : Nat) (a6 : Option Addr) (c6 : Nat) (a7 : Option Addr) (c7 : Nat) (D : St) (hD : (⟨3, tb, n2, C, n3, V, col, n5, E, n6, W, n7, m7, O⟩ : St) = D)
    (w : World) (h : SM w ⟨3, tb, n2, C, n3, V, col, n5, E, n6, W, n7, m7, O⟩ ⟨a2, c2, a3, c3, a5, c5, a6, c6, a7, c7⟩) (hT : SpT w) :
    Calls Tryd.prog 14 #[.agg #[.int .i64 3, .string tb, .slice a2 n2 c2, .slice a3 n3 c3, .string col, .slice a5 n5 c5, .slice a6 n6 c6, .slice a7 n7 c7]] w fun e w' => e = .returned (.bool (okStm D)) ∧ Below w.heap.size w w' := by
  have hb0 := bal w (.cells #[.int .i64 3, .string tb, .slice a2 n2 c2, .slice a3 n3 c3, .string col, .slice a5 n5 c5, .slice a6 n6 c6, .slice a7 n7 c7] 46)
  have H0 := h.later hb0
  have q0 : B8 (w.alloc (.cells #[.int .i64 3, .string tb, .slice a2 n2 c2, .slice a3 n3 c3, .string col, .slice a5 n5 c5, .slice a6 n6 c6, .slice a7 n7 c7] 46)) w.heap.size ⟨3, tb, n2, C, n3, V, col, n5, E, n6, W, n7, m7, O⟩ ⟨a2, c2, a3, c3, a5, c5, a6, c6, a7, c7⟩ := B8.new w ⟨3, tb, n2, C, n3, V, col, n5, E, n6, W, n7, m7, O⟩ ⟨a2, c2, a3, c3, a5, c5, a6, c6, a7, c7⟩ 46
  obtain ⟨htb, hcol, -, -, -, -, -, l2, l3, l5, l6, l7⟩ := id h
  dsimp only at htb hcol l2 l3 l5 l6 l7
  have HR : Hid (okStm D = (okName tb && (bareB n2 n3 ⟨#[]⟩ 0 0 n7 && (okName col && okExp E n5 && okWhere W n6)))) := (hD ▸ stm3 ⟨3, tb, n2, C, n3, V, col, n5, E, n6, W, n7, m7, O⟩ rfl)
  clear hD
  go_enter Tryd.func14, Tryd.ntmps14
  go_upto_region 4 with (first | (go_at_call 22; refine (iKeywords _ (hT.later hb0)).mono ?_; rintro e w1 ⟨kb, rfl, hK1, hb1⟩; have H1 := H0.later hb1; have Q1 := q0.later hb1; have q1' := Q1.c1; dsimp only at q1'; replace hb1 := bstep hb0 hb1) | (go_at_call 40; refine (iName kb tb _ hK1 htb).mono ?_; rintro e w2 ⟨rfl, hb2⟩; have hK2 := hK1.later hb2; have H2 := H1.later hb2; have Q2 := Q1.later hb2; obtain ⟨q0, q1, q2, q3, q4, q5, q6, q7⟩ := id Q2; dsimp only at q0 q1 q2 q3 q4 q5 q6 q7; replace hb2 := bstep hb1 hb2; rcases hnm : okName tb))
  · go_ret
    exact ⟨retB (by rw [HR.out]; simp [hnm]), hb2⟩
  go_wp2_with (first | (go_at_call 41; refine (iBare _ _ _ _ _ _ _ _ _ _ _ _ _ _ _ _ _ _ _).mono ?_; rintro e w3 ⟨rfl, hb3⟩; have hK3 := hK2.later (bal2 hb3); have H3 := H2.later (bal2 hb3); have Q3 := Q2.later (bal2 hb3); obtain ⟨r0, r1, r2, r3, r4, r5, r6, r7⟩ := id Q3; dsimp only at r0 r1 r2 r3 r4 r5 r6 r7; replace hb3 := bstep hb2 (bal2 hb3); rcases hbr : bareB n2 n3 ⟨#[]⟩ 0 0 n7) | (go_at_call 40; refine (iName kb col _ hK3 hcol).mono ?_; rintro e w4 ⟨rfl, hb4⟩; have hK4 := hK3.later hb4; have H4 := H3.later hb4; have s5 := keepB hb4 r5; have s6 := keepB hb4 r6; replace hb4 := bstep hb3 hb4; rcases hcn : okName col) | (go_at_call 46; refine (iExpr kb a5 n5 c5 E _ hK4 H4.ex l5).mono ?_; rintro e w5 ⟨rfl, hb5⟩; have hK5 := hK4.later hb5; have H5 := H4.later hb5; have u6 := keepB hb5 s6; replace hb5 := bstep hb4 hb5; rcases hx : okExp E n5) | (go_at_call 47; refine (iCond kb a6 n6 c6 W _ hK5 H5.wh l6).mono ?_; rintro e w6 ⟨rfl, hb6⟩; replace hb6 := bstep hb5 hb6))
  · go_ret
    exact ⟨retB (by rw [HR.out]; simp [hbr]), hb3⟩
  · go_ret
    exact ⟨retB (by rw [HR.out]; simp [hcn]), hb4⟩
  · go_ret
    exact ⟨retB (by rw [HR.out]; simp [hx]), hb5⟩
  · go_ret
    exact ⟨retB (by rw [HR.out]; simp [hbr, hnm, hcn, hx]), hb6⟩
set_option maxRecDepth 20000 in
set_option maxHeartbeats 8000000 in
theorem iStm4 (tb : ByteArray) (n2 : Nat) (C : Nat → Clm) (n3 : Nat) (V : Nat → Itm) (col : ByteArray) (n5 : Nat) (E : Nat → Itm) (n6 : Nat) (W : Nat → Itm) (n7 : Nat) (m7 : Nat → Nat) (O : Nat → Nat → Itm)
    (a2 : Option Addr) (c2 : Nat) (a3 : Option Addr) (c3 : Nat) (a5 : Option Addr) (c5 : Nat) (a6 : Option Addr) (c6 : Nat) (a7 : Option Addr) (c7 : Nat) (D : St) (hD : (⟨4, tb, n2, C, n3, V, col, n5, E, n6, W, n7, m7, O⟩ : St) = D)
    (w : World) (h : SM w ⟨4, tb, n2, C, n3, V, col, n5, E, n6, W, n7, m7, O⟩ ⟨a2, c2, a3, c3, a5, c5, a6, c6, a7, c7⟩) (hT : SpT w) :
    Calls Tryd.prog 14 #[.agg #[.int .i64 4, .string tb, .slice a2 n2 c2, .slice a3 n3 c3, .string col, .slice a5 n5 c5, .slice a6 n6 c6, .slice a7 n7 c7]] w fun e w' => e = .returned (.bool (okStm D)) ∧ Below w.heap.size w w' := by
  have hb0 := bal w (.cells #[.int .i64 4, .string tb, .slice a2 n2 c2, .slice a3 n3 c3, .string col, .slice a5 n5 c5, .slice a6 n6 c6, .slice a7 n7 c7] 46)
  have H0 := h.later hb0
  have q0 : B8 (w.alloc (.cells #[.int .i64 4, .string tb, .slice a2 n2 c2, .slice a3 n3 c3, .string col, .slice a5 n5 c5, .slice a6 n6 c6, .slice a7 n7 c7] 46)) w.heap.size ⟨4, tb, n2, C, n3, V, col, n5, E, n6, W, n7, m7, O⟩ ⟨a2, c2, a3, c3, a5, c5, a6, c6, a7, c7⟩ := B8.new w ⟨4, tb, n2, C, n3, V, col, n5, E, n6, W, n7, m7, O⟩ ⟨a2, c2, a3, c3, a5, c5, a6, c6, a7, c7⟩ 46
  obtain ⟨htb, hcol, -, -, -, -, -, l2, l3, l5, l6, l7⟩ := id h
  dsimp only at htb hcol l2 l3 l5 l6 l7
  have HR : Hid (okStm D = (okName tb && (bareB n2 n3 col n5 0 n7 && okWhere W n6))) := (hD ▸ stm4 ⟨4, tb, n2, C, n3, V, col, n5, E, n6, W, n7, m7, O⟩ rfl)
  clear hD
  go_enter Tryd.func14, Tryd.ntmps14
  go_upto_region 4 with (first | (go_at_call 22; refine (iKeywords _ (hT.later hb0)).mono ?_; rintro e w1 ⟨kb, rfl, hK1, hb1⟩; have H1 := H0.later hb1; have Q1 := q0.later hb1; have q1' := Q1.c1; dsimp only at q1'; replace hb1 := bstep hb0 hb1) | (go_at_call 40; refine (iName kb tb _ hK1 htb).mono ?_; rintro e w2 ⟨rfl, hb2⟩; have hK2 := hK1.later hb2; have H2 := H1.later hb2; have Q2 := Q1.later hb2; obtain ⟨q0, q1, q2, q3, q4, q5, q6, q7⟩ := id Q2; dsimp only at q0 q1 q2 q3 q4 q5 q6 q7; replace hb2 := bstep hb1 hb2; rcases hnm : okName tb))
  · go_ret
    exact ⟨retB (by rw [HR.out]; simp [hnm]), hb2⟩
  go_wp2_with (first | (go_at_call 41; refine (iBare _ _ _ _ _ _ _ _ _ _ _ _ _ _ _ _ _ _ _).mono ?_; rintro e w3 ⟨rfl, hb3⟩; have hK3 := hK2.later (bal2 hb3); have H3 := H2.later (bal2 hb3); have Q3 := Q2.later (bal2 hb3); obtain ⟨r0, r1, r2, r3, r4, r5, r6, r7⟩ := id Q3; dsimp only at r0 r1 r2 r3 r4 r5 r6 r7; replace hb3 := bstep hb2 (bal2 hb3); rcases hbr : bareB n2 n3 col n5 0 n7) | (go_at_call 47; refine (iCond kb a6 n6 c6 W _ hK3 H3.wh l6).mono ?_; rintro e w6 ⟨rfl, hb6⟩; replace hb6 := bstep hb3 hb6))
  · go_ret
    exact ⟨retB (by rw [HR.out]; simp [hbr]), hb3⟩
  · go_ret
    exact ⟨retB (by rw [HR.out]; simp [hbr, hnm]), hb6⟩
set_option maxRecDepth 20000 in
set_option maxHeartbeats 8000000 in
theorem iStm5 (tb : ByteArray) (n2 : Nat) (C : Nat → Clm) (n3 : Nat) (V : Nat → Itm) (col : ByteArray) (n5 : Nat) (E : Nat → Itm) (n6 : Nat) (W : Nat → Itm) (n7 : Nat) (m7 : Nat → Nat) (O : Nat → Nat → Itm)
    (a2 : Option Addr) (c2 : Nat) (a3 : Option Addr) (c3 : Nat) (a5 : Option Addr) (c5 : Nat) (a6 : Option Addr) (c6 : Nat) (a7 : Option Addr) (c7 : Nat) (D : St) (hD : (⟨5, tb, n2, C, n3, V, col, n5, E, n6, W, n7, m7, O⟩ : St) = D)
    (w : World) (h : SM w ⟨5, tb, n2, C, n3, V, col, n5, E, n6, W, n7, m7, O⟩ ⟨a2, c2, a3, c3, a5, c5, a6, c6, a7, c7⟩) (hT : SpT w) :
    Calls Tryd.prog 14 #[.agg #[.int .i64 5, .string tb, .slice a2 n2 c2, .slice a3 n3 c3, .string col, .slice a5 n5 c5, .slice a6 n6 c6, .slice a7 n7 c7]] w fun e w' => e = .returned (.bool (okStm D)) ∧ Below w.heap.size w w' := by
  have hb0 := bal w (.cells #[.int .i64 5, .string tb, .slice a2 n2 c2, .slice a3 n3 c3, .string col, .slice a5 n5 c5, .slice a6 n6 c6, .slice a7 n7 c7] 46)
  have H0 := h.later hb0
  have q0 : B8 (w.alloc (.cells #[.int .i64 5, .string tb, .slice a2 n2 c2, .slice a3 n3 c3, .string col, .slice a5 n5 c5, .slice a6 n6 c6, .slice a7 n7 c7] 46)) w.heap.size ⟨5, tb, n2, C, n3, V, col, n5, E, n6, W, n7, m7, O⟩ ⟨a2, c2, a3, c3, a5, c5, a6, c6, a7, c7⟩ := B8.new w ⟨5, tb, n2, C, n3, V, col, n5, E, n6, W, n7, m7, O⟩ ⟨a2, c2, a3, c3, a5, c5, a6, c6, a7, c7⟩ 46
  obtain ⟨htb, hcol, -, -, -, -, -, l2, l3, l5, l6, l7⟩ := id h
  dsimp only at htb hcol l2 l3 l5 l6 l7
  have HR : Hid (okStm D = (okName tb && (bareB n2 n3 col n5 0 0 && ((btw n7 1 20 && allN n7 (fun j => okExp (O j) (m7 j))) && okWhere W n6)))) := (hD ▸ stm5 ⟨5, tb, n2, C, n3, V, col, n5, E, n6, W, n7, m7, O⟩ rfl)
  clear hD
  go_enter Tryd.func14, Tryd.ntmps14
  go_upto_region 4 with (first | (go_at_call 22; refine (iKeywords _ (hT.later hb0)).mono ?_; rintro e w1 ⟨kb, rfl, hK1, hb1⟩; have H1 := H0.later hb1; have Q1 := q0.later hb1; have q1' := Q1.c1; dsimp only at q1'; replace hb1 := bstep hb0 hb1) | (go_at_call 40; refine (iName kb tb _ hK1 htb).mono ?_; rintro e w2 ⟨rfl, hb2⟩; have hK2 := hK1.later hb2; have H2 := H1.later hb2; have Q2 := Q1.later hb2; obtain ⟨q0, q1, q2, q3, q4, q5, q6, q7⟩ := id Q2; dsimp only at q0 q1 q2 q3 q4 q5 q6 q7; replace hb2 := bstep hb1 hb2; rcases hnm : okName tb))
  · go_ret
    exact ⟨retB (by rw [HR.out]; simp [hnm]), hb2⟩
  go_wp2_with (first | (go_at_call 41; refine (iBare _ _ _ _ _ _ _ _ _ _ _ _ _ _ _ _ _ _ _).mono ?_; rintro e w3 ⟨rfl, hb3⟩; have hK3 := hK2.later (bal2 hb3); have H3 := H2.later (bal2 hb3); have Q3 := Q2.later (bal2 hb3); obtain ⟨r0, r1, r2, r3, r4, r5, r6, r7⟩ := id Q3; dsimp only at r0 r1 r2 r3 r4 r5 r6 r7; replace hb3 := bstep hb2 (bal2 hb3); rcases hbr : bareB n2 n3 col n5 0 0) | (go_at_call 48; refine (iAllOut kb a7 n7 c7 m7 O _ hK3 H3.ou l7).mono ?_; rintro e w4 ⟨rfl, hb4⟩; have hK4 := hK3.later hb4; have H4 := H3.later hb4; have s6 := keepB hb4 r6; replace hb4 := bstep hb3 hb4; rcases hx : (btw n7 1 20 && allN n7 (fun j => okExp (O j) (m7 j)))) | (go_at_call 47; refine (iCond kb a6 n6 c6 W _ hK4 H4.wh l6).mono ?_; rintro e w6 ⟨rfl, hb6⟩; replace hb6 := bstep hb4 hb6))
  · go_ret
    exact ⟨retB (by rw [HR.out]; simp [hbr]), hb3⟩
  · go_ret
    exact ⟨retB (by rw [HR.out, hx]; simp), hb4⟩
  · go_ret
    exact ⟨retB (by rw [HR.out, hx, hbr, hnm]; simp), hb6⟩
set_option maxRecDepth 20000 in
set_option maxHeartbeats 8000000 in
theorem iStm0 (k : Int) (e1 : ¬ k = 1) (e2 : ¬ k = 2) (e3 : ¬ k = 3) (e4 : ¬ k = 4) (e5 : ¬ k = 5) (tb : ByteArray) (n2 : Nat) (C : Nat → Clm) (n3 : Nat) (V : Nat → Itm) (col : ByteArray) (n5 : Nat) (E : Nat → Itm) (n6 : Nat) (W : Nat → Itm) (n7 : Nat) (m7 : Nat → Nat) (O : Nat → Nat → Itm)
    (a2 : Option Addr) (c2 : Nat) (a3 : Option Addr) (c3 : Nat) (a5 : Option Addr) (c5 : Nat) (a6 : Option Addr) (c6 : Nat) (a7 : Option Addr) (c7 : Nat) (D : St) (hD : (⟨k, tb, n2, C, n3, V, col, n5, E, n6, W, n7, m7, O⟩ : St) = D)
    (w : World) (h : SM w ⟨k, tb, n2, C, n3, V, col, n5, E, n6, W, n7, m7, O⟩ ⟨a2, c2, a3, c3, a5, c5, a6, c6, a7, c7⟩) (hT : SpT w) :
    Calls Tryd.prog 14 #[.agg #[.int .i64 k, .string tb, .slice a2 n2 c2, .slice a3 n3 c3, .string col, .slice a5 n5 c5, .slice a6 n6 c6, .slice a7 n7 c7]] w fun e w' => e = .returned (.bool (okStm D)) ∧ Below w.heap.size w w' := by
  have hb0 := bal w (.cells #[.int .i64 k, .string tb, .slice a2 n2 c2, .slice a3 n3 c3, .string col, .slice a5 n5 c5, .slice a6 n6 c6, .slice a7 n7 c7] 46)
  have H0 := h.later hb0
  have q0 : B8 (w.alloc (.cells #[.int .i64 k, .string tb, .slice a2 n2 c2, .slice a3 n3 c3, .string col, .slice a5 n5 c5, .slice a6 n6 c6, .slice a7 n7 c7] 46)) w.heap.size ⟨k, tb, n2, C, n3, V, col, n5, E, n6, W, n7, m7, O⟩ ⟨a2, c2, a3, c3, a5, c5, a6, c6, a7, c7⟩ := B8.new w ⟨k, tb, n2, C, n3, V, col, n5, E, n6, W, n7, m7, O⟩ ⟨a2, c2, a3, c3, a5, c5, a6, c6, a7, c7⟩ 46
  obtain ⟨htb, hcol, -, -, -, -, -, l2, l3, l5, l6, l7⟩ := id h
  dsimp only at htb hcol l2 l3 l5 l6 l7
  have HR : Hid (okStm D = false) := (hD ▸ stm0 ⟨k, tb, n2, C, n3, V, col, n5, E, n6, W, n7, m7, O⟩ e1 e2 e3 e4 e5)
  have e1' : (k == 1) = false := by simp [e1]
  have e2' : (k == 2) = false := by simp [e2]
  have e3' : (k == 3) = false := by simp [e3]
  have e4' : (k == 4) = false := by simp [e4]
  have e5' : (k == 5) = false := by simp [e5]
  clear hD
  go_enter Tryd.func14, Tryd.ntmps14
  go_upto_region 4 with (first | (go_at_call 22; refine (iKeywords _ (hT.later hb0)).mono ?_; rintro e w1 ⟨kb, rfl, hK1, hb1⟩; have H1 := H0.later hb1; have Q1 := q0.later hb1; have q1' := Q1.c1; dsimp only at q1'; replace hb1 := bstep hb0 hb1) | (go_at_call 40; refine (iName kb tb _ hK1 htb).mono ?_; rintro e w2 ⟨rfl, hb2⟩; have hK2 := hK1.later hb2; have H2 := H1.later hb2; have Q2 := Q1.later hb2; obtain ⟨q0, q1, q2, q3, q4, q5, q6, q7⟩ := id Q2; dsimp only at q0 q1 q2 q3 q4 q5 q6 q7; replace hb2 := bstep hb1 hb2; rcases hnm : okName tb))
  · go_ret
    exact ⟨retB (by rw [HR.out]), hb2⟩
  go_wp2
  go_ret
  exact ⟨retB (by rw [HR.out]), hb2⟩
theorem iStm (d : St) (p : Sa) (w : World) (h : SM w d p) (hT : SpT w) : Calls Tryd.prog 14 #[.agg (cs8 d p)] w fun e w' => e = .returned (.bool (okStm d)) ∧ Below w.heap.size w w' := by
  obtain ⟨k, tb, n2, C, n3, V, col, n5, E, n6, W, n7, m7, O⟩ := d
  obtain ⟨a2, c2, a3, c3, a5, c5, a6, c6, a7, c7⟩ := p
  by_cases e1 : k = 1
  · subst e1; exact iStm1 tb n2 C n3 V col n5 E n6 W n7 m7 O a2 c2 a3 c3 a5 c5 a6 c6 a7 c7 _ rfl w h hT
  by_cases e2 : k = 2
  · subst e2; exact iStm2 tb n2 C n3 V col n5 E n6 W n7 m7 O a2 c2 a3 c3 a5 c5 a6 c6 a7 c7 _ rfl w h hT
  by_cases e3 : k = 3
  · subst e3; exact iStm3 tb n2 C n3 V col n5 E n6 W n7 m7 O a2 c2 a3 c3 a5 c5 a6 c6 a7 c7 _ rfl w h hT
  by_cases e4 : k = 4
  · subst e4; exact iStm4 tb n2 C n3 V col n5 E n6 W n7 m7 O a2 c2 a3 c3 a5 c5 a6 c6 a7 c7 _ rfl w h hT
  by_cases e5 : k = 5
  · subst e5; exact iStm5 tb n2 C n3 V col n5 E n6 W n7 m7 O a2 c2 a3 c3 a5 c5 a6 c6 a7 c7 _ rfl w h hT
  · exact iStm0 k e1 e2 e3 e4 e5 tb n2 C n3 V col n5 E n6 W n7 m7 O a2 c2 a3 c3 a5 c5 a6 c6 a7 c7 _ rfl w h hT
end Go.Proofs.YtfodndnkhgijmaaDoor
