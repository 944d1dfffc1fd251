/-
  Rows chosen: the specification's way.
-/
import Derived.Test.YtgeiamgeclbiaaaGreatDoorUs
namespace Go.Proofs.YtgeiamgeclbiaaaGreatDoor
open Go.RowKit Go.Maps Go.WideMaps
abbrev qUt0 : Oper := { dst := some 35, op := Op.call { callee := Callee.value (Operand.func 26), args := #[Operand.tmp 32, Operand.tmp 34], argTypes := #[38, 9] }, type := 3, pos := "l5_replay.go:385", after := #[{ on := 2, ground := Ground.data }, { on := 4, ground := Ground.data }], guard := none }
abbrev qUt1 : Oper := { dst := some 9, op := Op.alloc 62, type := 0, pos := "l5_replay.go:385", after := #[], guard := none }
abbrev qUt2 : Oper := { dst := some 36, op := Op.indexAddr 36 (Operand.tmp 31) (Operand.tmp 35), type := 0, pos := "l5_replay.go:385", after := #[{ on := 1, ground := Ground.data }, { on := 5, ground := Ground.data }], guard := none }
abbrev qUt3 : Oper := { dst := some 37, op := Op.load 62 (Operand.tmp 36), type := 62, pos := "l5_replay.go:385", after := #[{ on := 6, ground := Ground.data }], guard := none }
abbrev qUt4 : Oper := { dst := none, op := Op.store 62 (Operand.tmp 9) (Operand.tmp 37), type := 0, pos := "l5_replay.go:385", after := #[{ on := 8, ground := Ground.data }, { on := 7, ground := Ground.data }, { on := 5, ground := Ground.chain }, { on := 0, ground := Ground.phase }, { on := 1, ground := Ground.phase }, { on := 2, ground := Ground.phase }, { on := 3, ground := Ground.phase }, { on := 4, ground := Ground.phase }, { on := 5, ground := Ground.phase }, { on := 6, ground := Ground.phase }, { on := 7, ground := Ground.phase }, { on := 8, ground := Ground.phase }], guard := none }
/-- The values of a Select's columns for a row. -/
def seR (C : Nat → Clm) (n : Nat) (F : Nat → Itm) (m7 : Nat → Nat) (O : Nat → Nat → Itm) (n7 : Nat) : Rw := (n7, fun i => vlR C n F (O i) (m7 i))
/-- Is one of the first k too long? -/
def seBig (C : Nat → Clm) (n : Nat) (F : Nat → Itm) (m7 : Nat → Nat) (O : Nat → Nat → Itm) : Nat → Bool
  | 0 => false
  | k + 1 => seBig C n F m7 O k || decide (200 < (vlR C n F (O k) (m7 k)).s.size)
theorem seBig_mono {C : Nat → Clm} {n : Nat} {F : Nat → Itm} {m7 : Nat → Nat} {O : Nat → Nat → Itm} {k : Nat} (h : seBig C n F m7 O k = true) : ∀ r, k ≤ r → seBig C n F m7 O r = true := by
  intro r hr
  induction r with
  | zero => obtain rfl : k = 0 := by omega
            exact h
  | succ r ih =>
    by_cases e : k = r + 1
    · subst e; exact h
    · rw [seBig, ih (by omega)]; rfl
/-- The rows chosen of the first k, and whether one of them is too long. -/
def seS (C : Nat → Clm) (n : Nat) (R : Nat → Nat → Itm) (W : Nat → Itm) (n6 : Nat) (m7 : Nat → Nat) (O : Nat → Nat → Itm) (n7 : Nat) : Nat → List Rw
  | 0 => []
  | k + 1 => seS C n R W n6 m7 O n7 k ++ opt (fitB C n (R k) W n6) (seR C n (R k) m7 O n7)
def seG (C : Nat → Clm) (n : Nat) (R : Nat → Nat → Itm) (W : Nat → Itm) (n6 : Nat) (m7 : Nat → Nat) (O : Nat → Nat → Itm) (n7 : Nat) : Nat → Bool
  | 0 => false
  | k + 1 => seG C n R W n6 m7 O n7 k || (fitB C n (R k) W n6 && seBig C n (R k) m7 O n7)
theorem seG_mono {C : Nat → Clm} {n : Nat} {R : Nat → Nat → Itm} {W : Nat → Itm} {n6 : Nat} {m7 : Nat → Nat} {O : Nat → Nat → Itm} {n7 k : Nat} (h : seG C n R W n6 m7 O n7 k = true) : ∀ r, k ≤ r → seG C n R W n6 m7 O n7 r = true := by
  intro r hr
  induction r with
  | zero => obtain rfl : k = 0 := by omega
            exact h
  | succ r ih =>
    by_cases e : k = r + 1
    · subst e; exact h
    · rw [seG, ih (by omega)]; rfl
theorem seS_len {C : Nat → Clm} {n : Nat} {R : Nat → Nat → Itm} {W : Nat → Itm} {n6 : Nat} {m7 : Nat → Nat} {O : Nat → Nat → Itm} {n7 : Nat} : ∀ {k : Nat}, (seS C n R W n6 m7 O n7 k).length ≤ k
  | 0 => by simp [seS]
  | k + 1 => by
    have ih := seS_len (C := C) (n := n) (R := R) (W := W) (n6 := n6) (m7 := m7) (O := O) (n7 := n7) (k := k)
    simp only [seS, List.length_append, opt_len]
    split <;> omega
/-- What a Select answers. -/
def selA (n : Nat) (T : Nat → Td) (D : St) : List Rw × Int :=
  if ¬ D.k = 5 then ([], 7) else if ¬ (apA n T D).2 = 0 then ([], (apA n T D).2)
  else match tabI T D.tb n with
    | none => ([], 0)
    | some j => if seG (T j).C (T j).n (T j).R D.W D.n6 D.m7 D.O D.n7 (T j).r = true then ([], 6) else (seS (T j).C (T j).n (T j).R D.W D.n6 D.m7 D.O D.n7 (T j).r, 0)
/-- The rows that are answered, and a code. -/
def RAns (w : World) (A : List Rw) (cd : Int) (e : Ending) (w' : World) : Prop := ∃ a' c', e = .returned (.tuple #[.slice a' A.length c', .int .i64 cd]) ∧ OD (fun b => w.heap.size ≤ b) w' a' A ∧ Below w.heap.size w w'
theorem sel_ok {n : Nat} {T : Nat → Td} {D : St} (hk : D.k = 5) (h : (apA n T D).2 = 0) : ∃ j, tabI T D.tb n = some j ∧ j < n ∧ okTd (T j) = true ∧ okStm D = true ∧ soC (T j).C (T j).n D.m7 D.O D.n7 = 0 ∧ cwR (T j).C (T j).n D.W D.n6 = 0 := by
  unfold apA at h
  split at h
  · simp at h
  rename_i h1
  split at h
  · simp at h
  rename_i h2
  rw [if_neg (by omega)] at h
  rcases ht : tabI T D.tb n with _ | j
  · rw [ht] at h; simp at h
  · rw [ht] at h
    simp only at h
    rw [if_neg (by omega), if_neg (by omega), if_neg (by omega)] at h
    simp only at h
    unfold slC at h
    have hdb : okDb n T = true := by simpa using h1
    have hj := (tabI_lt ht).1
    split at h
    · rename_i h3
      exact ⟨j, rfl, hj, (okDb_out hdb).2 j hj, by simpa using h2, h3, h⟩
    · rename_i h3
      exact absurd h h3
theorem soC_at {C : Nat → Clm} {n : Nat} {m : Nat → Nat} {O : Nat → Nat → Itm} : ∀ {k : Nat}, soC C n m O k = 0 → ∀ j, j < k → (ckR C n (O j) (m j)).2 = 0
  | 0, _, j, hj => by omega
  | k + 1, h, j, hj => by
    rw [soC] at h
    split at h
    · rename_i h1
      by_cases e : j = k
      · subst e; exact h
      · exact soC_at h1 j (by omega)
    · rename_i h1
      exact absurd h h1
theorem row3t {W : World} {R : Nat} {x0 x1 x2 : Value} {t : TypeId} (h : W.heap[R]? = some (.cells #[x0, x1, x2] t (0, 0))) (v0 v1 v2 : Value) : (((W.setCell ⟨R, 0, none⟩ v0).setCell ⟨R, 1, none⟩ v1).setCell ⟨R, 2, none⟩ v2).heap[R]? = some (.cells #[v0, v1, v2] t (0, 0)) :=
  heap_setCell_same _ _ 2 _ _ v2 (heap_setCell_same _ _ 1 _ _ v1 (heap_setCell_same _ _ 0 _ _ v0 h))
set_option maxRecDepth 20000 in
set_option maxHeartbeats 16000000 in
theorem sSelect (g n c : Nat) (T : Nat → Td) (k0 : Int) (tb : ByteArray) (a2 : Option Addr) (n2 c2 : Nat) (a3 : Option Addr) (n3 c3 : Nat) (col : ByteArray) (a5 : Option Addr) (n5 c5 : Nat) (a6 : Option Addr) (n6 c6 : Nat) (a7 : Option Addr) (n7 c7 : Nat) (C : Nat → Clm) (V E W : Nat → Itm) (m7 : Nat → Nat) (O : Nat → Nat → Itm) (D : St) (hD : (⟨k0, tb, n2, C, n3, V, col, n5, E, n6, W, n7, m7, O⟩ : St) = D) (w : World) (hT : TN w g n T) (hS : SM w ⟨k0, tb, n2, C, n3, V, col, n5, E, n6, W, n7, m7, O⟩ ⟨a2, c2, a3, c3, a5, c5, a6, c6, a7, c7⟩) (hn : n ≤ 1048576) (hc2 : n2 ≤ c2) :
    Calls Tryz.prog 7 #[.agg #[.slice (some ⟨g, 0, none⟩) n c], .agg #[.int .i64 k0, .string tb, .slice a2 n2 c2, .slice a3 n3 c3, .string col, .slice a5 n5 c5, .slice a6 n6 c6, .slice a7 n7 c7]] w (RAns w (selA n T D).1 (selA n T D).2) := by
  have hbU : Below w.heap.size w (((w.alloc (.cells #[.slice (some ⟨g, 0, none⟩) n c] 38)).alloc (.cells #[.int .i64 k0, .string tb, .slice a2 n2 c2, .slice a3 n3 c3, .string col, .slice a5 n5 c5, .slice a6 n6 c6, .slice a7 n7 c7] 45)).alloc (.cells #[] 41)) := below3 _ _ _ _
  have hsU : (((w.alloc (.cells #[.slice (some ⟨g, 0, none⟩) n c] 38)).alloc (.cells #[.int .i64 k0, .string tb, .slice a2 n2 c2, .slice a3 n3 c3, .string col, .slice a5 n5 c5, .slice a6 n6 c6, .slice a7 n7 c7] 45)).alloc (.cells #[] 41)).heap.size = w.heap.size + 3 := by rw [World.size_alloc, World.size_alloc, World.size_alloc]
  have hq0 : (((w.alloc (.cells #[.slice (some ⟨g, 0, none⟩) n c] 38)).alloc (.cells #[.int .i64 k0, .string tb, .slice a2 n2 c2, .slice a3 n3 c3, .string col, .slice a5 n5 c5, .slice a6 n6 c6, .slice a7 n7 c7] 45)).alloc (.cells #[] 41)).heap[w.heap.size]? = some (.cells #[.slice (some ⟨g, 0, none⟩) n c] 38 (0, 0)) := rowL (rowL (heap_alloc_new w _) (bal _ _)) (bal _ _)
  have hq1 : (((w.alloc (.cells #[.slice (some ⟨g, 0, none⟩) n c] 38)).alloc (.cells #[.int .i64 k0, .string tb, .slice a2 n2 c2, .slice a3 n3 c3, .string col, .slice a5 n5 c5, .slice a6 n6 c6, .slice a7 n7 c7] 45)).alloc (.cells #[] 41)).heap[w.heap.size + 1]? = some (.cells #[.int .i64 k0, .string tb, .slice a2 n2 c2, .slice a3 n3 c3, .string col, .slice a5 n5 c5, .slice a6 n6 c6, .slice a7 n7 c7] 45 (0, 0)) := by
    have q := heap_alloc_new (w.alloc (.cells #[.slice (some ⟨g, 0, none⟩) n c] 38)) (.cells #[.int .i64 k0, .string tb, .slice a2 n2 c2, .slice a3 n3 c3, .string col, .slice a5 n5 c5, .slice a6 n6 c6, .slice a7 n7 c7] 45)
    rw [World.size_alloc] at q
    exact rowL q (bal _ _)
  have hOE : (((w.alloc (.cells #[.slice (some ⟨g, 0, none⟩) n c] 38)).alloc (.cells #[.int .i64 k0, .string tb, .slice a2 n2 c2, .slice a3 n3 c3, .string col, .slice a5 n5 c5, .slice a6 n6 c6, .slice a7 n7 c7] 45)).alloc (.cells #[] 41)).ownsRow (w.heap.size + 1 + 1) 41 1 (.slice (some ⟨w.heap.size + 1 + 1, 0, none⟩) 0 0) 0 [] := by
    have q := World.ownsRow_made (base := w.heap.size + 1 + 1) (e := 41) (size := 1) ((w.alloc (.cells #[.slice (some ⟨g, 0, none⟩) n c] 38)).alloc (.cells #[.int .i64 k0, .string tb, .slice a2 n2 c2, .slice a3 n3 c3, .string col, .slice a5 n5 c5, .slice a6 n6 c6, .slice a7 n7 c7] 45)) #[] 0 (by rw [World.size_alloc, World.size_alloc]; exact Nat.le_refl _) (by unfold maxLen; omega) rfl
    rw [World.size_alloc, World.size_alloc] at q
    exact q
  obtain ⟨c0, -⟩ := box1 hq0
  obtain ⟨d0_, d1_, d2_, d3_, d4_, d5_, d6_, d7_⟩ := box8 hq1
  obtain ⟨AP, cd, hap⟩ : ∃ A cd, apA n T D = (A, cd) := ⟨_, _, rfl⟩
  have HAP : Hid (Calls Tryz.prog 18 #[.agg #[.slice (some ⟨g, 0, none⟩) n c], .agg #[.int .i64 k0, .string tb, .slice a2 n2 c2, .slice a3 n3 c3, .string col, .slice a5 n5 c5, .slice a6 n6 c6, .slice a7 n7 c7]] (((w.alloc (.cells #[.slice (some ⟨g, 0, none⟩) n c] 38)).alloc (.cells #[.int .i64 k0, .string tb, .slice a2 n2 c2, .slice a3 n3 c3, .string col, .slice a5 n5 c5, .slice a6 n6 c6, .slice a7 n7 c7] 45)).alloc (.cells #[] 41)) (Ans (((w.alloc (.cells #[.slice (some ⟨g, 0, none⟩) n c] 38)).alloc (.cells #[.int .i64 k0, .string tb, .slice a2 n2 c2, .slice a3 n3 c3, .string col, .slice a5 n5 c5, .slice a6 n6 c6, .slice a7 n7 c7] 45)).alloc (.cells #[] 41)) AP cd)) := by
    have := sApply5 g n c T k0 tb a2 n2 c2 a3 n3 c3 col a5 n5 c5 a6 n6 c6 a7 n7 c7 C V E W m7 O D hD (((w.alloc (.cells #[.slice (some ⟨g, 0, none⟩) n c] 38)).alloc (.cells #[.int .i64 k0, .string tb, .slice a2 n2 c2, .slice a3 n3 c3, .string col, .slice a5 n5 c5, .slice a6 n6 c6, .slice a7 n7 c7] 45)).alloc (.cells #[] 41)) (hT.later hbU) (hS.later hbU) hn hc2
    rwa [hap] at this
  have HD : Hid ((⟨k0, tb, n2, C, n3, V, col, n5, E, n6, W, n7, m7, O⟩ : St) = D) := hD
  have HPP : Hid (apA n T D = (AP, cd)) := hap
  clear hD hap
  by_cases hk : k0 = 5
  rotate_left
  · have nk : (k0 != 5) = true := by simpa using hk
    have HA : Hid (selA n T D = ([], 7)) := by show _ = _; unfold selA; rw [if_pos (by rw [← HD.out]; exact hk)]
    clear hk
    go_enter Tryz.func7, Tryz.ntmps7
    go_wp2_with (first | (go_at_call 18; refine (HAP.out).mono ?_; rintro e w1 ⟨a8, c8, rfl, -, hb1⟩; have hB1 := bstep hbU hb1; have hss1 := hb1.size; have x0 := rowL hq0 hb1; have x1 := rowL hq1 hb1; have hx9 := bal w1 (.cells #[.slice a8 AP.length c8] 38); have hbx := bstep hB1 hx9; have y0 := rowL x0 hx9; have y1 := rowL x1 hx9; obtain ⟨ya, -⟩ := box1 y0; obtain ⟨yb0, yb1, yb2, yb3, yb4, yb5, yb6, yb7⟩ := box8 y1))
    refine bodyPost_ret (results_tmp2 rfl _ _ _) rfl ?_
    rw [HA.out]
    exact ⟨_, _, rfl, fun k hk => absurd hk (Nat.not_lt_zero k), hbx⟩
  subst hk
  by_cases he : cd = 0
  rotate_left
  · have ne : (cd != 0) = true := by simpa using he
    have HA : Hid (selA n T D = ([], cd)) := by show _ = _; unfold selA; rw [if_neg (by rw [← HD.out]; simp), HPP.out, if_pos he]
    clear he
    go_enter Tryz.func7, Tryz.ntmps7
    go_wp2_with (first | (go_at_call 18; refine (HAP.out).mono ?_; rintro e w1 ⟨a8, c8, rfl, -, hb1⟩; have hB1 := bstep hbU hb1; have hss1 := hb1.size; have x0 := rowL hq0 hb1; have x1 := rowL hq1 hb1; have hx9 := bal w1 (.cells #[.slice a8 AP.length c8] 38); have hbx := bstep hB1 hx9; have y0 := rowL x0 hx9; have y1 := rowL x1 hx9; obtain ⟨ya, -⟩ := box1 y0; obtain ⟨yb0, yb1, yb2, yb3, yb4, yb5, yb6, yb7⟩ := box8 y1))
    refine bodyPost_ret (results_tmp2 rfl _ _ _) rfl ?_
    rw [HA.out]
    exact ⟨_, _, rfl, fun k hk => absurd hk (Nat.not_lt_zero k), hbx⟩
  subst he
  obtain ⟨j, htj, hj, hokj, hokS, hso, hcw⟩ := sel_ok (n := n) (T := T) (D := D) (by rw [← HD.out]) (by rw [HPP.out])
  rw [← HD.out] at htj hso hcw
  simp only at htj hso hcw
  obtain ⟨h7a, h7b, h7c, h7d⟩ := rest5 hokS (by rw [← HD.out])
  rw [← HD.out] at h7a h7b h7c h7d
  simp only at h7a h7b h7c h7d
  obtain ⟨g1, g2, cr, e0, e1, e2, hcr, hCt, hRt, hSt⟩ := hT j hj
  have hNt := okTd_nice hokj
  have HSE0 : selA n T D = if seG (T j).C (T j).n (T j).R W n6 m7 O n7 (T j).r = true then ([], 6) else (seS (T j).C (T j).n (T j).R W n6 m7 O n7 (T j).r, 0) := by
    unfold selA
    rw [if_neg (by rw [← HD.out]; simp), HPP.out, if_neg (by simp), ← HD.out]
    simp only
    rw [htj]
  obtain ⟨ds, dn, dC, dr, dm, dR, hTj⟩ : ∃ s nc C r m R, T j = ⟨s, nc, C, r, m, R⟩ := ⟨_, _, _, _, _, _, rfl⟩
  rw [hTj] at e0 e1 e2 hcr hCt hRt hSt hNt hso hcw HSE0
  simp only at e0 e1 e2 hcr hCt hRt hNt hso hcw HSE0
  have HSE : Hid (selA n T D = if seG dC dn dR W n6 m7 O n7 dr = true then ([], 6) else (seS dC dn dR W n6 m7 O n7 dr, 0)) := HSE0
  have HN : Hid (Nice dn dr dm dR) := hNt
  have HEX : Hid (∀ i, i < n7 → okExp (O i) (m7 i) = true ∧ (ck dC dn (O i) (m7 i)).2 = 0) := fun i hi => ⟨h7c i hi, ckR_ok (soC_at hso i hi)⟩
  have HWH : Hid (okWhere W n6 = true ∧ cwR dC dn W n6 = 0) := ⟨h7d, hcw⟩
  have hn1 := hNt.n1
  have hn0 := hNt.n0
  have hr1 := hNt.r1
  have HTJ : Hid (∀ W', Below w.heap.size w W' → Calls Tryz.prog 26 #[.agg #[.slice (some ⟨g, 0, none⟩) n c], .string tb] W' (fun e w' => e = .returned (.int .i64 j) ∧ Below W'.heap.size W' w')) := fun W' hW' => by
    have := sTable (some ⟨g, 0, none⟩) n c T tb W' (hT.tl.later hW') hn
    rwa [htj] at this
  clear HSE0 hTj hNt h7c h7d hso hcw htj hokj hokS
  have hjn : (j : Int) < n := by omega
  have hj0 : (0 : Int) ≤ j := by omega
  obtain ⟨jr, hir, hzr0, hzr1, hzr2⟩ := info_parts Tryz.infoRow
  have HIr : Hid (Tryz.prog.info? 41 = some jr) := hir
  obtain ⟨j3, hi3, hz30, hz31, hz32⟩ := info_parts Tryz.infoVal
  have HI3 : Hid (Tryz.prog.info? 66 = some j3) := hi3
  clear hir hi3
  go_enter Tryz.func7, Tryz.ntmps7
  go_upto_region 7 with (first | (go_at_call 18; refine (HAP.out).mono ?_; rintro e w1 ⟨a8, c8, rfl, -, hb1⟩; have hB1 := bstep hbU hb1; have hss1 := hb1.size; have x0 := rowL hq0 hb1; have x1 := rowL hq1 hb1; have hx9 := bal w1 (.cells #[.slice a8 AP.length c8] 38); have hbx := bstep hB1 hx9; have y0 := rowL x0 hx9; have y1 := rowL x1 hx9; obtain ⟨ya, -⟩ := box1 y0; obtain ⟨yb0, yb1, yb2, yb3, yb4, yb5, yb6, yb7⟩ := box8 y1))
  have hOE2 := own_below hOE (bstep hb1 hx9)
  have hs2 : w.heap.size + 4 ≤ (w1.alloc (.cells #[.slice a8 AP.length c8] 38)).heap.size := by rw [World.size_alloc]; omega
  clear ya yb0 yb1 yb2 yb3 yb4 yb5 yb6 yb7 x0 x1
  generalize w1.alloc (.cells #[.slice a8 AP.length c8] 38) = w2 at hbx y0 y1 hOE2 hs2 ⊢
  clear hx9 hB1 hss1 hb1 hOE
  refine wp_region_held_drew (S := fun x => Below w2.heap.size w2 x) (by kernel_rfl) (bdrV _) (fun hHeld => ?_)
  generalize w2.drew = v at hHeld ⊢
  refine' takeF (i := 0) (oi := ({ dst := some 30, op := Op.fieldAddr 38 (Operand.tmp 2) 0, type := 0, pos := "l5_replay.go:385", after := #[], guard := none } : Oper)) rfl ⟨by rfl, fun x hSw => ?h1⟩ hHeld ?r1
  case h1 =>
    go_simp
    try with_reducible rfl
  try simp only [Act.put, List.setIfInBounds_toArray, List.set_cons_zero, List.set_cons_succ]
  refine' takeF (i := 1) (oi := ({ dst := some 31, op := Op.load 36 (Operand.tmp 30), type := 36, pos := "l5_replay.go:385", after := #[{ on := 0, ground := Ground.data }], guard := none } : Oper)) rfl ⟨by rfl, fun x hSw => ?h2⟩ hHeld ?r2
  case h2 =>
    have k0 := (box1 (rowL y0 hSw)).1; have k1 := (box8 (rowL y1 hSw)).2.1; have k2 := keepB (bstep hbx hSw) e0; have k3 := keepB (bstep hbx hSw) e1; have k4 := keepB (bstep hbx hSw) e2
    go_simp
    try with_reducible rfl
  try simp only [Act.put, List.setIfInBounds_toArray, List.set_cons_zero, List.set_cons_succ]
  refine' takeF (i := 2) (oi := ({ dst := some 32, op := Op.load 38 (Operand.tmp 2), type := 38, pos := "l5_replay.go:385", after := #[], guard := none } : Oper)) rfl ⟨by rfl, fun x hSw => ?h3⟩ hHeld ?r3
  case h3 =>
    have k0 := (box1 (rowL y0 hSw)).1; have k1 := (box8 (rowL y1 hSw)).2.1; have k2 := keepB (bstep hbx hSw) e0; have k3 := keepB (bstep hbx hSw) e1; have k4 := keepB (bstep hbx hSw) e2
    go_simp
    try with_reducible rfl
  try simp only [Act.put, List.setIfInBounds_toArray, List.set_cons_zero, List.set_cons_succ]
  refine' takeF (i := 3) (oi := ({ dst := some 33, op := Op.fieldAddr 45 (Operand.tmp 3) 1, type := 0, pos := "l5_replay.go:385", after := #[], guard := none } : Oper)) rfl ⟨by rfl, fun x hSw => ?h4⟩ hHeld ?r4
  case h4 =>
    go_simp
    try with_reducible rfl
  try simp only [Act.put, List.setIfInBounds_toArray, List.set_cons_zero, List.set_cons_succ]
  refine' takeF (i := 4) (oi := ({ dst := some 34, op := Op.load 9 (Operand.tmp 33), type := 9, pos := "l5_replay.go:385", after := #[{ on := 3, ground := Ground.data }], guard := none } : Oper)) rfl ⟨by rfl, fun x hSw => ?h5⟩ hHeld ?r5
  case h5 =>
    have k0 := (box1 (rowL y0 hSw)).1; have k1 := (box8 (rowL y1 hSw)).2.1; have k2 := keepB (bstep hbx hSw) e0; have k3 := keepB (bstep hbx hSw) e1; have k4 := keepB (bstep hbx hSw) e2
    go_simp
    try with_reducible rfl
  try simp only [Act.put, List.setIfInBounds_toArray, List.set_cons_zero, List.set_cons_succ]
  refine wpAnyH_ready (rs := [5, 8]) (by kernel_rfl) (by simp) ?_
  refine (AllReadyH.cons (o := qUt0) rfl (fun K hK => ?w1_c2) (AllReadyH.cons (o := qUt1) rfl (fun K hK => ?w1_c1) AllReadyH.nil))
  case' w1_c2 =>
   go_simp
   refine (HTJ.out _ (bstep hbx hHeld)).mono ?_
   rintro e v ⟨rfl, hb5⟩
   refine hK.out _ _ (bstep hHeld hb5) (fun hHeld => ?_)
   clear hK K
   try simp only [Act.put, List.setIfInBounds_toArray, List.set_cons_zero, List.set_cons_succ]
   clear hb5
   refine' takeF (i := 6) (oi := qUt2) rfl ⟨by rfl, fun x hSw => ?h6⟩ hHeld ?r6
   case h6 =>
     go_simp
     try with_reducible rfl
   try simp only [Act.put, List.setIfInBounds_toArray, List.set_cons_zero, List.set_cons_succ]
   refine' takeF (i := 7) (oi := qUt3) rfl ⟨by rfl, fun x hSw => ?h7⟩ hHeld ?r7
   case h7 =>
     have k0 := (box1 (rowL y0 hSw)).1; have k1 := (box8 (rowL y1 hSw)).2.1; have k2 := keepB (bstep hbx hSw) e0; have k3 := keepB (bstep hbx hSw) e1; have k4 := keepB (bstep hbx hSw) e2
     go_simp
     try with_reducible rfl
   try simp only [Act.put, List.setIfInBounds_toArray, List.set_cons_zero, List.set_cons_succ]
   refine wpAnyH_ready (rs := [8]) (by kernel_rfl) (by simp) ?_
   refine AllReadyH.cons (o := qUt1) rfl (fun K hK => ?_) AllReadyH.nil
   have hqT := heap_alloc_new v (.cells #[.string ⟨#[]⟩, .slice none 0 0, .slice none 0 0] 62)
   have hbT := bal v (.cells #[.string ⟨#[]⟩, .slice none 0 0, .slice none 0 0] 62)
   have hsT := hHeld.size
   go_simp
   refine hK.out _ _ (bstep hHeld (bal _ _)) (fun hHeld => ?_)
   clear hK K
   try simp only [Act.put, List.setIfInBounds_toArray, List.set_cons_zero, List.set_cons_succ]
   generalize v.heap.size = BT at hqT hsT ⊢
   generalize v.alloc (.cells #[.string ⟨#[]⟩, .slice none 0 0, .slice none 0 0] 62) = v at hqT hbT  hHeld ⊢
   clear hbT
   refine wpAnyH_ready (rs := [9]) (by kernel_rfl) (by simp) ?_
   refine AllReadyH.cons (o := qUt4) rfl (fun K hK => ?_) AllReadyH.nil
   obtain ⟨s0_, s1_, s2_, sf0_, sf1_, sf2_⟩ := box3 hqT
   go_simp
   refine hK.out _ _ (bset3 hHeld hsT _ _ _) (fun hHeld => ?_)
   clear hK K s0_ s1_ s2_ sf0_ sf1_ sf2_
   try simp only [Act.put, List.setIfInBounds_toArray, List.set_cons_zero, List.set_cons_succ]
   replace hqT := row3t hqT (.string ds) (.slice (some ⟨g1, 0, none⟩) dn dn) (.slice (some ⟨g2, 0, none⟩) dr cr)
   refine wpAnyH_done (by kernel_rfl) ?_ _
  case' w1_c1 =>
   have hqT := heap_alloc_new v (.cells #[.string ⟨#[]⟩, .slice none 0 0, .slice none 0 0] 62)
   have hbT := bal v (.cells #[.string ⟨#[]⟩, .slice none 0 0, .slice none 0 0] 62)
   have hsT := hHeld.size
   go_simp
   refine hK.out _ _ (bstep hHeld (bal _ _)) (fun hHeld => ?_)
   clear hK K
   try simp only [Act.put, List.setIfInBounds_toArray, List.set_cons_zero, List.set_cons_succ]
   generalize v.heap.size = BT at hqT hsT ⊢
   generalize v.alloc (.cells #[.string ⟨#[]⟩, .slice none 0 0, .slice none 0 0] 62) = v at hqT hbT  hHeld ⊢
   clear hbT
   refine wpAnyH_ready (rs := [5]) (by kernel_rfl) (by simp) ?_
   refine AllReadyH.cons (o := qUt0) rfl (fun K hK => ?_) AllReadyH.nil
   go_simp
   refine (HTJ.out _ (bstep hbx hHeld)).mono ?_
   rintro e v ⟨rfl, hb5⟩
   refine hK.out _ _ (bstep hHeld hb5) (fun hHeld => ?_)
   clear hK K
   try simp only [Act.put, List.setIfInBounds_toArray, List.set_cons_zero, List.set_cons_succ]
   replace hqT := rowL hqT hb5
   clear hb5
   refine' takeF (i := 6) (oi := qUt2) rfl ⟨by rfl, fun x hSw => ?h8⟩ hHeld ?r8
   case h8 =>
     go_simp
     try with_reducible rfl
   try simp only [Act.put, List.setIfInBounds_toArray, List.set_cons_zero, List.set_cons_succ]
   refine' takeF (i := 7) (oi := qUt3) rfl ⟨by rfl, fun x hSw => ?h9⟩ hHeld ?r9
   case h9 =>
     have k0 := (box1 (rowL y0 hSw)).1; have k1 := (box8 (rowL y1 hSw)).2.1; have k2 := keepB (bstep hbx hSw) e0; have k3 := keepB (bstep hbx hSw) e1; have k4 := keepB (bstep hbx hSw) e2
     go_simp
     try with_reducible rfl
   try simp only [Act.put, List.setIfInBounds_toArray, List.set_cons_zero, List.set_cons_succ]
   refine wpAnyH_ready (rs := [9]) (by kernel_rfl) (by simp) ?_
   refine AllReadyH.cons (o := qUt4) rfl (fun K hK => ?_) AllReadyH.nil
   obtain ⟨s0_, s1_, s2_, sf0_, sf1_, sf2_⟩ := box3 hqT
   go_simp
   refine hK.out _ _ (bset3 hHeld hsT _ _ _) (fun hHeld => ?_)
   clear hK K s0_ s1_ s2_ sf0_ sf1_ sf2_
   try simp only [Act.put, List.setIfInBounds_toArray, List.set_cons_zero, List.set_cons_succ]
   replace hqT := row3t hqT (.string ds) (.slice (some ⟨g1, 0, none⟩) dn dn) (.slice (some ⟨g2, 0, none⟩) dr cr)
   refine wpAnyH_done (by kernel_rfl) ?_ _
  all_goals
    generalize (((v.setCell ⟨BT, 0, none⟩ (.string ds)).setCell ⟨BT, 1, none⟩ (.slice (some ⟨g1, 0, none⟩) dn dn)).setCell ⟨BT, 2, none⟩ (.slice (some ⟨g2, 0, none⟩) dr cr)) = w4 at hqT hHeld ⊢
    have hb4 := bstep hbx hHeld
    have hOE4 := own_below hOE2 hHeld
    have z1 := rowL y1 hHeld
    have hs4 : w.heap.size + 4 ≤ w4.heap.size := Nat.le_trans hs2 hHeld.size
    obtain ⟨t0_, t1_, t2_, -⟩ := box3 hqT
    have hBT : w.heap.size + 4 ≤ BT ∧ BT < w4.heap.size := ⟨Nat.le_trans hs2 hsT, (Array.getElem?_eq_some_iff.1 hqT).1⟩
    clear hHeld hOE2 y0 y1
    go_wp2
    go_loopw [6, 11, 12, 14, 15, 41] (fun v _ _ _ _ i wr => ∃ (k : Nat) (A : List Rw) (gg cap : Nat) (f : Nat → List Value), k ≤ dr ∧ i = .int .i64 k ∧ v = .slice (some ⟨gg, 0, none⟩) A.length cap ∧ seS dC dn dR W n6 m7 O n7 k = A ∧ seG dC dn dR W n6 m7 O n7 k = false ∧ RO (w.heap.size + 1 + 1) (fun b => w4.heap.size ≤ b) wr (.slice (some ⟨gg, 0, none⟩) A.length cap) A.length (fun i => A.getD i _root_.Go.Proofs.YtgeiamgeclbiaaaGreatDoor.r0) f ∧ gg ≠ BT ∧ wr.heap[w.heap.size + 1]? = some (.cells #[.int .i64 5, .string tb, .slice a2 n2 c2, .slice a3 n3 c3, .string col, .slice a5 n5 c5, .slice a6 n6 c6, .slice a7 n7 c7] 45 (0, 0)) ∧ wr.heap[BT]? = some (.cells #[.string ds, .slice (some ⟨g1, 0, none⟩) dn dn, .slice (some ⟨g2, 0, none⟩) dr cr] 62 (0, 0)) ∧ Below w.heap.size w wr ∧ w4.heap.size ≤ wr.heap.size) (fun _ _ _ _ _ i _ => dr - (intOf i).toNat)
    case atStart => exact ⟨0, [], w.heap.size + 1 + 1, 0, fun _ => [], Nat.zero_le _, rfl, rfl, rfl, rfl, GO.nil hOE4, by omega, z1, hqT, hb4, Nat.le_refl _⟩
    case round =>
      obtain ⟨k, A, gg, cap, f, hk, rfl, rfl, hse, hsg, hRO, hgb, q1, qt, hbw, hsr⟩ := hrel
      have HSS : Hid (seS dC dn dR W n6 m7 O n7 k = A ∧ seG dC dn dR W n6 m7 O n7 k = false) := ⟨hse, hsg⟩
      have hAl : A.length ≤ 1000000 := by rw [← hse]; have := seS_len (C := dC) (n := dn) (R := dR) (W := W) (n6 := n6) (m7 := m7) (O := O) (n7 := n7) (k := k); omega
      clear hse hsg
      have hgl := hRO.own.lt gg rfl
      obtain ⟨-, -, -, -, -, -, qw, qo⟩ := box8 q1
      obtain ⟨qt0, qt1, qt2, -⟩ := box3 qt
      by_cases hlt : k < dr
      rotate_left
      · obtain rfl : k = dr := by omega
        have HA : Hid (selA n T D = (A, 0)) := by show _ = _; rw [HSE.out, HSS.out.1, HSS.out.2, if_neg (by simp)]
        obtain ⟨a', c', e', hOD⟩ := RO.od (D' := fun b => w.heap.size ≤ b) hRO (fun b h => by omega) (fun b h => by omega)
        obtain ⟨rfl, rfl⟩ : some ⟨gg, 0, none⟩ = a' ∧ cap = c' := by simpa using e'
        go_wp2
        refine bodyPost_ret (results_tmp2 rfl _ _ _) rfl ?_
        rw [HA.out]
        exact ⟨_, _, rfl, hOD, hbw⟩
      obtain ⟨bR, offR, ai, ci, eR, d1, -, hI⟩ := ER.of hRt hlt
      obtain ⟨rfl, rfl⟩ : g2 = bR ∧ 0 = offR := by simpa using eR
      have hmk := HN.out.len k hlt
      have d2 := keepB hbw d1
      rw [hmk, Nat.zero_add] at d2
      rw [hmk] at hI
      clear hmk d1 eR
      obtain ⟨br, offr, rfl, -⟩ := hI 0 hn0
      have hkr : (k : Int) < dr := by omega
      have HTX : Hid (∀ j, j < dn → (dR k j).s.size ≤ 200) := HN.out.txt k hlt
      obtain ⟨fb, hfb⟩ : ∃ fb, fitB dC dn (dR k) W n6 = fb := ⟨_, rfl⟩
      have HFT := sFits (some ⟨g1, 0, none⟩) dn dn dC (some ⟨br, offr, none⟩) ci (dR k) a6 n6 c6 W wr (hCt.later hbw) (hI.later hbw) (hS.wh.later hbw) hn1 HWH.out.1 HWH.out.2 HTX.out
      rw [hfb] at HFT
      have HST : Hid (seS dC dn dR W n6 m7 O n7 (k + 1) = A ++ opt fb (seR dC dn (dR k) m7 O n7) ∧ seG dC dn dR W n6 m7 O n7 (k + 1) = (fb && seBig dC dn (dR k) m7 O n7)) := by
        refine ⟨?_, ?_⟩
        · rw [seS, HSS.out.1, hfb]
        · rw [seG, HSS.out.2, hfb]; rfl
      clear hfb
      cases fb
      · go_wp2_with (go_at_call 27; refine HFT.mono ?_; rintro e w5 ⟨rfl, hb5⟩)
        go_roundw
        case rel => exact ⟨k + 1, A, gg, cap, f, by omega, by go_num, rfl, by rw [HST.out.1]; simp [opt], by rw [HST.out.2]; rfl, hRO.later hb5, hgb, rowL q1 hb5, rowL qt hb5, bstep hbw hb5, Nat.le_trans hsr hb5.size⟩
        case measure => simp [intOf]; omega
      have HVL : Hid (∀ i, i < n7 → ∀ aO cO W', IL W' aO (m7 i) (O i) → Below w.heap.size w W' → Calls Tryz.prog 28 #[.slice (some ⟨g1, 0, none⟩) dn dn, .slice (some ⟨br, offr, none⟩) dn ci, .slice aO (m7 i) cO] W' (fun e w' => e = .returned (.agg #[.int .i64 (vlR dC dn (dR k) (O i) (m7 i)).o, .int .i64 (vlR dC dn (dR k) (O i) (m7 i)).m, .string (vlR dC dn (dR k) (O i) (m7 i)).s]) ∧ Below W'.heap.size W' w')) := fun i hi aO cO W' hIO hW' => by
        obtain ⟨ho, hc⟩ := HEX.out i hi
        obtain ⟨x1, x2, x3⟩ := okExp_out ho
        exact sVal5 _ dn dn dC _ ci (dR k) aO (m7 i) cO (O i) W' (hCt.later hW') (hI.later hW') hIO hn1 x1 x3 hc HTX.out
      have HVX : Hid (∀ i, i < n7 → (vlR dC dn (dR k) (O i) (m7 i)).s.size ≤ 1048576) := fun i hi => by
        obtain ⟨ho, -⟩ := HEX.out i hi
        obtain ⟨x1, x2, x3⟩ := okExp_out ho
        exact vlR_size HTX.out x3 x1 x2
      obtain ⟨wo, hwo⟩ : ∃ v, v = wr := ⟨_, rfl⟩
      subst hwo
      go_wp2_with (go_at_call 27; refine HFT.mono ?_; rintro e w5 ⟨rfl, hb5⟩; have x1 := rowL q1 hb5; have xt := rowL qt hb5; obtain ⟨-, -, -, -, -, -, -, xo⟩ := box8 (rowL x1 (bal w5 (.cells #[] 66))))
      have hbw5 := bstep hbw hb5
      have hss5 := hb5.size
      have hOV : (w5.alloc (.cells #[] 66)).ownsRow w5.heap.size 66 3 (.slice (some ⟨w5.heap.size, 0, none⟩) 0 0) 0 (flt (fun i => v3 (vlR dC dn (dR k) (O i) (m7 i))) 0) := World.ownsRow_made w5 #[] 0 (Nat.le_refl _) (by unfold maxLen; omega) rfl
      go_loopw [12, 14, 15, 55] (fun v _ _ i wr => ∃ (q gv capv : Nat), q ≤ n7 ∧ i = .int .i64 q ∧ v = .slice (some ⟨gv, 0, none⟩) q capv ∧ wr.ownsRow w5.heap.size 66 3 (.slice (some ⟨gv, 0, none⟩) q capv) q (flt (fun i => v3 (vlR dC dn (dR k) (O i) (m7 i))) q) ∧ seBig dC dn (dR k) m7 O q = false ∧ Below w5.heap.size w5 wr) (fun _ _ _ i _ => n7 - (intOf i).toNat)
      case atStart => exact ⟨0, w5.heap.size, 0, Nat.zero_le _, rfl, rfl, hOV, rfl, bal _ _⟩
      case round =>
        obtain ⟨q, gv, capv, hq, rfl, rfl, hOq, hbig, hbr⟩ := hrel
        have HBG : Hid (seBig dC dn (dR k) m7 O q = false) := hbig
        clear hbig
        have hbwr := bstep hbw5 hbr
        have hssr := hbr.size
        have p1 := rowL x1 hbr
        have pt := rowL xt hbr
        obtain ⟨pt0, pt1, pt2, -⟩ := box3 pt
        have hglv := hOq.lt gv rfl
        by_cases hql : q < n7
        · obtain ⟨bO, offO, aO, cO, rfl, dO, hIO, -⟩ := hS.ou.later hbwr q hql
          simp only at dO hIO
          have hqn : (q : Int) < n7 := by omega
          have HV := HVL.out q hql aO cO wr hIO hbwr
          have hvx := HVX.out q hql
          obtain ⟨xo_, xm, xs, hx⟩ : ∃ xo xm xs, vlR dC dn (dR k) (O q) (m7 q) = ⟨xo, xm, xs⟩ := ⟨_, _, _, rfl⟩
          have HX : Hid (vlR dC dn (dR k) (O q) (m7 q) = ⟨xo_, xm, xs⟩) := hx
          have HNX : Hid (seBig dC dn (dR k) m7 O (q + 1) = decide (200 < xs.size)) := by show _ = _; rw [seBig, HBG.out, hx]; rfl
          rw [hx] at HV hvx
          simp only at HV hvx
          clear hx
          by_cases hb200 : 200 < xs.size
          · have hb2 : (200 : Int) < xs.size := by omega
            have HA : Hid (selA n T D = ([], 6)) := by
              show _ = _
              rw [HSE.out, if_pos (seG_mono (k := k + 1) (by rw [HST.out.2, seBig_mono (k := q + 1) (by rw [HNX.out]; simpa using hb200) n7 (by omega)]; rfl) dr (by omega))]
            go_wp2_with (go_at_call 28; refine HV.mono ?_; rintro e w6 ⟨rfl, hb6⟩)
            refine bodyPost_ret (results_tmp2 rfl _ _ _) rfl ?_
            rw [HA.out]
            exact ⟨_, _, rfl, fun k hk => absurd hk (Nat.not_lt_zero k), bstep (bstep hbwr hb6) (bstep (bal _ _) (bal _ _))⟩
          · have hb2 : ¬ (200 : Int) < xs.size := by omega
            go_wp2_with (first | (at_builtin; have _h := hO6; refine wpList_append_lies _ rfl _ _ _ rfl w5.heap.size 66 j3 (.agg #[.int .i64 0, .int .i64 0, .string ByteArray.empty]) 3 32 Tryz.underlying41 HI3.out hz30 hz31 hz32 rfl (by omega) (.slice (some ⟨gv, 0, none⟩) q capv) q _ rfl (hO6.alloc _) ⟨w6.heap.size + 1, 0, none⟩ 1 1 [.int .i64 xo_, .int .i64 xm, .string xs] rfl rfl (news3 (World.size_alloc _ _)) (ones3 rfl rfl rfl) (by omega) (by unfold maxLen; omega) (by omega) (by simp; omega) _ rfl ?_; intro g8 cap8 w8 hO8 hgr8 hat8 hlt8) | (go_at_call 28; refine HV.mono ?_; rintro e w6 ⟨rfl, hb6⟩; have hss6 := hb6.size; have hO6 := own_below hOq (bstep hb6 (bal w6 (.cells #[.int .i64 xo_, .int .i64 xm, .string xs] 66))); have hB6 := box3 (heap_alloc_new w6 (.cells #[.int .i64 xo_, .int .i64 xm, .string xs] 66)); obtain ⟨u0, u1, u2, -⟩ := hB6))
            have hb8 := gB (bstep (bstep hbr hb6) (bstep (bal _ _) (bal _ _))) (r := gv) hgr8 hglv.1
            go_roundw
            case rel => exact ⟨q + 1, g8, cap8, by omega, by go_num, rfl, by rw [flt_succ, HX.out]; exact hO8, by rw [HNX.out]; simpa using hb200, hb8⟩
            case measure => simp [intOf]; omega
        · obtain rfl : q = n7 := by omega
          have hROr := hRO.later (bstep hb5 hbr)
          have hIL := own_il hOq HVX.out
          go_wp2_with (first | (at_builtin; refine wpList_append_lies _ rfl _ _ _ rfl (w.heap.size + 1 + 1) 41 jr (.slice none 0 0) 1 24 Tryz.underlying33 HIr.out hzr0 hzr1 hzr2 rfl (by omega) (.slice (some ⟨gg, 0, none⟩) A.length cap) A.length (flt f A.length) rfl (hROr.later (bal _ _)).own ⟨wr.heap.size, 0, none⟩ 1 1 [.slice (some ⟨gv, 0, none⟩) q capv] rfl rfl (World.news_of_block (heap_alloc_new wr _)) (ones _ rfl) (by omega) (by unfold maxLen; omega) (by omega) (by simp; omega) _ rfl ?_; intro g8 cap8 w8 hO8 hgr8 hat8 hlt8))
          have hLt : Liv (fun b => w4.heap.size ≤ b ∧ some b ≠ (Value.slice (some ⟨gg, 0, none⟩) A.length cap).ownBlock) wr (ER [.slice (some ⟨gv, 0, none⟩) q capv] (seR dC dn (dR k) m7 O q)) := (hIL.liv (fun b off e => by
            obtain ⟨rfl, -⟩ : gv = b ∧ 0 = off := by simpa using e
            refine ⟨by omega, ?_⟩
            show some gv ≠ some gg
            intro e2
            have e3 : gv = gg := Option.some.inj e2
            omega)).imp (fun _ h => ⟨_, _, rfl, h, by show q ≤ _; omega⟩)
          have hP := GO.snoc (x := seR dC dn (dR k) m7 O q) (hROr.later (bal _ _)) (c := [.slice (some ⟨gv, 0, none⟩) q capv]) rfl (hLt.later (bal _ _)) hO8 hgr8 hat8
          have eA : (A ++ [seR dC dn (dR k) m7 O q]).length = A.length + 1 := by simp
          have hne : ∀ b, b ≠ gg → some b ≠ (Value.slice (some ⟨gg, 0, none⟩) A.length cap).ownBlock := fun b hb => by
            show some b ≠ some gg
            intro e2
            exact hb (Option.some.inj e2)
          go_roundw
          case rel => exact ⟨k + 1, A ++ [seR dC dn (dR k) m7 O q], g8, cap8, _, by omega, by go_num, by rw [eA], by rw [HST.out.1]; rfl, by rw [HST.out.2, HBG.out]; rfl, hP, by
            rcases hat8 with e2 | e2
            · have e3 : gg = g8 := Option.some.inj e2
              omega
            · rw [World.size_alloc] at e2; omega, rowR (rowL p1 (bal _ _)) hgr8 (hne _ (by omega)), rowR (rowL pt (bal _ _)) hgr8 (hne _ (by omega)), gBr (bstep hbwr (bal _ _)) hgr8 (fun x hx => hne _ (by omega)), Nat.le_trans hsr (Nat.le_trans hss5 (Nat.le_trans hssr (Nat.le_trans (bal _ _).size hgr8.size)))⟩
          case measure => simp [intOf]; omega
end Go.Proofs.YtgeiamgeclbiaaaGreatDoor
