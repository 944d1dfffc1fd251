/-
  Tables copied by the law.
-/
import Derived.Test.YtfodndnkhgijmaaDoorTb
namespace Go.Proofs.YtfodndnkhgijmaaDoor
open Go.RowKit Go.Maps Go.WideMaps
/-- The three boxes of a copying. -/
structure Q3 (V : World) (B : Nat) (A Z X : Array Value) : Prop where
  a : V.heap[B]? = some (.cells A 102 (0, 0))
  z : V.heap[B + 1]? = some (.cells Z 54 (0, 0))
  x : V.heap[B + 1 + 1]? = some (.cells X 54 (0, 0))
theorem Q3.later {V V' : World} {B : Nat} {A Z X : Array Value} (h : Q3 V B A Z X) (hb : Below V.heap.size V V') : Q3 V' B A Z X := ⟨rowL h.a hb, rowL h.z hb, rowL h.x hb⟩
theorem Q3.set {V : World} {B i : Nat} {A Z X : Array Value} {v : Value} (h : Q3 V B A Z X) : Q3 (V.setCell ⟨B + 1 + 1, i, none⟩ v) B A Z (X.setIfInBounds i v) := ⟨rowO h.a (by omega), rowO h.z (by omega), heap_setCell_same _ _ _ _ _ _ h.x⟩
theorem Q3.new (w : World) (A Z X : Array Value) : Q3 (((w.alloc (.cells A 102)).alloc (.cells Z 54)).alloc (.cells X 54)) w.heap.size A Z X := by
  have e1 : (w.alloc (.cells A 102)).heap.size = w.heap.size + 1 := by simp
  have e2 : ((w.alloc (.cells A 102)).alloc (.cells Z 54)).heap.size = w.heap.size + 1 + 1 := by simp
  have h1 := heap_alloc_new w (.cells A 102)
  have h2 := heap_alloc_new (w.alloc (.cells A 102)) (.cells Z 54)
  have h3 := heap_alloc_new ((w.alloc (.cells A 102)).alloc (.cells Z 54)) (.cells X 54)
  rw [e1] at h2
  rw [e2] at h3
  exact ⟨rowL (rowL h1 (bal _ _)) (bal _ _), rowL h2 (bal _ _), h3⟩
set_option maxRecDepth 20000 in
set_option maxHeartbeats 8000000 in
theorem toTab (s : ByteArray) (n : Nat) (C : Nat → Clm) (r : Nat) (m : Nat → Nat) (R : Nat → Nat → Itm) (ac : Option Addr) (cc : Nat) (ar : Option Addr) (cr : Nat) (w : World) (hC : CL w ac n C) (hR : OL w ar r m R) (hn : n ≤ 1048576) (hr : r ≤ 1048576) :
    Calls Tryd.prog 70 #[.agg #[.string s, .slice ac n cc, .slice ar r cr]] w fun e w' => ∃ g1 g2, w.heap.size ≤ g1 ∧ w.heap.size ≤ g2 ∧ e = .returned (.agg #[.string s, .slice (some ⟨g1, 0, none⟩) n n, .slice (some ⟨g2, 0, none⟩) r r]) ∧ CL w' (some ⟨g1, 0, none⟩) n C ∧ OF w.heap.size w' g2 r m R ∧ Below w.heap.size w w' := by
  have hR0 := Q3.new w #[.string s, .slice ac n cc, .slice ar r cr] #[.string ⟨#[]⟩, .slice none 0 0, .slice none 0 0] #[.string s, .slice none 0 0, .slice none 0 0]
  have hbW : Below w.heap.size w (((w.alloc (.cells #[.string s, .slice ac n cc, .slice ar r cr] 102)).alloc (.cells #[.string ⟨#[]⟩, .slice none 0 0, .slice none 0 0] 54)).alloc (.cells #[.string s, .slice none 0 0, .slice none 0 0] 54)) := below3 _ _ _ _
  have hW : (((w.alloc (.cells #[.string s, .slice ac n cc, .slice ar r cr] 102)).alloc (.cells #[.string ⟨#[]⟩, .slice none 0 0, .slice none 0 0] 54)).alloc (.cells #[.string s, .slice none 0 0, .slice none 0 0] 54)).heap.size = w.heap.size + 1 + 1 + 1 := by simp
  obtain ⟨G, hG⟩ : ∃ G : Nat, G = w.heap.size + 1 + 1 + 1 := ⟨_, rfl⟩
  go_enter Tryd.func70, Tryd.ntmps70
  go_wp2_with (first | (go_at_call 106; refine (toRows _ _ _ m R _ (hR.later (bset B1 (by omega))) hr).mono ?_; rintro e w2 ⟨g2, hg2, rfl, hL2, hb2⟩; have r2 : Q3 w2 w.heap.size #[.string s, .slice ac n cc, .slice ar r cr] #[.string ⟨#[]⟩, .slice none 0 0, .slice none 0 0] #[.string s, .slice (some ⟨g1, 0, none⟩) n n, .slice none 0 0] := (r1.set).later hb2; have B2 : Below w.heap.size w w2 := bstep (bset B1 (by omega)) hb2; have s2 : w1.heap.size ≤ w2.heap.size := (by simpa using hb2.size); have hGs : G ≤ (w1.setCell ⟨w.heap.size + 1 + 1, 1, none⟩ (.slice (some ⟨g1, 0, none⟩) n n)).heap.size := (by simp; omega); have hG2 : G ≤ g2 := Nat.le_trans hGs hg2; have K2 : Kp G w1 w2 := (Kp.set (by omega)).trans (Kp.of G hb2); have x2_0 : w2.cell? ⟨w.heap.size + 1 + 1, 0, none⟩ = some (.string s) := (cell_of_row _ _ 0 _ _ _ r2.x).trans rfl; have x2_1 : w2.cell? ⟨w.heap.size + 1 + 1, 1, none⟩ = some (.slice (some ⟨g1, 0, none⟩) n n) := (cell_of_row _ _ 1 _ _ _ r2.x).trans rfl; have z2_0 : w2.cell? ⟨w.heap.size + 1, 0, none⟩ = some (.string ⟨#[]⟩) := (cell_of_row _ _ 0 _ _ _ r2.z).trans rfl; have zf_0 : w2.frozen? ⟨w.heap.size + 1, 0, none⟩ = false := frozen_of_row _ _ 0 _ _ r2.z; have z2_1 : w2.cell? ⟨w.heap.size + 1, 1, none⟩ = some (.slice none 0 0) := (cell_of_row _ _ 1 _ _ _ r2.z).trans rfl; have zf_1 : w2.frozen? ⟨w.heap.size + 1, 1, none⟩ = false := frozen_of_row _ _ 1 _ _ r2.z; have z2_2 : w2.cell? ⟨w.heap.size + 1, 2, none⟩ = some (.slice none 0 0) := (cell_of_row _ _ 2 _ _ _ r2.z).trans rfl; have zf_2 : w2.frozen? ⟨w.heap.size + 1, 2, none⟩ = false := frozen_of_row _ _ 2 _ _ r2.z; have m2_2 : w2.cell? ⟨w.heap.size + 1 + 1, 2, none⟩ = some (.slice none 0 0) := (cell_of_row _ _ 2 _ _ _ r2.x).trans rfl; have f2_2 : w2.frozen? ⟨w.heap.size + 1 + 1, 2, none⟩ = false := frozen_of_row _ _ 2 _ _ r2.x) | (go_at_call 36; refine (toCols _ _ _ C _ (hC.later hbW) hn).mono ?_; rintro e w1 ⟨g1, hg1, rfl, hL1, hb1⟩; have r1 : Q3 w1 w.heap.size #[.string s, .slice ac n cc, .slice ar r cr] #[.string ⟨#[]⟩, .slice none 0 0, .slice none 0 0] #[.string s, .slice none 0 0, .slice none 0 0] := (hR0).later hb1; have B1 : Below w.heap.size w w1 := bstep hbW hb1; have s1 := hb1.size; have hG1 : G ≤ g1 := (by omega); have l1_2 : w1.cell? ⟨w.heap.size, 2, none⟩ = some (.slice ar r cr) := (cell_of_row _ _ 2 _ _ _ r1.a).trans rfl; have m1_1 : w1.cell? ⟨w.heap.size + 1 + 1, 1, none⟩ = some (.slice none 0 0) := (cell_of_row _ _ 1 _ _ _ r1.x).trans rfl; have f1_1 : w1.frozen? ⟨w.heap.size + 1 + 1, 1, none⟩ = false := frozen_of_row _ _ 1 _ _ r1.x))
  have KV : ∀ v0 v1 v2 v3, Kp G w2 ((((w2.setCell ⟨w.heap.size + 1 + 1, 2, none⟩ v0).setCell ⟨w.heap.size + 1, 0, none⟩ v1).setCell ⟨w.heap.size + 1, 1, none⟩ v2).setCell ⟨w.heap.size + 1, 2, none⟩ v3) := fun v0 v1 v2 v3 => (((Kp.set (by omega)).trans (Kp.set (by omega))).trans (Kp.set (by omega))).trans (Kp.set (by omega))
  have BV : ∀ v0 v1 v2 v3, Below w.heap.size w ((((w2.setCell ⟨w.heap.size + 1 + 1, 2, none⟩ v0).setCell ⟨w.heap.size + 1, 0, none⟩ v1).setCell ⟨w.heap.size + 1, 1, none⟩ v2).setCell ⟨w.heap.size + 1, 2, none⟩ v3) := fun v0 v1 v2 v3 => bset (bset (bset (bset B2 (by omega)) (by omega)) (by omega)) (by omega)
  have RV := fun v0 v1 v2 v3 => heap_setCell_same _ _ 2 _ _ v3 (heap_setCell_same _ _ 1 _ _ v2 (heap_setCell_same _ _ 0 _ _ v1 (rowO (B := w.heap.size + 1 + 1) (B' := w.heap.size + 1) (i := 2) (v := v0) r2.z (by omega))))
  refine bodyPost_ret (v := .agg #[.string s, .slice (some ⟨g1, 0, none⟩) n n, .slice (some ⟨g2, 0, none⟩) r r]) (results_cell_row Tryd.results70 _ _ (w.heap.size + 1) 54 _ (0, 0) _ rfl (RV _ _ _ _) Tryd.underlying54 rfl (by kernel_rfl)) rfl ⟨g1, g2, by omega, by omega, rfl, ?_, ?_, BV _ _ _ _⟩
  · exact hL1.kp (K2.trans (KV _ _ _ _)) hG1
  · have hq := hL2.kp (KV (.slice (some ⟨g2, 0, none⟩) r r) (.string s) (.slice (some ⟨g1, 0, none⟩) n n) (.slice (some ⟨g2, 0, none⟩) r r)) hG2 hGs
    exact fun k hk => by
      obtain ⟨q, h1, h2, h3, h4⟩ := hq k hk
      exact ⟨q, by omega, h2, h3, h4⟩
end Go.Proofs.YtfodndnkhgijmaaDoor
