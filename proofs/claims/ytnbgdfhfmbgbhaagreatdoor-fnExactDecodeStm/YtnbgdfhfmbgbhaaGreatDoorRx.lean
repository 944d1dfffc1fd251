/-
  DecodeStm: the program's way.
-/
import Derived.Test.YtnbgdfhfmbgbhaaGreatDoorRw
import Derived.Test.YtnbgdfhfmbgbhaaGreatDoorShelc
import Derived.Test.YtnbgdfhfmbgbhaaGreatDoorEv
namespace Go.Proofs.YtnbgdfhfmbgbhaaGreatDoor
open Go.RowKit Go.Maps Go.WideMaps
theorem bytes_ne {u v : ByteArray} (h : u ≠ v) : (u.toList == v.toList) = false := by
  cases e : (u.toList == v.toList) with
  | false => rfl
  | true => exact absurd (bytes_inj2 (eq_of_beq e)) h
theorem results_cell_tmp {P : Program} {fn : Func} {p t0 : Tmp} {ty : TypeId} (h : fn.results = #[.cell p ty, .tmp t0]) (tmps : Array Value) (w : World) (g : Nat) (t : TypeId) (cs : Array Value) (fr : Nat × Nat) (d : TypeDesc)
    (hp : tmps.getD p undef = .pointer (some ⟨g, 0, none⟩)) (hg : w.heap[g]? = some (.cells cs t fr))
    (hu : P.underlying ty = some d) (hd : (match d with | .struct _ | .array _ _ => true | _ => false) = true) (hi : (P.info? ty).map (·.size) = some cs.size) :
    (results fn tmps).run P w = .ok (.tuple #[.agg cs, tmps.getD t0 undef]) w := by
  have hp' : tmps[p]?.getD undef = .pointer (some ⟨g, 0, none⟩) := by simpa using hp
  simp [results, h, hp', asAddr, run_loadVar_row w g t ty cs fr d hg hu hd hi]
theorem iClone (s : ByteArray) (w : World) (hs : s.size ≤ 1048576) : Calls Tryz.prog 19 #[.string s] w fun e w' => e = .returned (.string s) ∧ Below w.heap.size w w' := by
  go_enter Tryz.func19, Tryz.ntmps19
  go_wp2_with (go_at_call 67; refine (Tryz.stringslite_Clone s _ (by omega)).mono ?_; rintro e w1 ⟨rfl, hb1⟩)
  go_ret
  exact ⟨rfl, hb1⟩
/-- The empty statement. -/
def zS : St := ⟨0, ⟨#[]⟩, 0, fun _ => zC, 0, fun _ => z3, ⟨#[]⟩, 0, fun _ => z3, 0, fun _ => z3, 0, fun _ => 0, fun _ _ => z3⟩
/-- What DecodeStm answers. -/
def DecA (w w' : World) (s : ByteArray) (e : Ending) : Prop :=
  Below w.heap.size w w' ∧ ((e = .returned (.tuple #[.agg #[.int .i64 0, .string ⟨#[]⟩, .slice none 0 0, .slice none 0 0, .string ⟨#[]⟩, .slice none 0 0, .slice none 0 0, .slice none 0 0], .bool false]) ∧ ∀ d, ¬ Good s d) ∨
    ∃ d p, Good s d ∧ e = .returned (.tuple #[.agg (cs8 d p), .bool true]) ∧ SM w' d p ∧ Wr w' w.heap.size w'.heap.size d p)
/-- Eight cells set. -/
theorem set8_row {W : World} {R : Nat} {X : Array Value} (h : W.heap[R]? = some (.cells X 27 (0, 0))) (v0 v1 v2 v3 v4 v5 v6 v7 : Value) : (((((((((W.setCell ⟨R, 0, none⟩ v0).setCell ⟨R, 1, none⟩ v1).setCell ⟨R, 2, none⟩ v2).setCell ⟨R, 3, none⟩ v3).setCell ⟨R, 4, none⟩ v4).setCell ⟨R, 5, none⟩ v5).setCell ⟨R, 6, none⟩ v6).setCell ⟨R, 7, none⟩ v7)).heap[R]? = some (.cells ((((((((X.setIfInBounds 0 v0).setIfInBounds 1 v1).setIfInBounds 2 v2).setIfInBounds 3 v3).setIfInBounds 4 v4).setIfInBounds 5 v5).setIfInBounds 6 v6).setIfInBounds 7 v7) 27 (0, 0)) :=
  heap_setCell_same _ _ 7 _ _ v7 (heap_setCell_same _ _ 6 _ _ v6 (heap_setCell_same _ _ 5 _ _ v5 (heap_setCell_same _ _ 4 _ _ v4 (heap_setCell_same _ _ 3 _ _ v3 (heap_setCell_same _ _ 2 _ _ v2 (heap_setCell_same _ _ 1 _ _ v1 (heap_setCell_same _ _ 0 _ _ v0 h)))))))
theorem set8_kp {lo hi : Nat} (W : World) {R : Nat} (h : R < lo) (v0 v1 v2 v3 v4 v5 v6 v7 : Value) : KpR lo hi W (((((((((W.setCell ⟨R, 0, none⟩ v0).setCell ⟨R, 1, none⟩ v1).setCell ⟨R, 2, none⟩ v2).setCell ⟨R, 3, none⟩ v3).setCell ⟨R, 4, none⟩ v4).setCell ⟨R, 5, none⟩ v5).setCell ⟨R, 6, none⟩ v6).setCell ⟨R, 7, none⟩ v7)) :=
  (((((((KpR.set h).trans (KpR.set h)).trans (KpR.set h)).trans (KpR.set h)).trans (KpR.set h)).trans (KpR.set h)).trans (KpR.set h)).trans (KpR.set h)
theorem set8_K {G : Nat} (W : World) {R : Nat} (h : R < G) (v0 v1 v2 v3 v4 v5 v6 v7 : Value) : Kp G W (((((((((W.setCell ⟨R, 0, none⟩ v0).setCell ⟨R, 1, none⟩ v1).setCell ⟨R, 2, none⟩ v2).setCell ⟨R, 3, none⟩ v3).setCell ⟨R, 4, none⟩ v4).setCell ⟨R, 5, none⟩ v5).setCell ⟨R, 6, none⟩ v6).setCell ⟨R, 7, none⟩ v7)) :=
  (((((((Kp.set h).trans (Kp.set h)).trans (Kp.set h)).trans (Kp.set h)).trans (Kp.set h)).trans (Kp.set h)).trans (Kp.set h)).trans (Kp.set h)
theorem set8_below {w W : World} {R : Nat} (hb : Below w.heap.size w W) (h : w.heap.size ≤ R) (v0 v1 v2 v3 v4 v5 v6 v7 : Value) : Below w.heap.size w (((((((((W.setCell ⟨R, 0, none⟩ v0).setCell ⟨R, 1, none⟩ v1).setCell ⟨R, 2, none⟩ v2).setCell ⟨R, 3, none⟩ v3).setCell ⟨R, 4, none⟩ v4).setCell ⟨R, 5, none⟩ v5).setCell ⟨R, 6, none⟩ v6).setCell ⟨R, 7, none⟩ v7)) :=
  bset (bset (bset (bset (bset (bset (bset (bset hb h) h) h) h) h) h) h) h
theorem set8_size (W : World) (R : Nat) (v0 v1 v2 v3 v4 v5 v6 v7 : Value) : (((((((((W.setCell ⟨R, 0, none⟩ v0).setCell ⟨R, 1, none⟩ v1).setCell ⟨R, 2, none⟩ v2).setCell ⟨R, 3, none⟩ v3).setCell ⟨R, 4, none⟩ v4).setCell ⟨R, 5, none⟩ v5).setCell ⟨R, 6, none⟩ v6).setCell ⟨R, 7, none⟩ v7)).heap.size = W.heap.size := by simp
set_option maxRecDepth 20000 in
set_option maxHeartbeats 8000000 in
theorem iDec0 (s : ByteArray) (w : World) (_hs : s.size ≤ 1048576) (_hT : SpT w) (h0 : s.size = 0) :
    Calls Tryz.prog 6 #[.string s] w fun e w' => DecA w w' s e := by
  have hb0 := bal w (.cells #[.int .i64 0, .string ⟨#[]⟩, .slice none 0 0, .slice none 0 0, .string ⟨#[]⟩, .slice none 0 0, .slice none 0 0, .slice none 0 0] 27)
  have HR0 : Hid ((w.alloc (.cells #[.int .i64 0, .string ⟨#[]⟩, .slice none 0 0, .slice none 0 0, .string ⟨#[]⟩, .slice none 0 0, .slice none 0 0, .slice none 0 0] 27)).heap[w.heap.size]? = some (.cells #[.int .i64 0, .string ⟨#[]⟩, .slice none 0 0, .slice none 0 0, .string ⟨#[]⟩, .slice none 0 0, .slice none 0 0, .slice none 0 0] 27 (0, 0))) := heap_alloc_new w _
  have t0 : s.toList.isEmpty = true := by rw [isE]; exact decide_eq_true h0
  have HN : Hid (∀ d, ¬ Good s d) := fun d hd => by have := hd.1; omega
  go_enter Tryz.func6, Tryz.ntmps6
  go_wp2
  exact bodyPost_ret (v := .tuple #[.agg #[.int .i64 0, .string ⟨#[]⟩, .slice none 0 0, .slice none 0 0, .string ⟨#[]⟩, .slice none 0 0, .slice none 0 0, .slice none 0 0], .bool false]) (results_cell_tmp Tryz.results6 _ _ w.heap.size 27 _ (0, 0) _ rfl HR0.out Tryz.underlying27 rfl (by kernel_rfl)) rfl ⟨hb0, Or.inl ⟨rfl, HN.out⟩⟩
set_option maxRecDepth 20000 in
set_option maxHeartbeats 8000000 in
theorem iDec1 (s : ByteArray) (w : World) (hs : s.size ≤ 1048576) (_hT : SpT w) (h0 : ¬ s.size = 0) (h1 : 60000 < s.size) :
    Calls Tryz.prog 6 #[.string s] w fun e w' => DecA w w' s e := by
  have hb0 := bal w (.cells #[.int .i64 0, .string ⟨#[]⟩, .slice none 0 0, .slice none 0 0, .string ⟨#[]⟩, .slice none 0 0, .slice none 0 0, .slice none 0 0] 27)
  have HR0 : Hid ((w.alloc (.cells #[.int .i64 0, .string ⟨#[]⟩, .slice none 0 0, .slice none 0 0, .string ⟨#[]⟩, .slice none 0 0, .slice none 0 0, .slice none 0 0] 27)).heap[w.heap.size]? = some (.cells #[.int .i64 0, .string ⟨#[]⟩, .slice none 0 0, .slice none 0 0, .string ⟨#[]⟩, .slice none 0 0, .slice none 0 0, .slice none 0 0] 27 (0, 0))) := heap_alloc_new w _
  have t0 : s.toList.isEmpty = false := by rw [isE]; exact decide_eq_false h0
  have t1 : (60000 : Int) < s.size := by omega
  have HN : Hid (∀ d, ¬ Good s d) := fun d hd => by have := hd.le; omega
  go_enter Tryz.func6, Tryz.ntmps6
  go_wp2
  exact bodyPost_ret (v := .tuple #[.agg #[.int .i64 0, .string ⟨#[]⟩, .slice none 0 0, .slice none 0 0, .string ⟨#[]⟩, .slice none 0 0, .slice none 0 0, .slice none 0 0], .bool false]) (results_cell_tmp Tryz.results6 _ _ w.heap.size 27 _ (0, 0) _ rfl HR0.out Tryz.underlying27 rfl (by kernel_rfl)) rfl ⟨hb0, Or.inl ⟨rfl, HN.out⟩⟩
set_option maxRecDepth 20000 in
set_option maxHeartbeats 8000000 in
theorem iDec2 (s : ByteArray) (w : World) (hs : s.size ≤ 1048576) (hT : SpT w) (h0 : ¬ s.size = 0) (h1 : ¬ 60000 < s.size) :
    Calls Tryz.prog 6 #[.string s] w fun e w' => DecA w w' s e := by
  have hb0 := bal w (.cells #[.int .i64 0, .string ⟨#[]⟩, .slice none 0 0, .slice none 0 0, .string ⟨#[]⟩, .slice none 0 0, .slice none 0 0, .slice none 0 0] 27)
  have HR0 : Hid ((w.alloc (.cells #[.int .i64 0, .string ⟨#[]⟩, .slice none 0 0, .slice none 0 0, .string ⟨#[]⟩, .slice none 0 0, .slice none 0 0, .slice none 0 0] 27)).heap[w.heap.size]? = some (.cells #[.int .i64 0, .string ⟨#[]⟩, .slice none 0 0, .slice none 0 0, .string ⟨#[]⟩, .slice none 0 0, .slice none 0 0, .slice none 0 0] 27 (0, 0))) := heap_alloc_new w _
  have t0 : s.toList.isEmpty = false := by rw [isE]; exact decide_eq_false h0
  have t1 : ¬ (60000 : Int) < s.size := by omega
  have hs0 : (w.alloc (.cells #[.int .i64 0, .string ⟨#[]⟩, .slice none 0 0, .slice none 0 0, .string ⟨#[]⟩, .slice none 0 0, .slice none 0 0, .slice none 0 0] 27)).heap.size = w.heap.size + 1 := by simp
  go_enter Tryz.func6, Tryz.ntmps6
  go_wp2_with (first | (go_at_call 19; refine (iClone s _ hs).mono ?_; rintro e w1 ⟨rfl, hb1⟩; have hs1 := hb1.size; have hP1 : PI (w1.alloc (.cells #[.string s, .bool false] 57)) w1.heap.size s (some 0) := ⟨Nat.zero_le _, (by rw [ByteArray.extract_zero_size]; exact heap_alloc_new w1 _)⟩; have hne : w.heap.size ≠ w1.heap.size := (by omega); have hR1 := rowL (rowL HR0.out hb1) (bal w1 (.cells #[.string s, .bool false] 57))) | (go_at_call 18; refine (readAny w1.heap.size s _ hP1 hs).mono ?_; rintro e w2 ⟨d, p, rfl, hd, hM2, hW2, hg2⟩; have hR2 := rowG hR1 hg2 hne; have hs2 := hg2.size; have hb2 : Below w.heap.size w w2 := gB (bstep (bstep hb0 hb1) (bal w1 (.cells #[.string s, .bool false] 57))) hg2 (by omega)) | (go_at_call 20; have HT2 := hT.later (bstep hb2 (bal w2 (.cells (cs8 d p) 27))); refine (iEnc d p _ (hM2.later (bal w2 (.cells (cs8 d p) 27))) HT2).mono ?_; rintro e w3 ⟨rfl, hb3⟩; have hR3 := rowL hR2 (bstep (bal w2 (.cells (cs8 d p) 27)) hb3); obtain ⟨y0, y1, y2, y3, y4, y5, y6, y7⟩ := (B8.new w2 d p 27).later hb3; have r0 : w3.cell? ⟨w.heap.size, 0, none⟩ = some (.int .i64 0) := (cell_of_row _ _ 0 _ _ _ hR3).trans rfl; have rf0 : w3.frozen? ⟨w.heap.size, 0, none⟩ = false := frozen_of_row _ _ 0 _ _ hR3; have r1 : w3.cell? ⟨w.heap.size, 1, none⟩ = some (.string ⟨#[]⟩) := (cell_of_row _ _ 1 _ _ _ hR3).trans rfl; have rf1 : w3.frozen? ⟨w.heap.size, 1, none⟩ = false := frozen_of_row _ _ 1 _ _ hR3; have r2 : w3.cell? ⟨w.heap.size, 2, none⟩ = some (.slice none 0 0) := (cell_of_row _ _ 2 _ _ _ hR3).trans rfl; have rf2 : w3.frozen? ⟨w.heap.size, 2, none⟩ = false := frozen_of_row _ _ 2 _ _ hR3; have r3 : w3.cell? ⟨w.heap.size, 3, none⟩ = some (.slice none 0 0) := (cell_of_row _ _ 3 _ _ _ hR3).trans rfl; have rf3 : w3.frozen? ⟨w.heap.size, 3, none⟩ = false := frozen_of_row _ _ 3 _ _ hR3; have r4 : w3.cell? ⟨w.heap.size, 4, none⟩ = some (.string ⟨#[]⟩) := (cell_of_row _ _ 4 _ _ _ hR3).trans rfl; have rf4 : w3.frozen? ⟨w.heap.size, 4, none⟩ = false := frozen_of_row _ _ 4 _ _ hR3; have r5 : w3.cell? ⟨w.heap.size, 5, none⟩ = some (.slice none 0 0) := (cell_of_row _ _ 5 _ _ _ hR3).trans rfl; have rf5 : w3.frozen? ⟨w.heap.size, 5, none⟩ = false := frozen_of_row _ _ 5 _ _ hR3; have r6 : w3.cell? ⟨w.heap.size, 6, none⟩ = some (.slice none 0 0) := (cell_of_row _ _ 6 _ _ _ hR3).trans rfl; have rf6 : w3.frozen? ⟨w.heap.size, 6, none⟩ = false := frozen_of_row _ _ 6 _ _ hR3; have r7 : w3.cell? ⟨w.heap.size, 7, none⟩ = some (.slice none 0 0) := (cell_of_row _ _ 7 _ _ _ hR3).trans rfl; have rf7 : w3.frozen? ⟨w.heap.size, 7, none⟩ = false := frozen_of_row _ _ 7 _ _ hR3; obtain ⟨x, hx⟩ : ∃ x, encS d = x := ⟨_, rfl⟩; have HX : Hid (encS d = x) := hx; rw [hx]; clear hx; by_cases he : x = s; (case' pos => (subst he; have qq := eqS_same x)); (case' neg => (have qq := bytes_ne he))))
  · have hb4 : Below w.heap.size w w3 := bstep (bstep hb2 (bal w2 (.cells (cs8 d p) 27))) hb3
    exact bodyPost_ret (v := .tuple #[.agg #[.int .i64 0, .string ⟨#[]⟩, .slice none 0 0, .slice none 0 0, .string ⟨#[]⟩, .slice none 0 0, .slice none 0 0, .slice none 0 0], .bool false]) (results_cell_tmp Tryz.results6 _ _ w.heap.size 27 _ (0, 0) _ rfl (set8_row hR3 _ _ _ _ _ _ _ _) Tryz.underlying27 rfl (by kernel_rfl)) rfl ⟨set8_below hb4 (Nat.le_refl _) _ _ _ _ _ _ _ _, Or.inl ⟨rfl, no_good hd (by rw [HX.out]; exact he)⟩⟩
  · have hb4 : Below w.heap.size w w3 := bstep (bstep hb2 (bal w2 (.cells (cs8 d p) 27))) hb3
    have hs3 := hb3.size
    have hsA : (w2.alloc (.cells (cs8 d p) 27)).heap.size = w2.heap.size + 1 := by simp
    have hsB : (w1.alloc (.cells #[.string x, .bool false] 57)).heap.size = w1.heap.size + 1 := by simp
    have hbl := bstep (bal w2 (.cells (cs8 d p) 27)) hb3
    have hW3 := hW2.kp (KpR.below hbl)
    refine bodyPost_ret (v := .tuple #[.agg (cs8 d p), .bool true]) (results_cell_tmp Tryz.results6 _ _ w.heap.size 27 _ (0, 0) _ rfl (set8_row hR3 _ _ _ _ _ _ _ _) Tryz.underlying27 rfl (by kernel_rfl)) rfl ⟨set8_below hb4 (Nat.le_refl _) _ _ _ _ _ _ _ _, Or.inr ⟨d, p, ⟨by omega, hd, HX.out⟩, rfl, (hM2.later hbl).kw hW3 (set8_K w3 (by omega) _ _ _ _ _ _ _ _), (hW3.kp (set8_kp w3 (by omega) _ _ _ _ _ _ _ _)).mono (by omega) (by rw [set8_size]; omega)⟩⟩
theorem iDec (s : ByteArray) (w : World) (hs : s.size ≤ 1048576) (hT : SpT w) : Calls Tryz.prog 6 #[.string s] w fun e w' => DecA w w' s e := by
  by_cases h0 : s.size = 0
  · exact iDec0 s w hs hT h0
  · by_cases h1 : 60000 < s.size
    · exact iDec1 s w hs hT h0 h1
    · exact iDec2 s w hs hT h0 h1
end Go.Proofs.YtnbgdfhfmbgbhaaGreatDoor
