/-
  Two marks joined.
-/
import Derived.Test.YtjbbbfplephkpaaGreatDoorIa
import Derived.Test.YtjbbbfplephkpaaGreatDoorMr
import Derived.Deep.RegionHeld3
import Derived.Deep.MidRow
namespace Go.Proofs.YtjbbbfplephkpaaGreatDoor
open Go.RowKit Go.ChangeMaps
theorem results_mid {P : Program} {fn : Func} {p : Tmp} {ty : TypeId} (h : fn.results = #[.cell p ty]) (tmps : Array Value) (w : World) (b o : Nat) (cs : List Value) (d : TypeDesc)
    (hp : tmps.getD p undef = .pointer (some ⟨b, o, none⟩)) (hc : w.rangeAt b o cs)
    (hu : P.underlying ty = some d) (hd : d.isRow = true) (hi : (P.info? ty).map (·.size) = some cs.length) :
    (results fn tmps).run P w = .ok (.agg cs.toArray) w := by
  have hp' : tmps[p]?.getD undef = .pointer (some ⟨b, o, none⟩) := by simpa using hp
  simp [results, h, hp', asAddr, run_loadVar_mid w b o ty cs d hc hu hd hi]
theorem range_later {w w' : World} {b o : Nat} {cs : List Value} (h : w.rangeAt b o cs) (hb : Below w.heap.size w w') : w'.rangeAt b o cs := fun j v hv =>
  (hb.cell (World.block_lt_of_cell? w _ (h j v hv))).trans (h j v hv)
theorem there_later {w w' : World} {b o n : Nat} (h : w.there b o n) (hb : Below w.heap.size w w') : w'.there b o n := fun j hj => by
  obtain ⟨h1, h2⟩ := h j hj
  obtain ⟨u, hu⟩ := Option.isSome_iff_exists.1 h1
  have hlt := World.block_lt_of_cell? w _ hu
  rw [hb.cell hlt, hb.frozen hlt]
  exact ⟨h1, h2⟩
theorem below_setCells {B g : Nat} {a w : World} (o : Nat) (vs : List Value) (hb : Below B a w) (hg : B ≤ g) : Below B a (w.setCells g o vs) := by
  induction vs generalizing o w with
  | nil => exact hb
  | cons v r ih => exact ih (o + 1) (hb.setCell hg v)
theorem range_row (w : World) (g : Nat) (cs : List Value) (t : TypeId) (h : w.heap[g]? = some (.cells cs.toArray t (0, 0))) : w.rangeAt g 0 cs := fun j v hv => by
  rw [Nat.zero_add, cell_of_row w g j _ _ _ h]
  simpa using hv
theorem there_row (w : World) (g : Nat) (cs : Array Value) (t : TypeId) (n : Nat) (hn : cs.size = n) (h : w.heap[g]? = some (.cells cs t (0, 0))) : w.there g 0 n := fun j hj => by
  rw [Nat.zero_add, cell_of_row w g j _ _ _ h, frozen_of_row w g j _ _ h]
  simp [hn, hj]
/-- What stands while two marks are joined. -/
def JoinS (k : Int) (b : Nat) (w : World) (X1 X2 : List Value) (w' : World) : Prop :=
  w'.cell? ⟨w.heap.size, 0, none⟩ = some (.int .i64 k) ∧ w'.cell? ⟨w.heap.size, 1, none⟩ = some (.map (some b)) ∧ w'.rangeAt (w.heap.size + 1) 0 X1 ∧ w'.rangeAt (w.heap.size + 1 + 1) 0 X2 ∧ w'.there (w.heap.size + 1 + 1 + 1) 0 32 ∧ KeysAt w' ∧ Below w.heap.size w w'
theorem JoinS.call {k : Int} {b : Nat} {w w1 w2 : World} {X1 X2 : List Value} (hb : Below w1.heap.size w1 w2) (h : JoinS k b w X1 X2 w1) : JoinS k b w X1 X2 w2 :=
  ⟨keep hb h.1, keep hb h.2.1, range_later h.2.2.1 hb, range_later h.2.2.2.1 hb, there_later h.2.2.2.2.1 hb, keys_later h.2.2.2.2.2.1 hb, h.2.2.2.2.2.2.trans (hb.mono h.2.2.2.2.2.2.size)⟩
theorem JoinS.stored {k : Int} {b : Nat} {w w1 : World} {X1 X2 vs : List Value} (h : JoinS k b w X1 X2 w1) : JoinS k b w X1 X2 (w1.setCells (w.heap.size + 1 + 1 + 1) 0 vs) :=
  ⟨(World.cell?_setCells_out _ _ _ _ _ (fun e => by simp at e; omega)).trans h.1, (World.cell?_setCells_out _ _ _ _ _ (fun e => by simp at e; omega)).trans h.2.1, World.rangeAt_setCells_apart h.2.2.1 _ _ _ (Or.inl (by omega)), World.rangeAt_setCells_apart h.2.2.2.1 _ _ _ (Or.inl (by omega)), World.there_setCells h.2.2.2.2.1 _ _ _,
    fun i hi => (World.cell?_setCells_out _ _ _ _ _ (fun e => by simp at e)).trans (h.2.2.2.2.2.1 i hi), below_setCells _ _ h.2.2.2.2.2.2 (by omega)⟩
theorem JoinS.keys {k : Int} {b : Nat} {w w1 : World} {X1 X2 : List Value} (h : JoinS k b w X1 X2 w1) : KeysAt w1 := h.2.2.2.2.2.1
theorem JoinS.drew1 {k : Int} {b : Nat} {w w1 : World} {X1 X2 : List Value} (h : JoinS k b w X1 X2 w1) : JoinS k b w X1 X2 w1.drew := ⟨h.1, h.2.1, h.2.2.1, h.2.2.2.1, h.2.2.2.2.1, h.2.2.2.2.2.1, h.2.2.2.2.2.2.drew⟩
theorem heap4 (w : World) (A B C D : Obj) : ((((w.alloc A).alloc B).alloc C).alloc D).heap[w.heap.size]? = some A ∧ ((((w.alloc A).alloc B).alloc C).alloc D).heap[w.heap.size + 1]? = some B ∧ ((((w.alloc A).alloc B).alloc C).alloc D).heap[w.heap.size + 1 + 1]? = some C ∧ ((((w.alloc A).alloc B).alloc C).alloc D).heap[w.heap.size + 1 + 1 + 1]? = some D := by
  refine ⟨?_, ?_, ?_, ?_⟩
  · rw [heap_alloc_old _ _ (by simp; omega), heap_alloc_old _ _ (by simp; omega), heap_alloc_old _ _ (by simp), heap_alloc_new]
  · rw [heap_alloc_old _ _ (by simp), heap_alloc_old _ _ (by simp), heap_alloc2_new]
  · rw [heap_alloc_old _ _ (by simp)]
    have := heap_alloc_new ((w.alloc A).alloc B) C
    simpa using this
  · have := heap_alloc_new (((w.alloc A).alloc B).alloc C) D
    simpa using this
theorem JoinS.start {k : Int} {b : Nat} {w : World} {X1 X2 : List Value} (hK : KeysAt w) : JoinS k b w X1 X2 ((((w.alloc (.cells #[.int .i64 k, .map (some b)] 42)).alloc (.cells X1.toArray 45)).alloc (.cells X2.toArray 45)).alloc (.cells zeros32 45)) := by
  obtain ⟨h0, h1, h2, h3⟩ := heap4 w (.cells #[.int .i64 k, .map (some b)] 42) (.cells X1.toArray 45) (.cells X2.toArray 45) (.cells zeros32 45)
  have hb : Below w.heap.size w ((((w.alloc (.cells #[.int .i64 k, .map (some b)] 42)).alloc (.cells X1.toArray 45)).alloc (.cells X2.toArray 45)).alloc (.cells zeros32 45)) := (below3 w _ _ _).alloc (by simp; omega) _
  exact ⟨(cell_of_row _ _ 0 _ _ _ h0).trans rfl, (cell_of_row _ _ 1 _ _ _ h0).trans rfl, range_row _ _ _ _ h1, range_row _ _ _ _ h2, there_row _ _ _ _ _ zeros32_size h3, keys_later hK hb, hb⟩
set_option maxRecDepth 20000 in
theorem joinText_as (k : Int) (b : Nat) (l : List UInt8) (w : World) (hk : k = 0 ∨ k = 1) (hl : l.length = 32) (d : ByteArray) (hd : txt k l = d) (X : List Value) (hX : cells8 l = X) :
    Calls Tryz.prog 18 #[.agg #[.int .i64 k, .map (some b)], .agg X.toArray] w fun e w' => e = .returned (.string d) ∧ Below w.heap.size w w' := by
  subst hX
  exact joinText_any k b l w hk hl d hd
set_option maxRecDepth 20000 in
theorem markOf_as (s : ByteArray) (w : World) (hs : s.size ≤ 32) (X : List Value) (hX : cells8 (pad s) = X) :
    Calls Tryz.prog 16 #[.string s] w fun e w' => e = .returned (.agg X.toArray) ∧ Below w.heap.size w w' := by
  subst hX
  exact markOf_any s w hs
theorem cells8_len (l : List UInt8) : (cells8 l).length = l.length := by simp [cells8]
theorem cells8_one (l : List UInt8) : ∀ v ∈ cells8 l, v.oneCell' = true := by
  intro v hv
  simp only [cells8, List.mem_map] at hv
  obtain ⟨b, _, rfl⟩ := hv
  rfl
set_option maxRecDepth 20000 in
set_option maxHeartbeats 4000000 in
theorem join_any (k : Int) (b : Nat) (l1 l2 : List UInt8) (d1 d2 : ByteArray) (w : World) (hK : KeysAt w) (hk : k = 0 ∨ k = 1) (hl1 : l1.length = 32) (hl2 : l2.length = 32) (hd1 : txt k l1 = d1) (hd2 : txt k l2 = d2) (hs1 : d1.size ≤ 32) (hs2 : d2.size ≤ 32) :
    Calls Tryz.prog 36 #[.agg #[.int .i64 k, .map (some b)], mkV l1, mkV l2] w fun e w' => e = .returned (mkV (pad (nodeD k d1 d2))) ∧ Below w.heap.size w w' := by
  obtain ⟨X1, hX1⟩ : ∃ X, cells8 l1 = X := ⟨_, rfl⟩
  obtain ⟨X2, hX2⟩ : ∃ X, cells8 l2 = X := ⟨_, rfl⟩
  obtain ⟨z, hz⟩ : ∃ z, nodeD k d1 d2 = z := ⟨_, rfl⟩
  obtain ⟨R, hR⟩ : ∃ X, cells8 (pad z) = X := ⟨_, rfl⟩
  have hzs : z.size ≤ 32 := by rw [← hz]; exact dg_le _ _
  have e1 : mkV l1 = .agg X1.toArray := by rw [← hX1]; rfl
  have e2 : mkV l2 = .agg X2.toArray := by rw [← hX2]; rfl
  have e3 : mkV (pad (nodeD k d1 d2)) = .agg R.toArray := by rw [hz, ← hR]; rfl
  rw [e1, e2, e3]
  clear e1 e2 e3
  have HX1 : Hid (cells8 l1 = X1) := hX1
  have HX2 : Hid (cells8 l2 = X2) := hX2
  have HR : Hid (cells8 (pad z) = R) := hR
  have HZ : Hid (nodeD k d1 d2 = z) := hz
  have H1 : Hid (txt k l1 = d1) := hd1
  have H2 : Hid (txt k l2 = d2) := hd2
  have ln1 : X1.length = 32 := by rw [← hX1, cells8_len]; exact hl1
  have ln2 : X2.length = 32 := by rw [← hX2, cells8_len]; exact hl2
  have ln3 : R.length = 32 := by rw [← hR, cells8_len]; exact pad_len z hzs
  have on3 : ∀ v ∈ R, v.oneCell' = true := by rw [← hR]; exact cells8_one _
  have hSt : Hid (JoinS k b w X1 X2 ((((w.alloc (.cells #[.int .i64 k, .map (some b)] 42)).alloc (.cells X1.toArray 45)).alloc (.cells X2.toArray 45)).alloc (.cells zeros32 45))) := JoinS.start hK
  obtain ⟨hzr, hi⟩ := zero_of_info Tryz.info45
  clear hX1 hX2 hR hz hd1 hd2 hK
  have hu := Tryz.underlying45
  go_enter Tryz.func36, Tryz.ntmps36
  go_wp2
  obtain ⟨W, hW⟩ : ∃ W, W = ((((w.alloc (.cells #[.int .i64 k, .map (some b)] 42)).alloc (.cells X1.toArray 45)).alloc (.cells X2.toArray 45)).alloc (.cells zeros32 45)) := ⟨_, rfl⟩
  rw [← hW]
  rw [← hW] at hSt
  clear hW hzr
  have hS0 : JoinS k b w X1 X2 W.drew := hSt.out.drew1
  clear hSt
  have i1 : (Tryz.prog.info? 45).map (·.size) = some X1.length := by rw [ln1]; exact hi
  have i2 : (Tryz.prog.info? 45).map (·.size) = some X2.length := by rw [ln2]; exact hi
  have i3 : (Tryz.prog.info? 45).map (·.size) = some R.length := by rw [ln3]; exact hi
  refine wp_region_held_drew (S := JoinS k b w X1 X2) (by kernel_rfl) hS0 (fun hHeld => ?_)
  refine wpAnyH_take (i := 0) (oi := ({ dst := some 7, op := Op.fieldAddr 42 (Operand.tmp 3) 0, type := 0, pos := "l2_tree.go:174", after := #[], guard := none } : Oper)) (v := .pointer (some ⟨w.heap.size, 0, none⟩)) rfl (by kernel_rfl) (by kernel_rfl) (by kernel_rfl) (fun _ _ _ h => h) (Or.inl ⟨by rfl, fun w hSw => by go_simp⟩) hHeld ?_
  simp only [Act.put, List.setIfInBounds_toArray, List.set_cons_zero, List.set_cons_succ]
  refine wpAnyH_take (i := 1) (oi := ({ dst := some 8, op := Op.load 3 (Operand.tmp 7), type := 3, pos := "l2_tree.go:174", after := #[{ on := 0, ground := Ground.data }], guard := none } : Oper)) (v := .int .i64 k) rfl (by kernel_rfl) (by kernel_rfl) (by kernel_rfl) (fun _ _ _ h => h) (Or.inl ⟨by rfl, fun w hSw => by obtain ⟨c0, c1, _⟩ := hSw; go_simp⟩) hHeld ?_
  simp only [Act.put, List.setIfInBounds_toArray, List.set_cons_zero, List.set_cons_succ]
  refine wpAnyH_take (i := 2) (oi := ({ dst := some 9, op := Op.load 42 (Operand.tmp 3), type := 42, pos := "l2_tree.go:174", after := #[], guard := none } : Oper)) (v := .agg #[.int .i64 k, .map (some b)]) rfl (by kernel_rfl) (by kernel_rfl) (by kernel_rfl) (fun _ _ _ h => h) (Or.inl ⟨by rfl, fun w hSw => by obtain ⟨c0, c1, _⟩ := hSw; go_simp⟩) hHeld ?_
  simp only [Act.put, List.setIfInBounds_toArray, List.set_cons_zero, List.set_cons_succ]
  refine wpAnyH_take (i := 3) (oi := ({ dst := some 10, op := Op.load 45 (Operand.tmp 4), type := 45, pos := "l2_tree.go:174", after := #[], guard := none } : Oper)) (v := .agg X1.toArray) rfl (by kernel_rfl) (by kernel_rfl) (by kernel_rfl) (fun _ _ _ h => h) (yieldsIf_load_mid (by rfl) _ _ rfl _ _ rfl X1 _ (fun w hSw => hSw.2.2.1) hu rfl i1) hHeld ?_
  simp only [Act.put, List.setIfInBounds_toArray, List.set_cons_zero, List.set_cons_succ]
  refine wpAnyH_take (i := 5) (oi := ({ dst := some 12, op := Op.load 42 (Operand.tmp 3), type := 42, pos := "l2_tree.go:174", after := #[], guard := none } : Oper)) (v := .agg #[.int .i64 k, .map (some b)]) rfl (by kernel_rfl) (by kernel_rfl) (by kernel_rfl) (fun _ _ _ h => h) (Or.inl ⟨by rfl, fun w hSw => by obtain ⟨c0, c1, _⟩ := hSw; go_simp⟩) hHeld ?_
  simp only [Act.put, List.setIfInBounds_toArray, List.set_cons_zero, List.set_cons_succ]
  refine wpAnyH_take (i := 6) (oi := ({ dst := some 13, op := Op.load 45 (Operand.tmp 5), type := 45, pos := "l2_tree.go:174", after := #[], guard := none } : Oper)) (v := .agg X2.toArray) rfl (by kernel_rfl) (by kernel_rfl) (by kernel_rfl) (fun _ _ _ h => h) (yieldsIf_load_mid (by rfl) _ _ rfl _ _ rfl X2 _ (fun w hSw => hSw.2.2.2.1) hu rfl i2) hHeld ?_
  simp only [Act.put, List.setIfInBounds_toArray, List.set_cons_zero, List.set_cons_succ]
  refine wpAnyH_ready (rs := [4]) (by kernel_rfl) (by simp) ?_
  refine AllReadyH.cons (o := ({ dst := some 11, op := Op.call { callee := Callee.value (Operand.func 18), args := #[Operand.tmp 9, Operand.tmp 10], argTypes := #[42, 45] }, type := 9, pos := "l2_tree.go:174", after := #[{ on := 2, ground := Ground.data }, { on := 3, ground := Ground.data }], guard := none } : Oper)) rfl (fun K hK => ?_) AllReadyH.nil
  go_simp
  refine (joinText_as k b l1 _ hk hl1 d1 H1.out X1 HX1.out).mono ?_
  rintro e w1 ⟨rfl, hb1⟩
  refine hK.out _ _ (JoinS.call hb1 hHeld) (fun hHeld => ?_)
  clear hK K
  refine wpAnyH_ready (rs := [7]) (by kernel_rfl) (by simp) ?_
  refine AllReadyH.cons (o := ({ dst := some 14, op := Op.call { callee := Callee.value (Operand.func 18), args := #[Operand.tmp 12, Operand.tmp 13], argTypes := #[42, 45] }, type := 9, pos := "l2_tree.go:174", after := #[{ on := 5, ground := Ground.data }, { on := 6, ground := Ground.data }, { on := 4, ground := Ground.chain }], guard := none } : Oper)) rfl (fun K hK => ?_) AllReadyH.nil
  go_simp
  refine (joinText_as k b l2 _ hk hl2 d2 H2.out X2 HX2.out).mono ?_
  rintro e w2 ⟨rfl, hb2⟩
  refine hK.out _ _ (JoinS.call hb2 hHeld) (fun hHeld => ?_)
  clear hK K
  refine wpAnyH_ready (rs := [8]) (by kernel_rfl) (by simp) ?_
  refine AllReadyH.cons (o := ({ dst := some 15, op := Op.call { callee := Callee.value (Operand.func 56), args := #[Operand.tmp 8, Operand.tmp 11, Operand.tmp 14], argTypes := #[3, 9, 9] }, type := 9, pos := "l2_tree.go:174", after := #[{ on := 1, ground := Ground.data }, { on := 4, ground := Ground.data }, { on := 7, ground := Ground.data }, { on := 7, ground := Ground.chain }], guard := none } : Oper)) rfl (fun K hK => ?_) AllReadyH.nil
  go_simp
  refine (implNode_as k d1 d2 _ hHeld.keys (by omega) (by omega) z HZ.out).mono ?_
  rintro e w3 ⟨rfl, hb3⟩
  refine hK.out _ _ (JoinS.call hb3 hHeld) (fun hHeld => ?_)
  clear hK K
  refine wpAnyH_ready (rs := [9]) (by kernel_rfl) (by simp) ?_
  refine AllReadyH.cons (o := ({ dst := some 16, op := Op.call { callee := Callee.value (Operand.func 16), args := #[Operand.tmp 15], argTypes := #[9] }, type := 45, pos := "l2_tree.go:174", after := #[{ on := 8, ground := Ground.data }, { on := 8, ground := Ground.chain }], guard := none } : Oper)) rfl (fun K hK => ?_) AllReadyH.nil
  go_simp
  refine (markOf_as z _ hzs R HR.out).mono ?_
  rintro e w4 ⟨rfl, hb4⟩
  refine hK.out _ _ (JoinS.call hb4 hHeld) (fun hHeld => ?_)
  clear hK K
  have hth : w4.there (w.heap.size + 1 + 1 + 1) 0 R.length := by rw [ln3]; exact hHeld.2.2.2.2.1
  have hth2 : w4.there (w.heap.size + 1 + 1 + 1) 0 R.toArray.size := hth
  have i4 : (Tryz.prog.info? 45).map (·.size) = some R.toArray.size := i3
  refine wpAnyH_ready (rs := [10]) (by kernel_rfl) (by simp) ?_
  refine AllReadyH.cons (o := ({ dst := none, op := Op.store 45 (Operand.tmp 6) (Operand.tmp 16), type := 0, pos := "l2_tree.go:174", after := #[{ on := 9, ground := Ground.data }, { on := 9, ground := Ground.chain }, { on := 0, ground := Ground.phase }, { on := 1, ground := Ground.phase }, { on := 2, ground := Ground.phase }, { on := 3, ground := Ground.phase }, { on := 4, ground := Ground.phase }, { on := 5, ground := Ground.phase }, { on := 6, ground := Ground.phase }, { on := 7, ground := Ground.phase }, { on := 8, ground := Ground.phase }, { on := 9, ground := Ground.phase }], guard := none } : Oper)) rfl (fun K hK => ?_) AllReadyH.nil
  rw [if_pos (by rfl)]
  refine wp_store_mid _ _ _ rfl (w.heap.size + 1 + 1 + 1) 0 R.toArray rfl rfl hth2 i4 (all_oneCell_toArray on3) ?_
  refine hK.out _ _ (JoinS.stored hHeld) (fun hHeld => ?_)
  clear hK K
  refine wpAnyH_done (by kernel_rfl) ?_ _
  go_wp2
  exact bodyPost_ret (v := .agg R.toArray) (results_mid Tryz.results36 _ _ (w.heap.size + 1 + 1 + 1) 0 R _ rfl (World.rangeAt_setCells_same _ _ _ _ hth) hu rfl i3) rfl ⟨rfl, hHeld.2.2.2.2.2.2⟩
end Go.Proofs.YtjbbbfplephkpaaGreatDoor
