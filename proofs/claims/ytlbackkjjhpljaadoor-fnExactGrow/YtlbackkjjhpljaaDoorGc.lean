/-
  A tree with one entry more: the specification's way.
-/
import Derived.Test.YtlbackkjjhpljaaDoorTra
import Derived.Test.YtlbackkjjhpljaaDoorGb
import Derived.Test.YtlbackkjjhpljaaDoorMv
namespace Go.Proofs.YtlbackkjjhpljaaDoor
open Go.RowKit
set_option maxRecDepth 20000 in
theorem append_none (W : World) (g cap c ty : Nat) (a : Option Addr) : (Builtin.append_ #[26, 26] ty #[.slice (some ⟨g, 0, none⟩) 0 cap, .slice a 0 c]).run Tryd.prog W = .ok (.slice (some ⟨g, 0, none⟩) 0 cap) W := by
  obtain ⟨i0, hi, hz0, hz1, hz2⟩ := info_parts Tryd.info9
  cases a <;> simp [Builtin.append_, run_underlying Tryd.underlying26, sizeOf, typeInfo, hi, Builtin.lenOf, Builtin.firstCells, Result.andThen, storeCells, loadCells, loadCellsFrom]
set_option maxRecDepth 20000 in
theorem append_zero (W : World) (g cap c ty n : Nat) (a : Option Addr) (hn : n = 0) : (Builtin.append_ #[26, 26] ty #[.slice (some ⟨g, 0, none⟩) 0 cap, .slice a n c]).run Tryd.prog W = .ok (.slice (some ⟨g, 0, none⟩) n cap) W := by
  subst hn
  exact append_none W g cap c ty a
theorem wpList_run_append {P : Program} {w : World} {ops : Array Oper} {rest : List Oper} {o : Oper} {a : Act} {Q : Exit → Act → World → Prop} (hg : o.guard = none) (x y : Operand) (t t' : TypeId) (hop : o.op = Op.call { callee := Callee.builtin Builtin.append, args := #[x, y], argTypes := #[t, t'] })
    (xv yv v : Value) (hx : a.eval x = xv) (hy : a.eval y = yv) (hrun : ∀ ty, (Builtin.append_ #[t, t'] ty #[xv, yv]).run P w = .ok v w) (hK : wpList P ops Q rest (a.put o.dst v) w) : wpList P ops Q (o :: rest) a w := by
  refine wpList_plain hg fun K' hK' => ?_
  unfold Oper.wp
  simp [execOp, hop, resolve, invoke, builtin, hx, hy, hrun, Result.andThen]
  exact hK' _ _ hK
set_option maxRecDepth 20000 in
set_option maxHeartbeats 2000000 in
/-- A tree that can't grow. -/
theorem specGrow_bad (k z : Int) (a : Option Addr) (n c : Nat) (S : Nat → ByteArray) (x : ByteArray) (w : World) (h : Sl w a n S) (hbad : okB k z n S = false ∨ z = 2000) :
    Calls Tryd.prog 23 #[.int .i64 k, .agg #[.int .i64 z, .slice a n c], .string x] w fun e w' => e = .returned (.agg #[.int .i64 0, .slice none 0 0]) ∧ Below w.heap.size w w' := by
  have hS0 := h.later (below2 w (.cells #[.int .i64 z, .slice a n c] 31) (.cells #[.int .i64 0, .slice none 0 0] 31))
  obtain ⟨p00, q00⟩ := cell_box w (.int .i64 z) (.slice a n c) 31
  have p0 := keep (below1 _ (.cells #[.int .i64 0, .slice none 0 0] 31)) p00
  have q0 := keep (below1 _ (.cells #[.int .i64 0, .slice none 0 0] 31)) q00
  obtain ⟨u0, v0⟩ := cell_box (w.alloc (.cells #[.int .i64 z, .slice a n c] 31)) (.int .i64 0) (.slice none 0 0) 31
  have f0 := frozen_of_row _ _ 0 _ _ (heap_alloc_new (w.alloc (.cells #[.int .i64 z, .slice a n c] 31)) (.cells #[.int .i64 0, .slice none 0 0] 31))
  have f1 := frozen_of_row _ _ 1 _ _ (heap_alloc_new (w.alloc (.cells #[.int .i64 z, .slice a n c] 31)) (.cells #[.int .i64 0, .slice none 0 0] 31))
  simp only [World.size_alloc] at u0 v0 f0 f1
  clear p00 q00
  obtain ⟨o, ho⟩ : ∃ o, okB k z n S = o := ⟨_, rfl⟩
  rw [ho] at hbad
  have HO : Hid (okB k z n S = o) := ho
  clear ho
  have hend : ∀ w1 : World, Below ((w.alloc (.cells #[.int .i64 z, .slice a n c] 31)).alloc (.cells #[.int .i64 0, .slice none 0 0] 31)).heap.size ((w.alloc (.cells #[.int .i64 z, .slice a n c] 31)).alloc (.cells #[.int .i64 0, .slice none 0 0] 31)) w1 → Below w.heap.size w w1 := fun w1 hb => (below2 _ _ _).trans (hb.mono (by simp; omega))
  cases o
  · go_enter Tryd.func23, Tryd.ntmps23
    go_wp2_with (go_at_call 33; refine (specOK_any _ _ _ _ _ S _ hS0).mono ?_; rw [HO.out]; rintro e w1 ⟨rfl, hb1⟩; have p1 := keep hb1 p0; have u1 := keep hb1 u0; have v1 := keep hb1 v0; have g0 := (bcell hb1).2 _ _ (World.block_lt_of_cell? _ _ u0) |>.trans f0; have g1 := (bcell hb1).2 _ _ (World.block_lt_of_cell? _ _ v0) |>.trans f1)
    exact bodyPost_ret (v := .agg #[.int .i64 0, .slice none 0 0]) (by simp [results, Tryd.results23, go_sem, u1, v1]) rfl ⟨rfl, ((hend w1 hb1).setCell (by simp) _).setCell (by simp) _⟩
  · obtain rfl : z = 2000 := by simpa using hbad
    go_enter Tryd.func23, Tryd.ntmps23
    go_wp2_with (go_at_call 33; refine (specOK_any _ _ _ _ _ S _ hS0).mono ?_; rw [HO.out]; rintro e w1 ⟨rfl, hb1⟩; have p1 := keep hb1 p0; have u1 := keep hb1 u0; have v1 := keep hb1 v0; have g0 := (bcell hb1).2 _ _ (World.block_lt_of_cell? _ _ u0) |>.trans f0; have g1 := (bcell hb1).2 _ _ (World.block_lt_of_cell? _ _ v0) |>.trans f1)
    exact bodyPost_ret (v := .agg #[.int .i64 0, .slice none 0 0]) (by simp [results, Tryd.results23, go_sem, u1, v1]) rfl ⟨rfl, ((hend w1 hb1).setCell (by simp) _).setCell (by simp) _⟩
/-- What stands while the specification's tree grows. -/
structure Gs (z : Int) (n g cap : Nat) (S : Nat → ByteArray) (w w' : World) : Prop where
  c0 : w'.cell? ⟨w.heap.size, 0, none⟩ = some (.int .i64 z)
  t : w'.there (w.heap.size + 1) 0 2
  own : w'.ownsRow (w.heap.size + 2) 9 1 (.slice (some ⟨g, 0, none⟩) n cap) n (strs S n)
  below : Below w.heap.size w w'
  lt2 : w.heap.size + 2 ≤ w'.heap.size
theorem Gs.call {z : Int} {n g cap : Nat} {S : Nat → ByteArray} {w w1 w2 : World} (h : Gs z n g cap S w w1) (hb : Below w1.heap.size w1 w2) : Gs z n g cap S w w2 :=
  ⟨keep hb h.c0, there_later h.t hb, own_later h.own hb, h.below.trans (hb.mono h.below.size), Nat.le_trans h.lt2 hb.size⟩
theorem Gs.drew1 {z : Int} {n g cap : Nat} {S : Nat → ByteArray} {w w1 : World} (h : Gs z n g cap S w w1) : Gs z n g cap S w w1.drew := ⟨h.c0, h.t, h.own, h.below.drew, h.lt2⟩
/-- What is left of it behind an append to the row. -/
structure Gt (z : Int) (w w' : World) : Prop where
  c0 : w'.cell? ⟨w.heap.size, 0, none⟩ = some (.int .i64 z)
  t : w'.there (w.heap.size + 1) 0 2
  below : Below w.heap.size w w'
theorem Gs.appended {z : Int} {n g cap : Nat} {S : Nat → ByteArray} {w w1 w2 : World} (h : Gs z n g cap S w w1) (hg : w1.grownBy w2 (some g)) : Gt z w w2 := by
  obtain ⟨h1, h2, h3, h4⟩ := own_cap h.own
  exact ⟨hg.cell h.c0 (by simp; omega), there_grown h.t hg (by omega), h.below.grown hg h.below.size (fun j hj => by simp at hj; omega)⟩
theorem own_setCells {w : World} {B g n cap : Nat} {xs : List Value} (h : w.ownsRow B 9 1 (.slice (some ⟨g, 0, none⟩) n cap) n xs) (b o : Nat) (vs : List Value) (hb : b < B) : (w.setCells b o vs).ownsRow B 9 1 (.slice (some ⟨g, 0, none⟩) n cap) n xs := by
  have hc := own_cap h
  refine h.kept (row := some b) ⟨?_, ?_, ?_, ?_, fun i hi hne => heap_setCells_other _ _ _ (fun e => hne (by rw [e])) _ _⟩ (Or.inr (by simp [Value.ownBlock]; omega))
  · clear h hc hb; induction vs generalizing o w with
    | nil => rfl
    | cons v r ih => exact (ih (w := w.setCell ⟨b, o, none⟩ v) (o + 1)).trans rfl
  · clear h hc hb; induction vs generalizing o w with
    | nil => rfl
    | cons v r ih => exact (ih (w := w.setCell ⟨b, o, none⟩ v) (o + 1)).trans rfl
  · clear h hc hb; induction vs generalizing o w with
    | nil => rfl
    | cons v r ih => exact (ih (w := w.setCell ⟨b, o, none⟩ v) (o + 1)).trans rfl
  · rw [size_setCells]; exact Nat.le_refl _
set_option maxRecDepth 20000 in
theorem Tryd.info31 : (Tryd.prog.info? 31).map (·.size) = some 2 := by kernel_rfl
set_option maxRecDepth 20000 in
set_option maxHeartbeats 4000000 in
theorem specGrow_good (k z : Int) (a : Option Addr) (n c : Nat) (S : Nat → ByteArray) (x : ByteArray) (w : World) (h : Sl w a n S) (hok : okB k z n S = true) (hz2 : z < 2000) (hx : x.size ≤ 1048576) (r : Nat) (hr : lows z.toNat = r) :
    Calls Tryd.prog 23 #[.int .i64 k, .agg #[.int .i64 z, .slice a n c], .string x] w fun e w' => ∃ g cap, e = .returned (.agg #[.int .i64 (z + 1), .slice (some ⟨g, 0, none⟩) (n - r + 1) cap]) ∧ w'.ownsRow (w.heap.size + 2) 9 1 (.slice (some ⟨g, 0, none⟩) (n - r + 1) cap) (n - r + 1) (strs (grownS k S n x r) (n - r + 1)) ∧ Below w.heap.size w w' := by
  have hS0 := h.later (below2 w (.cells #[.int .i64 z, .slice a n c] 31) (.cells #[.int .i64 0, .slice none 0 0] 31))
  obtain ⟨p00, q00⟩ := cell_box w (.int .i64 z) (.slice a n c) 31
  have p0 := keep (below1 _ (.cells #[.int .i64 0, .slice none 0 0] 31)) p00
  have q0 := keep (below1 _ (.cells #[.int .i64 0, .slice none 0 0] 31)) q00
  have t0 := there_row _ _ _ _ 2 rfl (heap_alloc2_new w (.cells #[.int .i64 z, .slice a n c] 31) (.cells #[.int .i64 0, .slice none 0 0] 31))
  clear p00 q00
  obtain ⟨hk, hz0, hz1, hn, hs⟩ := okB_out hok
  have hn12 : n ≤ 12 := by rw [hn]; exact on_le _
  have HO : Hid (okB k z n S = true) := hok
  have hw := wid_le k
  obtain ⟨zn, rfl⟩ : ∃ zn : Nat, z = zn := ⟨z.toNat, by omega⟩
  have hzn : zn < 2000 := by omega
  have HN : Hid (on zn = n) := hn.symm
  have HLW : Hid (lows zn = r) := hr
  have d2000 : ((zn : Int) == 2000) = false := by simpa using (by omega : ¬ (zn : Int) = 2000)
  have hwz : IntKind.i64.wrap ((zn : Int) + 1) = (zn : Int) + 1 := by rw [IntKind.wrap_i64]; omega
  obtain ⟨i0, hi0, hzz0, hzz1, hzz2⟩ := info_parts Tryd.info9
  have HI0 : Hid (Tryd.prog.info? 9 = some i0) := hi0
  have I31 : Hid ((Tryd.prog.info? 31).map (·.size) = some 2) := Tryd.info31
  have hs32 : ∀ i, i < n → (S i).size ≤ 32 := fun i hi => by rw [hs i hi]; exact hw
  clear hok hn hr hi0
  have hsz2 : ((w.alloc (.cells #[.int .i64 zn, .slice a n c] 31)).alloc (.cells #[.int .i64 0, .slice none 0 0] 31)).heap.size = w.heap.size + 2 := by simp
  have hnews : Hid (0 < n → ∃ b off, a = some ⟨b, off, none⟩ ∧ ∀ w', Sl w' a n S → ∀ j u, (strs S n)[j]? = some u → w'.cell? ((⟨b, off, none⟩ : Addr).add j) = some u) := by
    intro hp
    obtain ⟨b, off, rfl, _⟩ := h.at 0 hp
    refine ⟨b, off, rfl, fun w' hw' j u hu => ?_⟩
    have hj : j < n := by have := (List.getElem?_eq_some_iff.1 hu).1; rwa [strs_len] at this
    obtain ⟨b', off', e, hc⟩ := hw'.at j hj
    obtain ⟨rfl, rfl⟩ : b = b' ∧ off = off' := by simpa using e
    rw [Addr.add_mid, hc]
    rw [strs_get S n j hj] at hu
    exact hu
  by_cases hn0 : n = 0
  · have HZ : Hid (n = 0) := hn0
    clear hn0
    go_enter Tryd.func23, Tryd.ntmps23
    go_wp2_with (first | (go_at_call 33; refine (specOK_any _ _ _ _ _ S _ hS0).mono ?_; rw [HO.out]; rintro e w1 ⟨rfl, hb1⟩; have p1 := keep hb1 p0; have q1 := keep (below1 w1 (.cells #[] 9)) (keep hb1 q0); have pz1 := p1; have t1 := there_later t0 hb1; have hS1 := (hS0.later hb1).later (below1 w1 (.cells #[] 9)); have hz1' : w.heap.size + 2 ≤ w1.heap.size := by have := hb1.size; omega) | (at_builtin; refine wpList_run_append rfl (.tmp 20) (.tmp 22) 26 26 rfl _ _ _ rfl rfl (fun ty => append_zero _ _ 0 c ty n a HZ.out) ?_) | (go_at_call 9; refine (specLeaf_any k x _ (by omega)).mono ?_; rintro e w3 ⟨rfl, hb3⟩; have p3 := keep hb3 (keep (below1 w1 (.cells #[] 9)) p1)))
    have GS0 : Gs (zn : Int) n w1.heap.size 0 S w w3 := by
      have b1 : Below w.heap.size w w1 := (below2 _ _ _).trans (hb1.mono (by simp; omega))
      have hb4 : Below w.heap.size w (w1.alloc (.cells #[] 9)) := b1.trans ((below1 _ _).mono b1.size)
      refine Gs.call (w1 := w1.alloc (.cells #[] 9)) ⟨keep (below1 _ _) p1, there_later t1 (below1 _ _), ?_, hb4, by simp; omega⟩ hb3
      rw [HZ.out]
      exact World.ownsRow_lit w1 #[] 0 hz1' (by simp [maxLen]) rfl
    clear p0 q0 t0 hS0 p1 q1 pz1 t1 hS1 p3 hb1 hb3 h
    have hG0 : Gs (zn : Int) n w1.heap.size 0 S w w3 := GS0
    clear GS0
    go_loopw [7, 8, 9] (fun p l q wr => ∃ i xx : Nat, xx < 2048 ∧ on xx + i = n ∧ i + lows xx = r ∧ p = .slice (some ⟨w1.heap.size, 0, none⟩) (n - i) 0 ∧ l = .string (gl k S n x i) ∧ q = .int .i64 xx ∧ Gs (zn : Int) n w1.heap.size 0 S w wr) (fun _ _ q _ => (intOf q).toNat)
    case atStart => exact ⟨0, zn, by omega, by have := HN.out; omega, by have := HLW.out; omega, rfl, rfl, rfl, hG0⟩
    case round =>
      clear hG0
      obtain ⟨i, xx, hxx, hon, hlow, rfl, rfl, rfl, hG⟩ := hrel
      have hc := own_cap hG.own
      have hgs := gl_wid k S n x hk i
      by_cases hodd : xx % 2 = 1
      · have h1 := on_pos xx hxx hodd
        have h2 := lows_odd xx hxx hodd
        have H1 : Hid (on (xx / 2) + (i + 1) = n) := by show on (xx / 2) + (i + 1) = n; omega
        have H2 : Hid (i + 1 + lows (xx / 2) = r) := by show i + 1 + lows (xx / 2) = r; omega
        obtain ⟨t, ht⟩ : ∃ t, n - i = t + 1 := ⟨n - i - 1, by omega⟩
        have htn : t < n := by omega
        have hct := own_cell hG.own t _ (strs_get S n t htn)
        have hst := hs32 t htn
        have htc : (t : Int) ≤ (0 : Nat) := by omega
        have hD : Hid (nodeD k (S t) (gl k S n x i) = gl k S n x (i + 1)) := by
          show nodeD k (S t) (gl k S n x i) = nodeD k (S (n - 1 - i)) (gl k S n x i)
          rw [show n - 1 - i = t by omega]
        have HT : Hid (n - (i + 1) = t) := by show n - (i + 1) = t; omega
        rw [ht]
        obtain ⟨l, hl⟩ : ∃ l, gl k S n x i = l := ⟨_, rfl⟩
        obtain ⟨l2, hl2⟩ : ∃ l, gl k S n x (i + 1) = l := ⟨_, rfl⟩
        rw [hl] at hD hgs ⊢
        rw [hl2] at hD
        have HL2 : Hid (gl k S n x (i + 1) = l2) := hl2
        have hodd' : (xx : Int) % 2 = 1 := by omega
        clear hon hlow h1 h2 ht hl hl2
        go_wp2_with (go_at_call 11; refine (specNode_any k (S t) l _ (by omega) (by omega)).mono ?_; rw [hD.out]; rintro e w4 ⟨rfl, hb4⟩)
        go_roundw
        case rel =>
          have R : ∃ i xx' : Nat, xx' < 2048 ∧ on xx' + i = n ∧ i + lows xx' = r ∧ Value.slice (some ⟨w1.heap.size, 0, none⟩) t 0 = .slice (some ⟨w1.heap.size, 0, none⟩) (n - i) 0 ∧ Value.string l2 = .string (gl k S n x i) ∧ Value.int .i64 ((xx : Int) / 2) = .int .i64 xx' ∧ Gs (zn : Int) n w1.heap.size 0 S w w4 :=
            ⟨i + 1, xx / 2, by omega, H1.out, H2.out, by rw [HT.out], by rw [HL2.out], by go_num, hG.call hb4⟩
          first | exact R | exact ⟨_, _, _, R, rfl⟩ | (refine ⟨_, _, _, _, _, _, _, _, _, _, _, _, _, _, _, _, _, _, _, _, R, rfl⟩)
        case measure => simp [intOf]; omega
      · have h2 := lows_even xx hodd
        obtain rfl : i = r := by omega
        have hodd' : ¬ (xx : Int) % 2 = 1 := by omega
        obtain ⟨last, hla⟩ : ∃ l, gl k S n x i = l := ⟨_, rfl⟩
        have HL : Hid (gl k S n x i = last) := hla
        rw [hla]
        clear hla hon h2
        go_wp2
        refine wp_region_held_drew (S := fun w' => w'.cell? ⟨w.heap.size, 0, none⟩ = some (.int .i64 (zn : Int))) (by kernel_rfl) hG.c0 (fun hHeld => ?_)
        refine wpAnyH_take (i := 0) (oi := ({ dst := some 48, op := Op.fieldAddr 31 (Operand.tmp 4) 0, type := 0, pos := "l2_tree.go:64", after := #[], guard := none } : Oper)) (v := .pointer (some ⟨w.heap.size, 0, none⟩)) rfl (by kernel_rfl) (by kernel_rfl) (by kernel_rfl) (fun _ _ _ h => h) (Or.inl ⟨by rfl, fun w hSw => by go_simp⟩) hHeld ?_
        simp only [Act.put, List.setIfInBounds_toArray, List.set_cons_zero, List.set_cons_succ]
        refine wpAnyH_take (i := 1) (oi := ({ dst := some 49, op := Op.load 3 (Operand.tmp 48), type := 3, pos := "l2_tree.go:64", after := #[{ on := 0, ground := Ground.data }], guard := none } : Oper)) (v := .int .i64 (zn : Int)) rfl (by kernel_rfl) (by kernel_rfl) (by kernel_rfl) (fun _ _ _ h => h) (Or.inl ⟨by rfl, fun w hSw => by go_simp⟩) hHeld ?_
        simp only [Act.put, List.setIfInBounds_toArray, List.set_cons_zero, List.set_cons_succ]
        refine wpAnyH_take (i := 2) (oi := ({ dst := some 50, op := Op.binOp BinOp.add 3 (Operand.tmp 49) (Operand.const (Value.int IntKind.i64 1)) 3, type := 3, pos := "l2_tree.go:64", after := #[{ on := 1, ground := Ground.data }], guard := none } : Oper)) (v := .int .i64 ((zn : Int) + 1)) rfl (by kernel_rfl) (by kernel_rfl) (by kernel_rfl) (fun _ _ _ h => h) (Or.inl ⟨by rfl, fun w hSw => by go_simp⟩) hHeld ?_
        simp only [Act.put, List.setIfInBounds_toArray, List.set_cons_zero, List.set_cons_succ]
        refine wpAnyH_take (i := 3) (oi := ({ dst := some 51, op := Op.move (Operand.tmp 7), type := 26, pos := "l2_tree.go:64", after := #[], guard := none } : Oper)) (v := .slice (some ⟨w1.heap.size, 0, none⟩) (n - i) 0) rfl (by kernel_rfl) (by kernel_rfl) (by kernel_rfl) (fun _ _ _ h => h) (Or.inl ⟨by rfl, fun w hSw => by go_simp⟩) hHeld ?_
        simp only [Act.put, List.setIfInBounds_toArray, List.set_cons_zero, List.set_cons_succ]
        refine wpAnyH_take (i := 4) (oi := ({ dst := some 52, op := Op.move (Operand.tmp 8), type := 9, pos := "l2_tree.go:64", after := #[], guard := none } : Oper)) (v := .string last) rfl (by kernel_rfl) (by kernel_rfl) (by kernel_rfl) (fun _ _ _ h => h) (Or.inl ⟨by rfl, fun w hSw => by go_simp⟩) hHeld ?_
        simp only [Act.put, List.setIfInBounds_toArray, List.set_cons_zero, List.set_cons_succ]
        refine wpAnyH_ready (rs := [5]) (by kernel_rfl) (by simp) ?_
        refine AllReadyH.cons (o := ({ dst := some 53, op := Op.buildSlice 26 1 #[(0, Operand.tmp 52)], type := 26, pos := "l2_tree.go:64", after := #[{ on := 4, ground := Ground.data }], guard := none } : Oper)) rfl (fun K hK => ?_) AllReadyH.nil
        go_simp
        have hG5 := hG.drew1.call (below1 wr.drew (.cells #[.string last] 9))
        refine hK.out _ _ hG5.c0 (fun hHeld => ?_)
        clear hK K
        refine wpAnyH_ready (rs := [6]) (by kernel_rfl) (by simp) ?_
        refine AllReadyH.cons (o := ({ dst := some 54, op := Op.call { callee := Callee.builtin Builtin.append, args := #[Operand.tmp 51, Operand.tmp 53], argTypes := #[26, 26] }, type := 26, pos := "l2_tree.go:64", after := #[{ on := 3, ground := Ground.data }, { on := 5, ground := Ground.data }], guard := none } : Oper)) rfl (fun K hK => ?_) AllReadyH.nil
        rw [if_pos (by rfl)]
        refine wp_append_lies _ (.tmp 51) (.tmp 53) 26 rfl (w.heap.size + 2) 9 i0 (.string ByteArray.empty) 1 16 Tryd.underlying26 HI0.out hzz0 hzz1 hzz2 rfl (by omega) (.slice (some ⟨w1.heap.size, 0, none⟩) (n - i) 0) (n - i) (strs S (n - i)) rfl (own_cut hG5.own (n - i) (by omega)) ⟨wr.heap.size, 0, none⟩ 1 1 [.string last] rfl rfl (World.news_of_block (cs := #[.string last]) (heap_alloc_new wr.drew _)) (fun u hu => by simp only [List.mem_singleton] at hu; subst hu; rfl) (by omega) (by unfold maxLen; omega) (by omega) (by have := hG.below.size; have := hG.lt2; simp; omega) _ rfl ?_
        intro g2 cap2 w6 hown6 hgrow6 hat6 hlt6
        have hG6 := hG5.appended hgrow6
        refine hK.out _ _ hG6.c0 (fun hHeld => ?_)
        clear hK K
        simp only [Act.put, List.setIfInBounds_toArray, List.set_cons_zero, List.set_cons_succ]
        refine wpAnyH_take (i := 7) (oi := ({ dst := some 55, op := Op.build 31 #[(0, Operand.tmp 50), (1, Operand.tmp 54)], type := 31, pos := "l2_tree.go:64", after := #[{ on := 2, ground := Ground.data }, { on := 6, ground := Ground.data }], guard := none } : Oper)) (v := .agg #[.int .i64 ((zn : Int) + 1), .slice (some ⟨g2, 0, none⟩) (n - i + 1) cap2]) rfl (by kernel_rfl) (by kernel_rfl) (by kernel_rfl) (fun _ _ _ h => h) (Or.inl ⟨by rfl, fun w hSw => by go_simp⟩) hHeld ?_
        simp only [Act.put, List.setIfInBounds_toArray, List.set_cons_zero, List.set_cons_succ]
        refine wpAnyH_ready (rs := [8]) (by kernel_rfl) (by simp) ?_
        refine AllReadyH.cons (o := ({ dst := none, op := Op.store 31 (Operand.tmp 6) (Operand.tmp 55), type := 0, pos := "l2_tree.go:64", after := #[{ on := 7, ground := Ground.data }, { on := 6, ground := Ground.chain }, { on := 0, ground := Ground.phase }, { on := 1, ground := Ground.phase }, { on := 2, ground := Ground.phase }, { on := 3, ground := Ground.phase }, { on := 4, ground := Ground.phase }, { on := 5, ground := Ground.phase }, { on := 6, ground := Ground.phase }, { on := 7, ground := Ground.phase }], guard := none } : Oper)) rfl (fun K hK => ?_) AllReadyH.nil
        rw [if_pos (by rfl)]
        refine wp_store_mid _ _ _ rfl (w.heap.size + 1) 0 (List.toArray [.int .i64 ((zn : Int) + 1), .slice (some ⟨g2, 0, none⟩) (n - i + 1) cap2]) rfl rfl hG6.t I31.out (all_oneCell_toArray (fun u hu => by simp at hu; rcases hu with rfl | rfl <;> rfl)) ?_
        have hown8 := own_setCells hown6 (w.heap.size + 1) 0 [.int .i64 ((zn : Int) + 1), .slice (some ⟨g2, 0, none⟩) (n - i + 1) cap2] (by omega)
        refine hK.out _ _ ((World.cell?_setCells_out _ _ _ _ _ (fun e => by simp at e)).trans hG6.c0) (fun hHeld => ?_)
        clear hK K
        refine wpAnyH_done (by kernel_rfl) ?_ _
        go_wp2
        refine bodyPost_ret (v := .agg #[.int .i64 ((zn : Int) + 1), .slice (some ⟨g2, 0, none⟩) (n - i + 1) cap2]) (results_mid Tryd.results23 _ _ (w.heap.size + 1) 0 [.int .i64 ((zn : Int) + 1), .slice (some ⟨g2, 0, none⟩) (n - i + 1) cap2] _ rfl (World.rangeAt_setCells_same _ _ _ _ hG6.t) Tryd.underlying31 rfl I31.out) rfl ⟨g2, cap2, ?_, ?_, below_setCells _ _ hG6.below (by omega)⟩
        · rfl
        · rw [← strs_grown, HL.out]; exact hown8
  · obtain ⟨b, off, rfl, hnw⟩ := hnews.out (by omega)
    go_enter Tryd.func23, Tryd.ntmps23
    go_wp2_with (first | (go_at_call 33; refine (specOK_any _ _ _ _ _ S _ hS0).mono ?_; rw [HO.out]; rintro e w1 ⟨rfl, hb1⟩; have p1 := keep hb1 p0; have q1 := keep (below1 w1 (.cells #[] 9)) (keep hb1 q0); have pz1 := p1; have t1 := there_later t0 hb1; have hS1 := (hS0.later hb1).later (below1 w1 (.cells #[] 9)); have hz1' : w.heap.size + 2 ≤ w1.heap.size := by have := hb1.size; omega) | (at_builtin; refine wpList_append_lies _ rfl (.tmp 20) (.tmp 22) 26 rfl (w.heap.size + 2) 9 i0 (.string ByteArray.empty) 1 16 Tryd.underlying26 HI0.out hzz0 hzz1 hzz2 rfl (by omega) (.slice (some ⟨w1.heap.size, 0, none⟩) 0 0) 0 [] rfl (World.ownsRow_lit w1 #[] 0 hz1' (by simp [maxLen]) rfl) ⟨b, off, none⟩ n c (strs S n) rfl (by rw [strs_len]; omega) (hnw _ hS1) (strs_one S n) (by omega) (by unfold maxLen; omega) (by omega) (by simp; omega) _ rfl ?_; intro g cap w2 hown2 hgrow2 hat2 hlt2; have p2 : w2.cell? ⟨w.heap.size, 0, none⟩ = some (.int .i64 (zn : Int)) := hgrow2.cell (keep (below1 w1 (.cells #[] 9)) p1) (fun e => by simp [Value.ownBlock] at e; omega)) | (go_at_call 9; refine (specLeaf_any k x _ (by omega)).mono ?_; rintro e w3 ⟨rfl, hb3⟩; have p3 := keep hb3 p2))
    have GS0 : Gs (zn : Int) n g cap S w w3 := by
      have b1 : Below w.heap.size w w1 := (below2 _ _ _).trans (hb1.mono (by simp; omega))
      have hb4 : Below w.heap.size w (w1.alloc (.cells #[] 9)) := b1.trans ((below1 _ _).mono b1.size)
      have hg2 : (w1.alloc (.cells #[] 9)).grownBy w2 (some w1.heap.size) := hgrow2
      refine Gs.call (w1 := w2) ⟨p2, there_grown (there_later t1 (below1 _ _)) hg2 (by omega), by simpa using hown2, hb4.grown hg2 hb4.size (fun j hj => by simp at hj; omega), by have := hg2.size; simp at this; omega⟩ hb3
    clear p0 q0 t0 hS0 p1 q1 pz1 t1 hS1 p2 p3 hb1 hb3 hown2 hgrow2 hat2 hlt2 h hnw
    have hG0 : Gs (zn : Int) n g cap S w w3 := GS0
    clear GS0
    go_loopw [7, 8, 9] (fun p l q wr => ∃ i xx : Nat, xx < 2048 ∧ on xx + i = n ∧ i + lows xx = r ∧ p = .slice (some ⟨g, 0, none⟩) (n - i) cap ∧ l = .string (gl k S n x i) ∧ q = .int .i64 xx ∧ Gs (zn : Int) n g cap S w wr) (fun _ _ q _ => (intOf q).toNat)
    case atStart => exact ⟨0, zn, by omega, by have := HN.out; omega, by have := HLW.out; omega, rfl, rfl, rfl, hG0⟩
    case round =>
      clear hG0
      obtain ⟨i, xx, hxx, hon, hlow, rfl, rfl, rfl, hG⟩ := hrel
      have hc := own_cap hG.own
      have hgs := gl_wid k S n x hk i
      by_cases hodd : xx % 2 = 1
      · have h1 := on_pos xx hxx hodd
        have h2 := lows_odd xx hxx hodd
        have H1 : Hid (on (xx / 2) + (i + 1) = n) := by show on (xx / 2) + (i + 1) = n; omega
        have H2 : Hid (i + 1 + lows (xx / 2) = r) := by show i + 1 + lows (xx / 2) = r; omega
        obtain ⟨t, ht⟩ : ∃ t, n - i = t + 1 := ⟨n - i - 1, by omega⟩
        have htn : t < n := by omega
        have hct := own_cell hG.own t _ (strs_get S n t htn)
        have hst := hs32 t htn
        have htc : (t : Int) ≤ cap := by omega
        have hD : Hid (nodeD k (S t) (gl k S n x i) = gl k S n x (i + 1)) := by
          show nodeD k (S t) (gl k S n x i) = nodeD k (S (n - 1 - i)) (gl k S n x i)
          rw [show n - 1 - i = t by omega]
        have HT : Hid (n - (i + 1) = t) := by show n - (i + 1) = t; omega
        rw [ht]
        obtain ⟨l, hl⟩ : ∃ l, gl k S n x i = l := ⟨_, rfl⟩
        obtain ⟨l2, hl2⟩ : ∃ l, gl k S n x (i + 1) = l := ⟨_, rfl⟩
        rw [hl] at hD hgs ⊢
        rw [hl2] at hD
        have HL2 : Hid (gl k S n x (i + 1) = l2) := hl2
        have hodd' : (xx : Int) % 2 = 1 := by omega
        clear hon hlow h1 h2 ht hl hl2
        go_wp2_with (go_at_call 11; refine (specNode_any k (S t) l _ (by omega) (by omega)).mono ?_; rw [hD.out]; rintro e w4 ⟨rfl, hb4⟩)
        go_roundw
        case rel =>
          have R : ∃ i xx' : Nat, xx' < 2048 ∧ on xx' + i = n ∧ i + lows xx' = r ∧ Value.slice (some ⟨g, 0, none⟩) t cap = .slice (some ⟨g, 0, none⟩) (n - i) cap ∧ Value.string l2 = .string (gl k S n x i) ∧ Value.int .i64 ((xx : Int) / 2) = .int .i64 xx' ∧ Gs (zn : Int) n g cap S w w4 :=
            ⟨i + 1, xx / 2, by omega, H1.out, H2.out, by rw [HT.out], by rw [HL2.out], by go_num, hG.call hb4⟩
          first | exact R | exact ⟨_, _, _, R, rfl⟩ | (refine ⟨_, _, _, _, _, _, _, _, _, _, _, _, _, _, _, _, _, _, _, _, R, rfl⟩)
        case measure => simp [intOf]; omega
      · have h2 := lows_even xx hodd
        obtain rfl : i = r := by omega
        have hodd' : ¬ (xx : Int) % 2 = 1 := by omega
        obtain ⟨last, hla⟩ : ∃ l, gl k S n x i = l := ⟨_, rfl⟩
        have HL : Hid (gl k S n x i = last) := hla
        rw [hla]
        clear hla hon h2
        go_wp2
        refine wp_region_held_drew (S := fun w' => w'.cell? ⟨w.heap.size, 0, none⟩ = some (.int .i64 (zn : Int))) (by kernel_rfl) hG.c0 (fun hHeld => ?_)
        refine wpAnyH_take (i := 0) (oi := ({ dst := some 48, op := Op.fieldAddr 31 (Operand.tmp 4) 0, type := 0, pos := "l2_tree.go:64", after := #[], guard := none } : Oper)) (v := .pointer (some ⟨w.heap.size, 0, none⟩)) rfl (by kernel_rfl) (by kernel_rfl) (by kernel_rfl) (fun _ _ _ h => h) (Or.inl ⟨by rfl, fun w hSw => by go_simp⟩) hHeld ?_
        simp only [Act.put, List.setIfInBounds_toArray, List.set_cons_zero, List.set_cons_succ]
        refine wpAnyH_take (i := 1) (oi := ({ dst := some 49, op := Op.load 3 (Operand.tmp 48), type := 3, pos := "l2_tree.go:64", after := #[{ on := 0, ground := Ground.data }], guard := none } : Oper)) (v := .int .i64 (zn : Int)) rfl (by kernel_rfl) (by kernel_rfl) (by kernel_rfl) (fun _ _ _ h => h) (Or.inl ⟨by rfl, fun w hSw => by go_simp⟩) hHeld ?_
        simp only [Act.put, List.setIfInBounds_toArray, List.set_cons_zero, List.set_cons_succ]
        refine wpAnyH_take (i := 2) (oi := ({ dst := some 50, op := Op.binOp BinOp.add 3 (Operand.tmp 49) (Operand.const (Value.int IntKind.i64 1)) 3, type := 3, pos := "l2_tree.go:64", after := #[{ on := 1, ground := Ground.data }], guard := none } : Oper)) (v := .int .i64 ((zn : Int) + 1)) rfl (by kernel_rfl) (by kernel_rfl) (by kernel_rfl) (fun _ _ _ h => h) (Or.inl ⟨by rfl, fun w hSw => by go_simp⟩) hHeld ?_
        simp only [Act.put, List.setIfInBounds_toArray, List.set_cons_zero, List.set_cons_succ]
        refine wpAnyH_take (i := 3) (oi := ({ dst := some 51, op := Op.move (Operand.tmp 7), type := 26, pos := "l2_tree.go:64", after := #[], guard := none } : Oper)) (v := .slice (some ⟨g, 0, none⟩) (n - i) cap) rfl (by kernel_rfl) (by kernel_rfl) (by kernel_rfl) (fun _ _ _ h => h) (Or.inl ⟨by rfl, fun w hSw => by go_simp⟩) hHeld ?_
        simp only [Act.put, List.setIfInBounds_toArray, List.set_cons_zero, List.set_cons_succ]
        refine wpAnyH_take (i := 4) (oi := ({ dst := some 52, op := Op.move (Operand.tmp 8), type := 9, pos := "l2_tree.go:64", after := #[], guard := none } : Oper)) (v := .string last) rfl (by kernel_rfl) (by kernel_rfl) (by kernel_rfl) (fun _ _ _ h => h) (Or.inl ⟨by rfl, fun w hSw => by go_simp⟩) hHeld ?_
        simp only [Act.put, List.setIfInBounds_toArray, List.set_cons_zero, List.set_cons_succ]
        refine wpAnyH_ready (rs := [5]) (by kernel_rfl) (by simp) ?_
        refine AllReadyH.cons (o := ({ dst := some 53, op := Op.buildSlice 26 1 #[(0, Operand.tmp 52)], type := 26, pos := "l2_tree.go:64", after := #[{ on := 4, ground := Ground.data }], guard := none } : Oper)) rfl (fun K hK => ?_) AllReadyH.nil
        go_simp
        have hG5 := hG.drew1.call (below1 wr.drew (.cells #[.string last] 9))
        refine hK.out _ _ hG5.c0 (fun hHeld => ?_)
        clear hK K
        refine wpAnyH_ready (rs := [6]) (by kernel_rfl) (by simp) ?_
        refine AllReadyH.cons (o := ({ dst := some 54, op := Op.call { callee := Callee.builtin Builtin.append, args := #[Operand.tmp 51, Operand.tmp 53], argTypes := #[26, 26] }, type := 26, pos := "l2_tree.go:64", after := #[{ on := 3, ground := Ground.data }, { on := 5, ground := Ground.data }], guard := none } : Oper)) rfl (fun K hK => ?_) AllReadyH.nil
        rw [if_pos (by rfl)]
        refine wp_append_lies _ (.tmp 51) (.tmp 53) 26 rfl (w.heap.size + 2) 9 i0 (.string ByteArray.empty) 1 16 Tryd.underlying26 HI0.out hzz0 hzz1 hzz2 rfl (by omega) (.slice (some ⟨g, 0, none⟩) (n - i) cap) (n - i) (strs S (n - i)) rfl (own_cut hG5.own (n - i) (by omega)) ⟨wr.heap.size, 0, none⟩ 1 1 [.string last] rfl rfl (World.news_of_block (cs := #[.string last]) (heap_alloc_new wr.drew _)) (fun u hu => by simp only [List.mem_singleton] at hu; subst hu; rfl) (by omega) (by unfold maxLen; omega) (by omega) (by have := hG.below.size; have := hG.lt2; simp; omega) _ rfl ?_
        intro g2 cap2 w6 hown6 hgrow6 hat6 hlt6
        have hG6 := hG5.appended hgrow6
        refine hK.out _ _ hG6.c0 (fun hHeld => ?_)
        clear hK K
        simp only [Act.put, List.setIfInBounds_toArray, List.set_cons_zero, List.set_cons_succ]
        refine wpAnyH_take (i := 7) (oi := ({ dst := some 55, op := Op.build 31 #[(0, Operand.tmp 50), (1, Operand.tmp 54)], type := 31, pos := "l2_tree.go:64", after := #[{ on := 2, ground := Ground.data }, { on := 6, ground := Ground.data }], guard := none } : Oper)) (v := .agg #[.int .i64 ((zn : Int) + 1), .slice (some ⟨g2, 0, none⟩) (n - i + 1) cap2]) rfl (by kernel_rfl) (by kernel_rfl) (by kernel_rfl) (fun _ _ _ h => h) (Or.inl ⟨by rfl, fun w hSw => by go_simp⟩) hHeld ?_
        simp only [Act.put, List.setIfInBounds_toArray, List.set_cons_zero, List.set_cons_succ]
        refine wpAnyH_ready (rs := [8]) (by kernel_rfl) (by simp) ?_
        refine AllReadyH.cons (o := ({ dst := none, op := Op.store 31 (Operand.tmp 6) (Operand.tmp 55), type := 0, pos := "l2_tree.go:64", after := #[{ on := 7, ground := Ground.data }, { on := 6, ground := Ground.chain }, { on := 0, ground := Ground.phase }, { on := 1, ground := Ground.phase }, { on := 2, ground := Ground.phase }, { on := 3, ground := Ground.phase }, { on := 4, ground := Ground.phase }, { on := 5, ground := Ground.phase }, { on := 6, ground := Ground.phase }, { on := 7, ground := Ground.phase }], guard := none } : Oper)) rfl (fun K hK => ?_) AllReadyH.nil
        rw [if_pos (by rfl)]
        refine wp_store_mid _ _ _ rfl (w.heap.size + 1) 0 (List.toArray [.int .i64 ((zn : Int) + 1), .slice (some ⟨g2, 0, none⟩) (n - i + 1) cap2]) rfl rfl hG6.t I31.out (all_oneCell_toArray (fun u hu => by simp at hu; rcases hu with rfl | rfl <;> rfl)) ?_
        have hown8 := own_setCells hown6 (w.heap.size + 1) 0 [.int .i64 ((zn : Int) + 1), .slice (some ⟨g2, 0, none⟩) (n - i + 1) cap2] (by omega)
        refine hK.out _ _ ((World.cell?_setCells_out _ _ _ _ _ (fun e => by simp at e)).trans hG6.c0) (fun hHeld => ?_)
        clear hK K
        refine wpAnyH_done (by kernel_rfl) ?_ _
        go_wp2
        refine bodyPost_ret (v := .agg #[.int .i64 ((zn : Int) + 1), .slice (some ⟨g2, 0, none⟩) (n - i + 1) cap2]) (results_mid Tryd.results23 _ _ (w.heap.size + 1) 0 [.int .i64 ((zn : Int) + 1), .slice (some ⟨g2, 0, none⟩) (n - i + 1) cap2] _ rfl (World.rangeAt_setCells_same _ _ _ _ hG6.t) Tryd.underlying31 rfl I31.out) rfl ⟨g2, cap2, ?_, ?_, below_setCells _ _ hG6.below (by omega)⟩
        · rfl
        · rw [← strs_grown, HL.out]; exact hown8
end Go.Proofs.YtlbackkjjhpljaaDoor
