/-
  The root of a list of at most 64 entries: the program's Root.
-/
import Derived.Test.YtlbackkjjhpljaaGreatDoorIa
import Derived.Test.YtlbackkjjhpljaaGreatDoorFo
import Derived.Test.YtlbackkjjhpljaaGreatDoorRt
import Derived.Test.YtlbackkjjhpljaaGreatDoorTrc
namespace Go.Proofs.YtlbackkjjhpljaaGreatDoor
open Go.RowKit Go.ChangeMaps
set_option maxRecDepth 20000 in
set_option maxHeartbeats 2000000 in
theorem jleaf_any (k : Int) (b : Nat) (x : ByteArray) (w : World) (hK : KeysAt w) (hx : x.size ≤ 4194304) (X : List Value) (hX : cells8 (pad (leafD k x)) = X) :
    Calls Tryz.prog 79 #[.agg #[.int .i64 k, .map (some b)], .string x] w fun e w' => e = .returned (.agg X.toArray) ∧ Below w.heap.size w w' := by
  obtain ⟨z, hz⟩ : ∃ z, leafD k x = z := ⟨_, rfl⟩
  have hzs : z.size ≤ 32 := by rw [← hz]; exact dg_le _ _
  rw [hz] at hX
  have HZ : Hid (leafD k x = z) := hz
  have HX : Hid (cells8 (pad z) = X) := hX
  have ln : X.length = 32 := by rw [← hX, cells8_len]; exact pad_len _ hzs
  have on3 : ∀ v ∈ X, v.oneCell' = true := by rw [← hX]; exact cells8_one _
  obtain ⟨hzr, hi⟩ := zero_of_info Tryz.info75
  have i3 : Hid ((Tryz.prog.info? 75).map (·.size) = some X.length) := by show (Tryz.prog.info? 75).map (·.size) = some X.length; rw [ln]; exact hi
  have t0 := there_row _ _ _ _ 32 zeros32_size (heap_alloc2_new w (.cells #[.int .i64 k, .map (some b)] 71) (.cells zeros32 75))
  have bK := keys_later hK (below2 w (.cells #[.int .i64 k, .map (some b)] 71) (.cells zeros32 75))
  have HK : Hid (KeysAt ((w.alloc (.cells #[.int .i64 k, .map (some b)] 71)).alloc (.cells zeros32 75))) := bK
  clear hi hz hX hK bK
  go_enter Tryz.func79, Tryz.ntmps79
  go_wp2_with (first | (go_at_call 56; refine (implLeaf_as k x _ HK.out hx z HZ.out).mono ?_; rintro e w1 ⟨rfl, hb1⟩) | (go_at_call 100; refine (markOf_as z _ hzs X HX.out).mono ?_; rintro e w2 ⟨rfl, hb2⟩; have t2 : w2.there (w.heap.size + 1) 0 X.toArray.size := by rw [show X.toArray.size = 32 from ln]; exact there_later (there_later t0 hb1) hb2) | (refine wpList_store_mid rfl 75 (.tmp 4) (.tmp 9) rfl (w.heap.size + 1) 0 X.toArray rfl rfl t2 i3.out (all_oneCell_toArray on3) ?_))
  have b2 : Below w.heap.size w w2 := ((below2 _ _ _).trans (hb1.mono (by simp; omega))).trans (hb2.mono (by have := hb1.size; simp at this; omega))
  exact bodyPost_ret (v := .agg X.toArray) (results_mid Tryz.results79 _ _ (w.heap.size + 1) 0 X _ rfl (World.rangeAt_setCells_same _ _ _ _ t2) Tryz.underlying75 rfl i3.out) rfl ⟨rfl, below_setCells _ _ b2 (by omega)⟩
set_option maxRecDepth 20000 in
theorem Tryz.info49b : (Tryz.prog.info? 75).map (fun i => (i.zero, i.size, i.bytes)) = some (some (.agg zeros32), 32, 32) := by kernel_rfl
set_option maxRecDepth 20000 in
theorem make_marks (n : Nat) (hn : n ≤ 1048576) : ∃ A : Array Value, A.size = n * 32 ∧ ∀ W : World, (Instr.makeSlice 104 (.int .i64 (n : Int)) (.int .i64 (n : Int))).run Tryz.prog W = .ok (.slice (some ⟨W.heap.size, 0, none⟩) n n) (W.alloc (.cells A 75)) := by
  obtain ⟨i, hi, hzz⟩ := Option.map_eq_some_iff.1 Tryz.info49b
  simp only [Prod.mk.injEq] at hzz
  obtain ⟨hz, hs, hb⟩ := hzz
  refine ⟨madeCells (Value.agg zeros32).cells (n * i.size), by rw [size_madeCells, hs], fun W => ?_⟩
  have hr := run_make (P := Tryz.prog) W 104 75 i _ Tryz.underlying104 hi hz .i64 .i64 n n (by omega) (Int.le_refl _) (by rw [hb]; omega) (by omega)
  simpa only [Int.toNat_natCast] using hr
/-- What stands while the leaves are made. -/
structure Ro (k : Int) (b : Nat) (a : Option Addr) (n : Nat) (S : Nat → ByteArray) (w : World) (j : Nat) (w' : World) : Prop where
  c0 : w'.cell? ⟨w.heap.size, 0, none⟩ = some (.int .i64 k)
  c1 : w'.cell? ⟨w.heap.size, 1, none⟩ = some (.map (some b))
  t : w'.there (w.heap.size + 1) 0 32
  tl : ∀ i, i < n → w'.there (w.heap.size + 1 + 1) (i * 32) 32
  marks : Mk w' (w.heap.size + 1 + 1) 0 j (fun i => leafD k (S i))
  sl : Sl w' a n S
  keys : KeysAt w'
  dbl : DblAt w' k b 64
  below : Below w.heap.size w w'
  hs : w.heap.size + 1 + 1 < w'.heap.size
theorem Ro.call {k : Int} {b : Nat} {a : Option Addr} {n : Nat} {S : Nat → ByteArray} {w w1 w2 : World} {j : Nat} (h : Ro k b a n S w j w1) (hb : Below w1.heap.size w1 w2) : Ro k b a n S w j w2 :=
  ⟨keep hb h.c0, keep hb h.c1, there_later h.t hb, fun i hi => there_later (h.tl i hi) hb, fun i hi => range_later (h.marks i hi) hb, h.sl.later hb, keys_later h.keys hb, h.dbl.later hb, h.below.trans (hb.mono h.below.size), Nat.lt_of_lt_of_le h.hs hb.size⟩
theorem Ro.stored {k : Int} {b : Nat} {a : Option Addr} {n : Nat} {S : Nat → ByteArray} {w w1 : World} {j : Nat} (h : Ro k b a n S w j w1) (hj : j < n) (hb : b < w.heap.size) (hP : ∀ P off, a = some ⟨P, off, none⟩ → P < w.heap.size) (X : List Value) (hX : cells8 (pad (leafD k (S j))) = X) (hl : X.length = 32) : Ro k b a n S w (j + 1) (w1.setCells (w.heap.size + 1 + 1) (j * 32) X) := by
  have ht : w1.there (w.heap.size + 1 + 1) (j * 32) X.length := by rw [hl]; exact h.tl j hj
  refine ⟨(World.cell?_setCells_out _ _ _ _ _ (fun e => by simp at e; omega)).trans h.c0, (World.cell?_setCells_out _ _ _ _ _ (fun e => by simp at e; omega)).trans h.c1, World.there_setCells h.t _ _ _, fun i hi => World.there_setCells (h.tl i hi) _ _ _, ?_, ⟨h.sl.1, fun i hi => ⟨(h.sl.2 i hi).1, ?_⟩⟩, fun i hi => (World.cell?_setCells_out _ _ _ _ _ (fun e => by simp at e)).trans (h.keys i hi), ?_, below_setCells _ _ h.below (by omega), by rw [size_setCells]; exact h.hs⟩
  · intro i hi
    by_cases e : i = j
    · subst e
      rw [hX, Nat.zero_add]
      exact World.rangeAt_setCells_same _ _ _ _ ht
    · refine World.rangeAt_setCells_apart (h.marks i (by omega)) _ _ _ (Or.inr ?_)
      have hl2 : (cells8 (pad (leafD k (S i)))).length = 32 := by rw [cells8_len]; exact pad_len _ (dg_le _ _)
      rw [hl2, hl]
      omega
  · obtain ⟨b', o, e, hc⟩ := h.sl.at i hi
    have := hP b' o e
    exact ⟨b', o, e, (World.cell?_setCells_out _ _ _ _ _ (fun e => by simp at e; omega)).trans hc⟩
  · obtain ⟨es, clock, h5, h6, h7⟩ := h.dbl
    exact ⟨es, clock, (heap_setCells_other _ _ _ (by omega) _ _).trans h5, h6, h7⟩
theorem ft_rt (k : Int) (f : Nat) : ∀ (n : Nat) (S : Nat → ByteArray), 1 ≤ n → n ≤ f → n ≤ 1099511627776 → ft k f (fun i => leafD k (S i)) n = RT k S n := by
  induction f with
  | zero => intro n S h1 h2; omega
  | succ f ih =>
    intro n S h1 h2 h3
    rw [ft]
    by_cases hn : n = 1
    · subst hn
      rw [if_pos rfl, RT_one]
    · rw [if_neg hn, RT_two k S n (by omega) h3]
      have hs := spl_in n (by omega) h3
      rw [ih (spl n) S (by omega) (by omega) (by omega), ih (n - spl n) (fun j => S (spl n + j)) (by omega) (by omega) (by omega)]
theorem there_part (w : World) (g : Nat) (A : Array Value) (t : TypeId) (n i : Nat) (hA : A.size = n * 32) (hi : i < n) (h : w.heap[g]? = some (.cells A t (0, 0))) : w.there g (i * 32) 32 := fun j hj => by
  rw [cell_of_row w g (i * 32 + j) _ _ _ h, frozen_of_row w g (i * 32 + j) _ _ h]
  have : i * 32 + j < A.size := by rw [hA]; omega
  simp [this]
set_option maxRecDepth 20000 in
set_option maxHeartbeats 4000000 in
theorem root_any (k : Int) (b : Nat) (hk : k = 0 ∨ k = 1) (n : Nat) (S : Nat → ByteArray) (a : Option Addr) (c : Nat) (w : World) (X : List Value) (h1 : 1 ≤ n) (h64 : n ≤ 64) (h : Sl w a n S) (hK : KeysAt w) (hd : DblAt w k b 64) (hsz : ∀ j, j < n → (S j).size ≤ 4194304) (hX : cells8 (pad (RT k S n)) = X) :
    Calls Tryz.prog 45 #[.agg #[.int .i64 k, .map (some b)], .slice a n c] w fun e w' => e = .returned (.agg X.toArray) ∧ DblAt w' k b 64 ∧ w.grownBy w' (some b) := by
  obtain ⟨A, hA, hmk⟩ := make_marks n (by omega)
  have hb : b < w.heap.size := hd.lt
  have hP : ∀ P off, a = some ⟨P, off, none⟩ → P < w.heap.size := fun P off e => by
    obtain ⟨b', o, e', hc⟩ := h.at 0 (by omega)
    obtain ⟨rfl, rfl⟩ : P = b' ∧ off = o := by rw [e] at e'; simpa using e'
    exact World.block_lt_of_cell? w _ hc
  have HP : Hid (∀ P off, a = some ⟨P, off, none⟩ → P < w.heap.size) := hP
  have hf : ft k n (fun i => leafD k (S i)) n = RT k S n := ft_rt k n n S h1 (Nat.le_refl _) (by omega)
  have HX : Hid (cells8 (pad (ft k n (fun i => leafD k (S i)) n)) = X) := by rw [hf]; exact hX
  have ln : X.length = 32 := by rw [← hX, cells8_len]; exact pad_len _ (by rw [RT]; exact rt_size _ _ _ _)
  have on3 : ∀ v ∈ X, v.oneCell' = true := by rw [← hX]; exact cells8_one _
  obtain ⟨hzr, hi⟩ := zero_of_info Tryz.info75
  have HI : Hid ((Tryz.prog.info? 75).map (·.size) = some 32) := hi
  have i3 : Hid ((Tryz.prog.info? 75).map (·.size) = some X.toArray.size) := by show (Tryz.prog.info? 75).map (·.size) = some X.toArray.size; rw [show X.toArray.size = 32 from ln]; exact hi
  have ro0 : Hid (Ro k b a n S w 0 (((w.alloc (.cells #[.int .i64 k, .map (some b)] 71)).alloc (.cells zeros32 75)).alloc (.cells A 75))) := by
    have hb3 := below3 w (.cells #[.int .i64 k, .map (some b)] 71) (.cells zeros32 75) (.cells A 75)
    obtain ⟨u0, u1⟩ := cell_box w (.int .i64 k) (.map (some b)) 71
    exact ⟨keep (below1 _ _) (keep (below1 _ _) u0), keep (below1 _ _) (keep (below1 _ _) u1), there_later (there_row _ _ _ _ _ zeros32_size (heap_alloc2_new w _ _)) (below1 _ _), fun i hi => there_part _ _ A 75 n i hA hi (by have := heap_alloc_new ((w.alloc (.cells #[.int .i64 k, .map (some b)] 71)).alloc (.cells zeros32 75)) (.cells A 75); simpa using this), fun i hi => absurd hi (Nat.not_lt_zero _), h.later hb3, keys_later hK hb3, hd.later hb3, hb3, by simp⟩
  have m64 : ¬ (64 : Int) < n := by omega
  clear hX hf hi h hK hd hA hP
  go_enter Tryz.func45, Tryz.ntmps45
  go_wp2
  clear hmk hzr
  go_loopw [22] (fun i wr => ∃ j : Nat, j ≤ n ∧ i = .int .i64 j ∧ Ro k b a n S w j wr) (fun i _ => n - (intOf i).toNat)
  case atStart => exact ⟨0, by omega, rfl, ro0.out⟩
  case round =>
    clear ro0
    obtain ⟨j, hj, rfl, hR⟩ := hrel
    by_cases hlt : j < n
    · obtain ⟨P, off, rfl, hc⟩ := hR.sl.at j hlt
      have c0 := hR.c0
      have c1 := hR.c1
      obtain ⟨Y, hY⟩ : ∃ Y, cells8 (pad (leafD k (S j))) = Y := ⟨_, rfl⟩
      have HY : Hid (cells8 (pad (leafD k (S j))) = Y) := hY
      have lnY : Y.length = 32 := by rw [← hY, cells8_len]; exact pad_len _ (dg_le _ _)
      have onY : ∀ v ∈ Y, v.oneCell' = true := by rw [← hY]; exact cells8_one _
      have iY : Hid ((Tryz.prog.info? 75).map (·.size) = some Y.toArray.size) := by show (Tryz.prog.info? 75).map (·.size) = some Y.toArray.size; rw [show Y.toArray.size = 32 from lnY]; exact HI.out
      have hszj := hsz j hlt
      have HR : Hid (Ro k b (some ⟨P, off, none⟩) n S w j wr) := hR
      clear hY hR
      go_wp2_with (first | (go_at_call 79; refine (jleaf_any k b (S j) _ HR.out.keys hszj Y HY.out).mono ?_; rintro e w2 ⟨rfl, hb2⟩; have HR2 : Hid (Ro k b (some ⟨P, off, none⟩) n S w j w2) := HR.out.call hb2; have HT2 : Hid (w2.there (w.heap.size + 1 + 1) (j * 32) Y.toArray.size) := (by show World.there _ _ _ _; rw [show Y.toArray.size = 32 from lnY]; exact HR2.out.tl j hlt)) | (refine wpList_store_mid rfl 75 (.tmp 32) (.tmp 31) rfl (w.heap.size + 1 + 1) (j * 32) Y.toArray rfl rfl HT2.out iY.out (all_oneCell_toArray onY) ?_))
      go_roundw
      case rel => exact ⟨j + 1, by omega, by go_num, HR2.out.stored hlt hb HP.out Y HY.out lnY⟩
      case measure => simp [intOf]; omega
    · obtain rfl : j = n := by omega
      have c0 := hR.c0
      have c1 := hR.c1
      have HR : Hid (Ro k b a j S w j wr) := hR
      clear hR
      go_wp2_with (first | (go_at_call 77; refine (fold_any k b hk j j (fun i => leafD k (S i)) _ (w.heap.size + 1 + 1) 0 j _ X h1 (Nat.le_refl _) (Nat.le_refl _) rfl HR.out.marks HR.out.keys HR.out.dbl (by omega) HR.out.hs (by omega) (fun i _ => dg_size k _ hk) HX.out).mono ?_; rintro e w2 ⟨rfl, hd2, hg2⟩; have HT2 : Hid (w2.there (w.heap.size + 1) 0 X.toArray.size) := (by show World.there _ _ _ _; rw [show X.toArray.size = 32 from ln]; exact there_grown HR.out.t hg2 (by omega))) | (refine wpList_store_mid rfl 75 (.tmp 4) (.tmp 36) rfl (w.heap.size + 1) 0 X.toArray rfl rfl HT2.out i3.out (all_oneCell_toArray on3) ?_))
      refine bodyPost_ret (v := .agg X.toArray) (results_mid Tryz.results45 _ _ (w.heap.size + 1) 0 X _ rfl (World.rangeAt_setCells_same _ _ _ _ HT2.out) Tryz.underlying75 rfl i3.out) rfl ⟨rfl, ?_, ?_⟩
      · obtain ⟨es, clock, h5, h6, h7⟩ := hd2
        exact ⟨es, clock, (heap_setCells_other _ _ _ (by omega) _ _).trans h5, h6, h7⟩
      · exact grownB (grown_grown (grownB (grown_refl w b) HR.out.below) hg2) (below_setCells _ _ (Below.refl _ _) (by omega))
end Go.Proofs.YtlbackkjjhpljaaGreatDoor
namespace Go.Proofs.YtlbackkjjhpljaaGreatDoor
open Go.RowKit Go.ChangeMaps
theorem dg_bad (k : Int) (x : ByteArray) (h : ¬ (k = 0 ∨ k = 1)) : dg k x = ⟨#[]⟩ := by
  have h0 : ¬ k = 0 := fun e => h (Or.inl e)
  have h1 : ¬ k = 1 := fun e => h (Or.inr e)
  simp [dg, dig, h0, h1]
theorem RT_bad (k : Int) (S : Nat → ByteArray) (n : Nat) (h : ¬ (k = 0 ∨ k = 1)) : RT k S n = ⟨#[]⟩ := by
  unfold RT
  cases n with
  | zero => exact dg_bad k _ h
  | succ n =>
    rw [rt]
    split
    · exact dg_bad k _ h
    · split
      · exact dg_bad k _ h
      · exact dg_bad k _ h
set_option maxRecDepth 20000 in
set_option maxHeartbeats 4000000 in
theorem implRoot_any (k : Int) (n : Nat) (S : Nat → ByteArray) (a : Option Addr) (c : Nat) (w : World) (y : ByteArray) (h64 : n ≤ 64) (h : Sl w a n S) (hK : KeysAt w) (hsz : ∀ j, j < n → (S j).size ≤ 4194304) (hy : RT k S n = y) :
    Calls Tryz.prog 19 #[.int .i64 k, .slice a n c] w fun e w' => e = .returned (.string y) ∧ Below w.heap.size w w' := by
  obtain ⟨t, ht⟩ : ∃ t, (⟨#[]⟩ : ByteArray) = t := ⟨_, rfl⟩
  have hts : t.size ≤ 8388608 := by rw [← ht]; exact Nat.zero_le _
  have HK : Hid (KeysAt w) := hK
  clear hK
  by_cases hn : n = 0
  · subst hn
    have HD : Hid (dg k t = y) := by show dg k t = y; rw [← ht]; exact hy
    clear hy
    go_enter Tryz.func19, Tryz.ntmps19
    go_wp2_with (go_at_call 42; (try rw [ht]); refine (implDg_any k t _ HK.out hts y HD.out).mono ?_; rintro e w1 ⟨rfl, hb1⟩)
    go_ret
    exact ⟨rfl, hb1⟩
  · by_cases hk : k = 0 ∨ k = 1
    · have hyw : y.size = wid k := by rw [← hy, RT]; exact rt_wid k n S n hk
      obtain ⟨X, hX⟩ : ∃ X, cells8 (pad y) = X := ⟨_, rfl⟩
      have HX' : Hid (cells8 (pad y) = X) := hX
      have HX : Hid (cells8 (pad (RT k S n)) = X) := by show cells8 (pad (RT k S n)) = X; rw [hy]; exact hX
      have mn : ¬ (n : Int) = 0 := by omega
      have hwn : ¬ ((wid k : Nat) : Int) = 0 := by unfold wid; split <;> omega
      clear hX hy ht
      go_enter Tryz.func19, Tryz.ntmps19
      go_wp2_with (first | (go_at_call 41; refine (widthOf_yes k _ hk).mono ?_; rintro e w0 ⟨rfl, rfl⟩) | (go_at_call 43; refine (makeJoiner_any k _).mono ?_; rintro e w1 ⟨b, hbb, rfl, hd1, hb1⟩))
      · exfalso
        simp_all
      obtain ⟨u0', u1'⟩ := cell_box w1 (.int .i64 k) (.map (some b)) 71
      have u0 : (w1.alloc (.cells #[.int .i64 k, .map (some b)] 71)).drew.cell? ⟨w1.heap.size, 0, none⟩ = some (.int .i64 k) := u0'
      have u1 : (w1.alloc (.cells #[.int .i64 k, .map (some b)] 71)).drew.cell? ⟨w1.heap.size, 1, none⟩ = some (.map (some b)) := u1'
      have bw : Below w0.heap.size w0 (w1.alloc (.cells #[.int .i64 k, .map (some b)] 71)).drew := (hb1.trans ((below1 w1 _).mono hb1.size)).drew
      have hS2 := h.later bw
      have hK2 := keys_later HK.out bw
      have hbl := hd1.lt
      have hd2 : DblAt (w1.alloc (.cells #[.int .i64 k, .map (some b)] 71)).drew k b 64 := (hd1.mono (by omega)).later (below1 w1 (.cells #[.int .i64 k, .map (some b)] 71)).drew
      refine wp_region_held_drew (S := fun w' => w'.cell? ⟨w1.heap.size, 0, none⟩ = some (.int .i64 k) ∧ w'.cell? ⟨w1.heap.size, 1, none⟩ = some (.map (some b))) (by kernel_rfl) ⟨u0, u1⟩ (fun hHeld => ?_)
      refine wpAnyH_take (i := 0) (oi := ({ dst := some 18, op := Op.load 71 (Operand.tmp 5), type := 71, pos := "l2_tree.go:47", after := #[], guard := none } : Oper)) (v := .agg #[.int .i64 k, .map (some b)]) rfl (by kernel_rfl) (by kernel_rfl) (by kernel_rfl) (fun _ _ _ h => h) (Or.inl ⟨by rfl, fun w hSw => by obtain ⟨c0, c1⟩ := hSw; go_simp⟩) hHeld ?_
      simp only [Act.put, List.setIfInBounds_toArray, List.set_cons_zero, List.set_cons_succ]
      refine wpAnyH_take (i := 1) (oi := ({ dst := some 19, op := Op.load 71 (Operand.tmp 5), type := 71, pos := "l2_tree.go:47", after := #[], guard := none } : Oper)) (v := .agg #[.int .i64 k, .map (some b)]) rfl (by kernel_rfl) (by kernel_rfl) (by kernel_rfl) (fun _ _ _ h => h) (Or.inl ⟨by rfl, fun w hSw => by obtain ⟨c0, c1⟩ := hSw; go_simp⟩) hHeld ?_
      simp only [Act.put, List.setIfInBounds_toArray, List.set_cons_zero, List.set_cons_succ]
      refine wpAnyH_take (i := 2) (oi := ({ dst := some 20, op := Op.move (Operand.tmp 1), type := 22, pos := "l2_tree.go:47", after := #[], guard := none } : Oper)) (v := .slice a n c) rfl (by kernel_rfl) (by kernel_rfl) (by kernel_rfl) (fun _ _ _ h => h) (Or.inl ⟨by rfl, fun w hSw => by go_simp⟩) hHeld ?_
      simp only [Act.put, List.setIfInBounds_toArray, List.set_cons_zero, List.set_cons_succ]
      refine wpAnyH_ready (rs := [3]) (by kernel_rfl) (by simp) ?_
      refine AllReadyH.cons (o := ({ dst := some 21, op := Op.call { callee := Callee.value (Operand.func 45), args := #[Operand.tmp 19, Operand.tmp 20], argTypes := #[71, 22] }, type := 75, pos := "l2_tree.go:47", after := #[{ on := 1, ground := Ground.data }, { on := 2, ground := Ground.data }], guard := none } : Oper)) rfl (fun K hK => ?_) AllReadyH.nil
      go_simp
      refine (root_any k b hk n S a c _ X (by omega) h64 hS2 hK2 hd2 hsz HX.out).mono ?_
      rintro e w3 ⟨rfl, hd3, hg3⟩
      refine hK.out _ _ ⟨hg3.cell u0 (by simp; omega), hg3.cell u1 (by simp; omega)⟩ (fun hHeld => ?_)
      clear hK K
      refine wpAnyH_ready (rs := [4]) (by kernel_rfl) (by simp) ?_
      refine AllReadyH.cons (o := ({ dst := some 22, op := Op.call { callee := Callee.value (Operand.func 44), args := #[Operand.tmp 18, Operand.tmp 21], argTypes := #[71, 75] }, type := 9, pos := "l2_tree.go:47", after := #[{ on := 0, ground := Ground.data }, { on := 3, ground := Ground.data }, { on := 3, ground := Ground.chain }], guard := none } : Oper)) rfl (fun K hK => ?_) AllReadyH.nil
      go_simp
      refine (text_as k b y _ hk hyw X HX'.out).mono ?_
      rintro e w4 ⟨rfl, hb4⟩
      refine hK.out _ _ ⟨keep hb4 (hg3.cell u0 (by simp; omega)), keep hb4 (hg3.cell u1 (by simp; omega))⟩ (fun hHeld => ?_)
      clear hK K
      refine wpAnyH_ready (rs := [5]) (by kernel_rfl) (by simp) ?_
      refine AllReadyH.cons (o := ({ dst := some 4, op := Op.assign (Operand.tmp 22), type := 9, pos := "l2_tree.go:47", after := #[{ on := 4, ground := Ground.data }, { on := 4, ground := Ground.chain }, { on := 0, ground := Ground.phase }, { on := 1, ground := Ground.phase }, { on := 2, ground := Ground.phase }, { on := 3, ground := Ground.phase }, { on := 4, ground := Ground.phase }], guard := none } : Oper)) rfl (fun K hK => ?_) AllReadyH.nil
      go_simp
      refine hK.out _ _ ⟨keep hb4 (hg3.cell u0 (by simp; omega)), keep hb4 (hg3.cell u1 (by simp; omega))⟩ (fun _ => ?_)
      clear hK K
      refine wpAnyH_done (by kernel_rfl) ?_ _
      go_wp2_with fail
      go_ret
      have bw3 : Below w0.heap.size w0 w3 := bw.grown hg3 bw.size (fun j hj => by simp at hj; omega)
      exact ⟨rfl, bw3.trans (hb4.mono bw3.size)⟩
    · have HD : Hid (dg k t = y) := by show dg k t = y; rw [dg_bad k t hk, ← hy, RT_bad k S n hk]
      have mn : ¬ (n : Int) = 0 := by omega
      clear hy
      go_enter Tryz.func19, Tryz.ntmps19
      go_wp2_with (first | (go_at_call 41; refine (widthOf_no k _ hk).mono ?_; rintro e w0 ⟨rfl, rfl⟩) | (go_at_call 42; (try rw [ht]); refine (implDg_any k t _ HK.out hts y HD.out).mono ?_; rintro e w1 ⟨rfl, hb1⟩))
      go_ret
      exact ⟨rfl, hb1⟩
end Go.Proofs.YtlbackkjjhpljaaGreatDoor
