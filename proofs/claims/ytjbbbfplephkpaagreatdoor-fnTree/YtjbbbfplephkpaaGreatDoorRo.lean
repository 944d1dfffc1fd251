/-
  The root of a list of at most 64 entries: the program's way.
-/
import Derived.Test.YtjbbbfplephkpaaGreatDoorIa
import Derived.Test.YtjbbbfplephkpaaGreatDoorGd
import Derived.Test.YtjbbbfplephkpaaGreatDoorFo
import Derived.Test.YtjbbbfplephkpaaGreatDoorRt
import Derived.Test.YtjbbbfplephkpaaGreatDoorTrc
namespace Go.Proofs.YtjbbbfplephkpaaGreatDoor
open Go.RowKit Go.ChangeMaps
set_option maxRecDepth 20000 in
theorem Tryz.info49b : (Tryz.prog.info? 45).map (fun i => (i.zero, i.size, i.bytes)) = some (some (.agg zeros32), 32, 32) := by kernel_rfl
set_option maxRecDepth 20000 in
theorem make_marks (n : Nat) (hn : n ≤ 1048576) : ∃ A : Array Value, A.size = n * 32 ∧ ∀ W : World, (Instr.makeSlice 70 (.int .i64 (n : Int)) (.int .i64 (n : Int))).run Tryz.prog W = .ok (.slice (some ⟨W.heap.size, 0, none⟩) n n) (W.alloc (.cells A 45)) := by
  obtain ⟨i, hi, hzz⟩ := Option.map_eq_some_iff.1 Tryz.info49b
  simp only [Prod.mk.injEq] at hzz
  obtain ⟨hz, hs, hb⟩ := hzz
  refine ⟨madeCells (Value.agg zeros32).cells (n * i.size), by rw [size_madeCells, hs], fun W => ?_⟩
  have hr := run_make (P := Tryz.prog) W 70 45 i _ Tryz.underlying70 hi hz .i64 .i64 n n (by omega) (Int.le_refl _) (by rw [hb]; omega) (by omega)
  simpa only [Int.toNat_natCast] using hr
/-- What stands while the leaves are made. -/
structure Ro (k : Int) (b : Nat) (a : Option Addr) (n : Nat) (S : Nat → ByteArray) (w : World) (j : Nat) (w' : World) : Prop where
  c0 : w'.cell? ⟨w.heap.size, 0, none⟩ = some (.int .i64 k)
  c1 : w'.cell? ⟨w.heap.size, 1, none⟩ = some (.map (some b))
  t : w'.there (w.heap.size + 1) 0 32
  tl : ∀ i, i < n → w'.there (w.heap.size + 1 + 1) (i * 32) 32
  marks : Mk w' (w.heap.size + 1 + 1) 0 j (fun i => leafD k (S i))
  sl : Sl w' a n S
  keys : KeysAt w'
  dbl : DblAt w' k b 64
  below : Below w.heap.size w w'
  hs : w.heap.size + 1 + 1 < w'.heap.size
theorem Ro.call {k : Int} {b : Nat} {a : Option Addr} {n : Nat} {S : Nat → ByteArray} {w w1 w2 : World} {j : Nat} (h : Ro k b a n S w j w1) (hb : Below w1.heap.size w1 w2) : Ro k b a n S w j w2 :=
  ⟨keep hb h.c0, keep hb h.c1, there_later h.t hb, fun i hi => there_later (h.tl i hi) hb, fun i hi => range_later (h.marks i hi) hb, h.sl.later hb, keys_later h.keys hb, h.dbl.later hb, h.below.trans (hb.mono h.below.size), Nat.lt_of_lt_of_le h.hs hb.size⟩
theorem Ro.stored {k : Int} {b : Nat} {a : Option Addr} {n : Nat} {S : Nat → ByteArray} {w w1 : World} {j : Nat} (h : Ro k b a n S w j w1) (hj : j < n) (hb : b < w.heap.size) (hP : ∀ P off, a = some ⟨P, off, none⟩ → P < w.heap.size) (X : List Value) (hX : cells8 (pad (leafD k (S j))) = X) (hl : X.length = 32) : Ro k b a n S w (j + 1) (w1.setCells (w.heap.size + 1 + 1) (j * 32) X) := by
  have ht : w1.there (w.heap.size + 1 + 1) (j * 32) X.length := by rw [hl]; exact h.tl j hj
  refine ⟨(World.cell?_setCells_out _ _ _ _ _ (fun e => by simp at e; omega)).trans h.c0, (World.cell?_setCells_out _ _ _ _ _ (fun e => by simp at e; omega)).trans h.c1, World.there_setCells h.t _ _ _, fun i hi => World.there_setCells (h.tl i hi) _ _ _, ?_, ⟨h.sl.1, fun i hi => ⟨(h.sl.2 i hi).1, ?_⟩⟩, fun i hi => (World.cell?_setCells_out _ _ _ _ _ (fun e => by simp at e)).trans (h.keys i hi), ?_, below_setCells _ _ h.below (by omega), by rw [size_setCells]; exact h.hs⟩
  · intro i hi
    by_cases e : i = j
    · subst e
      rw [hX, Nat.zero_add]
      exact World.rangeAt_setCells_same _ _ _ _ ht
    · refine World.rangeAt_setCells_apart (h.marks i (by omega)) _ _ _ (Or.inr ?_)
      have hl2 : (cells8 (pad (leafD k (S i)))).length = 32 := by rw [cells8_len]; exact pad_len _ (dg_le _ _)
      rw [hl2, hl]
      omega
  · obtain ⟨b', o, e, hc⟩ := h.sl.at i hi
    have := hP b' o e
    exact ⟨b', o, e, (World.cell?_setCells_out _ _ _ _ _ (fun e => by simp at e; omega)).trans hc⟩
  · obtain ⟨es, clock, h5, h6, h7⟩ := h.dbl
    exact ⟨es, clock, (heap_setCells_other _ _ _ (by omega) _ _).trans h5, h6, h7⟩
theorem ft_rt (k : Int) (f : Nat) : ∀ (n : Nat) (S : Nat → ByteArray), 1 ≤ n → n ≤ f → n ≤ 1099511627776 → ft k f (fun i => leafD k (S i)) n = RT k S n := by
  induction f with
  | zero => intro n S h1 h2; omega
  | succ f ih =>
    intro n S h1 h2 h3
    rw [ft]
    by_cases hn : n = 1
    · subst hn
      rw [if_pos rfl, RT_one]
    · rw [if_neg hn, RT_two k S n (by omega) h3]
      have hs := spl_in n (by omega) h3
      rw [ih (spl n) S (by omega) (by omega) (by omega), ih (n - spl n) (fun j => S (spl n + j)) (by omega) (by omega) (by omega)]
theorem there_part (w : World) (g : Nat) (A : Array Value) (t : TypeId) (n i : Nat) (hA : A.size = n * 32) (hi : i < n) (h : w.heap[g]? = some (.cells A t (0, 0))) : w.there g (i * 32) 32 := fun j hj => by
  rw [cell_of_row w g (i * 32 + j) _ _ _ h, frozen_of_row w g (i * 32 + j) _ _ h]
  have : i * 32 + j < A.size := by rw [hA]; omega
  simp [this]
set_option maxRecDepth 20000 in
set_option maxHeartbeats 4000000 in
theorem root_any (k : Int) (b : Nat) (hk : k = 0 ∨ k = 1) (n : Nat) (S : Nat → ByteArray) (a : Option Addr) (c : Nat) (w : World) (X : List Value) (h1 : 1 ≤ n) (h64 : n ≤ 64) (h : Sl w a n S) (hK : KeysAt w) (hd : DblAt w k b 64) (hsz : ∀ j, j < n → (S j).size ≤ 4194304) (hX : cells8 (pad (RT k S n)) = X) :
    Calls Tryz.prog 28 #[.agg #[.int .i64 k, .map (some b)], .slice a n c] w fun e w' => e = .returned (.agg X.toArray) ∧ DblAt w' k b 64 ∧ w.grownBy w' (some b) := by
  obtain ⟨A, hA, hmk⟩ := make_marks n (by omega)
  have hb : b < w.heap.size := hd.lt
  have hP : ∀ P off, a = some ⟨P, off, none⟩ → P < w.heap.size := fun P off e => by
    obtain ⟨b', o, e', hc⟩ := h.at 0 (by omega)
    obtain ⟨rfl, rfl⟩ : P = b' ∧ off = o := by rw [e] at e'; simpa using e'
    exact World.block_lt_of_cell? w _ hc
  have HP : Hid (∀ P off, a = some ⟨P, off, none⟩ → P < w.heap.size) := hP
  have hf : ft k n (fun i => leafD k (S i)) n = RT k S n := ft_rt k n n S h1 (Nat.le_refl _) (by omega)
  have HX : Hid (cells8 (pad (ft k n (fun i => leafD k (S i)) n)) = X) := by rw [hf]; exact hX
  have ln : X.length = 32 := by rw [← hX, cells8_len]; exact pad_len _ (by rw [RT]; exact rt_size _ _ _ _)
  have on3 : ∀ v ∈ X, v.oneCell' = true := by rw [← hX]; exact cells8_one _
  obtain ⟨hzr, hi⟩ := zero_of_info Tryz.info45
  have HI : Hid ((Tryz.prog.info? 45).map (·.size) = some 32) := hi
  have i3 : Hid ((Tryz.prog.info? 45).map (·.size) = some X.toArray.size) := by show (Tryz.prog.info? 45).map (·.size) = some X.toArray.size; rw [show X.toArray.size = 32 from ln]; exact hi
  have ro0 : Hid (Ro k b a n S w 0 (((w.alloc (.cells #[.int .i64 k, .map (some b)] 42)).alloc (.cells zeros32 45)).alloc (.cells A 45))) := by
    have hb3 := below3 w (.cells #[.int .i64 k, .map (some b)] 42) (.cells zeros32 45) (.cells A 45)
    obtain ⟨u0, u1⟩ := cell_box w (.int .i64 k) (.map (some b)) 42
    exact ⟨keep (below1 _ _) (keep (below1 _ _) u0), keep (below1 _ _) (keep (below1 _ _) u1), there_later (there_row _ _ _ _ _ zeros32_size (heap_alloc2_new w _ _)) (below1 _ _), fun i hi => there_part _ _ A 45 n i hA hi (by have := heap_alloc_new ((w.alloc (.cells #[.int .i64 k, .map (some b)] 42)).alloc (.cells zeros32 45)) (.cells A 45); simpa using this), fun i hi => absurd hi (Nat.not_lt_zero _), h.later hb3, keys_later hK hb3, hd.later hb3, hb3, by simp⟩
  have m64 : ¬ (64 : Int) < n := by omega
  clear hX hf hi h hK hd hA hP
  go_enter Tryz.func28, Tryz.ntmps28
  go_wp2
  clear hmk hzr
  go_loopw [22] (fun i wr => ∃ j : Nat, j ≤ n ∧ i = .int .i64 j ∧ Ro k b a n S w j wr) (fun i _ => n - (intOf i).toNat)
  case atStart => exact ⟨0, by omega, rfl, ro0.out⟩
  case round =>
    clear ro0
    obtain ⟨j, hj, rfl, hR⟩ := hrel
    by_cases hlt : j < n
    · obtain ⟨P, off, rfl, hc⟩ := hR.sl.at j hlt
      have c0 := hR.c0
      have c1 := hR.c1
      obtain ⟨Y, hY⟩ : ∃ Y, cells8 (pad (leafD k (S j))) = Y := ⟨_, rfl⟩
      have HY : Hid (cells8 (pad (leafD k (S j))) = Y) := hY
      have lnY : Y.length = 32 := by rw [← hY, cells8_len]; exact pad_len _ (dg_le _ _)
      have onY : ∀ v ∈ Y, v.oneCell' = true := by rw [← hY]; exact cells8_one _
      have iY : Hid ((Tryz.prog.info? 45).map (·.size) = some Y.toArray.size) := by show (Tryz.prog.info? 45).map (·.size) = some Y.toArray.size; rw [show Y.toArray.size = 32 from lnY]; exact HI.out
      have hszj := hsz j hlt
      have HR : Hid (Ro k b (some ⟨P, off, none⟩) n S w j wr) := hR
      clear hY hR
      go_wp2_with (first | (go_at_call 26; refine (jleaf_any k b (S j) _ HR.out.keys hszj Y HY.out).mono ?_; rintro e w2 ⟨rfl, hb2⟩; have HR2 : Hid (Ro k b (some ⟨P, off, none⟩) n S w j w2) := HR.out.call hb2; have HT2 : Hid (w2.there (w.heap.size + 1 + 1) (j * 32) Y.toArray.size) := (by show World.there _ _ _ _; rw [show Y.toArray.size = 32 from lnY]; exact HR2.out.tl j hlt)) | (refine wpList_store_mid rfl 45 (.tmp 32) (.tmp 31) rfl (w.heap.size + 1 + 1) (j * 32) Y.toArray rfl rfl HT2.out iY.out (all_oneCell_toArray onY) ?_))
      go_roundw
      case rel => exact ⟨j + 1, by omega, by go_num, HR2.out.stored hlt hb HP.out Y HY.out lnY⟩
      case measure => simp [intOf]; omega
    · obtain rfl : j = n := by omega
      have c0 := hR.c0
      have c1 := hR.c1
      have HR : Hid (Ro k b a j S w j wr) := hR
      clear hR
      go_wp2_with (first | (go_at_call 39; refine (fold_any k b hk j j (fun i => leafD k (S i)) _ (w.heap.size + 1 + 1) 0 j _ X h1 (Nat.le_refl _) (Nat.le_refl _) rfl HR.out.marks HR.out.keys HR.out.dbl (by omega) HR.out.hs (by omega) (fun i _ => dg_size k _ hk) HX.out).mono ?_; rintro e w2 ⟨rfl, hd2, hg2⟩; have HT2 : Hid (w2.there (w.heap.size + 1) 0 X.toArray.size) := (by show World.there _ _ _ _; rw [show X.toArray.size = 32 from ln]; exact there_grown HR.out.t hg2 (by omega))) | (refine wpList_store_mid rfl 45 (.tmp 4) (.tmp 36) rfl (w.heap.size + 1) 0 X.toArray rfl rfl HT2.out i3.out (all_oneCell_toArray on3) ?_))
      refine bodyPost_ret (v := .agg X.toArray) (results_mid Tryz.results28 _ _ (w.heap.size + 1) 0 X _ rfl (World.rangeAt_setCells_same _ _ _ _ HT2.out) Tryz.underlying45 rfl i3.out) rfl ⟨rfl, ?_, ?_⟩
      · obtain ⟨es, clock, h5, h6, h7⟩ := hd2
        exact ⟨es, clock, (heap_setCells_other _ _ _ (by omega) _ _).trans h5, h6, h7⟩
      · exact grownB (grown_grown (grownB (grown_refl w b) HR.out.below) hg2) (below_setCells _ _ (Below.refl _ _) (by omega))
end Go.Proofs.YtjbbbfplephkpaaGreatDoor
