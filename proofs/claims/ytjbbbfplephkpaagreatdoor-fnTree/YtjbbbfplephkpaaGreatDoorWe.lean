/-
  The program's state over many blocks.
-/
import Derived.Test.YtjbbbfplephkpaaGreatDoorWd
import Derived.RegionCalls
namespace Go.Proofs.YtjbbbfplephkpaaGreatDoor
open Go.RowKit
theorem ba_ext (x : ByteArray) (l : List UInt8) (h : x.data.toList = l) : x = ⟨l.toArray⟩ := by
  subst h; cases x; simp
def comps (s : St) (l : List UInt8) : Nat → St
  | 0 => s
  | n + 1 => comp (comps s l n) ⟨((l.drop (64 * n)).take 64).toArray⟩
theorem comps_ok (s : St) (l : List UInt8) (n : Nat) (h : s.ok) : (comps s l n).ok := by
  cases n with
  | zero => exact h
  | succ n => exact comp_ok _ _
theorem bcell {W w1 : World} (hb : Below W.heap.size W w1) : (∀ b o, b < W.heap.size → w1.cell? ⟨b, o, none⟩ = W.cell? ⟨b, o, none⟩) ∧ (∀ b o, b < W.heap.size → w1.frozen? ⟨b, o, none⟩ = W.frozen? ⟨b, o, none⟩) :=
  ⟨fun b o h => hb.cell (p := ⟨b, o, none⟩) h, fun b o h => hb.frozen (p := ⟨b, o, none⟩) h⟩
theorem undrew {B : Nat} {w w' : World} (h : Below B w.drew w') : Below B w w' := ⟨h.os, h.tape, h.output, h.size, h.block⟩
set_option maxRecDepth 20000 in
theorem block_lit (s : St) (blk : ByteArray) (w : World) (hs : s.ok) (hk : KeysAt w) :
    Calls Tryz.prog 72 #[.agg #[.int .u32 (s.a : Nat), .int .u32 (s.b : Nat), .int .u32 (s.c : Nat), .int .u32 (s.d : Nat), .int .u32 (s.e : Nat), .int .u32 (s.f : Nat), .int .u32 (s.g : Nat), .int .u32 (s.h : Nat)], .agg (wArr blk 64)] w fun e w' => ∃ r : St, comp s blk = r ∧ e = .returned (.agg #[.int .u32 (r.a : Nat), .int .u32 (r.b : Nat), .int .u32 (r.c : Nat), .int .u32 (r.d : Nat), .int .u32 (r.e : Nat), .int .u32 (r.f : Nat), .int .u32 (r.g : Nat), .int .u32 (r.h : Nat)]) ∧ Below w.heap.size w w' := by
  have h := block_any s blk w hs hk
  unfold St.vals at h
  exact h.mono fun e w' ⟨h1, h2⟩ => ⟨_, rfl, h1, h2⟩
def set8 (w : World) (g : Nat) (r : St) : World := (((((((w.setCell ⟨g, 0, none⟩ (.int .u32 (r.a : Nat))).setCell ⟨g, 1, none⟩ (.int .u32 (r.b : Nat))).setCell ⟨g, 2, none⟩ (.int .u32 (r.c : Nat))).setCell ⟨g, 3, none⟩ (.int .u32 (r.d : Nat))).setCell ⟨g, 4, none⟩ (.int .u32 (r.e : Nat))).setCell ⟨g, 5, none⟩ (.int .u32 (r.f : Nat))).setCell ⟨g, 6, none⟩ (.int .u32 (r.g : Nat))).setCell ⟨g, 7, none⟩ (.int .u32 (r.h : Nat))
theorem set8_same (w : World) (g : Nat) (s r : St) (h : w.heap[g]? = some (.cells s.vals 91 (0, 0))) : (set8 w g r).heap[g]? = some (.cells r.vals 91 (0, 0)) := by
  have h0 := heap_setCell_same w g 0 _ 91 (.int .u32 (r.a : Nat)) h
  have h1 := heap_setCell_same _ g 1 _ 91 (.int .u32 (r.b : Nat)) h0
  have h2 := heap_setCell_same _ g 2 _ 91 (.int .u32 (r.c : Nat)) h1
  have h3 := heap_setCell_same _ g 3 _ 91 (.int .u32 (r.d : Nat)) h2
  have h4 := heap_setCell_same _ g 4 _ 91 (.int .u32 (r.e : Nat)) h3
  have h5 := heap_setCell_same _ g 5 _ 91 (.int .u32 (r.f : Nat)) h4
  have h6 := heap_setCell_same _ g 6 _ 91 (.int .u32 (r.g : Nat)) h5
  have h7 := heap_setCell_same _ g 7 _ 91 (.int .u32 (r.h : Nat)) h6
  have e : (((((((s.vals.setIfInBounds 0 (.int .u32 (r.a : Nat))).setIfInBounds 1 (.int .u32 (r.b : Nat))).setIfInBounds 2 (.int .u32 (r.c : Nat))).setIfInBounds 3 (.int .u32 (r.d : Nat))).setIfInBounds 4 (.int .u32 (r.e : Nat))).setIfInBounds 5 (.int .u32 (r.f : Nat))).setIfInBounds 6 (.int .u32 (r.g : Nat))).setIfInBounds 7 (.int .u32 (r.h : Nat)) = r.vals := by
    unfold St.vals
    simp
  rw [e] at h7
  exact h7
theorem set8_other (w : World) (g k : Nat) (r : St) (h : k ≠ g) : (set8 w g r).heap[k]? = w.heap[k]? := by
  unfold set8
  rw [heap_setCell_other _ _ _ _ h, heap_setCell_other _ _ _ _ h, heap_setCell_other _ _ _ _ h, heap_setCell_other _ _ _ _ h, heap_setCell_other _ _ _ _ h, heap_setCell_other _ _ _ _ h, heap_setCell_other _ _ _ _ h, heap_setCell_other _ _ _ _ h]
theorem set8_below {B : Nat} {a w : World} (hb : Below B a w) (g : Nat) (r : St) (h : B ≤ g) : Below B a (set8 w g r) :=
  (((((((hb.setCell h _).setCell h _).setCell h _).setCell h _).setCell h _).setCell h _).setCell h _).setCell h _
set_option maxHeartbeats 2000000 in
set_option maxRecDepth 20000 in
theorem blocks_any (s : St) (x : ByteArray) (w : World) (hs : s.ok) (hk : KeysAt w) (hx : x.size ≤ 16777216) :
    Calls Tryz.prog 53 #[.agg s.vals, .string x] w fun e w' => e = .returned (.agg (comps s x.data.toList (x.size / 64)).vals) ∧ Below w.heap.size w w' := by
  obtain ⟨hz, hi⟩ := zero_of_info Tryz.info91
  have HI : Hid ((Tryz.prog.info? 91).map (·.size) = some 8) := hi
  clear hi
  have HK : Hid (KeysAt w) := hk
  clear hk
  obtain ⟨b0, b1, b2⟩ := heap_three w (.cells s.vals 91) (.cells zeros8 91) (.cells zeros8 91)
  have B0 : Hid (((w.alloc (.cells s.vals 91)).alloc (.cells zeros8 91)).heap[w.heap.size]? = some (.cells s.vals 91 (0, 0))) := heap_alloc2_old _ _ _
  have B2 : Hid ((((w.alloc (.cells s.vals 91)).alloc (.cells zeros8 91)).alloc (.cells zeros8 91)).heap[w.heap.size + 1 + 1]? = some (.cells zeros8 91 (0, 0))) := b2
  have B1 : Hid ((((w.alloc (.cells s.vals 91)).alloc (.cells zeros8 91)).alloc (.cells zeros8 91)).heap[w.heap.size + 1]? = some (.cells zeros8 91 (0, 0))) := b1
  clear b0 b1 b2
  go_enter Tryz.func53, Tryz.ntmps53
  go_wp2_with (first | (refine wpList_load_row rfl 91 (.tmp 2) rfl _ rfl 91 _ _ (.array 8 87) B0.out Tryz.underlying91 rfl (by rw [vals_size]; exact HI.out) ?_) | (refine wpList_store_row rfl 91 (.tmp 5) (.tmp 6) rfl _ _ rfl rfl 91 _ B2.out (by rw [vals_size]; exact HI.out) (by rw [vals_size, zeros8_size]) (vals_one _) ?_))
  simp only [Act.put]
  obtain ⟨W, hW⟩ : ∃ W, W = ((((w.alloc (.cells s.vals 91)).alloc (.cells zeros8 91)).alloc (.cells zeros8 91)).setRow (w.heap.size + 1 + 1) s.vals) := ⟨_, rfl⟩
  rw [← hW]
  have D2 : W.heap[w.heap.size + 1 + 1]? = some (.cells s.vals 91 (0, 0)) := by rw [hW]; exact setRow_heap _ _ _ _ _ _ B2.out
  have D1 : W.heap[w.heap.size + 1]? = some (.cells zeros8 91 (0, 0)) := by rw [hW, setRow_other _ _ _ _ (by omega)]; exact B1.out
  have hb : Below w.heap.size w W := by rw [hW]; exact below_setRow ((((Below.refl _ _).alloc (Nat.le_refl _) _).alloc (by simp) _).alloc (by simp; omega) _) (by omega) _
  clear hW B0 B1 B2 hz
  go_loopw [1] (fun y wr => ∃ (n : Nat) (z : ByteArray), n ≤ x.size / 64 ∧ y = .string z ∧ z.data.toList = x.data.toList.drop (64 * n) ∧ wr.heap[w.heap.size + 1]? = some (.cells zeros8 91 (0, 0)) ∧ wr.heap[w.heap.size + 1 + 1]? = some (.cells (comps s x.data.toList n).vals 91 (0, 0)) ∧ Below w.heap.size w wr) (fun y _ => match y with | .string z => z.size | _ => 0)
  case atStart => exact ⟨0, x, by omega, rfl, by simp, D1, D2, hb⟩
  case round =>
    clear D1 D2 hb
    obtain ⟨n, z, hn, rfl, hzl, D1, D2, hb⟩ := hrel
    have hzs : z.size = x.size - 64 * n := by
      have := congrArg List.length hzl
      simpa using this
    have HZ : Hid (z.size = x.size - 64 * n) := hzs
    have HL : Hid (z.data.toList = x.data.toList.drop (64 * n)) := hzl
    have H1 : Hid (wr.heap[w.heap.size + 1]? = some (.cells zeros8 91 (0, 0))) := D1
    have H2 : Hid (wr.heap[w.heap.size + 1 + 1]? = some (.cells (comps s x.data.toList n).vals 91 (0, 0))) := D2
    clear hzs hzl D1 D2
    by_cases hlt : 64 ≤ z.size
    · have hst := comps_ok s x.data.toList n hs
      have HC : Hid (comps s x.data.toList (n + 1) = comp (comps s x.data.toList n) ⟨((x.data.toList.drop (64 * n)).take 64).toArray⟩) := rfl
      obtain ⟨st, est⟩ : ∃ st, comps s x.data.toList n = st := ⟨_, rfl⟩
      rw [est] at hst H2 HC
      clear est
      have hsz : w.heap.size + 1 + 1 < wr.heap.size := by
        rcases Nat.lt_or_ge (w.heap.size + 1 + 1) wr.heap.size with h | h
        · exact h
        · have := H2.out
          rw [Array.getElem?_eq_none h] at this; cases this
      have kk : Hid (KeysAt wr) := HK.out.below hb HK.out.lt
      have c0 : wr.cell? ⟨w.heap.size + 1 + 1, 0, none⟩ = some (.int .u32 (st.a : Nat)) := (cell_of_row wr _ 0 _ _ _ H2.out).trans (vals_get st 0 (by omega))
      have c1 : wr.cell? ⟨w.heap.size + 1 + 1, 1, none⟩ = some (.int .u32 (st.b : Nat)) := (cell_of_row wr _ 1 _ _ _ H2.out).trans (vals_get st 1 (by omega))
      have c2 : wr.cell? ⟨w.heap.size + 1 + 1, 2, none⟩ = some (.int .u32 (st.c : Nat)) := (cell_of_row wr _ 2 _ _ _ H2.out).trans (vals_get st 2 (by omega))
      have c3 : wr.cell? ⟨w.heap.size + 1 + 1, 3, none⟩ = some (.int .u32 (st.d : Nat)) := (cell_of_row wr _ 3 _ _ _ H2.out).trans (vals_get st 3 (by omega))
      have c4 : wr.cell? ⟨w.heap.size + 1 + 1, 4, none⟩ = some (.int .u32 (st.e : Nat)) := (cell_of_row wr _ 4 _ _ _ H2.out).trans (vals_get st 4 (by omega))
      have c5 : wr.cell? ⟨w.heap.size + 1 + 1, 5, none⟩ = some (.int .u32 (st.f : Nat)) := (cell_of_row wr _ 5 _ _ _ H2.out).trans (vals_get st 5 (by omega))
      have c6 : wr.cell? ⟨w.heap.size + 1 + 1, 6, none⟩ = some (.int .u32 (st.g : Nat)) := (cell_of_row wr _ 6 _ _ _ H2.out).trans (vals_get st 6 (by omega))
      have c7 : wr.cell? ⟨w.heap.size + 1 + 1, 7, none⟩ = some (.int .u32 (st.h : Nat)) := (cell_of_row wr _ 7 _ _ _ H2.out).trans (vals_get st 7 (by omega))
      have fr : ∀ i, wr.frozen? ⟨w.heap.size + 1 + 1, i, none⟩ = false := fun i => frozen_of_row wr _ i _ _ H2.out
      obtain ⟨blk, hblk⟩ : ∃ blk, z.extract 0 64 = blk := ⟨_, rfl⟩
      have hbs : blk.size = 64 := by rw [← hblk]; simp; omega
      have HBL : Hid (blk = ⟨((x.data.toList.drop (64 * n)).take 64).toArray⟩) := by
        show blk = _
        rw [← HL.out, ← hblk]
        apply ba_ext
        simp [ByteArray.data_extract]
      have HBS : Hid (blk.size = 64) := hbs
      clear hbs
      go_wp2
      go_region_with (first | (go_at_call 73; refine (words_any blk _ HBS.out).mono ?_; rintro e w1 ⟨rfl, hb1⟩; replace hb1 : Below wr.heap.size wr w1 := undrew hb1; obtain ⟨hc1, hf1⟩ := bcell hb1; have hz1 : w.heap.size + 1 + 1 < w1.heap.size := Nat.lt_of_lt_of_le hsz hb1.size; have kk1 : Hid (KeysAt w1) := kk.out.below hb1 kk.out.lt) | (go_at_call 72; refine (block_lit st blk _ hst kk1.out).mono ?_; rintro e w2 ⟨r, hr, rfl, hb2⟩; replace hb2 : Below w1.heap.size w1 w2 := (by first | exact hb2 | exact undrew hb2 | exact undrew (undrew hb2)); have HR : Hid (comp st blk = r) := hr; clear hr; obtain ⟨hc2, hf2⟩ := bcell hb2))
      all_goals
        have E2 : w2.heap[w.heap.size + 1 + 1]? = some (.cells st.vals 91 (0, 0)) := ((hb2.block _ hz1).trans (hb1.block _ hsz)).trans H2.out
        have E1 : w2.heap[w.heap.size + 1]? = some (.cells zeros8 91 (0, 0)) := ((hb2.block _ (by omega)).trans (hb1.block _ (by omega))).trans H1.out
        have F2 : Hid ((set8 w2 (w.heap.size + 1 + 1) r).heap[w.heap.size + 1 + 1]? = some (.cells r.vals 91 (0, 0))) := set8_same w2 _ st r E2
        have F1 : Hid ((set8 w2 (w.heap.size + 1 + 1) r).heap[w.heap.size + 1]? = some (.cells zeros8 91 (0, 0))) := (set8_other w2 _ _ r (by omega)).trans E1
        have F0 : Hid (Below w.heap.size w (set8 w2 (w.heap.size + 1 + 1) r)) := set8_below ((hb.trans (hb1.mono hb.size)).trans (hb2.mono (Nat.le_trans hb.size hb1.size))) _ r (by omega)
        unfold set8 at F0 F1 F2
        obtain ⟨U, hU⟩ : ∃ U, U = (((((((w2.setCell ⟨w.heap.size + 1 + 1, 0, none⟩ (.int .u32 (r.a : Nat))).setCell ⟨w.heap.size + 1 + 1, 1, none⟩ (.int .u32 (r.b : Nat))).setCell ⟨w.heap.size + 1 + 1, 2, none⟩ (.int .u32 (r.c : Nat))).setCell ⟨w.heap.size + 1 + 1, 3, none⟩ (.int .u32 (r.d : Nat))).setCell ⟨w.heap.size + 1 + 1, 4, none⟩ (.int .u32 (r.e : Nat))).setCell ⟨w.heap.size + 1 + 1, 5, none⟩ (.int .u32 (r.f : Nat))).setCell ⟨w.heap.size + 1 + 1, 6, none⟩ (.int .u32 (r.g : Nat))).setCell ⟨w.heap.size + 1 + 1, 7, none⟩ (.int .u32 (r.h : Nat)) := ⟨_, rfl⟩
        rw [← hU] at F0 F1 F2 ⊢
        clear hU E1 E2 hc1 hf1 hc2 hf2 c0 c1 c2 c3 c4 c5 c6 c7 fr hblk
        go_wp2
        go_roundw
        case rel =>
          refine ⟨n + 1, z.extract 64 z.size, by have := HZ.out; omega, rfl, ?_, F1.out, ?_, F0.out⟩
          · simp only [ByteArray.data_extract, Array.toList_extract, List.extract_eq_take_drop]
            rw [HL.out, List.drop_drop, List.take_of_length_le (by simp [HZ.out]; omega)]
            congr 1
          · rw [F2.out, HC.out, ← HBL.out, HR.out]
        case measure => simp; omega
    · obtain rfl : n = x.size / 64 := by have := HZ.out; omega
      go_wp2_with (first | (refine wpList_load_row rfl 91 (.tmp 5) rfl _ rfl 91 _ _ (.array 8 87) H2.out Tryz.underlying91 rfl (by rw [vals_size]; exact HI.out) ?_) | (refine wpList_store_row rfl 91 (.tmp 4) (.tmp 17) rfl _ _ rfl rfl 91 _ H1.out (by rw [vals_size]; exact HI.out) (by rw [vals_size, zeros8_size]) (vals_one _) ?_))
      exact bodyPost_ret (v := .agg (comps s x.data.toList (x.size / 64)).vals) (results_cell_row Tryz.results53 _ _ (w.heap.size + 1) 91 _ (0, 0) (.array 8 87) rfl (setRow_heap _ _ _ _ _ _ H1.out) Tryz.underlying91 rfl (by rw [vals_size]; exact HI.out)) rfl ⟨rfl, below_setRow hb (by omega) _⟩
end Go.Proofs.YtjbbbfplephkpaaGreatDoor
