/-
  The program's Sha256.
-/
import Derived.Test.YtjbbbfplephkpaaGreatDoorWf
namespace Go.Proofs.YtjbbbfplephkpaaGreatDoor
open Go.RowKit
set_option maxRecDepth 20000 in
theorem blocks_lit (s : St) (x : ByteArray) (w : World) (hs : s.ok) (hk : KeysAt w) (hx : x.size ≤ 16777216) :
    Calls Tryz.prog 53 #[.agg #[.int .u32 (s.a : Nat), .int .u32 (s.b : Nat), .int .u32 (s.c : Nat), .int .u32 (s.d : Nat), .int .u32 (s.e : Nat), .int .u32 (s.f : Nat), .int .u32 (s.g : Nat), .int .u32 (s.h : Nat)], .string x] w fun e w' => ∃ r : St, comps s x.data.toList (x.size / 64) = r ∧ e = .returned (.agg #[.int .u32 (r.a : Nat), .int .u32 (r.b : Nat), .int .u32 (r.c : Nat), .int .u32 (r.d : Nat), .int .u32 (r.e : Nat), .int .u32 (r.f : Nat), .int .u32 (r.g : Nat), .int .u32 (r.h : Nat)]) ∧ Below w.heap.size w w' := by
  have h := blocks_any s x w hs hk hx
  unfold St.vals at h
  exact h.mono fun e w' ⟨h1, h2⟩ => ⟨_, rfl, h1, h2⟩
set_option maxRecDepth 20000 in
theorem text_lit (s : St) (w : World) (hs : s.ok) :
    Calls Tryz.prog 55 #[.agg #[.int .u32 (s.a : Nat), .int .u32 (s.b : Nat), .int .u32 (s.c : Nat), .int .u32 (s.d : Nat), .int .u32 (s.e : Nat), .int .u32 (s.f : Nat), .int .u32 (s.g : Nat), .int .u32 (s.h : Nat)]] w fun e w' => e = .returned (.string ⟨(outL s).toArray⟩) ∧ Below w.heap.size w w' := by
  have h := text_any s w hs
  unfold St.vals at h
  exact h
theorem KeysAt.drew {w : World} (h : KeysAt w) : KeysAt w.drew := fun i hi => h i hi
theorem row8 {V : World} {g : Nat} {st : St} (h : V.heap[g]? = some (.cells st.vals 91 (0, 0))) :
    V.cell? ⟨g, 0, none⟩ = some (.int .u32 (st.a : Nat)) ∧ V.cell? ⟨g, 1, none⟩ = some (.int .u32 (st.b : Nat)) ∧ V.cell? ⟨g, 2, none⟩ = some (.int .u32 (st.c : Nat)) ∧ V.cell? ⟨g, 3, none⟩ = some (.int .u32 (st.d : Nat)) ∧ V.cell? ⟨g, 4, none⟩ = some (.int .u32 (st.e : Nat)) ∧ V.cell? ⟨g, 5, none⟩ = some (.int .u32 (st.f : Nat)) ∧ V.cell? ⟨g, 6, none⟩ = some (.int .u32 (st.g : Nat)) ∧ V.cell? ⟨g, 7, none⟩ = some (.int .u32 (st.h : Nat)) ∧ ∀ i, V.frozen? ⟨g, i, none⟩ = false :=
  ⟨(cell_of_row V _ 0 _ _ _ h).trans (vals_get st 0 (by omega)), (cell_of_row V _ 1 _ _ _ h).trans (vals_get st 1 (by omega)), (cell_of_row V _ 2 _ _ _ h).trans (vals_get st 2 (by omega)), (cell_of_row V _ 3 _ _ _ h).trans (vals_get st 3 (by omega)), (cell_of_row V _ 4 _ _ _ h).trans (vals_get st 4 (by omega)), (cell_of_row V _ 5 _ _ _ h).trans (vals_get st 5 (by omega)), (cell_of_row V _ 6 _ _ _ h).trans (vals_get st 6 (by omega)), (cell_of_row V _ 7 _ _ _ h).trans (vals_get st 7 (by omega)), fun i => frozen_of_row V _ i _ _ h⟩
theorem row_lt {V : World} {g : Nat} {c : Obj} (h : V.heap[g]? = some c) : g < V.heap.size := (Array.getElem?_eq_some_iff.1 h).1
set_option maxHeartbeats 1000000 in
set_option maxRecDepth 20000 in
theorem implSha_any (x : ByteArray) (w : World) (hk : KeysAt w) (hx : x.size ≤ 8388608) :
    Calls Tryz.prog 35 #[.string x] w fun e w' => e = .returned (.string ⟨(shaL x.data.toList).toArray⟩) ∧ Below w.heap.size w w' := by
  have HK : Hid (KeysAt w) := hk
  clear hk
  obtain ⟨m, hm⟩ : ∃ m : Nat, m = x.size - x.size % 64 := ⟨_, rfl⟩
  have hm1 : (x.size : Int) - (x.size : Int) % 64 = (m : Int) := by omega
  have HM : Hid (m = x.size - x.size % 64) := hm
  have hml : m ≤ x.size := by omega
  clear hm
  go_enter Tryz.func35, Tryz.ntmps35
  go_wp2
  obtain ⟨W, hW⟩ : ∃ W, W = w.alloc (.cells #[.int .u32 1779033703, .int .u32 3144134277, .int .u32 1013904242, .int .u32 2773480762, .int .u32 1359893119, .int .u32 2600822924, .int .u32 528734635, .int .u32 1541459225] 91) := ⟨_, rfl⟩
  rw [← hW]
  have D : W.heap[w.heap.size]? = some (.cells iv.vals 91 (0, 0)) := by
    rw [hW, heap_alloc_new]; unfold St.vals iv; rfl
  have hb : Below w.heap.size w W := by rw [hW]; exact (Below.refl _ _).alloc (Nat.le_refl _) _
  clear hW
  have H : Hid (W.heap[w.heap.size]? = some (.cells iv.vals 91 (0, 0))) := D
  have hsz := row_lt D
  obtain ⟨c0, c1, c2, c3, c4, c5, c6, c7, fr⟩ := row8 D
  clear D
  have kk : Hid (KeysAt W) := HK.out.below hb HK.out.lt
  obtain ⟨y, hy⟩ : ∃ y, x.extract 0 m = y := ⟨_, rfl⟩
  have hys : y.size = m := by rw [← hy]; simp; omega
  have HY : Hid (y.data.toList = x.data.toList.take m) := by show _ = _; rw [← hy]; simp
  have HYS : Hid (y.size = m) := hys
  clear hys
  have i1 : (0 : Int) ≤ (m : Int) := by omega
  have i2 : (m : Int) ≤ (x.size : Int) := by omega
  go_region_with (go_at_call 53; refine (blocks_lit iv y _ iv_ok (by first | exact kk.out | exact kk.out.drew | exact kk.out.drew.drew) (by rw [HYS.out]; omega)).mono ?_; rintro e w1 ⟨r, hr, rfl, hb1⟩; replace hb1 : Below W.heap.size W w1 := (by first | exact hb1 | exact undrew hb1 | exact undrew (undrew hb1)); have HR : Hid (comps iv y.data.toList (y.size / 64) = r) := hr; clear hr; obtain ⟨hc1, hf1⟩ := bcell hb1)
  have F2 : (set8 w1 w.heap.size r).heap[w.heap.size]? = some (.cells r.vals 91 (0, 0)) := set8_same w1 _ iv r ((hb1.block _ hsz).trans H.out)
  have F0 : Below w.heap.size w (set8 w1 w.heap.size r) := set8_below (hb.trans (hb1.mono hb.size)) _ r (Nat.le_refl _)
  unfold set8 at F0 F2
  obtain ⟨U, hU⟩ : ∃ U, U = ((((((((w1.setCell ⟨w.heap.size, 0, none⟩ (.int .u32 (r.a : Nat))).setCell ⟨w.heap.size, 1, none⟩ (.int .u32 (r.b : Nat))).setCell ⟨w.heap.size, 2, none⟩ (.int .u32 (r.c : Nat))).setCell ⟨w.heap.size, 3, none⟩ (.int .u32 (r.d : Nat))).setCell ⟨w.heap.size, 4, none⟩ (.int .u32 (r.e : Nat))).setCell ⟨w.heap.size, 5, none⟩ (.int .u32 (r.f : Nat))).setCell ⟨w.heap.size, 6, none⟩ (.int .u32 (r.g : Nat))).setCell ⟨w.heap.size, 7, none⟩ (.int .u32 (r.h : Nat))) := ⟨_, rfl⟩
  rw [← hU] at F0 F2 ⊢
  clear hU hc1 hf1 hb1 c0 c1 c2 c3 c4 c5 c6 c7 fr hy kk hb hsz H
  have rok : r.ok := by rw [← HR.out]; exact comps_ok _ _ _ iv_ok
  have H : Hid (U.heap[w.heap.size]? = some (.cells r.vals 91 (0, 0))) := F2
  have hsz := row_lt F2
  obtain ⟨c0, c1, c2, c3, c4, c5, c6, c7, fr⟩ := row8 F2
  clear F2
  have kk : Hid (KeysAt U) := HK.out.below F0 HK.out.lt
  obtain ⟨z, hz⟩ : ∃ z, x.extract m x.size = z := ⟨_, rfl⟩
  have HZ : Hid (z.data.toList = x.data.toList.drop m) := by
    show _ = _
    rw [← hz]
    simp [List.extract_eq_take_drop]
    rw [List.take_of_length_le (by simp)]
  have HZS : Hid (z.size = x.size % 64) := by
    show _ = _
    rw [← hz]; simp; have := HM.out; omega
  have HX : Hid (x.data.toList.length = x.size) := by show _ = _; simp
  obtain ⟨p, ep⟩ : ∃ p, (⟨(padL z.data.toList x.size).toArray⟩ : ByteArray) = p := ⟨_, rfl⟩
  have HP : Hid (p.data.toList = padL z.data.toList x.size) := by show _ = _; rw [← ep]
  have HPS : Hid (p.size = (padL z.data.toList x.size).length) := by
    show _ = _
    rw [← ep]
    show (padL z.data.toList x.size).toArray.size = _
    exact List.size_toArray
  have HPL : Hid (p.size ≤ 16777216) := by
    show _ ≤ _
    rw [HPS.out]
    have := HZS.out
    simp [padL, num_len]; omega
  go_wp2
  go_region_with (first | (go_at_call 54; refine (pad_any z x.size _ (by rw [HZS.out]; omega) hx).mono ?_; rw [ep]; rintro e w2 ⟨rfl, hb2⟩; replace hb2 : Below U.heap.size U w2 := (by first | exact hb2 | exact undrew hb2 | exact undrew (undrew hb2)); obtain ⟨hc2, hf2⟩ := bcell hb2; have hz2 : w.heap.size < w2.heap.size := Nat.lt_of_lt_of_le hsz hb2.size; have kk2 : Hid (KeysAt w2) := kk.out.below hb2 kk.out.lt) | (go_at_call 53; refine (blocks_lit r p _ rok (by first | exact kk2.out | exact kk2.out.drew | exact kk2.out.drew.drew) HPL.out).mono ?_; rintro e w3 ⟨q, hq, rfl, hb3⟩; replace hb3 : Below w2.heap.size w2 w3 := (by first | exact hb3 | exact undrew hb3 | exact undrew (undrew hb3)); have HQ : Hid (comps r p.data.toList (p.size / 64) = q) := hq; clear hq; obtain ⟨hc3, hf3⟩ := bcell hb3))
  all_goals
    have G2 : (set8 w3 w.heap.size q).heap[w.heap.size]? = some (.cells q.vals 91 (0, 0)) := set8_same w3 _ r q (((hb3.block _ hz2).trans (hb2.block _ hsz)).trans H.out)
    have G0 : Below w.heap.size w (set8 w3 w.heap.size q) := set8_below ((F0.trans (hb2.mono F0.size)).trans (hb3.mono (Nat.le_trans F0.size hb2.size))) _ q (Nat.le_refl _)
    unfold set8 at G0 G2
    obtain ⟨V, hV⟩ : ∃ V, V = ((((((((w3.setCell ⟨w.heap.size, 0, none⟩ (.int .u32 (q.a : Nat))).setCell ⟨w.heap.size, 1, none⟩ (.int .u32 (q.b : Nat))).setCell ⟨w.heap.size, 2, none⟩ (.int .u32 (q.c : Nat))).setCell ⟨w.heap.size, 3, none⟩ (.int .u32 (q.d : Nat))).setCell ⟨w.heap.size, 4, none⟩ (.int .u32 (q.e : Nat))).setCell ⟨w.heap.size, 5, none⟩ (.int .u32 (q.f : Nat))).setCell ⟨w.heap.size, 6, none⟩ (.int .u32 (q.g : Nat))).setCell ⟨w.heap.size, 7, none⟩ (.int .u32 (q.h : Nat))) := ⟨_, rfl⟩
    rw [← hV] at G0 G2 ⊢
    clear hV hc2 hf2 hc3 hf3 hb2 hb3 c0 c1 c2 c3 c4 c5 c6 c7 fr hz kk kk2 F0 hsz hz2 H
    have qok : q.ok := by rw [← HQ.out]; exact comps_ok _ _ _ rok
    obtain ⟨c0, c1, c2, c3, c4, c5, c6, c7, fr⟩ := row8 G2
    clear G2 fr ep
    go_wp2_with (go_at_call 55; refine (text_lit q _ qok).mono ?_; rintro e w4 ⟨rfl, hb4⟩)
    go_ret
    refine ⟨ret_str ?_, G0.trans (hb4.mono G0.size)⟩
    apply congrArg (fun l : List UInt8 => (⟨l.toArray⟩ : ByteArray))
    have HE : m / 64 = x.size / 64 := by have := HM.out; omega
    rw [sha_split, HX.out, ← HM.out, ← HE, ← HZ.out, ← HP.out, ← HQ.out, ← HR.out, HY.out, HYS.out, HPS.out, HP.out]
end Go.Proofs.YtjbbbfplephkpaaGreatDoor
