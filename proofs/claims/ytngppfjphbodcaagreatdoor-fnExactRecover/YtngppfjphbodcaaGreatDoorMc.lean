/-
  FsStep: a file system copied by the specification.
-/
import Derived.Test.YtngppfjphbodcaaGreatDoorMa
import Derived.Test.YtngppfjphbodcaaGreatDoorFg
namespace Go.Proofs.YtngppfjphbodcaaGreatDoor
open Go.RowKit
theorem cellsF_len (L : List Fil) : ((L.map cellsF).flatten).length = L.length * 3 := by
  induction L with
  | nil => rfl
  | cons f r ih => simp [cellsF] at ih ⊢; omega
theorem cellsF_one (f : Fil) : ∀ u ∈ cellsF f, u.oneCell' = true := by
  intro u hu
  simp [cellsF] at hu
  rcases hu with rfl | rfl | rfl <;> rfl
theorem OwnL.snoc {w : World} {B g cap : Nat} {A : List Fil} {f : Fil} (h : w.ownsRow B 49 3 (.slice (some ⟨g, 0, none⟩) (A.length + 1) cap) (A.length + 1) ((A.map cellsF).flatten ++ [.string f.s, .string f.d, .int .i64 f.y])) : OwnL w B (.slice (some ⟨g, 0, none⟩) (A ++ [f]).length cap) (A ++ [f]) := by
  unfold OwnL
  simpa [cellsF] using h
theorem wth_len (nm : ByteArray) (f : Fil) (L : List Fil) (p : Bool) : (wth nm f L p).length ≤ L.length + 1 := by
  have key : ∀ L : List Fil, ∀ p : Bool, (wth nm f L p).length ≤ L.length + (if p then 0 else 1) := by
    intro L
    induction L with
    | nil => intro p; cases p <;> simp [wth]
    | cons g r ih =>
      intro p
      have h1 := ih (p || Op.bytesLess f.s.toList g.s.toList)
      simp only [wth, List.length_append]
      have h2 : (if g.s = nm then ([] : List Fil) else [g]).length ≤ 1 := by split <;> simp
      cases p <;> rcases hb : Op.bytesLess f.s.toList g.s.toList <;> simp [hb] at h1 ⊢ <;> omega
  have := key L p
  split at this <;> omega
set_option maxRecDepth 20000 in
set_option maxHeartbeats 8000000 in
theorem sWith (a : Option Addr) (c : Nat) (L : List Fil) (nm : ByteArray) (f : Fil) (w : World) (h : FL w a L.length (nthF L)) (hl : L.length ≤ 2097152) :
    Calls Tryz.prog 51 #[.slice a L.length c, .string nm, .agg #[.string f.s, .string f.d, .int .i64 f.y]] w fun e w' => ∃ g cap, e = .returned (.slice (some ⟨g, 0, none⟩) (wth nm f L (decide (f.s.size = 0))).length cap) ∧ OwnL w' w.heap.size (.slice (some ⟨g, 0, none⟩) (wth nm f L (decide (f.s.size = 0))).length cap) (wth nm f L (decide (f.s.size = 0))) ∧ Below w.heap.size w w' := by
  obtain ⟨n, hn⟩ : ∃ n, L.length = n := ⟨_, rfl⟩
  obtain ⟨Lr, hLr⟩ : ∃ Lr, wth nm f L (decide (f.s.size = 0)) = Lr := ⟨_, rfl⟩
  rw [hLr]
  have hlr : Lr.length ≤ n + 1 := by rw [← hLr, ← hn]; exact wth_len _ _ _ _
  have HLr : Hid (wth nm f L (decide (f.s.size = 0)) = Lr) := hLr
  have HL : Hid (L.length = n) := hn
  rw [hn] at h hl
  clear hLr
  rw [hn]
  clear hn
  obtain ⟨i0, hi, hz0, hz1, hz2⟩ := info_parts Tryz.infoFil
  have HI : Hid (Tryz.prog.info? 49 = some i0) := hi
  clear hi
  have hb0 : Below w.heap.size w ((w.alloc (.cells #[.string f.s, .string f.d, .int .i64 f.y] 49)).alloc (.cells #[] 49)) := bstep (bal _ _) (bal _ _)
  have hfr := rowL (heap_alloc_new w (.cells #[.string f.s, .string f.d, .int .i64 f.y] 49)) (bal _ (.cells #[] 49))
  have hO0 : ((w.alloc (.cells #[.string f.s, .string f.d, .int .i64 f.y] 49)).alloc (.cells #[] 49)).ownsRow (w.heap.size + 1) 49 3 (.slice (some ⟨w.heap.size + 1, 0, none⟩) 0 0) 0 [] := by
    have := World.ownsRow_lit (e := 49) (size := 3) (w.alloc (.cells #[.string f.s, .string f.d, .int .i64 f.y] 49)) #[] 0 (Nat.le_refl _) (by simp [maxLen]) rfl
    rw [World.size_alloc] at this
    exact this
  have hfn := nilS f.s
  have HP : Hid ((f.s.toList == ([] : List UInt8)) = decide (f.s.size = 0)) := hfn
  obtain ⟨p0, hp0⟩ : ∃ p0, decide (f.s.size = 0) = p0 := ⟨_, rfl⟩
  have hfn' : (f.s.toList == ([] : List UInt8)) = p0 := hfn.trans hp0
  rw [hp0] at HLr
  clear hfn hp0 HP
  go_enter Tryz.func51, Tryz.ntmps51
  go_wp2
  go_loopw [7, 8, 10, 17] (fun o pl _ i wr => ∃ (k : Nat) (p : Bool) (A : List Fil) (g cap : Nat), k ≤ n ∧ i = .int .i64 k ∧ o = .slice (some ⟨g, 0, none⟩) A.length cap ∧ pl = .bool p ∧ OwnL wr (w.heap.size + 1) (.slice (some ⟨g, 0, none⟩) A.length cap) A ∧ A ++ wth nm f (L.drop k) p = Lr ∧ wr.heap[w.heap.size]? = some (.cells #[.string f.s, .string f.d, .int .i64 f.y] 49 (0, 0)) ∧ Below w.heap.size w wr) (fun _ _ _ i _ => n - (intOf i).toNat)
  case atStart => exact ⟨0, p0, [], w.heap.size + 1, 0, by omega, rfl, rfl, rfl, hO0, HLr.out, hfr, hb0⟩
  case round =>
    obtain ⟨k, p, A, g, cap, hk, rfl, rfl, rfl, hO, hA, hfb, hb⟩ := hrel
    have HA : Hid (A ++ wth nm f (L.drop k) p = Lr) := hA
    have HFB : Hid (wr.heap[w.heap.size]? = some (.cells #[.string f.s, .string f.d, .int .i64 f.y] 49 (0, 0))) := hfb
    have hAl : A.length ≤ n + 1 := by have := congrArg List.length hA; rw [List.length_append] at this; omega
    have hgl := hO.lt g rfl
    have hsz := hb.size
    clear hA hfb hO0 hfr
    by_cases hlt : k < n
    · have hkL : k < L.length := by rw [HL.out]; exact hlt
      obtain ⟨b, off, rfl, c0, c1, c2⟩ := h.later hb k hlt
      obtain ⟨G, hG⟩ : ∃ G, nthF L k = G := ⟨_, rfl⟩
      have hdr : L.drop k = G :: L.drop (k + 1) := by rw [← hG, nthF_at L k hkL]; exact List.drop_eq_getElem_cons hkL
      have hst : wth nm f (L.drop k) p = (if (!p && Op.bytesLess f.s.toList G.s.toList) = true then [f] else []) ++ ((if G.s = nm then [] else [G]) ++ wth nm f (L.drop (k + 1)) (p || Op.bytesLess f.s.toList G.s.toList)) := by rw [hdr]; rfl
      rw [hG] at c0 c1 c2
      have HST : Hid (wth nm f (L.drop k) p = (if (!p && Op.bytesLess f.s.toList G.s.toList) = true then [f] else []) ++ ((if G.s = nm then [] else [G]) ++ wth nm f (L.drop (k + 1)) (p || Op.bytesLess f.s.toList G.s.toList))) := hst
      clear hst hdr hG
      have fc0 : ∀ o, (wr.alloc o).cell? ⟨w.heap.size, 0, none⟩ = some (.string f.s) := fun o => keepB (bal wr o) ((cell_of_row _ _ 0 _ _ _ HFB.out).trans rfl)
      have fc1 : ∀ o, (wr.alloc o).cell? ⟨w.heap.size, 1, none⟩ = some (.string f.d) := fun o => keepB (bal wr o) ((cell_of_row _ _ 1 _ _ _ HFB.out).trans rfl)
      have fc2 : ∀ o, (wr.alloc o).cell? ⟨w.heap.size, 2, none⟩ = some (.int .i64 f.y) := fun o => keepB (bal wr o) ((cell_of_row _ _ 2 _ _ _ HFB.out).trans rfl)
      have hqn := eqS G.s nm
      rcases hq : (!p && Op.bytesLess f.s.toList G.s.toList)
      · have hpp : (p || Op.bytesLess f.s.toList G.s.toList) = p := by
          cases p
          · simpa using hq
          · rfl
        have HA2 : Hid (A ++ ((if G.s = nm then [] else [G]) ++ wth nm f (L.drop (k + 1)) p) = Lr) := by
          show _ = _
          rw [← HA.out, HST.out, hq, hpp]
          simp
        have hless : p = false → Op.bytesLess f.s.toList G.s.toList = false := fun e => by rw [e] at hq; simpa using hq
        have hb2 : Below w.heap.size w (wr.alloc (.cells #[.string G.s, .string G.d, .int .i64 G.y] 49)) := bstep hb (bal _ _)
        have HFB2 : Hid ((wr.alloc (.cells #[.string G.s, .string G.d, .int .i64 G.y] 49)).heap[w.heap.size]? = some (.cells #[.string f.s, .string f.d, .int .i64 f.y] 49 (0, 0))) := rowL HFB.out (bal _ _)
        have HGB : Hid ((wr.alloc (.cells #[.string G.s, .string G.d, .int .i64 G.y] 49)).heap[wr.heap.size]? = some (.cells #[.string G.s, .string G.d, .int .i64 G.y] 49 (0, 0))) := heap_alloc_new _ _
        have HO2 : Hid (OwnL (wr.alloc (.cells #[.string G.s, .string G.d, .int .i64 G.y] 49)) (w.heap.size + 1) (.slice (some ⟨g, 0, none⟩) A.length cap) A) := hO.alloc _
        clear hq hpp
        cases p
        · have hl1 := hless rfl
          clear hless
          go_upto_region 9 with fail
          obtain ⟨W2, hW2⟩ : ∃ W2, wr.alloc (.cells #[.string G.s, .string G.d, .int .i64 G.y] 49) = W2 := ⟨_, rfl⟩
          have hs2 : wr.heap.size < W2.heap.size := by rw [← hW2]; simp
          rw [hW2] at hb2 HFB2 HGB HO2 ⊢
          clear hW2 fc0 fc1 fc2
          have gc0 : W2.cell? ⟨wr.heap.size, 0, none⟩ = some (.string G.s) := (cell_of_row _ _ 0 _ _ _ HGB.out).trans rfl
          have gc1 : W2.cell? ⟨wr.heap.size, 1, none⟩ = some (.string G.d) := (cell_of_row _ _ 1 _ _ _ HGB.out).trans rfl
          have gc2 : W2.cell? ⟨wr.heap.size, 2, none⟩ = some (.int .i64 G.y) := (cell_of_row _ _ 2 _ _ _ HGB.out).trans rfl
          have hA2l : A.length ≤ n + 1 := by have := congrArg List.length HA2.out; rw [List.length_append] at this; omega
          have hg2l := HO2.out.lt g rfl
          have hsz2 := hb2.size
          by_cases he : G.s = nm
          · have hq1 : (G.s.toList != nm.toList) = false := by rw [bne, hqn]; simp [he]
            have hq2 : (G.s.toList == nm.toList) = true := by rw [hqn]; simp [he]
            clear hqn
            have hfin : A ++ wth nm f (L.drop (k + 1)) false = Lr := by have := HA2.out; rw [if_pos he] at this; simpa using this
            clear he
            go_wp2
            go_roundw
            case rel => exact ⟨k + 1, false, A, g, cap, by omega, by go_num, rfl, rfl, HO2.out, hfin, HFB2.out, hb2⟩
            case measure => simp [intOf]; omega
          · have hq1 : (G.s.toList != nm.toList) = true := by rw [bne, hqn]; simp [he]
            have hq2 : (G.s.toList == nm.toList) = false := by rw [hqn]; simp [he]
            clear hqn
            have hfin : (A ++ [G]) ++ wth nm f (L.drop (k + 1)) false = Lr := by have := HA2.out; rw [if_neg he] at this; simpa using this
            have HFIN : Hid ((A ++ [G]) ++ wth nm f (L.drop (k + 1)) false = Lr) := hfin
            clear he hfin
            go_wp2_with (at_builtin; refine wpList_append_lies _ rfl _ _ _ rfl (w.heap.size + 1) 49 i0 _ 3 40 Tryz.underlying26 HI.out hz0 hz1 hz2 rfl (by omega) _ A.length _ rfl (HO2.out.alloc _) ⟨W2.heap.size, 0, none⟩ 1 1 [.string G.s, .string G.d, .int .i64 G.y] rfl rfl (World.news_of_block (heap_alloc_new _ _)) (by intro u hu; simp at hu; rcases hu with rfl | rfl | rfl <;> rfl) (by omega) (by unfold maxLen; omega) (by omega) (by simp; omega) _ rfl ?_; intro g3 cap3 w3 hown3 hgrow3 hat3 hlt3)
            go_roundw
            case rel =>
              replace hgrow3 : World.grownBy _ w3 (some g) := hgrow3
              refine ⟨k + 1, false, A ++ [G], g3, cap3, by omega, by go_num, by simp, rfl, OwnL.snoc hown3, HFIN.out, ?_, ?_⟩
              · exact (hgrow3.block _ (by simp; omega) (by simp; omega)).trans (rowL HFB2.out (bal _ _))
              · exact (bstep hb2 (bal _ _)).grown hgrow3 (by simp; omega) (fun q e => by have h1 : g = q := (by simpa using e); omega)
            case measure => simp [intOf]; omega
        · clear hless
          go_upto_region 9 with fail
          obtain ⟨W2, hW2⟩ : ∃ W2, wr.alloc (.cells #[.string G.s, .string G.d, .int .i64 G.y] 49) = W2 := ⟨_, rfl⟩
          have hs2 : wr.heap.size < W2.heap.size := by rw [← hW2]; simp
          rw [hW2] at hb2 HFB2 HGB HO2 ⊢
          clear hW2 fc0 fc1 fc2
          have gc0 : W2.cell? ⟨wr.heap.size, 0, none⟩ = some (.string G.s) := (cell_of_row _ _ 0 _ _ _ HGB.out).trans rfl
          have gc1 : W2.cell? ⟨wr.heap.size, 1, none⟩ = some (.string G.d) := (cell_of_row _ _ 1 _ _ _ HGB.out).trans rfl
          have gc2 : W2.cell? ⟨wr.heap.size, 2, none⟩ = some (.int .i64 G.y) := (cell_of_row _ _ 2 _ _ _ HGB.out).trans rfl
          have hA2l : A.length ≤ n + 1 := by have := congrArg List.length HA2.out; rw [List.length_append] at this; omega
          have hg2l := HO2.out.lt g rfl
          have hsz2 := hb2.size
          by_cases he : G.s = nm
          · have hq1 : (G.s.toList != nm.toList) = false := by rw [bne, hqn]; simp [he]
            have hq2 : (G.s.toList == nm.toList) = true := by rw [hqn]; simp [he]
            clear hqn
            have hfin : A ++ wth nm f (L.drop (k + 1)) true = Lr := by have := HA2.out; rw [if_pos he] at this; simpa using this
            clear he
            go_wp2
            go_roundw
            case rel => exact ⟨k + 1, true, A, g, cap, by omega, by go_num, rfl, rfl, HO2.out, hfin, HFB2.out, hb2⟩
            case measure => simp [intOf]; omega
          · have hq1 : (G.s.toList != nm.toList) = true := by rw [bne, hqn]; simp [he]
            have hq2 : (G.s.toList == nm.toList) = false := by rw [hqn]; simp [he]
            clear hqn
            have hfin : (A ++ [G]) ++ wth nm f (L.drop (k + 1)) true = Lr := by have := HA2.out; rw [if_neg he] at this; simpa using this
            have HFIN : Hid ((A ++ [G]) ++ wth nm f (L.drop (k + 1)) true = Lr) := hfin
            clear he hfin
            go_wp2_with (at_builtin; refine wpList_append_lies _ rfl _ _ _ rfl (w.heap.size + 1) 49 i0 _ 3 40 Tryz.underlying26 HI.out hz0 hz1 hz2 rfl (by omega) _ A.length _ rfl (HO2.out.alloc _) ⟨W2.heap.size, 0, none⟩ 1 1 [.string G.s, .string G.d, .int .i64 G.y] rfl rfl (World.news_of_block (heap_alloc_new _ _)) (by intro u hu; simp at hu; rcases hu with rfl | rfl | rfl <;> rfl) (by omega) (by unfold maxLen; omega) (by omega) (by simp; omega) _ rfl ?_; intro g3 cap3 w3 hown3 hgrow3 hat3 hlt3)
            go_roundw
            case rel =>
              replace hgrow3 : World.grownBy _ w3 (some g) := hgrow3
              refine ⟨k + 1, true, A ++ [G], g3, cap3, by omega, by go_num, by simp, rfl, OwnL.snoc hown3, HFIN.out, ?_, ?_⟩
              · exact (hgrow3.block _ (by simp; omega) (by simp; omega)).trans (rowL HFB2.out (bal _ _))
              · exact (bstep hb2 (bal _ _)).grown hgrow3 (by simp; omega) (fun q e => by have h1 : g = q := (by simpa using e); omega)
            case measure => simp [intOf]; omega
      · obtain ⟨rfl, hless⟩ : p = false ∧ Op.bytesLess f.s.toList G.s.toList = true := by
          cases p <;> simp at hq ⊢
          exact hq
        go_upto_region 9 with (at_builtin; refine wpList_append_lies _ rfl _ _ _ rfl (w.heap.size + 1) 49 i0 _ 3 40 Tryz.underlying26 HI.out hz0 hz1 hz2 rfl (by omega) _ A.length _ rfl ((hO.alloc _).alloc _) ⟨wr.heap.size + 1, 0, none⟩ 1 1 [.string f.s, .string f.d, .int .i64 f.y] rfl rfl (World.news_of_block (by rw [← World.size_alloc]; exact heap_alloc_new _ _)) (by intro u hu; simp at hu; rcases hu with rfl | rfl | rfl <;> rfl) (by omega) (by unfold maxLen; omega) (by omega) (by simp; omega) _ rfl ?_; intro g2 cap2 w2 hown2 hgrow hat hlt2)
        have HA2 : Hid ((A ++ [f]) ++ ((if G.s = nm then [] else [G]) ++ wth nm f (L.drop (k + 1)) true) = Lr) := by
          show _ = _
          rw [← HA.out, HST.out, hq, hless]
          simp
        replace hgrow : World.grownBy _ w2 (some g) := hgrow
        have HFB2 : Hid (w2.heap[w.heap.size]? = some (.cells #[.string f.s, .string f.d, .int .i64 f.y] 49 (0, 0))) := (hgrow.block _ (by simp; omega) (by simp; omega)).trans (rowL (rowL HFB.out (bal _ _)) (bal _ _))
        have HGB : Hid (w2.heap[wr.heap.size]? = some (.cells #[.string G.s, .string G.d, .int .i64 G.y] 49 (0, 0))) := (hgrow.block _ (by simp; omega) (by simp; omega)).trans (rowL (heap_alloc_new wr _) (bal _ _))
        have hb2 : Below w.heap.size w w2 := (bstep hb (bstep (bal _ _) (bal _ _))).grown hgrow (by simp; omega) (fun q e => by have h1 : g = q := (by simpa using e); omega)
        have HO2 : Hid (OwnL w2 (w.heap.size + 1) (.slice (some ⟨g2, 0, none⟩) (A ++ [f]).length cap2) (A ++ [f])) := OwnL.snoc hown2
        have hs2 : wr.heap.size < w2.heap.size := by have := hgrow.size; simp at this; omega
        obtain ⟨A2, hA2⟩ : ∃ A2, A ++ [f] = A2 := ⟨_, rfl⟩
        have hl2 : A.length + 1 = A2.length := by rw [← hA2]; simp
        rw [hA2] at HA2 HO2
        rw [hl2]
        clear hA2 hl2 hown2 fc0 fc1 fc2 hq hless
        obtain ⟨W2, hW2⟩ : ∃ W2, w2 = W2 := ⟨_, rfl⟩
        rw [hW2] at hb2 HFB2 HGB HO2 hs2 ⊢
        have gc0 : W2.cell? ⟨wr.heap.size, 0, none⟩ = some (.string G.s) := (cell_of_row _ _ 0 _ _ _ HGB.out).trans rfl
        have gc1 : W2.cell? ⟨wr.heap.size, 1, none⟩ = some (.string G.d) := (cell_of_row _ _ 1 _ _ _ HGB.out).trans rfl
        have gc2 : W2.cell? ⟨wr.heap.size, 2, none⟩ = some (.int .i64 G.y) := (cell_of_row _ _ 2 _ _ _ HGB.out).trans rfl
        have hA2l : A2.length ≤ n + 1 := by have := congrArg List.length HA2.out; rw [List.length_append] at this; omega
        have hg2l := HO2.out.lt g2 rfl
        have hsz2 := hb2.size
        by_cases he : G.s = nm
        · have hq1 : (G.s.toList != nm.toList) = false := by rw [bne, hqn]; simp [he]
          have hq2 : (G.s.toList == nm.toList) = true := by rw [hqn]; simp [he]
          clear hqn
          have hfin : A2 ++ wth nm f (L.drop (k + 1)) true = Lr := by have := HA2.out; rw [if_pos he] at this; simpa using this
          clear he
          go_wp2
          go_roundw
          case rel => exact ⟨k + 1, true, A2, g2, cap2, by omega, by go_num, rfl, rfl, HO2.out, hfin, HFB2.out, hb2⟩
          case measure => simp [intOf]; omega
        · have hq1 : (G.s.toList != nm.toList) = true := by rw [bne, hqn]; simp [he]
          have hq2 : (G.s.toList == nm.toList) = false := by rw [hqn]; simp [he]
          clear hqn
          have hfin : (A2 ++ [G]) ++ wth nm f (L.drop (k + 1)) true = Lr := by have := HA2.out; rw [if_neg he] at this; simpa using this
          have HFIN : Hid ((A2 ++ [G]) ++ wth nm f (L.drop (k + 1)) true = Lr) := hfin
          clear he hfin
          go_wp2_with (at_builtin; refine wpList_append_lies _ rfl _ _ _ rfl (w.heap.size + 1) 49 i0 _ 3 40 Tryz.underlying26 HI.out hz0 hz1 hz2 rfl (by omega) _ A2.length _ rfl (HO2.out.alloc _) ⟨W2.heap.size, 0, none⟩ 1 1 [.string G.s, .string G.d, .int .i64 G.y] rfl rfl (World.news_of_block (heap_alloc_new _ _)) (by intro u hu; simp at hu; rcases hu with rfl | rfl | rfl <;> rfl) (by omega) (by unfold maxLen; omega) (by omega) (by simp; omega) _ rfl ?_; intro g3 cap3 w3 hown3 hgrow3 hat3 hlt3)
          go_roundw
          case rel =>
            replace hgrow3 : World.grownBy _ w3 (some g2) := hgrow3
            refine ⟨k + 1, true, A2 ++ [G], g3, cap3, by omega, by go_num, by simp, rfl, OwnL.snoc hown3, HFIN.out, ?_, ?_⟩
            · exact (hgrow3.block _ (by simp; omega) (by simp; omega)).trans (rowL HFB2.out (bal _ _))
            · exact (bstep hb2 (bal _ _)).grown hgrow3 (by simp; omega) (fun q e => by have h1 : g2 = q := (by simpa using e); omega)
          case measure => simp [intOf]; omega
    · obtain rfl : k = n := by omega
      have hdn : L.drop k = [] := List.drop_of_length_le (by rw [HL.out]; exact Nat.le_refl _)
      have hw : wth nm f (L.drop k) p = if p then [] else [f] := by rw [hdn]; rfl
      have HW : Hid (A ++ (if p then [] else [f]) = Lr) := by show _ = _; rw [← hw]; exact HA.out
      clear hdn hw
      cases p
      · have e1 : A ++ [f] = Lr := HW.out
        have fc0 : wr.cell? ⟨w.heap.size, 0, none⟩ = some (.string f.s) := (cell_of_row _ _ 0 _ _ _ HFB.out).trans rfl
        have fc1 : wr.cell? ⟨w.heap.size, 1, none⟩ = some (.string f.d) := (cell_of_row _ _ 1 _ _ _ HFB.out).trans rfl
        have fc2 : wr.cell? ⟨w.heap.size, 2, none⟩ = some (.int .i64 f.y) := (cell_of_row _ _ 2 _ _ _ HFB.out).trans rfl
        have HE : Hid (A ++ [f] = Lr) := e1
        clear e1
        go_wp2_with (at_builtin; refine wpList_append_lies _ rfl _ _ _ rfl (w.heap.size + 1) 49 i0 _ 3 40 Tryz.underlying26 HI.out hz0 hz1 hz2 rfl (by omega) _ A.length _ rfl (hO.alloc _) ⟨wr.heap.size, 0, none⟩ 1 1 [.string f.s, .string f.d, .int .i64 f.y] rfl rfl (World.news_of_block (heap_alloc_new _ _)) (by intro u hu; simp at hu; rcases hu with rfl | rfl | rfl <;> rfl) (by omega) (by unfold maxLen; omega) (by omega) (by simp; omega) _ rfl ?_; intro g3 cap3 w3 hown3 hgrow3 hat3 hlt3)
        go_ret
        replace hgrow3 : World.grownBy _ w3 (some g) := hgrow3
        have hO3 := OwnL.snoc hown3
        have hl3 : A.length + 1 = Lr.length := by rw [← HE.out]; simp
        rw [HE.out] at hO3
        exact ⟨g3, cap3, by rw [← hl3]; rfl, ⟨hO3.1, hO3.2.imp id (fun ⟨gg, cc, cu, e1, e2, e3⟩ => ⟨gg, cc, cu, e1, by omega, e3⟩)⟩, (bstep hb (bal _ _)).grown hgrow3 (by simp; omega) (fun q e => by have h1 : g = q := (by simpa using e); omega)⟩
      · obtain rfl : A = Lr := by simpa using HW.out
        go_wp2
        go_ret
        exact ⟨g, cap, rfl, ⟨hO.1, hO.2.imp id (fun ⟨gg, cc, cu, e1, e2, e3⟩ => ⟨gg, cc, cu, e1, by omega, e3⟩)⟩, hb⟩
theorem cells_of_fl {W : World} {b off n : Nat} {F : Nat → Fil} (h : FL W (some ⟨b, off, none⟩) n F) : ∀ j u, (flatL n F)[j]? = some u → W.cell? ((⟨b, off, none⟩ : Addr).add j) = some u := by
  intro j u hu
  obtain ⟨k, hk, h3⟩ := flatL_get F hu
  obtain ⟨b', off', e, c0, c1, c2⟩ := h k hk
  obtain ⟨rfl, rfl⟩ : b = b' ∧ off = off' := by simpa using e
  have hadd : (⟨b, off, none⟩ : Addr).add j = ⟨b, off + j, none⟩ := by unfold Addr.add; split <;> simp_all
  rw [hadd]
  rcases h3 with ⟨rfl, rfl⟩ | ⟨rfl, rfl⟩ | ⟨rfl, rfl⟩
  · exact c0
  · exact c1
  · exact c2
theorem rowG' {w w' : World} {q : Nat} {r : Option Nat} {o : Obj} (h : w.heap[q]? = some o) (hg : w.grownBy w' r) (hne : some q ≠ r) : w'.heap[q]? = some o := (hg.block q (Array.getElem?_eq_some_iff.1 h).1 hne).trans h
set_option maxRecDepth 20000 in
set_option maxHeartbeats 8000000 in
theorem sCopy (b off n c : Nat) (F : Nat → Fil) (x1 x2 x3 x4 : Int) (x5 : Bool) (w : World) (h : FL w (some ⟨b, off, none⟩) n F) (hn : n ≤ 2097152) : Calls Tryz.prog 17 #[.agg #[.slice (some ⟨b, off, none⟩) n c, .int .i64 x1, .int .i64 x2, .int .i64 x3, .int .i64 x4, .bool x5]] w fun e w' => ∃ g cap, e = .returned (.agg #[.slice (some ⟨g, 0, none⟩) n cap, .int .i64 x1, .int .i64 x2, .int .i64 x3, .int .i64 x4, .bool x5]) ∧ OwnF w' w.heap.size (.slice (some ⟨g, 0, none⟩) n cap) n F ∧ Below w.heap.size w w' := by
  obtain ⟨i0, hi, hz0, hz1, hz2⟩ := info_parts Tryz.infoFil
  have HI : Hid (Tryz.prog.info? 49 = some i0) := hi
  clear hi
  have hb0 : Below w.heap.size w (((w.alloc (.cells #[.slice (some ⟨b, off, none⟩) n c, .int .i64 x1, .int .i64 x2, .int .i64 x3, .int .i64 x4, .bool x5] 28)).alloc (.cells #[.slice none 0 0, .int .i64 0, .int .i64 0, .int .i64 0, .int .i64 0, .bool false] 28)).alloc (.cells #[] 49)) := bstep (bal _ _) (bstep (bal _ _) (bal _ _))
  have hX := rowL (rowL (heap_alloc_new w (.cells #[.slice (some ⟨b, off, none⟩) n c, .int .i64 x1, .int .i64 x2, .int .i64 x3, .int .i64 x4, .bool x5] 28)) (bal (w.alloc (.cells #[.slice (some ⟨b, off, none⟩) n c, .int .i64 x1, .int .i64 x2, .int .i64 x3, .int .i64 x4, .bool x5] 28)) (.cells #[.slice none 0 0, .int .i64 0, .int .i64 0, .int .i64 0, .int .i64 0, .bool false] 28))) (bal ((w.alloc (.cells #[.slice (some ⟨b, off, none⟩) n c, .int .i64 x1, .int .i64 x2, .int .i64 x3, .int .i64 x4, .bool x5] 28)).alloc (.cells #[.slice none 0 0, .int .i64 0, .int .i64 0, .int .i64 0, .int .i64 0, .bool false] 28)) (.cells #[] 49))
  have hR := heap_alloc_new (w.alloc (.cells #[.slice (some ⟨b, off, none⟩) n c, .int .i64 x1, .int .i64 x2, .int .i64 x3, .int .i64 x4, .bool x5] 28)) (.cells #[.slice none 0 0, .int .i64 0, .int .i64 0, .int .i64 0, .int .i64 0, .bool false] 28)
  rw [World.size_alloc] at hR
  replace hR := rowL hR (bal ((w.alloc (.cells #[.slice (some ⟨b, off, none⟩) n c, .int .i64 x1, .int .i64 x2, .int .i64 x3, .int .i64 x4, .bool x5] 28)).alloc (.cells #[.slice none 0 0, .int .i64 0, .int .i64 0, .int .i64 0, .int .i64 0, .bool false] 28)) (.cells #[] 49))
  have hs2 : ((w.alloc (.cells #[.slice (some ⟨b, off, none⟩) n c, .int .i64 x1, .int .i64 x2, .int .i64 x3, .int .i64 x4, .bool x5] 28)).alloc (.cells #[.slice none 0 0, .int .i64 0, .int .i64 0, .int .i64 0, .int .i64 0, .bool false] 28)).heap.size = w.heap.size + 1 + 1 := by simp
  have hO0 : (((w.alloc (.cells #[.slice (some ⟨b, off, none⟩) n c, .int .i64 x1, .int .i64 x2, .int .i64 x3, .int .i64 x4, .bool x5] 28)).alloc (.cells #[.slice none 0 0, .int .i64 0, .int .i64 0, .int .i64 0, .int .i64 0, .bool false] 28)).alloc (.cells #[] 49)).ownsRow (w.heap.size + 1 + 1) 49 3 (.slice (some ⟨w.heap.size + 1 + 1, 0, none⟩) 0 0) 0 [] := by
    have := World.ownsRow_lit (e := 49) (size := 3) ((w.alloc (.cells #[.slice (some ⟨b, off, none⟩) n c, .int .i64 x1, .int .i64 x2, .int .i64 x3, .int .i64 x4, .bool x5] 28)).alloc (.cells #[.slice none 0 0, .int .i64 0, .int .i64 0, .int .i64 0, .int .i64 0, .bool false] 28)) #[] 0 (Nat.le_refl _) (by simp [maxLen]) rfl
    rw [hs2] at this
    exact this
  have HN : Hid (∀ j u, (flatL n F)[j]? = some u → (((w.alloc (.cells #[.slice (some ⟨b, off, none⟩) n c, .int .i64 x1, .int .i64 x2, .int .i64 x3, .int .i64 x4, .bool x5] 28)).alloc (.cells #[.slice none 0 0, .int .i64 0, .int .i64 0, .int .i64 0, .int .i64 0, .bool false] 28)).alloc (.cells #[] 49)).cell? ((⟨b, off, none⟩ : Addr).add j) = some u) := cells_of_fl (h.later hb0)
  have hlen := flatL_len n F
  have hone := flatL_one n F
  have ux0 : (((w.alloc (.cells #[.slice (some ⟨b, off, none⟩) n c, .int .i64 x1, .int .i64 x2, .int .i64 x3, .int .i64 x4, .bool x5] 28)).alloc (.cells #[.slice none 0 0, .int .i64 0, .int .i64 0, .int .i64 0, .int .i64 0, .bool false] 28)).alloc (.cells #[] 49)).cell? ⟨w.heap.size, 0, none⟩ = some (.slice (some ⟨b, off, none⟩) n c) := (cell_of_row _ _ 0 _ _ _ hX).trans rfl
  go_enter Tryz.func17, Tryz.ntmps17
  go_upto_region 2 with (at_builtin; refine wpList_append_own _ rfl _ _ 26 rfl (w.heap.size + 1 + 1) 49 i0 _ 3 40 Tryz.underlying26 HI.out hz0 hz1 hz2 rfl (by omega) _ 0 _ rfl hO0 ⟨b, off, none⟩ n c (flatL n F) rfl hlen HN.out hone (by unfold maxLen; omega) (by omega) (by simp) ?_; intro v' w1 hown1 hgrow hnil; obtain ⟨g, cap, rfl⟩ : ∃ g cap, v' = .slice (some ⟨g, 0, none⟩) n cap := (by
    rcases hown1.2 with ⟨e, _⟩ | ⟨g, cap, _, e, _⟩
    · exact absurd (hnil.1 e).1 (by intro h; cases h)
    · exact ⟨g, cap, by simpa using e⟩); have hX1 := rowG' hX hgrow (by simp [Value.ownBlock, Act.eval]; omega); have xc0 : w1.cell? ⟨w.heap.size, 0, none⟩ = some (.slice (some ⟨b, off, none⟩) n c) := (cell_of_row _ _ 0 _ _ _ hX1).trans rfl; have xf0 : w1.frozen? ⟨w.heap.size, 0, none⟩ = false := frozen_of_row _ _ 0 _ _ hX1)
  replace hgrow : World.grownBy _ w1 (some (w.heap.size + 1 + 1)) := hgrow
  have hR1 := rowG' hR hgrow (by simp)
  have hX2 : (w1.setCell ⟨w.heap.size, 0, none⟩ (.slice (some ⟨g, 0, none⟩) n cap)).heap[w.heap.size]? = some (.cells #[.slice (some ⟨g, 0, none⟩) n cap, .int .i64 x1, .int .i64 x2, .int .i64 x3, .int .i64 x4, .bool x5] 28 (0, 0)) := heap_setCell_same _ _ 0 _ _ _ hX1
  have hR2 := rowO (B := w.heap.size) (i := 0) (v := .slice (some ⟨g, 0, none⟩) n cap) hR1 (by omega)
  have hg1 := hown1.lt g rfl
  have hO2 : OwnF (w1.setCell ⟨w.heap.size, 0, none⟩ (.slice (some ⟨g, 0, none⟩) n cap)) w.heap.size (.slice (some ⟨g, 0, none⟩) n cap) n F := by
    have h1 : OwnF w1 (w.heap.size + 1 + 1) (.slice (some ⟨g, 0, none⟩) n cap) n F := by unfold OwnF; simpa using hown1
    obtain ⟨cur, e1, e2, e3, e4, e5, e6⟩ := h1.cur
    exact OwnF.mk (rowO e1 (by omega)) (by omega) e3 e4 e5 e6
  have hb1 : Below w.heap.size w w1 := hb0.grown hgrow (by simp; omega) (fun q e => by have h1 : w.heap.size + 1 + 1 = q := (by simpa using e); omega)
  have hb2 := bset (B := w.heap.size) (i := 0) (v := .slice (some ⟨g, 0, none⟩) n cap) hb1 (Nat.le_refl _)
  obtain ⟨W2, hW2⟩ : ∃ W2, w1.setCell ⟨w.heap.size, 0, none⟩ (.slice (some ⟨g, 0, none⟩) n cap) = W2 := ⟨_, rfl⟩
  rw [hW2] at hX2 hR2 hO2 hb2 ⊢
  clear hW2 xc0 xf0 ux0
  have xc0 : W2.cell? ⟨w.heap.size, 0, none⟩ = some (.slice (some ⟨g, 0, none⟩) n cap) := (cell_of_row _ _ 0 _ _ _ hX2).trans rfl
  have xc1 : W2.cell? ⟨w.heap.size, 1, none⟩ = some (.int .i64 x1) := (cell_of_row _ _ 1 _ _ _ hX2).trans rfl
  have xc2 : W2.cell? ⟨w.heap.size, 2, none⟩ = some (.int .i64 x2) := (cell_of_row _ _ 2 _ _ _ hX2).trans rfl
  have xc3 : W2.cell? ⟨w.heap.size, 3, none⟩ = some (.int .i64 x3) := (cell_of_row _ _ 3 _ _ _ hX2).trans rfl
  have xc4 : W2.cell? ⟨w.heap.size, 4, none⟩ = some (.int .i64 x4) := (cell_of_row _ _ 4 _ _ _ hX2).trans rfl
  have xc5 : W2.cell? ⟨w.heap.size, 5, none⟩ = some (.bool x5) := (cell_of_row _ _ 5 _ _ _ hX2).trans rfl
  have rc0 : W2.cell? ⟨w.heap.size + 1, 0, none⟩ = some (.slice none 0 0) := (cell_of_row _ _ 0 _ _ _ hR2).trans rfl
  have rf0 : W2.frozen? ⟨w.heap.size + 1, 0, none⟩ = false := frozen_of_row _ _ 0 _ _ hR2
  have rc1 : W2.cell? ⟨w.heap.size + 1, 1, none⟩ = some (.int .i64 0) := (cell_of_row _ _ 1 _ _ _ hR2).trans rfl
  have rf1 : W2.frozen? ⟨w.heap.size + 1, 1, none⟩ = false := frozen_of_row _ _ 1 _ _ hR2
  have rc2 : W2.cell? ⟨w.heap.size + 1, 2, none⟩ = some (.int .i64 0) := (cell_of_row _ _ 2 _ _ _ hR2).trans rfl
  have rf2 : W2.frozen? ⟨w.heap.size + 1, 2, none⟩ = false := frozen_of_row _ _ 2 _ _ hR2
  have rc3 : W2.cell? ⟨w.heap.size + 1, 3, none⟩ = some (.int .i64 0) := (cell_of_row _ _ 3 _ _ _ hR2).trans rfl
  have rf3 : W2.frozen? ⟨w.heap.size + 1, 3, none⟩ = false := frozen_of_row _ _ 3 _ _ hR2
  have rc4 : W2.cell? ⟨w.heap.size + 1, 4, none⟩ = some (.int .i64 0) := (cell_of_row _ _ 4 _ _ _ hR2).trans rfl
  have rf4 : W2.frozen? ⟨w.heap.size + 1, 4, none⟩ = false := frozen_of_row _ _ 4 _ _ hR2
  have rc5 : W2.cell? ⟨w.heap.size + 1, 5, none⟩ = some (.bool false) := (cell_of_row _ _ 5 _ _ _ hR2).trans rfl
  have rf5 : W2.frozen? ⟨w.heap.size + 1, 5, none⟩ = false := frozen_of_row _ _ 5 _ _ hR2
  go_wp2
  refine bodyPost_ret (v := .agg #[.slice (some ⟨g, 0, none⟩) n cap, .int .i64 x1, .int .i64 x2, .int .i64 x3, .int .i64 x4, .bool x5]) (results_cell_row Tryz.results17 _ _ (w.heap.size + 1) 28 _ (0, 0) _ rfl (set6_row _ _ _ _ _ _ hR2) Tryz.underlying28 rfl (by kernel_rfl)) rfl ⟨g, cap, rfl, ?_, set6_below _ _ _ _ _ _ hb2 (by omega)⟩
  obtain ⟨cur, e1, e2, e3, e4, e5, e6⟩ := hO2.cur
  exact OwnF.mk (set6_oth _ _ _ _ _ _ e1 (by omega)) (by omega) e3 e4 e5 e6
end Go.Proofs.YtngppfjphbodcaaGreatDoor
