/-
  Recovery, the program's side: reading.
-/
import Derived.Test.YtngppfjphbodcaaGreatDoorQf
namespace Go.Proofs.YtngppfjphbodcaaGreatDoor
open Go.RowKit Go.Shelf
attribute [local go_sem] Oper.semAt_some
theorem wp_loop_k {P : Program} {Q : Exit → Act → World → Prop} {a : Act} {w : World} {c : Code} (I : Act → World → Prop) (μ : Act → World → Nat) (h₀ : I a w) (round : ∀ a w, I a w → ∀ K : Act → World → Prop, (∀ a' w', I a' w' → μ a' w' < μ a w → K a' w') → c.wp P (Exit.then K Q) a w) : (Code.loop c).wp P Q a w :=
  wp_loop I μ h₀ fun a w h => round a w h _ fun _ _ h1 h2 => ⟨h1, h2⟩
theorem tm68 (t : Array Value) (hs : t.size = 68) {A0 A2 A3 A4 A5 : Value} (h0 : t.getD 0 undef = A0) (h2 : t.getD 2 undef = A2) (h3 : t.getD 3 undef = A3) (h4 : t.getD 4 undef = A4) (h5 : t.getD 5 undef = A5) : ∃ u : Nat → Value, t = #[A0, u 1, A2, A3, A4, A5, u 6, u 7, u 8, u 9, u 10, u 11, u 12, u 13, u 14, u 15, u 16, u 17, u 18, u 19, u 20, u 21, u 22, u 23, u 24, u 25, u 26, u 27, u 28, u 29, u 30, u 31, u 32, u 33, u 34, u 35, u 36, u 37, u 38, u 39, u 40, u 41, u 42, u 43, u 44, u 45, u 46, u 47, u 48, u 49, u 50, u 51, u 52, u 53, u 54, u 55, u 56, u 57, u 58, u 59, u 60, u 61, u 62, u 63, u 64, u 65, u 66, u 67] := by
  refine ⟨fun i => t.getD i undef, ?_⟩
  subst h0 h2 h3 h4 h5
  have e : t.toList = (List.range 68).map (fun i => t.getD i undef) := by
    refine List.ext_getElem (by simp [hs]) (fun i h1 h2 => ?_)
    have hi : i < t.size := by simpa using h1
    simp [hi]
  have e2 : t = ((List.range 68).map (fun i => t.getD i undef)).toArray := by
    rw [← e]
  exact e2
def RI (w : World) (L : List Fil) (p : Nat) (a : Act) (W : World) : Prop := ∃ (l g gE cE : Nat) (E : List ByteArray) (Ds : List Nat), a.defers = Ds.map mk ∧ a.tmps.size = 68 ∧ a.tmps.getD 0 undef = .pointer (some ⟨p, 0, none⟩) ∧ a.tmps.getD 2 undef = .pointer (some ⟨w.heap.size, 0, none⟩) ∧ a.tmps.getD 3 undef = .pointer (some ⟨w.heap.size + 1, 0, none⟩) ∧ a.tmps.getD 4 undef = .pointer (some ⟨w.heap.size + 1 + 1 + 1, 0, none⟩) ∧ a.tmps.getD 5 undef = .pointer (some ⟨w.heap.size + 1 + 1 + 1 + 1, 0, none⟩) ∧ RS w W (l : Int) (g : Int) gE cE E ∧ Mk w W Ds ∧ Ds.Nodup ∧ Ds.length = l ∧ E.length ≤ 2000 ∧ ∃ f, rd L = rdF L f l E g ∧ abv L l < f ∧ abv L l + l ≤ 300
def BI (w : World) (m : Nat) (E : List ByteArray) (Ds : List Nat) (pre : List ByteArray) (V : World) : Prop := ∃ gE cE, RS w V (m : Int) (tw pre) gE cE (E ++ pre) ∧ Mk w V Ds ∧ (E ++ pre).length ≤ 2000
def BX (w : World) (m : Nat) (E : List ByteArray) (Ds : List Nat) (c : Code) (pre : List ByteArray) (V : World) : Prop := c = .ret ∧ ∃ gE cE, RZ w V (m : Int) (tw pre) gE cE (E ++ pre) ∧ Mk w V Ds ∧ 2000 < (E ++ pre).length
def ReadR (w : World) (E0 : List ByteArray) (l0 g0 : Nat) (e : Ending) (w' : World) : Prop := ∃ (l g : Int) (gE cE : Nat) (E : List ByteArray), e = .returned (.tuple #[.agg #[.int .i64 l, .int .i64 g], .slice (some ⟨gE, 0, none⟩) E.length cE]) ∧ OwnS w' w.heap.size gE cE E ∧ Below w.heap.size w w' ∧ ((2000 < E0.length ∧ 2000 < E.length) ∨ (E0.length ≤ 2000 ∧ l = (l0 : Int) ∧ E = E0 ∧ g = (g0 : Int)))
theorem read_leaves {w : World} {E0 : List ByteArray} {l0 g0 : Nat} {l g : Int} {gE cE : Nat} {E : List ByteArray} {tmps : Array Value} {Ds : List Nat} {V : World} (h2 : tmps.getD 2 undef = .pointer (some ⟨w.heap.size, 0, none⟩)) (h3 : tmps.getD 3 undef = .pointer (some ⟨w.heap.size + 1, 0, none⟩)) (hE : (2000 < E0.length ∧ 2000 < E.length) ∨ (E0.length ≤ 2000 ∧ l = (l0 : Int) ∧ E = E0 ∧ g = (g0 : Int))) (hN : Ds.Nodup) (hM : Mk w V Ds) (hZ : RZ w V l g gE cE E) : LeavesInM Fence.wide 5 Tryz.prog Tryz.f45 tmps (ReadR w E0 l0 g0) (Ds.map mk) .returning V :=
  leaves_marks (fun V hZ => ⟨_, results_c2 Tryz.results45 tmps V _ _ _ _ _ h2 hZ.r1 Tryz.underlying30 rfl (by kernel_rfl) _ _ _ _ _ h3 hZ.r2 Tryz.underlying31, l, g, gE, cE, E, rfl, hZ.ow, hZ.b, hE⟩) Ds V hN hM hZ
set_option maxRecDepth 100000 in
set_option maxHeartbeats 16000000 in
theorem iRead (p B : Nat) (L : List Fil) (x1 x2 x3 x4 : Int) (w : World) (h : Dk w p B L x1 x2 x3 x4 false) (hok : Ok6 L x1 x2 1048576) (hT : T10 w) (l0 g0 : Nat) (E0 : List ByteArray) (hrd : rd L = (l0, E0, g0)) :
    Calls Tryz.prog 45 #[.pointer (some ⟨p, 0, none⟩)] w (ReadR w E0 l0 g0) := by
  have hs := hok.good.pw.srt
  have hn := hok.good.len
  have hsum := hok.sum
  have HRD : Hid (rd L = (l0, E0, g0)) := hrd
  clear hrd
  obtain ⟨i0, hi, hz0, hz1, hz2⟩ := info_parts Tryz.infoS
  have HI : Hid (Tryz.prog.info? 9 = some i0) := hi
  clear hi
  refine callsIn_wide.1 (callsIn_of_wp_marks (n := 5) Tryz.func45 rfl trivial (wpIn_wide.2 ?_) rfl)
  simp only [Tryz.ntmps45, List.size_toArray, List.length_cons, List.length_nil, Nat.reduceAdd, Nat.reduceSub, Array.replicate_succ, Array.replicate_zero, List.push_toArray, List.append_toArray, List.nil_append, List.cons_append]
  go_wp2
  have hS0 := RS.new w
  refine wp_loop_k (RI w L p) (fun a _ => 302 - a.defers.length) ?start ?round
  case start => exact ⟨0, 0, _, 0, [], [], rfl, rfl, rfl, rfl, rfl, rfl, rfl, hS0, (fun D hD => by cases hD), List.nodup_nil, rfl, by simp, 301, rfl, by have := abv_le L 0; omega, by have := abv_le L 0; omega⟩
  case round =>
    clear hS0
    rintro ⟨t, ds⟩ W ⟨l, g, gE, cE, E, Ds, hd, hs8, q0, q2, q3, q4, q5, hS, hM, hND, hDl, hE2, f, hrf, hab, habl⟩ KR hKR
    obtain ⟨u, rfl⟩ := tm68 t hs8 q0 q2 q3 q4 q5
    simp only at hd
    subst hd
    clear hs8 q0 q2 q3 q4 q5
    have hKR' : Hid (∀ a' w', RI w L p a' w' → 302 - a'.defers.length < 302 - (Ds.map mk).length → KR a' w') := hKR
    clear hKR
    have hDk := h.later hS.b
    have hT' := hT.later hS.b
    obtain ⟨b0, b1⟩ := B2.of hS.lg
    obtain ⟨bf0, bf1⟩ := F2.of hS.lg
    by_cases hfd : fdN L (seg (l + 1)) < L.length
    · have hl3 : l + 1 ≤ 300 := by have := abv_step L l (by omega) hfd; omega
      obtain ⟨k, hk⟩ : ∃ k, fdN L (seg (l + 1)) = k := ⟨_, rfl⟩
      obtain ⟨n, hn'⟩ : ∃ n, L.length = n := ⟨_, rfl⟩
      have hkn : k < n := by rw [← hk, ← hn']; exact hfd
      obtain ⟨d, hd⟩ : ∃ d, (nthF L k).d = d := ⟨_, rfl⟩
      obtain ⟨xs, bb, hxs⟩ : ∃ xs bb, scn d = (xs, bb) := ⟨_, _, rfl⟩
      have hds : d.size ≤ 1048576 := by rw [← hd]; exact Nat.le_trans (sumL_one L k (by rw [hn']; exact hkn)) hsum
      have hsc := scn_ch d
      rw [hxs] at hsc
      obtain ⟨hC, hCe, hbd, hxl⟩ := hsc
      simp only at hC hCe hbd hxl
      obtain ⟨f, rfl⟩ : ∃ f', f = f' + 1 := ⟨f - 1, by omega⟩
      have hpre : (E ++ xs).length ≤ E0.length := by
        have h1 := HRD.out
        rw [hrf] at h1
        by_cases hb : bb < d.size
        · rw [rd_end L f l E g d hfd (by rw [hk]; exact hd) (by rw [hxs]; exact hb), hxs] at h1
          cases h1
          exact Nat.le_refl _
        · rw [rd_on L f l E g d hfd (by rw [hk]; exact hd) (by rw [hxs]; exact hb), hxs] at h1
          have h2 := rd_pre L f (l + 1) (E ++ xs) bb
          rw [h1] at h2
          exact h2
      have hnext : (bb < d.size → (l0, E0, g0) = (l + 1, E ++ xs, bb)) ∧ (¬ bb < d.size → rd L = rdF L f (l + 1) (E ++ xs) bb ∧ abv L (l + 1) < f ∧ abv L (l + 1) + (l + 1) ≤ 300) := by
        refine ⟨fun hb => ?_, fun hb => ⟨?_, ?_, ?_⟩⟩
        · rw [← HRD.out, hrf, rd_end L f l E g d hfd (by rw [hk]; exact hd) (by rw [hxs]; exact hb), hxs]
        · rw [hrf, rd_on L f l E g d hfd (by rw [hk]; exact hd) (by rw [hxs]; exact hb), hxs]
        · have := abv_step L l (by omega) hfd; omega
        · have := abv_step L l (by omega) hfd; omega
      have HNX : Hid ((bb < d.size → (l0, E0, g0) = (l + 1, E ++ xs, bb)) ∧ (¬ bb < d.size → rd L = rdF L f (l + 1) (E ++ xs) bb ∧ abv L (l + 1) < f ∧ abv L (l + 1) + (l + 1) ≤ 300)) := hnext
      have HK : Hid (fdN L (seg (l + 1)) < L.length → fdN L (seg (l + 1)) = k) := fun _ => hk
      have HN : Hid (L.length = n) := hn'
      clear hnext hk hrf hab habl
      have hk0 : (0 : Int) ≤ (k : Int) := by omega
      have hk1 : (k : Int) < (n : Int) := by omega
      go_upto_region 5 with (first | (go_at_call 56; refine (iSegmentE (l + 1) _ (by omega) _ (by omega) hT' (seg (l + 1)) rfl).mono ?_; rintro e w1 ⟨rfl, hb1⟩) | (go_at_call 55; refine (iPlaceE p B L x1 x2 x3 x4 false (seg (l + 1)) _ (hDk.later hb1) hs (by rw [HN.out]; omega)).mono ?_; rw [decide_eq_true hfd]; rintro e w2 ⟨i, rfl, hi, hb2⟩; have HIK : Hid (i = k) := (hi hfd).trans (HK.out hfd); clear hi))
      have hik : i = k := HIK.out
      clear HIK HK hfd
      subst hik
      have hb3 := bstep hb1 hb2
      have hS2 := hS.later hb3
      have hM2 := hM.later hb3
      clear hS hM hDk hT' b0 b1 bf0 bf1 hb3
      obtain ⟨b0, b1⟩ := B2.of hS2.lg
      obtain ⟨bf0, bf1⟩ := F2.of hS2.lg
      go_upto_region 6 with (fail)
      have hw1 : (l : Int) + 1 = ((l + 1 : Nat) : Int) := by omega
      rw [hw1]
      obtain ⟨m, hm⟩ : ∃ m, l + 1 = m := ⟨_, rfl⟩
      rw [hm]
      have HM : Hid (l + 1 = m) := hm
      have hm3 : m ≤ 300 := by omega
      clear hm hw1
      have hS5 := hS2.log (m : Int) 0
      have hM5 := hM2.log hS2 (.int .i64 (m : Int)) (.int .i64 0)
      clear b0 b1 bf0 bf1 hS2 hM2 hb1 hb2
      generalize (w2.setCell ⟨w.heap.size + 1 + 1 + 1, 0, none⟩ (.int .i64 (m : Int))).setCell ⟨w.heap.size + 1 + 1 + 1, 1, none⟩ (.int .i64 0) = W5 at hS5 hM5 ⊢
      obtain ⟨gF, cF, c4, -, c1, -⟩ := (h.later hS5.b).file n HN.out i hkn
      rw [hd] at c1
      go_wp2_with (go_at_call 57; refine (frames_any d _).mono ?_; rintro e w6 ⟨rfl, rfl⟩)
      have hbq := bal W5 (.cells #[.string d] 9)
      have hBn := heap_alloc_new W5 (.cells #[.string d] 9)
      have hSq := hS5.later hbq
      have hMq := hM5.later hbq
      have hBl : W5.heap.size < (W5.alloc (.cells #[.string d] 9)).heap.size := by simp
      clear hbq hS5 hM5 c4 c1
      generalize W5.heap.size = Bn at hBn hBl ⊢
      generalize W5.alloc (.cells #[.string d] 9) = Wq at hBn hBl hSq hMq ⊢
      have hsz := hSq.b.size
      have hBc : Wq.cell? ⟨Bn, 0, none⟩ = some (.string d) := (cell_of_row _ _ 0 _ _ _ hBn).trans rfl
      refine (wpIn_wide (n := 5)).1 ?_
      refine wpIn_rangeFunc_ownG rfl (by omega) (gf := 69) (lb := #[.pointer (some ⟨Bn, 0, none⟩)]) rfl trivial (enters_of Tryz.func69 (by kernel_rfl) rfl)
        (frames_stops 4 (by omega) Bn d hds xs bb hC hCe _ hBl hBc) KT.t KT.b (Below.refl _ _) (fun _ => rfl)
        (BI w m E Ds) (BX w m E Ds)
        ?ownI ?ownX ⟨gE, cE, by rw [List.append_nil]; exact hSq, hMq, by simpa using hE2⟩ (fun x => { tmps := #[.pointer (some ⟨p, 0, none⟩), u 1, .pointer (some ⟨w.heap.size, 0, none⟩), .pointer (some ⟨w.heap.size + 1, 0, none⟩), .pointer (some ⟨w.heap.size + 1 + 1 + 1, 0, none⟩), .pointer (some ⟨w.heap.size + 1 + 1 + 1 + 1, 0, none⟩), .int .i64 (i : Int), .bool true, .string x, u 9, u 10, .tuple #[.int .i64 (i : Int), .bool true], .pointer (some ⟨p, 0, none⟩), .pointer (some ⟨w.heap.size + 1 + 1 + 1, 0, none⟩), .int .i64 (l : Int), .int .i64 (m : Int), .string (seg m), .tuple #[.int .i64 (i : Int), .bool true], .int .i64 (i : Int), .bool true, .bool true, .bool false, u 22, u 23, .pointer (some ⟨w.heap.size + 1 + 1 + 1, 0, none⟩), .int .i64 (l : Int), .int .i64 (m : Int), .agg #[.int .i64 (m : Int), .int .i64 0], .pointer (some ⟨p, 0, none⟩), .pointer (some ⟨p, 0, none⟩), .pointer (some ⟨p, 4, none⟩), .slice (some ⟨gF, 0, none⟩) n cF, .int .i64 (i : Int), .pointer (some ⟨gF, i * 3, none⟩), .pointer (some ⟨gF, i * 3 + 1, none⟩), .string d, .func (.func 69) #[] #[.pointer (some ⟨Bn, 0, none⟩)], .string x, u 38, u 39, u 40, u 41, u 42, u 43, u 44, u 45, u 46, u 47, u 48, u 49, u 50, u 51, u 52, u 53, u 54, u 55, u 56, u 57, u 58, u 59, u 60, u 61, u 62, u 63, u 64, u 65, u 66, u 67], defers := [] }) ?assign ?body ?done ?stop
      case ownI =>
        rintro pre V V' row ⟨g1, c1, h1, h2, h3⟩ hg hr
        exact ⟨g1, c1, h1.gr hg (fun r e => (hr r e).2) (fun r e => Nat.le_trans hsz (hr r e).1), fun D hD => ⟨(h2 D hD).1, rowGr (h2 D hD).2 hg (fun e => by have h4 := (hr D e.symm).1; have h5 := hMq.lt hD; omega)⟩, h3⟩
      case ownX =>
        rintro c pre V V' row ⟨rfl, g1, c1, h1, h2, h3⟩ hg hr
        exact ⟨rfl, g1, c1, h1.gr hg (fun r e => (hr r e).2) (fun r e => Nat.le_trans hsz (hr r e).1), fun D hD => ⟨(h2 D hD).1, rowGr (h2 D hD).2 hg (fun e => by have h4 := (hr D e.symm).1; have h5 := hMq.lt hD; omega)⟩, h3⟩
      case assign =>
        intro lq x V K hK
        gi_wp2
        exact hK
      case body =>
        rintro lq pre x V ⟨g1, c1, hV, hMV, hl⟩ hlt
        have hKF : Hid (∀ y, E ++ (pre ++ [y]) = (E ++ pre) ++ [y]) := fun y => (List.append_assoc _ _ _).symm
        obtain ⟨F, hF⟩ : ∃ F, E ++ pre = F := ⟨_, rfl⟩
        rw [hF] at hV hl hKF
        clear hF
        have hj := (cell_of_row _ _ 0 _ _ _ hV.en).trans rfl
        have hszV := hV.b.size
        have HTW : Hid (tw (pre ++ [x]) = wrap64 (tw pre + wrap64 (8 + (x.size : Int)))) := tw_snoc pre x
        by_cases hmany : 2000 < F.length + 1
        · have hmi : (2000 : Int) < (F.length : Int) + 1 := by omega
          gi_wp2_with (gi_at_builtin; refine wpListIn_append_own _ rfl _ _ 31 rfl w.heap.size 9 i0 (.string ByteArray.empty) 1 16 Tryz.underlying31 HI.out hz0 hz1 hz2 rfl (by decide) (.slice (some ⟨g1, 0, none⟩) F.length c1) F.length _ rfl (own_below hV.ow (bal _ _)) ⟨V.heap.size, 0, none⟩ 1 1 [.string x] rfl rfl (cell_one_new _ _ _) (by simp [Value.oneCell']) (by unfold maxLen; omega) (by omega) (by simp; omega) ?_; intro v' V1 hown' hgrow _; obtain ⟨g', cap', rfl⟩ := ownsRow_succ hown'; obtain ⟨m1, m2, m3, m4⟩ := hV.mid hgrow; have j4 := (cell_of_row _ _ 0 _ _ _ m4).trans rfl; have jf4 := frozen_of_row _ _ 0 _ _ m4; obtain ⟨j0, j1⟩ := B2.of m3; obtain ⟨jf0, jf1⟩ := F2.of m3)
          have hA := hV.app hgrow hown'
          have hB := hA.siz (wrap64 (tw pre + wrap64 (8 + (x.size : Int))))
          have hK := hV.kept hgrow (.slice (some ⟨g', 0, none⟩) (F.length + 1) cap') (.int .i64 (wrap64 (tw pre + wrap64 (8 + (x.size : Int)))))
          rw [← HTW.out] at hB hK ⊢
          generalize (V1.setCell ⟨w.heap.size + 1 + 1 + 1 + 1, 0, none⟩ (.slice (some ⟨g', 0, none⟩) (F.length + 1) cap')).setCell ⟨w.heap.size + 1 + 1 + 1, 1, none⟩ (.int .i64 (tw (pre ++ [x]))) = VX at hB hK ⊢
          clear hA m1 m2 m3 m4 j4 jf4 j0 j1 jf0 jf1 hown' hgrow hj HTW
          generalize htx : tw (pre ++ [x]) = tx at hB ⊢
          have HTX : Hid (tw (pre ++ [x]) = tx) := htx
          clear htx
          obtain ⟨G, hG⟩ : ∃ G, F ++ [x] = G := ⟨_, rfl⟩
          have hGl : G.length = F.length + 1 := by rw [← hG]; simp
          rw [hG] at hB
          obtain ⟨p0, p1⟩ := B2.of hB.r1
          obtain ⟨pf0, pf1⟩ := F2.of hB.r1
          have y0 := (cell_of_row _ _ 0 _ _ _ hB.r2).trans rfl
          have yf0 := frozen_of_row _ _ 0 _ _ hB.r2
          obtain ⟨j0, j1⟩ := B2.of hB.lg
          have j2 := (cell_of_row _ _ 0 _ _ _ hB.en).trans rfl
          rw [hGl] at j2
          gi_region
          all_goals
            gi_wp2
            refine ⟨((hK.fin hV _ _ _).trans (RK.of (bdrew1 _))).from _, rfl, g', cap', ?_, ?_, ?_⟩
            · rw [hKF.out, hG, HTX.out]
              have hz := hB.fin
              rw [hGl] at hz
              exact hz.later (bdrew1 _)
            · exact ((hK.fin hV _ _ _).mks hMV).later (bdrew1 _)
            · rw [hKF.out, hG, hGl]
              exact hmany
        · have hmi : ¬ (2000 : Int) < (F.length : Int) + 1 := by omega
          gi_wp2_with (gi_at_builtin; refine wpListIn_append_own _ rfl _ _ 31 rfl w.heap.size 9 i0 (.string ByteArray.empty) 1 16 Tryz.underlying31 HI.out hz0 hz1 hz2 rfl (by decide) (.slice (some ⟨g1, 0, none⟩) F.length c1) F.length _ rfl (own_below hV.ow (bal _ _)) ⟨V.heap.size, 0, none⟩ 1 1 [.string x] rfl rfl (cell_one_new _ _ _) (by simp [Value.oneCell']) (by unfold maxLen; omega) (by omega) (by simp; omega) ?_; intro v' V1 hown' hgrow _; obtain ⟨g', cap', rfl⟩ := ownsRow_succ hown'; obtain ⟨m1, m2, m3, m4⟩ := hV.mid hgrow; have j4 := (cell_of_row _ _ 0 _ _ _ m4).trans rfl; have jf4 := frozen_of_row _ _ 0 _ _ m4; obtain ⟨j0, j1⟩ := B2.of m3; obtain ⟨jf0, jf1⟩ := F2.of m3)
          have hA := hV.app hgrow hown'
          have hB := hA.siz (wrap64 (tw pre + wrap64 (8 + (x.size : Int))))
          have hK := hV.kept hgrow (.slice (some ⟨g', 0, none⟩) (F.length + 1) cap') (.int .i64 (wrap64 (tw pre + wrap64 (8 + (x.size : Int)))))
          exact ⟨hK.from _, hK.kt, g', cap', by rw [hKF.out, HTW.out]; exact hB, hK.mks hMV, by rw [hKF.out]; simp; omega⟩
      case done =>
        rintro D ys V hD hys ⟨g1, c1, hV, hMV, hl⟩ hK
        rw [show ys = xs from hys] at hV hl
        have htw : tw xs = (bb : Int) := (tw_ch hds hC hbd 0 rfl).1
        rw [htw] at hV
        clear htw hys
        obtain ⟨G, hG⟩ : ∃ G, E ++ xs = G := ⟨_, rfl⟩
        have HG : Hid (E ++ xs = G) := hG
        rw [hG] at hV hl
        clear hG
        have hMD : Mk w V (D :: Ds) := fun D' hD' => by
          rcases List.mem_cons.1 hD' with rfl | h1
          · exact ⟨Nat.le_trans hsz hD, hK⟩
          · exact hMV D' h1
        have hNDD : (D :: Ds).Nodup := List.nodup_cons.2 ⟨fun h1 => by have h2 := hMq.lt h1; omega, hND⟩
        obtain ⟨gG, cG, c4, -, c2, -⟩ := (h.later hV.b).file n HN.out i hkn
        rw [hd] at c2
        go_upto_region 12 with (fail)
        by_cases hbb : bb < d.size
        · have hbi : (bb : Int) < (d.size : Int) := by omega
          refine wp_region_noPanic ?_
          refine wp_region_held_drew (S := fun x => Below V.heap.size V x) (by kernel_rfl) (bdrew1 _) (fun hHeld => ?_)
          refine' wpAnyH_take (i := 0) (oi := ({ dst := some 54, op := Op.fieldAddr 30 (Operand.tmp 4) 1, type := 0, pos := "l6_journal.go:392", after := #[], guard := none } : Oper)) (v := _) rfl (by kernel_rfl) (by kernel_rfl) (by kernel_rfl) (fun _ _ _ h => h) (Or.inl ⟨by rfl, fun x hSw => ?hyz1_0⟩) hHeld ?restz1_0
          case hyz1_0 =>
            have jl := rowL hV.lg hSw; obtain ⟨j0, j1⟩ := B2.of jl; have j4 := keepB hSw c4; have j5 := keepB hSw c2
            go_simp
            try with_reducible rfl
          try simp only [Act.put, List.setIfInBounds_toArray, List.set_cons_zero, List.set_cons_succ]
          refine' wpAnyH_take (i := 1) (oi := ({ dst := some 55, op := Op.load 3 (Operand.tmp 54), type := 3, pos := "l6_journal.go:392", after := #[{ on := 0, ground := Ground.data }], guard := none } : Oper)) (v := _) rfl (by kernel_rfl) (by kernel_rfl) (by kernel_rfl) (fun _ _ _ h => h) (Or.inl ⟨by rfl, fun x hSw => ?hyz1_1⟩) hHeld ?restz1_1
          case hyz1_1 =>
            have jl := rowL hV.lg hSw; obtain ⟨j0, j1⟩ := B2.of jl; have j4 := keepB hSw c4; have j5 := keepB hSw c2
            go_simp
            try with_reducible rfl
          try simp only [Act.put, List.setIfInBounds_toArray, List.set_cons_zero, List.set_cons_succ]
          refine' wpAnyH_take (i := 2) (oi := ({ dst := some 56, op := Op.move (Operand.tmp 0), type := 57, pos := "l6_journal.go:392", after := #[], guard := none } : Oper)) (v := _) rfl (by kernel_rfl) (by kernel_rfl) (by kernel_rfl) (fun _ _ _ h => h) (Or.inl ⟨by rfl, fun x hSw => ?hyz1_2⟩) hHeld ?restz1_2
          case hyz1_2 =>
            have jl := rowL hV.lg hSw; obtain ⟨j0, j1⟩ := B2.of jl; have j4 := keepB hSw c4; have j5 := keepB hSw c2
            go_simp
            try with_reducible rfl
          try simp only [Act.put, List.setIfInBounds_toArray, List.set_cons_zero, List.set_cons_succ]
          refine' wpAnyH_take (i := 3) (oi := ({ dst := some 57, op := Op.nilCheck (Operand.tmp 56), type := 0, pos := "l6_journal.go:392", after := #[{ on := 2, ground := Ground.data }], guard := none } : Oper)) (v := _) rfl (by kernel_rfl) (by kernel_rfl) (by kernel_rfl) (fun _ _ _ h => h) (Or.inl ⟨by rfl, fun x hSw => ?hyz1_3⟩) hHeld ?restz1_3
          case hyz1_3 =>
            have jl := rowL hV.lg hSw; obtain ⟨j0, j1⟩ := B2.of jl; have j4 := keepB hSw c4; have j5 := keepB hSw c2
            go_simp
            try with_reducible rfl
          try simp only [Act.put, List.setIfInBounds_toArray, List.set_cons_zero, List.set_cons_succ]
          refine' wpAnyH_take (i := 4) (oi := ({ dst := some 58, op := Op.fieldAddr 80 (Operand.tmp 57) 1, type := 0, pos := "l6_journal.go:392", after := #[{ on := 3, ground := Ground.data }], guard := none } : Oper)) (v := _) rfl (by kernel_rfl) (by kernel_rfl) (by kernel_rfl) (fun _ _ _ h => h) (Or.inl ⟨by rfl, fun x hSw => ?hyz1_4⟩) hHeld ?restz1_4
          case hyz1_4 =>
            have jl := rowL hV.lg hSw; obtain ⟨j0, j1⟩ := B2.of jl; have j4 := keepB hSw c4; have j5 := keepB hSw c2
            go_simp
            try with_reducible rfl
          try simp only [Act.put, List.setIfInBounds_toArray, List.set_cons_zero, List.set_cons_succ]
          refine' wpAnyH_take (i := 5) (oi := ({ dst := some 59, op := Op.load 26 (Operand.tmp 58), type := 26, pos := "l6_journal.go:392", after := #[{ on := 4, ground := Ground.data }], guard := none } : Oper)) (v := _) rfl (by kernel_rfl) (by kernel_rfl) (by kernel_rfl) (fun _ _ _ h => h) (Or.inl ⟨by rfl, fun x hSw => ?hyz1_5⟩) hHeld ?restz1_5
          case hyz1_5 =>
            have jl := rowL hV.lg hSw; obtain ⟨j0, j1⟩ := B2.of jl; have j4 := keepB hSw c4; have j5 := keepB hSw c2
            go_simp
            try with_reducible rfl
          try simp only [Act.put, List.setIfInBounds_toArray, List.set_cons_zero, List.set_cons_succ]
          refine' wpAnyH_take (i := 6) (oi := ({ dst := some 60, op := Op.move (Operand.tmp 6), type := 3, pos := "l6_journal.go:392", after := #[], guard := none } : Oper)) (v := _) rfl (by kernel_rfl) (by kernel_rfl) (by kernel_rfl) (fun _ _ _ h => h) (Or.inl ⟨by rfl, fun x hSw => ?hyz1_6⟩) hHeld ?restz1_6
          case hyz1_6 =>
            have jl := rowL hV.lg hSw; obtain ⟨j0, j1⟩ := B2.of jl; have j4 := keepB hSw c4; have j5 := keepB hSw c2
            go_simp
            try with_reducible rfl
          try simp only [Act.put, List.setIfInBounds_toArray, List.set_cons_zero, List.set_cons_succ]
          refine' wpAnyH_take (i := 7) (oi := ({ dst := some 61, op := Op.indexAddr 26 (Operand.tmp 59) (Operand.tmp 60), type := 0, pos := "l6_journal.go:392", after := #[{ on := 5, ground := Ground.data }, { on := 6, ground := Ground.data }], guard := none } : Oper)) (v := _) rfl (by kernel_rfl) (by kernel_rfl) (by kernel_rfl) (fun _ _ _ h => h) (Or.inl ⟨by rfl, fun x hSw => ?hyz1_7⟩) hHeld ?restz1_7
          case hyz1_7 =>
            have jl := rowL hV.lg hSw; obtain ⟨j0, j1⟩ := B2.of jl; have j4 := keepB hSw c4; have j5 := keepB hSw c2
            go_simp
            try with_reducible rfl
          try simp only [Act.put, List.setIfInBounds_toArray, List.set_cons_zero, List.set_cons_succ]
          refine' wpAnyH_take (i := 8) (oi := ({ dst := some 62, op := Op.fieldAddr 49 (Operand.tmp 61) 1, type := 0, pos := "l6_journal.go:392", after := #[{ on := 7, ground := Ground.data }], guard := none } : Oper)) (v := _) rfl (by kernel_rfl) (by kernel_rfl) (by kernel_rfl) (fun _ _ _ h => h) (Or.inl ⟨by rfl, fun x hSw => ?hyz1_8⟩) hHeld ?restz1_8
          case hyz1_8 =>
            have jl := rowL hV.lg hSw; obtain ⟨j0, j1⟩ := B2.of jl; have j4 := keepB hSw c4; have j5 := keepB hSw c2
            go_simp
            try with_reducible rfl
          try simp only [Act.put, List.setIfInBounds_toArray, List.set_cons_zero, List.set_cons_succ]
          refine' wpAnyH_take (i := 9) (oi := ({ dst := some 63, op := Op.load 9 (Operand.tmp 62), type := 9, pos := "l6_journal.go:392", after := #[{ on := 8, ground := Ground.data }], guard := none } : Oper)) (v := _) rfl (by kernel_rfl) (by kernel_rfl) (by kernel_rfl) (fun _ _ _ h => h) (Or.inl ⟨by rfl, fun x hSw => ?hyz1_9⟩) hHeld ?restz1_9
          case hyz1_9 =>
            have jl := rowL hV.lg hSw; obtain ⟨j0, j1⟩ := B2.of jl; have j4 := keepB hSw c4; have j5 := keepB hSw c2
            go_simp
            try with_reducible rfl
          try simp only [Act.put, List.setIfInBounds_toArray, List.set_cons_zero, List.set_cons_succ]
          refine' wpAnyH_take (i := 10) (oi := ({ dst := some 64, op := Op.call { callee := Callee.builtin Builtin.len, args := #[Operand.tmp 63], argTypes := #[9] }, type := 3, pos := "l6_journal.go:392", after := #[{ on := 9, ground := Ground.data }], guard := none } : Oper)) (v := _) rfl (by kernel_rfl) (by kernel_rfl) (by kernel_rfl) (fun _ _ _ h => h) (Or.inl ⟨by rfl, fun x hSw => ?hyz1_10⟩) hHeld ?restz1_10
          case hyz1_10 =>
            have jl := rowL hV.lg hSw; obtain ⟨j0, j1⟩ := B2.of jl; have j4 := keepB hSw c4; have j5 := keepB hSw c2
            go_simp
            try with_reducible rfl
          try simp only [Act.put, List.setIfInBounds_toArray, List.set_cons_zero, List.set_cons_succ]
          refine' wpAnyH_take (i := 11) (oi := ({ dst := some 65, op := Op.binOp BinOp.lss 3 (Operand.tmp 55) (Operand.tmp 64) 3, type := 4, pos := "l6_journal.go:392", after := #[{ on := 1, ground := Ground.data }, { on := 10, ground := Ground.data }], guard := none } : Oper)) (v := _) rfl (by kernel_rfl) (by kernel_rfl) (by kernel_rfl) (fun _ _ _ h => h) (Or.inl ⟨by rfl, fun x hSw => ?hyz1_11⟩) hHeld ?restz1_11
          case hyz1_11 =>
            have jl := rowL hV.lg hSw; obtain ⟨j0, j1⟩ := B2.of jl; have j4 := keepB hSw c4; have j5 := keepB hSw c2
            go_simp
            try with_reducible rfl
          try simp only [Act.put, List.setIfInBounds_toArray, List.set_cons_zero, List.set_cons_succ]
          refine wpAnyH_done (by kernel_rfl) ?_ _
          have HE : Hid ((2000 < E0.length ∧ 2000 < G.length) ∨ (E0.length ≤ 2000 ∧ (m : Int) = (l0 : Int) ∧ G = E0 ∧ (bb : Int) = (g0 : Int))) := by
            have h1 := HNX.out.1 hbb
            rw [HG.out, HM.out] at h1
            cases h1
            exact .inr ⟨hl, rfl, rfl, rfl⟩
          refine NoPanic.normal ?_
          go_upto_region 13 with (fail)
          have hS8 := hV.later (bdrew1 V)
          have hM8 := hMD.later (bdrew1 V)
          have hS9 := hS8.later (bdrew1 V.drew)
          have hM9 := hM8.later (bdrew1 V.drew)
          refine wp_region_noPanic ?_
          refine wp_region_held_drew (S := fun x => x.heap[w.heap.size + 1 + 1 + 1]? = some (.cells #[.int .i64 (m : Int), .int .i64 (bb : Int)] 30 (0, 0)) ∧ x.heap[w.heap.size + 1 + 1 + 1 + 1]? = some (.cells #[.slice (some ⟨g1, 0, none⟩) G.length c1] 31 (0, 0))) (by kernel_rfl) (⟨hS9.lg, hS9.en⟩) (fun hHeld => ?_)
          generalize V.drew.drew = v9 at hS9 hM9 hHeld ⊢
          refine' wpAnyH_take (i := 0) (oi := ({ dst := some 66, op := Op.load 30 (Operand.tmp 4), type := 30, pos := "l6_journal.go:393", after := #[], guard := none } : Oper)) (v := _) rfl (by kernel_rfl) (by kernel_rfl) (by kernel_rfl) (fun _ _ _ h => h) (Or.inl ⟨by rfl, fun x hSw => ?hyz3_0⟩) hHeld ?restz3_0
          case hyz3_0 =>
            obtain ⟨j0, j1⟩ := B2.of hSw.1; have j2 := (cell_of_row _ _ 0 _ _ _ hSw.2).trans rfl
            go_simp
            try with_reducible rfl
          try simp only [Act.put, List.setIfInBounds_toArray, List.set_cons_zero, List.set_cons_succ]
          refine' wpAnyH_take (i := 1) (oi := ({ dst := some 67, op := Op.load 31 (Operand.tmp 5), type := 31, pos := "l6_journal.go:393", after := #[], guard := none } : Oper)) (v := _) rfl (by kernel_rfl) (by kernel_rfl) (by kernel_rfl) (fun _ _ _ h => h) (Or.inl ⟨by rfl, fun x hSw => ?hyz3_1⟩) hHeld ?restz3_1
          case hyz3_1 =>
            obtain ⟨j0, j1⟩ := B2.of hSw.1; have j2 := (cell_of_row _ _ 0 _ _ _ hSw.2).trans rfl
            go_simp
            try with_reducible rfl
          try simp only [Act.put, List.setIfInBounds_toArray, List.set_cons_zero, List.set_cons_succ]
          refine wpAnyH_ready (rs := [2]) (by kernel_rfl) (by simp) ?_
          refine AllReadyH.cons (o := ({ dst := none, op := Op.store 30 (Operand.tmp 2) (Operand.tmp 66), type := 0, pos := "l6_journal.go:393", after := #[{ on := 0, ground := Ground.data }, { on := 0, ground := Ground.phase }, { on := 1, ground := Ground.textOnly Departure.inlinedCapture }], guard := none } : Oper)) rfl (fun K hK => ?_) AllReadyH.nil
          obtain ⟨p0, p1⟩ := B2.of hS9.r1; obtain ⟨pf0, pf1⟩ := F2.of hS9.r1
          go_simp
          refine hK.out _ _ (⟨set2_oth (Q := w.heap.size) _ _ hHeld.1 (by omega), set2_oth (Q := w.heap.size) _ _ hHeld.2 (by omega)⟩) (fun hHeld => ?_)
          clear hK K
          try simp only [Act.put, List.setIfInBounds_toArray, List.set_cons_zero, List.set_cons_succ]
          refine wpAnyH_ready (rs := [3]) (by kernel_rfl) (by simp) ?_
          refine AllReadyH.cons (o := ({ dst := none, op := Op.store 31 (Operand.tmp 3) (Operand.tmp 67), type := 0, pos := "l6_journal.go:393", after := #[{ on := 1, ground := Ground.data }, { on := 2, ground := Ground.chain }, { on := 0, ground := Ground.phase }, { on := 1, ground := Ground.phase }, { on := 2, ground := Ground.phase }], guard := none } : Oper)) rfl (fun K hK => ?_) AllReadyH.nil
          have y3 := set2_oth (.int .i64 (m : Int)) (.int .i64 (bb : Int)) (Q := w.heap.size) hS9.r2 (by omega); have y0 := (cell_of_row _ _ 0 _ _ _ y3).trans rfl; have yf0 := frozen_of_row _ _ 0 _ _ y3
          go_simp
          refine hK.out _ _ (⟨rowO (B := w.heap.size + 1) hHeld.1 (by omega), rowO (B := w.heap.size + 1) hHeld.2 (by omega)⟩) (fun hHeld => ?_)
          clear hK K
          try simp only [Act.put, List.setIfInBounds_toArray, List.set_cons_zero, List.set_cons_succ]
          refine wpAnyH_done (by kernel_rfl) ?_ _
          refine NoPanic.normal ?_
          go_wp2
          exact read_leaves rfl rfl HE.out hNDD (hM9.fin hS9 _ _ _) hS9.fin
        · have hbi : ¬ (bb : Int) < (d.size : Int) := by omega
          refine wp_region_noPanic ?_
          refine wp_region_held_drew (S := fun x => Below V.heap.size V x) (by kernel_rfl) (bdrew1 _) (fun hHeld => ?_)
          refine' wpAnyH_take (i := 0) (oi := ({ dst := some 54, op := Op.fieldAddr 30 (Operand.tmp 4) 1, type := 0, pos := "l6_journal.go:392", after := #[], guard := none } : Oper)) (v := _) rfl (by kernel_rfl) (by kernel_rfl) (by kernel_rfl) (fun _ _ _ h => h) (Or.inl ⟨by rfl, fun x hSw => ?hyz2_0⟩) hHeld ?restz2_0
          case hyz2_0 =>
            have jl := rowL hV.lg hSw; obtain ⟨j0, j1⟩ := B2.of jl; have j4 := keepB hSw c4; have j5 := keepB hSw c2
            go_simp
            try with_reducible rfl
          try simp only [Act.put, List.setIfInBounds_toArray, List.set_cons_zero, List.set_cons_succ]
          refine' wpAnyH_take (i := 1) (oi := ({ dst := some 55, op := Op.load 3 (Operand.tmp 54), type := 3, pos := "l6_journal.go:392", after := #[{ on := 0, ground := Ground.data }], guard := none } : Oper)) (v := _) rfl (by kernel_rfl) (by kernel_rfl) (by kernel_rfl) (fun _ _ _ h => h) (Or.inl ⟨by rfl, fun x hSw => ?hyz2_1⟩) hHeld ?restz2_1
          case hyz2_1 =>
            have jl := rowL hV.lg hSw; obtain ⟨j0, j1⟩ := B2.of jl; have j4 := keepB hSw c4; have j5 := keepB hSw c2
            go_simp
            try with_reducible rfl
          try simp only [Act.put, List.setIfInBounds_toArray, List.set_cons_zero, List.set_cons_succ]
          refine' wpAnyH_take (i := 2) (oi := ({ dst := some 56, op := Op.move (Operand.tmp 0), type := 57, pos := "l6_journal.go:392", after := #[], guard := none } : Oper)) (v := _) rfl (by kernel_rfl) (by kernel_rfl) (by kernel_rfl) (fun _ _ _ h => h) (Or.inl ⟨by rfl, fun x hSw => ?hyz2_2⟩) hHeld ?restz2_2
          case hyz2_2 =>
            have jl := rowL hV.lg hSw; obtain ⟨j0, j1⟩ := B2.of jl; have j4 := keepB hSw c4; have j5 := keepB hSw c2
            go_simp
            try with_reducible rfl
          try simp only [Act.put, List.setIfInBounds_toArray, List.set_cons_zero, List.set_cons_succ]
          refine' wpAnyH_take (i := 3) (oi := ({ dst := some 57, op := Op.nilCheck (Operand.tmp 56), type := 0, pos := "l6_journal.go:392", after := #[{ on := 2, ground := Ground.data }], guard := none } : Oper)) (v := _) rfl (by kernel_rfl) (by kernel_rfl) (by kernel_rfl) (fun _ _ _ h => h) (Or.inl ⟨by rfl, fun x hSw => ?hyz2_3⟩) hHeld ?restz2_3
          case hyz2_3 =>
            have jl := rowL hV.lg hSw; obtain ⟨j0, j1⟩ := B2.of jl; have j4 := keepB hSw c4; have j5 := keepB hSw c2
            go_simp
            try with_reducible rfl
          try simp only [Act.put, List.setIfInBounds_toArray, List.set_cons_zero, List.set_cons_succ]
          refine' wpAnyH_take (i := 4) (oi := ({ dst := some 58, op := Op.fieldAddr 80 (Operand.tmp 57) 1, type := 0, pos := "l6_journal.go:392", after := #[{ on := 3, ground := Ground.data }], guard := none } : Oper)) (v := _) rfl (by kernel_rfl) (by kernel_rfl) (by kernel_rfl) (fun _ _ _ h => h) (Or.inl ⟨by rfl, fun x hSw => ?hyz2_4⟩) hHeld ?restz2_4
          case hyz2_4 =>
            have jl := rowL hV.lg hSw; obtain ⟨j0, j1⟩ := B2.of jl; have j4 := keepB hSw c4; have j5 := keepB hSw c2
            go_simp
            try with_reducible rfl
          try simp only [Act.put, List.setIfInBounds_toArray, List.set_cons_zero, List.set_cons_succ]
          refine' wpAnyH_take (i := 5) (oi := ({ dst := some 59, op := Op.load 26 (Operand.tmp 58), type := 26, pos := "l6_journal.go:392", after := #[{ on := 4, ground := Ground.data }], guard := none } : Oper)) (v := _) rfl (by kernel_rfl) (by kernel_rfl) (by kernel_rfl) (fun _ _ _ h => h) (Or.inl ⟨by rfl, fun x hSw => ?hyz2_5⟩) hHeld ?restz2_5
          case hyz2_5 =>
            have jl := rowL hV.lg hSw; obtain ⟨j0, j1⟩ := B2.of jl; have j4 := keepB hSw c4; have j5 := keepB hSw c2
            go_simp
            try with_reducible rfl
          try simp only [Act.put, List.setIfInBounds_toArray, List.set_cons_zero, List.set_cons_succ]
          refine' wpAnyH_take (i := 6) (oi := ({ dst := some 60, op := Op.move (Operand.tmp 6), type := 3, pos := "l6_journal.go:392", after := #[], guard := none } : Oper)) (v := _) rfl (by kernel_rfl) (by kernel_rfl) (by kernel_rfl) (fun _ _ _ h => h) (Or.inl ⟨by rfl, fun x hSw => ?hyz2_6⟩) hHeld ?restz2_6
          case hyz2_6 =>
            have jl := rowL hV.lg hSw; obtain ⟨j0, j1⟩ := B2.of jl; have j4 := keepB hSw c4; have j5 := keepB hSw c2
            go_simp
            try with_reducible rfl
          try simp only [Act.put, List.setIfInBounds_toArray, List.set_cons_zero, List.set_cons_succ]
          refine' wpAnyH_take (i := 7) (oi := ({ dst := some 61, op := Op.indexAddr 26 (Operand.tmp 59) (Operand.tmp 60), type := 0, pos := "l6_journal.go:392", after := #[{ on := 5, ground := Ground.data }, { on := 6, ground := Ground.data }], guard := none } : Oper)) (v := _) rfl (by kernel_rfl) (by kernel_rfl) (by kernel_rfl) (fun _ _ _ h => h) (Or.inl ⟨by rfl, fun x hSw => ?hyz2_7⟩) hHeld ?restz2_7
          case hyz2_7 =>
            have jl := rowL hV.lg hSw; obtain ⟨j0, j1⟩ := B2.of jl; have j4 := keepB hSw c4; have j5 := keepB hSw c2
            go_simp
            try with_reducible rfl
          try simp only [Act.put, List.setIfInBounds_toArray, List.set_cons_zero, List.set_cons_succ]
          refine' wpAnyH_take (i := 8) (oi := ({ dst := some 62, op := Op.fieldAddr 49 (Operand.tmp 61) 1, type := 0, pos := "l6_journal.go:392", after := #[{ on := 7, ground := Ground.data }], guard := none } : Oper)) (v := _) rfl (by kernel_rfl) (by kernel_rfl) (by kernel_rfl) (fun _ _ _ h => h) (Or.inl ⟨by rfl, fun x hSw => ?hyz2_8⟩) hHeld ?restz2_8
          case hyz2_8 =>
            have jl := rowL hV.lg hSw; obtain ⟨j0, j1⟩ := B2.of jl; have j4 := keepB hSw c4; have j5 := keepB hSw c2
            go_simp
            try with_reducible rfl
          try simp only [Act.put, List.setIfInBounds_toArray, List.set_cons_zero, List.set_cons_succ]
          refine' wpAnyH_take (i := 9) (oi := ({ dst := some 63, op := Op.load 9 (Operand.tmp 62), type := 9, pos := "l6_journal.go:392", after := #[{ on := 8, ground := Ground.data }], guard := none } : Oper)) (v := _) rfl (by kernel_rfl) (by kernel_rfl) (by kernel_rfl) (fun _ _ _ h => h) (Or.inl ⟨by rfl, fun x hSw => ?hyz2_9⟩) hHeld ?restz2_9
          case hyz2_9 =>
            have jl := rowL hV.lg hSw; obtain ⟨j0, j1⟩ := B2.of jl; have j4 := keepB hSw c4; have j5 := keepB hSw c2
            go_simp
            try with_reducible rfl
          try simp only [Act.put, List.setIfInBounds_toArray, List.set_cons_zero, List.set_cons_succ]
          refine' wpAnyH_take (i := 10) (oi := ({ dst := some 64, op := Op.call { callee := Callee.builtin Builtin.len, args := #[Operand.tmp 63], argTypes := #[9] }, type := 3, pos := "l6_journal.go:392", after := #[{ on := 9, ground := Ground.data }], guard := none } : Oper)) (v := _) rfl (by kernel_rfl) (by kernel_rfl) (by kernel_rfl) (fun _ _ _ h => h) (Or.inl ⟨by rfl, fun x hSw => ?hyz2_10⟩) hHeld ?restz2_10
          case hyz2_10 =>
            have jl := rowL hV.lg hSw; obtain ⟨j0, j1⟩ := B2.of jl; have j4 := keepB hSw c4; have j5 := keepB hSw c2
            go_simp
            try with_reducible rfl
          try simp only [Act.put, List.setIfInBounds_toArray, List.set_cons_zero, List.set_cons_succ]
          refine' wpAnyH_take (i := 11) (oi := ({ dst := some 65, op := Op.binOp BinOp.lss 3 (Operand.tmp 55) (Operand.tmp 64) 3, type := 4, pos := "l6_journal.go:392", after := #[{ on := 1, ground := Ground.data }, { on := 10, ground := Ground.data }], guard := none } : Oper)) (v := _) rfl (by kernel_rfl) (by kernel_rfl) (by kernel_rfl) (fun _ _ _ h => h) (Or.inl ⟨by rfl, fun x hSw => ?hyz2_11⟩) hHeld ?restz2_11
          case hyz2_11 =>
            have jl := rowL hV.lg hSw; obtain ⟨j0, j1⟩ := B2.of jl; have j4 := keepB hSw c4; have j5 := keepB hSw c2
            go_simp
            try with_reducible rfl
          try simp only [Act.put, List.setIfInBounds_toArray, List.set_cons_zero, List.set_cons_succ]
          refine wpAnyH_done (by kernel_rfl) ?_ _
          refine NoPanic.normal ?_
          go_wp2
          obtain ⟨h1, h2, h3⟩ := HNX.out.2 hbb
          rw [HG.out, HM.out] at h1
          rw [HM.out] at h2 h3
          refine hKR'.out _ _ ⟨m, bb, g1, c1, G, D :: Ds, rfl, rfl, rfl, rfl, rfl, rfl, rfl, hV.later (bdrew1 V), hMD.later (bdrew1 V), hNDD, by rw [List.length_cons, hDl]; exact HM.out, hl, f, h1, h2, h3⟩ ?_
          show 302 - (mk D :: Ds.map mk).length < 302 - (Ds.map mk).length
          rw [List.length_cons, List.length_map]
          omega
      case stop =>
        rintro D c pre V hD hSp ⟨rfl, g1, c1, hZ, hMV, hl⟩ hK
        have hMD : Mk w V (D :: Ds) := fun D' hD' => by
          rcases List.mem_cons.1 hD' with rfl | h1
          · exact ⟨Nat.le_trans hsz hD, hK⟩
          · exact hMV D' h1
        have hNDD : (D :: Ds).Nodup := List.nodup_cons.2 ⟨fun h1 => by have h2 := hMq.lt h1; omega, hND⟩
        have hle : pre.length ≤ xs.length := List.IsPrefix.length_le hSp
        have HE : Hid (2000 < E0.length ∧ 2000 < (E ++ pre).length) := by
          refine ⟨?_, hl⟩
          rw [List.length_append] at hl hpre
          omega
        refine wpIn_wide.2 ?_
        go_wp2
        exact read_leaves rfl rfl (.inl HE.out) hNDD hMD hZ
    · have h1 := HRD.out
      rw [hrf, rd_no L f l E g hfd] at h1
      have HE : Hid ((2000 < E0.length ∧ 2000 < E.length) ∨ (E0.length ≤ 2000 ∧ (l : Int) = (l0 : Int) ∧ E = E0 ∧ (g : Int) = (g0 : Int))) := by
        cases h1
        exact .inr ⟨hE2, rfl, rfl, rfl⟩
      clear h1
      go_upto_region 4 with (first | (go_at_call 56; refine (iSegmentE (l + 1) _ (by omega) _ (by omega) hT' (seg (l + 1)) rfl).mono ?_; rintro e w1 ⟨rfl, hb1⟩) | (go_at_call 55; refine (iPlaceE p B L x1 x2 x3 x4 false (seg (l + 1)) _ (hDk.later hb1) hs hn).mono ?_; rw [decide_eq_false hfd]; rintro e w2 ⟨i, rfl, -, hb2⟩))
      have hb3 := bstep hb1 hb2
      have hS2 := hS.later hb3
      have hM2 := hM.later hb3
      clear hS hM
      have hS9 := hS2.later (bdrew1 w2)
      have hM9 := hM2.later (bdrew1 w2)
      refine wp_region_noPanic ?_
      refine wp_region_held_drew (S := fun x => x.heap[w.heap.size + 1 + 1 + 1]? = some (.cells #[.int .i64 (l : Int), .int .i64 (g : Int)] 30 (0, 0)) ∧ x.heap[w.heap.size + 1 + 1 + 1 + 1]? = some (.cells #[.slice (some ⟨gE, 0, none⟩) E.length cE] 31 (0, 0))) (by kernel_rfl) (⟨hS9.lg, hS9.en⟩) (fun hHeld => ?_)
      generalize w2.drew = v9 at hS9 hM9 hHeld ⊢
      refine' wpAnyH_take (i := 0) (oi := ({ dst := some 22, op := Op.load 30 (Operand.tmp 4), type := 30, pos := "l6_journal.go:382", after := #[], guard := none } : Oper)) (v := _) rfl (by kernel_rfl) (by kernel_rfl) (by kernel_rfl) (fun _ _ _ h => h) (Or.inl ⟨by rfl, fun x hSw => ?hyz4_0⟩) hHeld ?restz4_0
      case hyz4_0 =>
        obtain ⟨j0, j1⟩ := B2.of hSw.1; have j2 := (cell_of_row _ _ 0 _ _ _ hSw.2).trans rfl
        go_simp
        try with_reducible rfl
      try simp only [Act.put, List.setIfInBounds_toArray, List.set_cons_zero, List.set_cons_succ]
      refine' wpAnyH_take (i := 1) (oi := ({ dst := some 23, op := Op.load 31 (Operand.tmp 5), type := 31, pos := "l6_journal.go:382", after := #[], guard := none } : Oper)) (v := _) rfl (by kernel_rfl) (by kernel_rfl) (by kernel_rfl) (fun _ _ _ h => h) (Or.inl ⟨by rfl, fun x hSw => ?hyz4_1⟩) hHeld ?restz4_1
      case hyz4_1 =>
        obtain ⟨j0, j1⟩ := B2.of hSw.1; have j2 := (cell_of_row _ _ 0 _ _ _ hSw.2).trans rfl
        go_simp
        try with_reducible rfl
      try simp only [Act.put, List.setIfInBounds_toArray, List.set_cons_zero, List.set_cons_succ]
      refine wpAnyH_ready (rs := [2]) (by kernel_rfl) (by simp) ?_
      refine AllReadyH.cons (o := ({ dst := none, op := Op.store 30 (Operand.tmp 2) (Operand.tmp 22), type := 0, pos := "l6_journal.go:382", after := #[{ on := 0, ground := Ground.data }, { on := 0, ground := Ground.phase }, { on := 1, ground := Ground.textOnly Departure.inlinedCapture }], guard := none } : Oper)) rfl (fun K hK => ?_) AllReadyH.nil
      obtain ⟨p0, p1⟩ := B2.of hS9.r1; obtain ⟨pf0, pf1⟩ := F2.of hS9.r1
      go_simp
      refine hK.out _ _ (⟨set2_oth (Q := w.heap.size) _ _ hHeld.1 (by omega), set2_oth (Q := w.heap.size) _ _ hHeld.2 (by omega)⟩) (fun hHeld => ?_)
      clear hK K
      try simp only [Act.put, List.setIfInBounds_toArray, List.set_cons_zero, List.set_cons_succ]
      refine wpAnyH_ready (rs := [3]) (by kernel_rfl) (by simp) ?_
      refine AllReadyH.cons (o := ({ dst := none, op := Op.store 31 (Operand.tmp 3) (Operand.tmp 23), type := 0, pos := "l6_journal.go:382", after := #[{ on := 1, ground := Ground.data }, { on := 2, ground := Ground.chain }, { on := 0, ground := Ground.phase }, { on := 1, ground := Ground.phase }, { on := 2, ground := Ground.phase }], guard := none } : Oper)) rfl (fun K hK => ?_) AllReadyH.nil
      have y3 := set2_oth (.int .i64 (l : Int)) (.int .i64 (g : Int)) (Q := w.heap.size) hS9.r2 (by omega); have y0 := (cell_of_row _ _ 0 _ _ _ y3).trans rfl; have yf0 := frozen_of_row _ _ 0 _ _ y3
      go_simp
      refine hK.out _ _ (⟨rowO (B := w.heap.size + 1) hHeld.1 (by omega), rowO (B := w.heap.size + 1) hHeld.2 (by omega)⟩) (fun hHeld => ?_)
      clear hK K
      try simp only [Act.put, List.setIfInBounds_toArray, List.set_cons_zero, List.set_cons_succ]
      refine wpAnyH_done (by kernel_rfl) ?_ _
      refine NoPanic.normal ?_
      go_wp2
      exact read_leaves rfl rfl HE.out hND (hM9.fin hS9 _ _ _) hS9.fin
end Go.Proofs.YtngppfjphbodcaaGreatDoor
