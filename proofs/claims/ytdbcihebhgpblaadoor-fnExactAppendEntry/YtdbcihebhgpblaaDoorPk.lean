/-
  AppendEntry, the specification's side: the tail.
-/
import Derived.Test.YtdbcihebhgpblaaDoorPh
namespace Go.Proofs.YtdbcihebhgpblaaDoor
open Go.RowKit
set_option maxRecDepth 20000 in
set_option maxHeartbeats 8000000 in
theorem sTlD (K : Act → World → Prop) (b0 off0 c0 : Nat) (L : List Fil) (x1 x2 x3 x4 : Int) (x5 : Bool) (lA sA : Int) (f : ByteArray) (w wf : World) (ln : Nat) (L1 : List Fil) (y1 : Int) (d1 : Bool) (r1 : Int) (hr1 : FdAt L (seg ln) r1) (e1 : stS L x1 x2 x3 x4 x5 2 (seg ln) f 0 r1 = (L1, y1, d1, 11)) (hK : ∀ a y, Code.wp Tryd.prog (tl5 Tryd.f6.body) (bodyPost Tryd.prog Tryd.f6 (RE L1 x1 y1 x3 x4 d1 lA sA 11 w)) a y → K a y) (hXf : wf.heap[w.heap.size]? = some (.cells #[.slice (some ⟨b0, off0, none⟩) L.length c0, .int .i64 x1, .int .i64 x2, .int .i64 x3, .int .i64 x4, .bool x5] 30 (0, 0))) (hLf : wf.heap[w.heap.size + 1]? = some (.cells #[.int .i64 lA, .int .i64 sA] 31 (0, 0))) (hR8f : wf.heap[w.heap.size + 1 + 1]? = some (.cells #[.slice none 0 0, .int .i64 0, .int .i64 0, .int .i64 0, .int .i64 0, .bool false] 30 (0, 0))) (hR9f : wf.heap[w.heap.size + 1 + 1 + 1]? = some (.cells #[.int .i64 0, .int .i64 0] 31 (0, 0))) (hcf : Below w.heap.size w wf) (hFL : FL wf (some ⟨b0, off0, none⟩) L.length (nthF L)) (_hfz : f.size ≤ 65536) (_hs0 : 0 ≤ sA) (_hs1 : sA ≤ 1000000000) (hok : Ok6 L x1 x2 1048576) (h3 : 0 ≤ x3 ∧ x3 ≤ 1000000000000000) (h4 : 0 ≤ x4 ∧ x4 ≤ 1000000000000000) (HLN : Hid (lA = ln)) (_hln : ln ≤ 9999) (v0 v1 v2 v3 v6 v7 v10 v12 v13 v14 v15 v16 v17 v18 v19 v20 v21 v22 v23 v24 v25 v26 v27 v28 v29 v30 v31 v32 v33 v34 v35 v36 v37 v38 v39 v40 v41 v42 v43 v44 v45 v46 v47 v48 v49 v50 v51 v52 v53 v54 v55 v56 v57 v58 v59 v60 v61 v62 v63 v64 v65 v66 v67 v68 v69 v70 v71 v72 v73 v74 v75 v76 v77 v78 v79 v80 v81 v82 v83 v84 v85 v86 v87 v88 v89 v90 v91 v92 v93 v94 v95 v96 v97 v98 v99 v100 v101 v102 v103 v104 v105 v106 v107 v108 v109 v110 v111 v112 v113 v114 v115 v116 v117 v118 v119 v120 v121 v122 v123 v124 v125 v126 v127 v128 v129 v130 v131 v132 v133 v134 v135 v136 v137 v138 v139 v140 v141 : Value) :
    Code.wp Tryd.prog (Code.region 12 #[{ dst := some 81, op := Op.fieldAddr 31 (Operand.tmp 5) 0, type := 0, pos := "l6_journal.go:284", after := #[], guard := none }, { dst := some 82, op := Op.load 3 (Operand.tmp 81), type := 3, pos := "l6_journal.go:284", after := #[{ on := 0, ground := Ground.data }], guard := none }, { dst := some 83, op := Op.call { callee := Callee.value (Operand.func 24), args := #[Operand.tmp 82], argTypes := #[3] }, type := 9, pos := "l6_journal.go:284", after := #[{ on := 1, ground := Ground.data }], guard := none }, { dst := some 14, op := Op.assign (Operand.tmp 83), type := 9, pos := "l6_journal.go:284", after := #[{ on := 2, ground := Ground.data }, { on := 2, ground := Ground.chain }, { on := 0, ground := Ground.phase }, { on := 1, ground := Ground.phase }, { on := 2, ground := Ground.phase }], guard := none }] false) (Exit.then K (bodyPost Tryd.prog Tryd.f6 (RE L1 x1 y1 x3 x4 d1 lA sA 11 w))) { tmps := List.toArray (v0 :: v1 :: v2 :: v3 :: (.pointer (some ⟨w.heap.size, 0, none⟩)) :: (.pointer (some ⟨w.heap.size + 1, 0, none⟩)) :: v6 :: v7 :: (.pointer (some ⟨w.heap.size + 1 + 1, 0, none⟩)) :: (.pointer (some ⟨w.heap.size + 1 + 1 + 1, 0, none⟩)) :: v10 :: (.string f) :: v12 :: v13 :: v14 :: v15 :: v16 :: v17 :: v18 :: v19 :: v20 :: v21 :: v22 :: v23 :: v24 :: v25 :: v26 :: v27 :: v28 :: v29 :: v30 :: v31 :: v32 :: v33 :: v34 :: v35 :: v36 :: v37 :: v38 :: v39 :: v40 :: v41 :: v42 :: v43 :: v44 :: v45 :: v46 :: v47 :: v48 :: v49 :: v50 :: v51 :: v52 :: v53 :: v54 :: v55 :: v56 :: v57 :: v58 :: v59 :: v60 :: v61 :: v62 :: v63 :: v64 :: v65 :: v66 :: v67 :: v68 :: v69 :: v70 :: v71 :: v72 :: v73 :: v74 :: v75 :: v76 :: v77 :: v78 :: v79 :: v80 :: v81 :: v82 :: v83 :: v84 :: v85 :: v86 :: v87 :: v88 :: v89 :: v90 :: v91 :: v92 :: v93 :: v94 :: v95 :: v96 :: v97 :: v98 :: v99 :: v100 :: v101 :: v102 :: v103 :: v104 :: v105 :: v106 :: v107 :: v108 :: v109 :: v110 :: v111 :: v112 :: v113 :: v114 :: v115 :: v116 :: v117 :: v118 :: v119 :: v120 :: v121 :: v122 :: v123 :: v124 :: v125 :: v126 :: v127 :: v128 :: v129 :: v130 :: v131 :: v132 :: v133 :: v134 :: v135 :: v136 :: v137 :: v138 :: v139 :: v140 :: v141 :: []), defers := [] } wf := by
  generalize hB : bodyPost Tryd.prog Tryd.f6 (RE L1 x1 y1 x3 x4 d1 lA sA 11 w) = Qx at hK ⊢
  unfold Tryd.f6 at hK
  dsimp only [tl5] at hK
  subst hB
  obtain ⟨nm, hnm⟩ : ∃ nm, seg (ln) = nm := ⟨_, rfl⟩
  have hsg := seg_ok (ln)
  rw [hnm] at hsg
  rw [hnm] at hr1 e1
  have ok1 := hok.step hr1 hsg e1
  have E1 : Hid (stS L x1 x2 x3 x4 x5 2 nm f 0 r1 = (L1, y1, d1, 11)) := e1
  clear e1
  have hz : (⟨#[]⟩ : ByteArray).size = 0 := rfl
  obtain ⟨lc0, lc1⟩ := B2.of hLf
  go_upto_region 13 with (first | (go_at_call 24; refine (sSegmentE (ln) (lA) (HLN.out) _ (by have := HLN.out; omega) nm hnm).mono ?_; rintro e wg ⟨rfl, hbg⟩))
  have hXg := rowL hXf hbg
  have hLg := rowL hLf hbg
  have hR8g := rowL hR8f hbg
  have hR9g := rowL hR9f hbg
  have hcg := bstep hcf hbg
  obtain ⟨xc0, xc1, xc2, xc3, xc4, xc5⟩ := B6.of hXg
  go_upto_region 14 with (go_at_call 23; refine (sStepE b0 off0 c0 L x1 x2 x3 x4 x5 2 nm f 0 r1 L1 y1 d1 11 _ _ (hFL.later hbg) hok (by omega) (by omega) (by omega) hsg (by omega) h3 h4 hr1 E1.out).mono ?_; rintro e wi ⟨gi, cpi, rfl, hOi, hbi⟩)
  have hQj := heap_alloc_new wi (.cells #[.slice (some ⟨gi, 0, none⟩) L1.length cpi, .int .i64 x1, .int .i64 y1, .int .i64 x3, .int .i64 x4, .bool d1] 30)
  have hbj := bal wi (.cells #[.slice (some ⟨gi, 0, none⟩) L1.length cpi, .int .i64 x1, .int .i64 y1, .int .i64 x3, .int .i64 x4, .bool d1] 30)
  have hsi : w.heap.size + 1 + 1 + 1 < wi.heap.size := by have := (Array.getElem?_eq_some_iff.1 (rowL hR9g hbi)).1; omega
  generalize wi.alloc (.cells #[.slice (some ⟨gi, 0, none⟩) L1.length cpi, .int .i64 x1, .int .i64 y1, .int .i64 x3, .int .i64 x4, .bool d1] 30) = wj at hQj hbj ⊢
  have hXj := rowL hXg (bstep hbi hbj)
  have hLj := rowL hLg (bstep hbi hbj)
  have hR8j := rowL hR8g (bstep hbi hbj)
  have hR9j := rowL hR9g (bstep hbi hbj)
  have hcj := bstep hcg (bstep hbi hbj)
  have hOj := (hOi.later hbj).wk hcg.size
  go_upto_region 20 with (fail)
  have hKy : Ky w wj #[.slice (some ⟨b0, off0, none⟩) L.length c0, .int .i64 x1, .int .i64 x2, .int .i64 x3, .int .i64 x4, .bool x5] #[.int .i64 lA, .int .i64 sA] (wi.heap.size) #[.slice (some ⟨gi, 0, none⟩) L1.length cpi, .int .i64 x1, .int .i64 y1, .int .i64 x3, .int .i64 x4, .bool d1] := ⟨⟨hcj, hXj, hLj⟩, hQj⟩
  refine wp_region_held_drew (S := fun x => Ky w x #[.slice (some ⟨b0, off0, none⟩) L.length c0, .int .i64 x1, .int .i64 x2, .int .i64 x3, .int .i64 x4, .bool x5] #[.int .i64 lA, .int .i64 sA] (wi.heap.size) #[.slice (some ⟨gi, 0, none⟩) L1.length cpi, .int .i64 x1, .int .i64 y1, .int .i64 x3, .int .i64 x4, .bool d1]) (by kernel_rfl) (hKy.later (bdrew1 _)) (fun hHeld => ?_)
  refine' takeF (i := 0) (oi := ({ dst := some 118, op := Op.load 30 (Operand.tmp 15), type := 30, pos := "l6_journal.go:294", after := #[], guard := none } : Oper)) rfl ⟨by rfl, fun x hSw => ?h1⟩ hHeld ?r1
  case h1 =>
    obtain ⟨k0, k1, k2, k3, k4, k5⟩ := B6.of hSw.qr; obtain ⟨qc0, qc1⟩ := B2.of hSw.k.lr
    go_simp
    try with_reducible rfl
  try simp only [Act.put, List.setIfInBounds_toArray, List.set_cons_zero, List.set_cons_succ]
  refine' takeF (i := 1) (oi := ({ dst := some 119, op := Op.load 31 (Operand.tmp 5), type := 31, pos := "l6_journal.go:294", after := #[{ on := 3, ground := Ground.gcOnly Departure.lateStores }], guard := none } : Oper)) rfl ⟨by rfl, fun x hSw => ?h2⟩ hHeld ?r2
  case h2 =>
    obtain ⟨k0, k1, k2, k3, k4, k5⟩ := B6.of hSw.qr; obtain ⟨qc0, qc1⟩ := B2.of hSw.k.lr
    go_simp
    try with_reducible rfl
  try simp only [Act.put, List.setIfInBounds_toArray, List.set_cons_zero, List.set_cons_succ]
  refine' takeF (i := 2) (oi := ({ dst := some 120, op := Op.move (Operand.tmp 16), type := 3, pos := "l6_journal.go:294", after := #[{ on := 4, ground := Ground.gcOnly Departure.lateStores }], guard := none } : Oper)) rfl ⟨by rfl, fun x hSw => ?h3⟩ hHeld ?r3
  case h3 =>
    go_simp
    try with_reducible rfl
  try simp only [Act.put, List.setIfInBounds_toArray, List.set_cons_zero, List.set_cons_succ]
  refine wpAnyH_ready (rs := [3]) (by kernel_rfl) (by simp) ?_
  refine AllReadyH.cons (o := ({ dst := none, op := Op.store 30 (Operand.tmp 8) (Operand.tmp 118), type := 0, pos := "l6_journal.go:294", after := #[{ on := 0, ground := Ground.data }, { on := 0, ground := Ground.phase }, { on := 1, ground := Ground.textOnly Departure.lateStores }, { on := 2, ground := Ground.textOnly Departure.lateStores }], guard := none } : Oper)) rfl (fun K hK => ?_) AllReadyH.nil
  have hbz := bdrew1 wj; generalize wj.drew = wz at hbz hHeld ⊢; have hR8z := rowL hR8j hbz; have hR9z := rowL hR9j hbz; obtain ⟨rc0, rc1, rc2, rc3, rc4, rc5⟩ := B6.of hR8z; obtain ⟨rf0, rf1, rf2, rf3, rf4, rf5⟩ := F6.of hR8z
  go_simp
  refine hK.out _ _ (hHeld.set8 (by omega) (.slice (some ⟨gi, 0, none⟩) L1.length cpi) (.int .i64 x1) (.int .i64 y1) (.int .i64 x3) (.int .i64 x4) (.bool d1)) (fun hHeld => ?_)
  clear hK K
  try simp only [Act.put, List.setIfInBounds_toArray, List.set_cons_zero, List.set_cons_succ]
  refine wpAnyH_ready (rs := [4]) (by kernel_rfl) (by simp) ?_
  refine AllReadyH.cons (o := ({ dst := none, op := Op.store 31 (Operand.tmp 9) (Operand.tmp 119), type := 0, pos := "l6_journal.go:294", after := #[{ on := 1, ground := Ground.data }, { on := 3, ground := Ground.chain }, { on := 0, ground := Ground.phase }, { on := 1, ground := Ground.phase }, { on := 2, ground := Ground.textOnly Departure.lateStores }, { on := 3, ground := Ground.phase }], guard := none } : Oper)) rfl (fun K hK => ?_) AllReadyH.nil
  have hR9y := set6_oth (.slice (some ⟨gi, 0, none⟩) L1.length cpi) (.int .i64 x1) (.int .i64 y1) (.int .i64 x3) (.int .i64 x4) (.bool d1) (Q := w.heap.size + 1 + 1) hR9z (by omega); have t0 := (cell_of_row _ _ 0 _ _ _ hR9y).trans rfl; have tf0 := frozen_of_row _ _ 0 _ _ hR9y; have t1 := (cell_of_row _ _ 1 _ _ _ hR9y).trans rfl; have tf1 := frozen_of_row _ _ 1 _ _ hR9y
  go_simp
  refine hK.out _ _ (hHeld.set9 (by omega) (.int .i64 lA) (.int .i64 sA)) (fun hHeld => ?_)
  clear hK K
  try simp only [Act.put, List.setIfInBounds_toArray, List.set_cons_zero, List.set_cons_succ]
  refine' takeF (i := 5) (oi := ({ dst := some 10, op := Op.assign (Operand.tmp 120), type := 3, pos := "l6_journal.go:294", after := #[{ on := 2, ground := Ground.data }, { on := 4, ground := Ground.chain }, { on := 0, ground := Ground.phase }, { on := 1, ground := Ground.phase }, { on := 2, ground := Ground.phase }, { on := 3, ground := Ground.phase }, { on := 4, ground := Ground.phase }], guard := none } : Oper)) rfl ⟨by rfl, fun x hSw => ?h4⟩ hHeld ?r4
  case h4 =>
    go_simp
    try with_reducible rfl
  try simp only [Act.put, List.setIfInBounds_toArray, List.set_cons_zero, List.set_cons_succ]
  refine wpAnyH_done (by kernel_rfl) ?_ _
  go_wp2
  refine bodyPost_ret (results_cell2_tmp Tryd.results6 _ _ (w.heap.size + 1 + 1) 30 _ (0, 0) _ rfl (fin8 _ _ _ _ _ _ _ _ hR8z (by omega)) Tryd.underlying30 rfl (by kernel_rfl) (w.heap.size + 1 + 1 + 1) 31 _ (0, 0) _ rfl (fin9 _ _ _ _ _ _ _ _ hR9z (by omega)) Tryd.underlying31 rfl (by kernel_rfl)) rfl ?_
  exact ⟨_, _, rfl, (finO (hOj.later hbz) hR8z hR9z (by omega)).f, hHeld.k.b⟩
set_option maxRecDepth 20000 in
set_option maxHeartbeats 8000000 in
theorem sTlE0 (K : Act → World → Prop) (b0 off0 c0 : Nat) (L : List Fil) (x1 x2 x3 x4 : Int) (x5 : Bool) (lA sA : Int) (f : ByteArray) (w wf : World) (ln : Nat) (L1 : List Fil) (y1 : Int) (d1 : Bool) (c1 : Int) (hc10 : c1 ≠ 0) (hc111 : c1 ≠ 11) (L2 : List Fil) (y2 : Int) (d2 : Bool) (r1 : Int) (hr1 : FdAt L (seg ln) r1) (e1 : stS L x1 x2 x3 x4 x5 2 (seg ln) f 0 r1 = (L1, y1, d1, c1)) (r2 : Int) (hr2 : FdAt L1 (seg ln) r2) (e2 : stS L1 x1 y1 x3 x4 d1 4 (seg ln) ⟨#[]⟩ sA r2 = (L2, y2, d2, 0)) (hK : ∀ a y, Code.wp Tryd.prog (tl5 Tryd.f6.body) (bodyPost Tryd.prog Tryd.f6 (RE L2 x1 y2 x3 x4 d2 lA sA c1 w)) a y → K a y) (hXf : wf.heap[w.heap.size]? = some (.cells #[.slice (some ⟨b0, off0, none⟩) L.length c0, .int .i64 x1, .int .i64 x2, .int .i64 x3, .int .i64 x4, .bool x5] 30 (0, 0))) (hLf : wf.heap[w.heap.size + 1]? = some (.cells #[.int .i64 lA, .int .i64 sA] 31 (0, 0))) (hR8f : wf.heap[w.heap.size + 1 + 1]? = some (.cells #[.slice none 0 0, .int .i64 0, .int .i64 0, .int .i64 0, .int .i64 0, .bool false] 30 (0, 0))) (hR9f : wf.heap[w.heap.size + 1 + 1 + 1]? = some (.cells #[.int .i64 0, .int .i64 0] 31 (0, 0))) (hcf : Below w.heap.size w wf) (hFL : FL wf (some ⟨b0, off0, none⟩) L.length (nthF L)) (_hfz : f.size ≤ 65536) (_hs0 : 0 ≤ sA) (_hs1 : sA ≤ 1000000000) (hok : Ok6 L x1 x2 1048576) (h3 : 0 ≤ x3 ∧ x3 ≤ 1000000000000000) (h4 : 0 ≤ x4 ∧ x4 ≤ 1000000000000000) (HLN : Hid (lA = ln)) (_hln : ln ≤ 9999) (v0 v1 v2 v3 v6 v7 v10 v12 v13 v14 v15 v16 v17 v18 v19 v20 v21 v22 v23 v24 v25 v26 v27 v28 v29 v30 v31 v32 v33 v34 v35 v36 v37 v38 v39 v40 v41 v42 v43 v44 v45 v46 v47 v48 v49 v50 v51 v52 v53 v54 v55 v56 v57 v58 v59 v60 v61 v62 v63 v64 v65 v66 v67 v68 v69 v70 v71 v72 v73 v74 v75 v76 v77 v78 v79 v80 v81 v82 v83 v84 v85 v86 v87 v88 v89 v90 v91 v92 v93 v94 v95 v96 v97 v98 v99 v100 v101 v102 v103 v104 v105 v106 v107 v108 v109 v110 v111 v112 v113 v114 v115 v116 v117 v118 v119 v120 v121 v122 v123 v124 v125 v126 v127 v128 v129 v130 v131 v132 v133 v134 v135 v136 v137 v138 v139 v140 v141 : Value) :
    Code.wp Tryd.prog (Code.region 12 #[{ dst := some 81, op := Op.fieldAddr 31 (Operand.tmp 5) 0, type := 0, pos := "l6_journal.go:284", after := #[], guard := none }, { dst := some 82, op := Op.load 3 (Operand.tmp 81), type := 3, pos := "l6_journal.go:284", after := #[{ on := 0, ground := Ground.data }], guard := none }, { dst := some 83, op := Op.call { callee := Callee.value (Operand.func 24), args := #[Operand.tmp 82], argTypes := #[3] }, type := 9, pos := "l6_journal.go:284", after := #[{ on := 1, ground := Ground.data }], guard := none }, { dst := some 14, op := Op.assign (Operand.tmp 83), type := 9, pos := "l6_journal.go:284", after := #[{ on := 2, ground := Ground.data }, { on := 2, ground := Ground.chain }, { on := 0, ground := Ground.phase }, { on := 1, ground := Ground.phase }, { on := 2, ground := Ground.phase }], guard := none }] false) (Exit.then K (bodyPost Tryd.prog Tryd.f6 (RE L2 x1 y2 x3 x4 d2 lA sA c1 w))) { tmps := List.toArray (v0 :: v1 :: v2 :: v3 :: (.pointer (some ⟨w.heap.size, 0, none⟩)) :: (.pointer (some ⟨w.heap.size + 1, 0, none⟩)) :: v6 :: v7 :: (.pointer (some ⟨w.heap.size + 1 + 1, 0, none⟩)) :: (.pointer (some ⟨w.heap.size + 1 + 1 + 1, 0, none⟩)) :: v10 :: (.string f) :: v12 :: v13 :: v14 :: v15 :: v16 :: v17 :: v18 :: v19 :: v20 :: v21 :: v22 :: v23 :: v24 :: v25 :: v26 :: v27 :: v28 :: v29 :: v30 :: v31 :: v32 :: v33 :: v34 :: v35 :: v36 :: v37 :: v38 :: v39 :: v40 :: v41 :: v42 :: v43 :: v44 :: v45 :: v46 :: v47 :: v48 :: v49 :: v50 :: v51 :: v52 :: v53 :: v54 :: v55 :: v56 :: v57 :: v58 :: v59 :: v60 :: v61 :: v62 :: v63 :: v64 :: v65 :: v66 :: v67 :: v68 :: v69 :: v70 :: v71 :: v72 :: v73 :: v74 :: v75 :: v76 :: v77 :: v78 :: v79 :: v80 :: v81 :: v82 :: v83 :: v84 :: v85 :: v86 :: v87 :: v88 :: v89 :: v90 :: v91 :: v92 :: v93 :: v94 :: v95 :: v96 :: v97 :: v98 :: v99 :: v100 :: v101 :: v102 :: v103 :: v104 :: v105 :: v106 :: v107 :: v108 :: v109 :: v110 :: v111 :: v112 :: v113 :: v114 :: v115 :: v116 :: v117 :: v118 :: v119 :: v120 :: v121 :: v122 :: v123 :: v124 :: v125 :: v126 :: v127 :: v128 :: v129 :: v130 :: v131 :: v132 :: v133 :: v134 :: v135 :: v136 :: v137 :: v138 :: v139 :: v140 :: v141 :: []), defers := [] } wf := by
  generalize hB : bodyPost Tryd.prog Tryd.f6 (RE L2 x1 y2 x3 x4 d2 lA sA c1 w) = Qx at hK ⊢
  unfold Tryd.f6 at hK
  dsimp only [tl5] at hK
  subst hB
  obtain ⟨nm, hnm⟩ : ∃ nm, seg (ln) = nm := ⟨_, rfl⟩
  have hsg := seg_ok (ln)
  rw [hnm] at hsg
  rw [hnm] at hr1 e1
  have ok1 := hok.step hr1 hsg e1
  have E1 : Hid (stS L x1 x2 x3 x4 x5 2 nm f 0 r1 = (L1, y1, d1, c1)) := e1
  clear e1
  have nc10 : (c1 == 0) = false := by simp [hc10]
  have nc111 : (c1 == 11) = false := by simp [hc111]
  have hc116 : c1 ≠ 16 := st_16 E1.out (by omega)
  have nc116 : (c1 == 16) = false := by simp [hc116]
  rw [hnm] at hr2 e2
  have ok2 := ok1.step hr2 hsg e2
  have E2 : Hid (stS L1 x1 y1 x3 x4 d1 4 nm ⟨#[]⟩ sA r2 = (L2, y2, d2, 0)) := e2
  clear e2
  have hz : (⟨#[]⟩ : ByteArray).size = 0 := rfl
  obtain ⟨lc0, lc1⟩ := B2.of hLf
  go_upto_region 13 with (first | (go_at_call 24; refine (sSegmentE (ln) (lA) (HLN.out) _ (by have := HLN.out; omega) nm hnm).mono ?_; rintro e wg ⟨rfl, hbg⟩))
  have hXg := rowL hXf hbg
  have hLg := rowL hLf hbg
  have hR8g := rowL hR8f hbg
  have hR9g := rowL hR9f hbg
  have hcg := bstep hcf hbg
  obtain ⟨xc0, xc1, xc2, xc3, xc4, xc5⟩ := B6.of hXg
  go_upto_region 14 with (go_at_call 23; refine (sStepE b0 off0 c0 L x1 x2 x3 x4 x5 2 nm f 0 r1 L1 y1 d1 c1 _ _ (hFL.later hbg) hok (by omega) (by omega) (by omega) hsg (by omega) h3 h4 hr1 E1.out).mono ?_; rintro e wi ⟨gi, cpi, rfl, hOi, hbi⟩)
  have hQj := heap_alloc_new wi (.cells #[.slice (some ⟨gi, 0, none⟩) L1.length cpi, .int .i64 x1, .int .i64 y1, .int .i64 x3, .int .i64 x4, .bool d1] 30)
  have hbj := bal wi (.cells #[.slice (some ⟨gi, 0, none⟩) L1.length cpi, .int .i64 x1, .int .i64 y1, .int .i64 x3, .int .i64 x4, .bool d1] 30)
  have hsi : w.heap.size + 1 + 1 + 1 < wi.heap.size := by have := (Array.getElem?_eq_some_iff.1 (rowL hR9g hbi)).1; omega
  generalize wi.alloc (.cells #[.slice (some ⟨gi, 0, none⟩) L1.length cpi, .int .i64 x1, .int .i64 y1, .int .i64 x3, .int .i64 x4, .bool d1] 30) = wj at hQj hbj ⊢
  have hXj := rowL hXg (bstep hbi hbj)
  have hLj := rowL hLg (bstep hbi hbj)
  have hR8j := rowL hR8g (bstep hbi hbj)
  have hR9j := rowL hR9g (bstep hbi hbj)
  have hcj := bstep hcg (bstep hbi hbj)
  have hOj := (hOi.later hbj).wk hcg.size
  obtain ⟨ac0, ac1⟩ := B2.of hLj
  obtain ⟨bc0, bc1, bc2, bc3, bc4, bc5⟩ := B6.of hQj
  go_upto_region 22 with (go_at_call 23; refine (sStepE gi 0 cpi L1 x1 y1 x3 x4 d1 4 nm ⟨#[]⟩ sA r2 L2 y2 d2 0 _ _ hOj.f.fl ok1 (by omega) (by omega) (by omega) hsg (by omega) h3 h4 hr2 E2.out).mono ?_; rintro e wp ⟨gp, cpp, rfl, hOp, hbp⟩)
  have hQq := heap_alloc_new wp (.cells #[.slice (some ⟨gp, 0, none⟩) L2.length cpp, .int .i64 x1, .int .i64 y2, .int .i64 x3, .int .i64 x4, .bool d2] 30)
  have hbq := bal wp (.cells #[.slice (some ⟨gp, 0, none⟩) L2.length cpp, .int .i64 x1, .int .i64 y2, .int .i64 x3, .int .i64 x4, .bool d2] 30)
  have hsp := hbp.size
  have hsw : wi.heap.size < wj.heap.size := (Array.getElem?_eq_some_iff.1 hQj).1
  generalize wp.alloc (.cells #[.slice (some ⟨gp, 0, none⟩) L2.length cpp, .int .i64 x1, .int .i64 y2, .int .i64 x3, .int .i64 x4, .bool d2] 30) = wq at hQq hbq ⊢
  have hXq := rowL hXj (bstep hbp hbq)
  have hLq := rowL hLj (bstep hbp hbq)
  have hR8q := rowL hR8j (bstep hbp hbq)
  have hR9q := rowL hR9j (bstep hbp hbq)
  have hcq := bstep hcj (bstep hbp hbq)
  have hOq := (hOp.later hbq).wk hcj.size
  have hKy : Ky w wq #[.slice (some ⟨b0, off0, none⟩) L.length c0, .int .i64 x1, .int .i64 x2, .int .i64 x3, .int .i64 x4, .bool x5] #[.int .i64 lA, .int .i64 sA] wp.heap.size #[.slice (some ⟨gp, 0, none⟩) L2.length cpp, .int .i64 x1, .int .i64 y2, .int .i64 x3, .int .i64 x4, .bool d2] := ⟨⟨hcq, hXq, hLq⟩, hQq⟩
  go_upto_region 24 with (fail)
  refine wp_region_held_drew (S := fun x => Ky w x #[.slice (some ⟨b0, off0, none⟩) L.length c0, .int .i64 x1, .int .i64 x2, .int .i64 x3, .int .i64 x4, .bool x5] #[.int .i64 lA, .int .i64 sA] (wp.heap.size) #[.slice (some ⟨gp, 0, none⟩) L2.length cpp, .int .i64 x1, .int .i64 y2, .int .i64 x3, .int .i64 x4, .bool d2]) (by kernel_rfl) (hKy.later (bdrew1 _)) (fun hHeld => ?_)
  refine' takeF (i := 0) (oi := ({ dst := some 133, op := Op.load 30 (Operand.tmp 17), type := 30, pos := "l6_journal.go:299", after := #[], guard := none } : Oper)) rfl ⟨by rfl, fun x hSw => ?h5⟩ hHeld ?r5
  case h5 =>
    obtain ⟨k0, k1, k2, k3, k4, k5⟩ := B6.of hSw.qr; obtain ⟨qc0, qc1⟩ := B2.of hSw.k.lr
    go_simp
    try with_reducible rfl
  try simp only [Act.put, List.setIfInBounds_toArray, List.set_cons_zero, List.set_cons_succ]
  refine' takeF (i := 1) (oi := ({ dst := some 134, op := Op.load 31 (Operand.tmp 5), type := 31, pos := "l6_journal.go:299", after := #[{ on := 3, ground := Ground.gcOnly Departure.lateStores }], guard := none } : Oper)) rfl ⟨by rfl, fun x hSw => ?h6⟩ hHeld ?r6
  case h6 =>
    obtain ⟨k0, k1, k2, k3, k4, k5⟩ := B6.of hSw.qr; obtain ⟨qc0, qc1⟩ := B2.of hSw.k.lr
    go_simp
    try with_reducible rfl
  try simp only [Act.put, List.setIfInBounds_toArray, List.set_cons_zero, List.set_cons_succ]
  refine' takeF (i := 2) (oi := ({ dst := some 135, op := Op.move (Operand.tmp 16), type := 3, pos := "l6_journal.go:299", after := #[{ on := 4, ground := Ground.gcOnly Departure.lateStores }], guard := none } : Oper)) rfl ⟨by rfl, fun x hSw => ?h7⟩ hHeld ?r7
  case h7 =>
    go_simp
    try with_reducible rfl
  try simp only [Act.put, List.setIfInBounds_toArray, List.set_cons_zero, List.set_cons_succ]
  refine wpAnyH_ready (rs := [3]) (by kernel_rfl) (by simp) ?_
  refine AllReadyH.cons (o := ({ dst := none, op := Op.store 30 (Operand.tmp 8) (Operand.tmp 133), type := 0, pos := "l6_journal.go:299", after := #[{ on := 0, ground := Ground.data }, { on := 0, ground := Ground.phase }, { on := 1, ground := Ground.textOnly Departure.lateStores }, { on := 2, ground := Ground.textOnly Departure.lateStores }], guard := none } : Oper)) rfl (fun K hK => ?_) AllReadyH.nil
  have hbz := bdrew1 wq; generalize wq.drew = wz at hbz hHeld ⊢; have hR8z := rowL hR8q hbz; have hR9z := rowL hR9q hbz; obtain ⟨rc0, rc1, rc2, rc3, rc4, rc5⟩ := B6.of hR8z; obtain ⟨rf0, rf1, rf2, rf3, rf4, rf5⟩ := F6.of hR8z
  go_simp
  refine hK.out _ _ (hHeld.set8 (by omega) (.slice (some ⟨gp, 0, none⟩) L2.length cpp) (.int .i64 x1) (.int .i64 y2) (.int .i64 x3) (.int .i64 x4) (.bool d2)) (fun hHeld => ?_)
  clear hK K
  try simp only [Act.put, List.setIfInBounds_toArray, List.set_cons_zero, List.set_cons_succ]
  refine wpAnyH_ready (rs := [4]) (by kernel_rfl) (by simp) ?_
  refine AllReadyH.cons (o := ({ dst := none, op := Op.store 31 (Operand.tmp 9) (Operand.tmp 134), type := 0, pos := "l6_journal.go:299", after := #[{ on := 1, ground := Ground.data }, { on := 3, ground := Ground.chain }, { on := 0, ground := Ground.phase }, { on := 1, ground := Ground.phase }, { on := 2, ground := Ground.textOnly Departure.lateStores }, { on := 3, ground := Ground.phase }], guard := none } : Oper)) rfl (fun K hK => ?_) AllReadyH.nil
  have hR9y := set6_oth (.slice (some ⟨gp, 0, none⟩) L2.length cpp) (.int .i64 x1) (.int .i64 y2) (.int .i64 x3) (.int .i64 x4) (.bool d2) (Q := w.heap.size + 1 + 1) hR9z (by omega); have t0 := (cell_of_row _ _ 0 _ _ _ hR9y).trans rfl; have tf0 := frozen_of_row _ _ 0 _ _ hR9y; have t1 := (cell_of_row _ _ 1 _ _ _ hR9y).trans rfl; have tf1 := frozen_of_row _ _ 1 _ _ hR9y
  go_simp
  refine hK.out _ _ (hHeld.set9 (by omega) (.int .i64 lA) (.int .i64 sA)) (fun hHeld => ?_)
  clear hK K
  try simp only [Act.put, List.setIfInBounds_toArray, List.set_cons_zero, List.set_cons_succ]
  refine' takeF (i := 5) (oi := ({ dst := some 10, op := Op.assign (Operand.tmp 135), type := 3, pos := "l6_journal.go:299", after := #[{ on := 2, ground := Ground.data }, { on := 4, ground := Ground.chain }, { on := 0, ground := Ground.phase }, { on := 1, ground := Ground.phase }, { on := 2, ground := Ground.phase }, { on := 3, ground := Ground.phase }, { on := 4, ground := Ground.phase }], guard := none } : Oper)) rfl ⟨by rfl, fun x hSw => ?h8⟩ hHeld ?r8
  case h8 =>
    go_simp
    try with_reducible rfl
  try simp only [Act.put, List.setIfInBounds_toArray, List.set_cons_zero, List.set_cons_succ]
  refine wpAnyH_done (by kernel_rfl) ?_ _
  go_wp2
  refine bodyPost_ret (results_cell2_tmp Tryd.results6 _ _ (w.heap.size + 1 + 1) 30 _ (0, 0) _ rfl (fin8 _ _ _ _ _ _ _ _ hR8z (by omega)) Tryd.underlying30 rfl (by kernel_rfl) (w.heap.size + 1 + 1 + 1) 31 _ (0, 0) _ rfl (fin9 _ _ _ _ _ _ _ _ hR9z (by omega)) Tryd.underlying31 rfl (by kernel_rfl)) rfl ?_
  exact ⟨_, _, rfl, (finO (hOq.later hbz) hR8z hR9z (by omega)).f, hHeld.k.b⟩
set_option maxRecDepth 20000 in
set_option maxHeartbeats 8000000 in
theorem sTlE1 (K : Act → World → Prop) (b0 off0 c0 : Nat) (L : List Fil) (x1 x2 x3 x4 : Int) (x5 : Bool) (lA sA : Int) (f : ByteArray) (w wf : World) (ln : Nat) (L1 : List Fil) (y1 : Int) (d1 : Bool) (c1 : Int) (hc10 : c1 ≠ 0) (hc111 : c1 ≠ 11) (L2 : List Fil) (y2 : Int) (d2 : Bool) (r1 : Int) (hr1 : FdAt L (seg ln) r1) (e1 : stS L x1 x2 x3 x4 x5 2 (seg ln) f 0 r1 = (L1, y1, d1, c1)) (r2 : Int) (hr2 : FdAt L1 (seg ln) r2) (e2 : stS L1 x1 y1 x3 x4 d1 4 (seg ln) ⟨#[]⟩ sA r2 = (L2, y2, d2, 11)) (hK : ∀ a y, Code.wp Tryd.prog (tl5 Tryd.f6.body) (bodyPost Tryd.prog Tryd.f6 (RE L2 x1 y2 x3 x4 d2 lA sA 11 w)) a y → K a y) (hXf : wf.heap[w.heap.size]? = some (.cells #[.slice (some ⟨b0, off0, none⟩) L.length c0, .int .i64 x1, .int .i64 x2, .int .i64 x3, .int .i64 x4, .bool x5] 30 (0, 0))) (hLf : wf.heap[w.heap.size + 1]? = some (.cells #[.int .i64 lA, .int .i64 sA] 31 (0, 0))) (hR8f : wf.heap[w.heap.size + 1 + 1]? = some (.cells #[.slice none 0 0, .int .i64 0, .int .i64 0, .int .i64 0, .int .i64 0, .bool false] 30 (0, 0))) (hR9f : wf.heap[w.heap.size + 1 + 1 + 1]? = some (.cells #[.int .i64 0, .int .i64 0] 31 (0, 0))) (hcf : Below w.heap.size w wf) (hFL : FL wf (some ⟨b0, off0, none⟩) L.length (nthF L)) (_hfz : f.size ≤ 65536) (_hs0 : 0 ≤ sA) (_hs1 : sA ≤ 1000000000) (hok : Ok6 L x1 x2 1048576) (h3 : 0 ≤ x3 ∧ x3 ≤ 1000000000000000) (h4 : 0 ≤ x4 ∧ x4 ≤ 1000000000000000) (HLN : Hid (lA = ln)) (_hln : ln ≤ 9999) (v0 v1 v2 v3 v6 v7 v10 v12 v13 v14 v15 v16 v17 v18 v19 v20 v21 v22 v23 v24 v25 v26 v27 v28 v29 v30 v31 v32 v33 v34 v35 v36 v37 v38 v39 v40 v41 v42 v43 v44 v45 v46 v47 v48 v49 v50 v51 v52 v53 v54 v55 v56 v57 v58 v59 v60 v61 v62 v63 v64 v65 v66 v67 v68 v69 v70 v71 v72 v73 v74 v75 v76 v77 v78 v79 v80 v81 v82 v83 v84 v85 v86 v87 v88 v89 v90 v91 v92 v93 v94 v95 v96 v97 v98 v99 v100 v101 v102 v103 v104 v105 v106 v107 v108 v109 v110 v111 v112 v113 v114 v115 v116 v117 v118 v119 v120 v121 v122 v123 v124 v125 v126 v127 v128 v129 v130 v131 v132 v133 v134 v135 v136 v137 v138 v139 v140 v141 : Value) :
    Code.wp Tryd.prog (Code.region 12 #[{ dst := some 81, op := Op.fieldAddr 31 (Operand.tmp 5) 0, type := 0, pos := "l6_journal.go:284", after := #[], guard := none }, { dst := some 82, op := Op.load 3 (Operand.tmp 81), type := 3, pos := "l6_journal.go:284", after := #[{ on := 0, ground := Ground.data }], guard := none }, { dst := some 83, op := Op.call { callee := Callee.value (Operand.func 24), args := #[Operand.tmp 82], argTypes := #[3] }, type := 9, pos := "l6_journal.go:284", after := #[{ on := 1, ground := Ground.data }], guard := none }, { dst := some 14, op := Op.assign (Operand.tmp 83), type := 9, pos := "l6_journal.go:284", after := #[{ on := 2, ground := Ground.data }, { on := 2, ground := Ground.chain }, { on := 0, ground := Ground.phase }, { on := 1, ground := Ground.phase }, { on := 2, ground := Ground.phase }], guard := none }] false) (Exit.then K (bodyPost Tryd.prog Tryd.f6 (RE L2 x1 y2 x3 x4 d2 lA sA 11 w))) { tmps := List.toArray (v0 :: v1 :: v2 :: v3 :: (.pointer (some ⟨w.heap.size, 0, none⟩)) :: (.pointer (some ⟨w.heap.size + 1, 0, none⟩)) :: v6 :: v7 :: (.pointer (some ⟨w.heap.size + 1 + 1, 0, none⟩)) :: (.pointer (some ⟨w.heap.size + 1 + 1 + 1, 0, none⟩)) :: v10 :: (.string f) :: v12 :: v13 :: v14 :: v15 :: v16 :: v17 :: v18 :: v19 :: v20 :: v21 :: v22 :: v23 :: v24 :: v25 :: v26 :: v27 :: v28 :: v29 :: v30 :: v31 :: v32 :: v33 :: v34 :: v35 :: v36 :: v37 :: v38 :: v39 :: v40 :: v41 :: v42 :: v43 :: v44 :: v45 :: v46 :: v47 :: v48 :: v49 :: v50 :: v51 :: v52 :: v53 :: v54 :: v55 :: v56 :: v57 :: v58 :: v59 :: v60 :: v61 :: v62 :: v63 :: v64 :: v65 :: v66 :: v67 :: v68 :: v69 :: v70 :: v71 :: v72 :: v73 :: v74 :: v75 :: v76 :: v77 :: v78 :: v79 :: v80 :: v81 :: v82 :: v83 :: v84 :: v85 :: v86 :: v87 :: v88 :: v89 :: v90 :: v91 :: v92 :: v93 :: v94 :: v95 :: v96 :: v97 :: v98 :: v99 :: v100 :: v101 :: v102 :: v103 :: v104 :: v105 :: v106 :: v107 :: v108 :: v109 :: v110 :: v111 :: v112 :: v113 :: v114 :: v115 :: v116 :: v117 :: v118 :: v119 :: v120 :: v121 :: v122 :: v123 :: v124 :: v125 :: v126 :: v127 :: v128 :: v129 :: v130 :: v131 :: v132 :: v133 :: v134 :: v135 :: v136 :: v137 :: v138 :: v139 :: v140 :: v141 :: []), defers := [] } wf := by
  generalize hB : bodyPost Tryd.prog Tryd.f6 (RE L2 x1 y2 x3 x4 d2 lA sA 11 w) = Qx at hK ⊢
  unfold Tryd.f6 at hK
  dsimp only [tl5] at hK
  subst hB
  obtain ⟨nm, hnm⟩ : ∃ nm, seg (ln) = nm := ⟨_, rfl⟩
  have hsg := seg_ok (ln)
  rw [hnm] at hsg
  rw [hnm] at hr1 e1
  have ok1 := hok.step hr1 hsg e1
  have E1 : Hid (stS L x1 x2 x3 x4 x5 2 nm f 0 r1 = (L1, y1, d1, c1)) := e1
  clear e1
  have nc10 : (c1 == 0) = false := by simp [hc10]
  have nc111 : (c1 == 11) = false := by simp [hc111]
  have hc116 : c1 ≠ 16 := st_16 E1.out (by omega)
  have nc116 : (c1 == 16) = false := by simp [hc116]
  rw [hnm] at hr2 e2
  have ok2 := ok1.step hr2 hsg e2
  have E2 : Hid (stS L1 x1 y1 x3 x4 d1 4 nm ⟨#[]⟩ sA r2 = (L2, y2, d2, 11)) := e2
  clear e2
  have hz : (⟨#[]⟩ : ByteArray).size = 0 := rfl
  obtain ⟨lc0, lc1⟩ := B2.of hLf
  go_upto_region 13 with (first | (go_at_call 24; refine (sSegmentE (ln) (lA) (HLN.out) _ (by have := HLN.out; omega) nm hnm).mono ?_; rintro e wg ⟨rfl, hbg⟩))
  have hXg := rowL hXf hbg
  have hLg := rowL hLf hbg
  have hR8g := rowL hR8f hbg
  have hR9g := rowL hR9f hbg
  have hcg := bstep hcf hbg
  obtain ⟨xc0, xc1, xc2, xc3, xc4, xc5⟩ := B6.of hXg
  go_upto_region 14 with (go_at_call 23; refine (sStepE b0 off0 c0 L x1 x2 x3 x4 x5 2 nm f 0 r1 L1 y1 d1 c1 _ _ (hFL.later hbg) hok (by omega) (by omega) (by omega) hsg (by omega) h3 h4 hr1 E1.out).mono ?_; rintro e wi ⟨gi, cpi, rfl, hOi, hbi⟩)
  have hQj := heap_alloc_new wi (.cells #[.slice (some ⟨gi, 0, none⟩) L1.length cpi, .int .i64 x1, .int .i64 y1, .int .i64 x3, .int .i64 x4, .bool d1] 30)
  have hbj := bal wi (.cells #[.slice (some ⟨gi, 0, none⟩) L1.length cpi, .int .i64 x1, .int .i64 y1, .int .i64 x3, .int .i64 x4, .bool d1] 30)
  have hsi : w.heap.size + 1 + 1 + 1 < wi.heap.size := by have := (Array.getElem?_eq_some_iff.1 (rowL hR9g hbi)).1; omega
  generalize wi.alloc (.cells #[.slice (some ⟨gi, 0, none⟩) L1.length cpi, .int .i64 x1, .int .i64 y1, .int .i64 x3, .int .i64 x4, .bool d1] 30) = wj at hQj hbj ⊢
  have hXj := rowL hXg (bstep hbi hbj)
  have hLj := rowL hLg (bstep hbi hbj)
  have hR8j := rowL hR8g (bstep hbi hbj)
  have hR9j := rowL hR9g (bstep hbi hbj)
  have hcj := bstep hcg (bstep hbi hbj)
  have hOj := (hOi.later hbj).wk hcg.size
  obtain ⟨ac0, ac1⟩ := B2.of hLj
  obtain ⟨bc0, bc1, bc2, bc3, bc4, bc5⟩ := B6.of hQj
  go_upto_region 22 with (go_at_call 23; refine (sStepE gi 0 cpi L1 x1 y1 x3 x4 d1 4 nm ⟨#[]⟩ sA r2 L2 y2 d2 11 _ _ hOj.f.fl ok1 (by omega) (by omega) (by omega) hsg (by omega) h3 h4 hr2 E2.out).mono ?_; rintro e wp ⟨gp, cpp, rfl, hOp, hbp⟩)
  have hQq := heap_alloc_new wp (.cells #[.slice (some ⟨gp, 0, none⟩) L2.length cpp, .int .i64 x1, .int .i64 y2, .int .i64 x3, .int .i64 x4, .bool d2] 30)
  have hbq := bal wp (.cells #[.slice (some ⟨gp, 0, none⟩) L2.length cpp, .int .i64 x1, .int .i64 y2, .int .i64 x3, .int .i64 x4, .bool d2] 30)
  have hsp := hbp.size
  have hsw : wi.heap.size < wj.heap.size := (Array.getElem?_eq_some_iff.1 hQj).1
  generalize wp.alloc (.cells #[.slice (some ⟨gp, 0, none⟩) L2.length cpp, .int .i64 x1, .int .i64 y2, .int .i64 x3, .int .i64 x4, .bool d2] 30) = wq at hQq hbq ⊢
  have hXq := rowL hXj (bstep hbp hbq)
  have hLq := rowL hLj (bstep hbp hbq)
  have hR8q := rowL hR8j (bstep hbp hbq)
  have hR9q := rowL hR9j (bstep hbp hbq)
  have hcq := bstep hcj (bstep hbp hbq)
  have hOq := (hOp.later hbq).wk hcj.size
  have hKy : Ky w wq #[.slice (some ⟨b0, off0, none⟩) L.length c0, .int .i64 x1, .int .i64 x2, .int .i64 x3, .int .i64 x4, .bool x5] #[.int .i64 lA, .int .i64 sA] wp.heap.size #[.slice (some ⟨gp, 0, none⟩) L2.length cpp, .int .i64 x1, .int .i64 y2, .int .i64 x3, .int .i64 x4, .bool d2] := ⟨⟨hcq, hXq, hLq⟩, hQq⟩
  go_upto_region 26 with (fail)
  refine wp_region_held_drew (S := fun x => Ky w x #[.slice (some ⟨b0, off0, none⟩) L.length c0, .int .i64 x1, .int .i64 x2, .int .i64 x3, .int .i64 x4, .bool x5] #[.int .i64 lA, .int .i64 sA] (wp.heap.size) #[.slice (some ⟨gp, 0, none⟩) L2.length cpp, .int .i64 x1, .int .i64 y2, .int .i64 x3, .int .i64 x4, .bool d2]) (by kernel_rfl) (hKy.later (bdrew1 _)) (fun hHeld => ?_)
  refine' takeF (i := 0) (oi := ({ dst := some 138, op := Op.load 30 (Operand.tmp 17), type := 30, pos := "l6_journal.go:301", after := #[], guard := none } : Oper)) rfl ⟨by rfl, fun x hSw => ?h9⟩ hHeld ?r9
  case h9 =>
    obtain ⟨k0, k1, k2, k3, k4, k5⟩ := B6.of hSw.qr; obtain ⟨qc0, qc1⟩ := B2.of hSw.k.lr
    go_simp
    try with_reducible rfl
  try simp only [Act.put, List.setIfInBounds_toArray, List.set_cons_zero, List.set_cons_succ]
  refine' takeF (i := 1) (oi := ({ dst := some 139, op := Op.load 31 (Operand.tmp 5), type := 31, pos := "l6_journal.go:301", after := #[{ on := 2, ground := Ground.gcOnly Departure.lateStores }], guard := none } : Oper)) rfl ⟨by rfl, fun x hSw => ?h10⟩ hHeld ?r10
  case h10 =>
    obtain ⟨k0, k1, k2, k3, k4, k5⟩ := B6.of hSw.qr; obtain ⟨qc0, qc1⟩ := B2.of hSw.k.lr
    go_simp
    try with_reducible rfl
  try simp only [Act.put, List.setIfInBounds_toArray, List.set_cons_zero, List.set_cons_succ]
  refine wpAnyH_ready (rs := [2]) (by kernel_rfl) (by simp) ?_
  refine AllReadyH.cons (o := ({ dst := none, op := Op.store 30 (Operand.tmp 8) (Operand.tmp 138), type := 0, pos := "l6_journal.go:301", after := #[{ on := 0, ground := Ground.data }, { on := 0, ground := Ground.phase }, { on := 1, ground := Ground.textOnly Departure.lateStores }], guard := none } : Oper)) rfl (fun K hK => ?_) AllReadyH.nil
  have hbz := bdrew1 wq; generalize wq.drew = wz at hbz hHeld ⊢; have hR8z := rowL hR8q hbz; have hR9z := rowL hR9q hbz; obtain ⟨rc0, rc1, rc2, rc3, rc4, rc5⟩ := B6.of hR8z; obtain ⟨rf0, rf1, rf2, rf3, rf4, rf5⟩ := F6.of hR8z
  go_simp
  refine hK.out _ _ (hHeld.set8 (by omega) (.slice (some ⟨gp, 0, none⟩) L2.length cpp) (.int .i64 x1) (.int .i64 y2) (.int .i64 x3) (.int .i64 x4) (.bool d2)) (fun hHeld => ?_)
  clear hK K
  try simp only [Act.put, List.setIfInBounds_toArray, List.set_cons_zero, List.set_cons_succ]
  refine wpAnyH_ready (rs := [3]) (by kernel_rfl) (by simp) ?_
  refine AllReadyH.cons (o := ({ dst := none, op := Op.store 31 (Operand.tmp 9) (Operand.tmp 139), type := 0, pos := "l6_journal.go:301", after := #[{ on := 1, ground := Ground.data }, { on := 2, ground := Ground.chain }, { on := 0, ground := Ground.phase }, { on := 1, ground := Ground.phase }, { on := 2, ground := Ground.phase }], guard := none } : Oper)) rfl (fun K hK => ?_) AllReadyH.nil
  have hR9y := set6_oth (.slice (some ⟨gp, 0, none⟩) L2.length cpp) (.int .i64 x1) (.int .i64 y2) (.int .i64 x3) (.int .i64 x4) (.bool d2) (Q := w.heap.size + 1 + 1) hR9z (by omega); have t0 := (cell_of_row _ _ 0 _ _ _ hR9y).trans rfl; have tf0 := frozen_of_row _ _ 0 _ _ hR9y; have t1 := (cell_of_row _ _ 1 _ _ _ hR9y).trans rfl; have tf1 := frozen_of_row _ _ 1 _ _ hR9y
  go_simp
  refine hK.out _ _ (hHeld.set9 (by omega) (.int .i64 lA) (.int .i64 sA)) (fun hHeld => ?_)
  clear hK K
  try simp only [Act.put, List.setIfInBounds_toArray, List.set_cons_zero, List.set_cons_succ]
  refine' takeF (i := 4) (oi := ({ dst := some 10, op := Op.assign (Operand.const (Value.int IntKind.i64 11)), type := 3, pos := "l6_journal.go:301", after := #[{ on := 3, ground := Ground.chain }, { on := 0, ground := Ground.phase }, { on := 1, ground := Ground.phase }, { on := 2, ground := Ground.phase }, { on := 3, ground := Ground.phase }], guard := none } : Oper)) rfl ⟨by rfl, fun x hSw => ?h11⟩ hHeld ?r11
  case h11 =>
    go_simp
    try with_reducible rfl
  try simp only [Act.put, List.setIfInBounds_toArray, List.set_cons_zero, List.set_cons_succ]
  refine wpAnyH_done (by kernel_rfl) ?_ _
  go_wp2
  refine bodyPost_ret (results_cell2_tmp Tryd.results6 _ _ (w.heap.size + 1 + 1) 30 _ (0, 0) _ rfl (fin8 _ _ _ _ _ _ _ _ hR8z (by omega)) Tryd.underlying30 rfl (by kernel_rfl) (w.heap.size + 1 + 1 + 1) 31 _ (0, 0) _ rfl (fin9 _ _ _ _ _ _ _ _ hR9z (by omega)) Tryd.underlying31 rfl (by kernel_rfl)) rfl ?_
  exact ⟨_, _, rfl, (finO (hOq.later hbz) hR8z hR9z (by omega)).f, hHeld.k.b⟩
set_option maxRecDepth 20000 in
set_option maxHeartbeats 8000000 in
theorem sTlE2 (K : Act → World → Prop) (b0 off0 c0 : Nat) (L : List Fil) (x1 x2 x3 x4 : Int) (x5 : Bool) (lA sA : Int) (f : ByteArray) (w wf : World) (ln : Nat) (L1 : List Fil) (y1 : Int) (d1 : Bool) (c1 : Int) (hc10 : c1 ≠ 0) (hc111 : c1 ≠ 11) (L2 : List Fil) (y2 : Int) (d2 : Bool) (c3 : Int) (hc30 : c3 ≠ 0) (hc311 : c3 ≠ 11) (r1 : Int) (hr1 : FdAt L (seg ln) r1) (e1 : stS L x1 x2 x3 x4 x5 2 (seg ln) f 0 r1 = (L1, y1, d1, c1)) (r2 : Int) (hr2 : FdAt L1 (seg ln) r2) (e2 : stS L1 x1 y1 x3 x4 d1 4 (seg ln) ⟨#[]⟩ sA r2 = (L2, y2, d2, c3)) (hK : ∀ a y, Code.wp Tryd.prog (tl5 Tryd.f6.body) (bodyPost Tryd.prog Tryd.f6 (RE L2 x1 y2 x3 x4 d2 lA sA 20 w)) a y → K a y) (hXf : wf.heap[w.heap.size]? = some (.cells #[.slice (some ⟨b0, off0, none⟩) L.length c0, .int .i64 x1, .int .i64 x2, .int .i64 x3, .int .i64 x4, .bool x5] 30 (0, 0))) (hLf : wf.heap[w.heap.size + 1]? = some (.cells #[.int .i64 lA, .int .i64 sA] 31 (0, 0))) (hR8f : wf.heap[w.heap.size + 1 + 1]? = some (.cells #[.slice none 0 0, .int .i64 0, .int .i64 0, .int .i64 0, .int .i64 0, .bool false] 30 (0, 0))) (hR9f : wf.heap[w.heap.size + 1 + 1 + 1]? = some (.cells #[.int .i64 0, .int .i64 0] 31 (0, 0))) (hcf : Below w.heap.size w wf) (hFL : FL wf (some ⟨b0, off0, none⟩) L.length (nthF L)) (_hfz : f.size ≤ 65536) (_hs0 : 0 ≤ sA) (_hs1 : sA ≤ 1000000000) (hok : Ok6 L x1 x2 1048576) (h3 : 0 ≤ x3 ∧ x3 ≤ 1000000000000000) (h4 : 0 ≤ x4 ∧ x4 ≤ 1000000000000000) (HLN : Hid (lA = ln)) (_hln : ln ≤ 9999) (v0 v1 v2 v3 v6 v7 v10 v12 v13 v14 v15 v16 v17 v18 v19 v20 v21 v22 v23 v24 v25 v26 v27 v28 v29 v30 v31 v32 v33 v34 v35 v36 v37 v38 v39 v40 v41 v42 v43 v44 v45 v46 v47 v48 v49 v50 v51 v52 v53 v54 v55 v56 v57 v58 v59 v60 v61 v62 v63 v64 v65 v66 v67 v68 v69 v70 v71 v72 v73 v74 v75 v76 v77 v78 v79 v80 v81 v82 v83 v84 v85 v86 v87 v88 v89 v90 v91 v92 v93 v94 v95 v96 v97 v98 v99 v100 v101 v102 v103 v104 v105 v106 v107 v108 v109 v110 v111 v112 v113 v114 v115 v116 v117 v118 v119 v120 v121 v122 v123 v124 v125 v126 v127 v128 v129 v130 v131 v132 v133 v134 v135 v136 v137 v138 v139 v140 v141 : Value) :
    Code.wp Tryd.prog (Code.region 12 #[{ dst := some 81, op := Op.fieldAddr 31 (Operand.tmp 5) 0, type := 0, pos := "l6_journal.go:284", after := #[], guard := none }, { dst := some 82, op := Op.load 3 (Operand.tmp 81), type := 3, pos := "l6_journal.go:284", after := #[{ on := 0, ground := Ground.data }], guard := none }, { dst := some 83, op := Op.call { callee := Callee.value (Operand.func 24), args := #[Operand.tmp 82], argTypes := #[3] }, type := 9, pos := "l6_journal.go:284", after := #[{ on := 1, ground := Ground.data }], guard := none }, { dst := some 14, op := Op.assign (Operand.tmp 83), type := 9, pos := "l6_journal.go:284", after := #[{ on := 2, ground := Ground.data }, { on := 2, ground := Ground.chain }, { on := 0, ground := Ground.phase }, { on := 1, ground := Ground.phase }, { on := 2, ground := Ground.phase }], guard := none }] false) (Exit.then K (bodyPost Tryd.prog Tryd.f6 (RE L2 x1 y2 x3 x4 d2 lA sA 20 w))) { tmps := List.toArray (v0 :: v1 :: v2 :: v3 :: (.pointer (some ⟨w.heap.size, 0, none⟩)) :: (.pointer (some ⟨w.heap.size + 1, 0, none⟩)) :: v6 :: v7 :: (.pointer (some ⟨w.heap.size + 1 + 1, 0, none⟩)) :: (.pointer (some ⟨w.heap.size + 1 + 1 + 1, 0, none⟩)) :: v10 :: (.string f) :: v12 :: v13 :: v14 :: v15 :: v16 :: v17 :: v18 :: v19 :: v20 :: v21 :: v22 :: v23 :: v24 :: v25 :: v26 :: v27 :: v28 :: v29 :: v30 :: v31 :: v32 :: v33 :: v34 :: v35 :: v36 :: v37 :: v38 :: v39 :: v40 :: v41 :: v42 :: v43 :: v44 :: v45 :: v46 :: v47 :: v48 :: v49 :: v50 :: v51 :: v52 :: v53 :: v54 :: v55 :: v56 :: v57 :: v58 :: v59 :: v60 :: v61 :: v62 :: v63 :: v64 :: v65 :: v66 :: v67 :: v68 :: v69 :: v70 :: v71 :: v72 :: v73 :: v74 :: v75 :: v76 :: v77 :: v78 :: v79 :: v80 :: v81 :: v82 :: v83 :: v84 :: v85 :: v86 :: v87 :: v88 :: v89 :: v90 :: v91 :: v92 :: v93 :: v94 :: v95 :: v96 :: v97 :: v98 :: v99 :: v100 :: v101 :: v102 :: v103 :: v104 :: v105 :: v106 :: v107 :: v108 :: v109 :: v110 :: v111 :: v112 :: v113 :: v114 :: v115 :: v116 :: v117 :: v118 :: v119 :: v120 :: v121 :: v122 :: v123 :: v124 :: v125 :: v126 :: v127 :: v128 :: v129 :: v130 :: v131 :: v132 :: v133 :: v134 :: v135 :: v136 :: v137 :: v138 :: v139 :: v140 :: v141 :: []), defers := [] } wf := by
  generalize hB : bodyPost Tryd.prog Tryd.f6 (RE L2 x1 y2 x3 x4 d2 lA sA 20 w) = Qx at hK ⊢
  unfold Tryd.f6 at hK
  dsimp only [tl5] at hK
  subst hB
  obtain ⟨nm, hnm⟩ : ∃ nm, seg (ln) = nm := ⟨_, rfl⟩
  have hsg := seg_ok (ln)
  rw [hnm] at hsg
  rw [hnm] at hr1 e1
  have ok1 := hok.step hr1 hsg e1
  have E1 : Hid (stS L x1 x2 x3 x4 x5 2 nm f 0 r1 = (L1, y1, d1, c1)) := e1
  clear e1
  have nc10 : (c1 == 0) = false := by simp [hc10]
  have nc111 : (c1 == 11) = false := by simp [hc111]
  have hc116 : c1 ≠ 16 := st_16 E1.out (by omega)
  have nc116 : (c1 == 16) = false := by simp [hc116]
  rw [hnm] at hr2 e2
  have ok2 := ok1.step hr2 hsg e2
  have E2 : Hid (stS L1 x1 y1 x3 x4 d1 4 nm ⟨#[]⟩ sA r2 = (L2, y2, d2, c3)) := e2
  clear e2
  have nc30 : (c3 == 0) = false := by simp [hc30]
  have nc311 : (c3 == 11) = false := by simp [hc311]
  have hz : (⟨#[]⟩ : ByteArray).size = 0 := rfl
  obtain ⟨lc0, lc1⟩ := B2.of hLf
  go_upto_region 13 with (first | (go_at_call 24; refine (sSegmentE (ln) (lA) (HLN.out) _ (by have := HLN.out; omega) nm hnm).mono ?_; rintro e wg ⟨rfl, hbg⟩))
  have hXg := rowL hXf hbg
  have hLg := rowL hLf hbg
  have hR8g := rowL hR8f hbg
  have hR9g := rowL hR9f hbg
  have hcg := bstep hcf hbg
  obtain ⟨xc0, xc1, xc2, xc3, xc4, xc5⟩ := B6.of hXg
  go_upto_region 14 with (go_at_call 23; refine (sStepE b0 off0 c0 L x1 x2 x3 x4 x5 2 nm f 0 r1 L1 y1 d1 c1 _ _ (hFL.later hbg) hok (by omega) (by omega) (by omega) hsg (by omega) h3 h4 hr1 E1.out).mono ?_; rintro e wi ⟨gi, cpi, rfl, hOi, hbi⟩)
  have hQj := heap_alloc_new wi (.cells #[.slice (some ⟨gi, 0, none⟩) L1.length cpi, .int .i64 x1, .int .i64 y1, .int .i64 x3, .int .i64 x4, .bool d1] 30)
  have hbj := bal wi (.cells #[.slice (some ⟨gi, 0, none⟩) L1.length cpi, .int .i64 x1, .int .i64 y1, .int .i64 x3, .int .i64 x4, .bool d1] 30)
  have hsi : w.heap.size + 1 + 1 + 1 < wi.heap.size := by have := (Array.getElem?_eq_some_iff.1 (rowL hR9g hbi)).1; omega
  generalize wi.alloc (.cells #[.slice (some ⟨gi, 0, none⟩) L1.length cpi, .int .i64 x1, .int .i64 y1, .int .i64 x3, .int .i64 x4, .bool d1] 30) = wj at hQj hbj ⊢
  have hXj := rowL hXg (bstep hbi hbj)
  have hLj := rowL hLg (bstep hbi hbj)
  have hR8j := rowL hR8g (bstep hbi hbj)
  have hR9j := rowL hR9g (bstep hbi hbj)
  have hcj := bstep hcg (bstep hbi hbj)
  have hOj := (hOi.later hbj).wk hcg.size
  obtain ⟨ac0, ac1⟩ := B2.of hLj
  obtain ⟨bc0, bc1, bc2, bc3, bc4, bc5⟩ := B6.of hQj
  go_upto_region 22 with (go_at_call 23; refine (sStepE gi 0 cpi L1 x1 y1 x3 x4 d1 4 nm ⟨#[]⟩ sA r2 L2 y2 d2 c3 _ _ hOj.f.fl ok1 (by omega) (by omega) (by omega) hsg (by omega) h3 h4 hr2 E2.out).mono ?_; rintro e wp ⟨gp, cpp, rfl, hOp, hbp⟩)
  have hQq := heap_alloc_new wp (.cells #[.slice (some ⟨gp, 0, none⟩) L2.length cpp, .int .i64 x1, .int .i64 y2, .int .i64 x3, .int .i64 x4, .bool d2] 30)
  have hbq := bal wp (.cells #[.slice (some ⟨gp, 0, none⟩) L2.length cpp, .int .i64 x1, .int .i64 y2, .int .i64 x3, .int .i64 x4, .bool d2] 30)
  have hsp := hbp.size
  have hsw : wi.heap.size < wj.heap.size := (Array.getElem?_eq_some_iff.1 hQj).1
  generalize wp.alloc (.cells #[.slice (some ⟨gp, 0, none⟩) L2.length cpp, .int .i64 x1, .int .i64 y2, .int .i64 x3, .int .i64 x4, .bool d2] 30) = wq at hQq hbq ⊢
  have hXq := rowL hXj (bstep hbp hbq)
  have hLq := rowL hLj (bstep hbp hbq)
  have hR8q := rowL hR8j (bstep hbp hbq)
  have hR9q := rowL hR9j (bstep hbp hbq)
  have hcq := bstep hcj (bstep hbp hbq)
  have hOq := (hOp.later hbq).wk hcj.size
  have hKy : Ky w wq #[.slice (some ⟨b0, off0, none⟩) L.length c0, .int .i64 x1, .int .i64 x2, .int .i64 x3, .int .i64 x4, .bool x5] #[.int .i64 lA, .int .i64 sA] wp.heap.size #[.slice (some ⟨gp, 0, none⟩) L2.length cpp, .int .i64 x1, .int .i64 y2, .int .i64 x3, .int .i64 x4, .bool d2] := ⟨⟨hcq, hXq, hLq⟩, hQq⟩
  go_upto_region 27 with (fail)
  refine wp_region_held_drew (S := fun x => Ky w x #[.slice (some ⟨b0, off0, none⟩) L.length c0, .int .i64 x1, .int .i64 x2, .int .i64 x3, .int .i64 x4, .bool x5] #[.int .i64 lA, .int .i64 sA] (wp.heap.size) #[.slice (some ⟨gp, 0, none⟩) L2.length cpp, .int .i64 x1, .int .i64 y2, .int .i64 x3, .int .i64 x4, .bool d2]) (by kernel_rfl) (hKy.later (bdrew1 _)) (fun hHeld => ?_)
  refine' takeF (i := 0) (oi := ({ dst := some 140, op := Op.load 30 (Operand.tmp 17), type := 30, pos := "l6_journal.go:303", after := #[], guard := none } : Oper)) rfl ⟨by rfl, fun x hSw => ?h12⟩ hHeld ?r12
  case h12 =>
    obtain ⟨k0, k1, k2, k3, k4, k5⟩ := B6.of hSw.qr; obtain ⟨qc0, qc1⟩ := B2.of hSw.k.lr
    go_simp
    try with_reducible rfl
  try simp only [Act.put, List.setIfInBounds_toArray, List.set_cons_zero, List.set_cons_succ]
  refine' takeF (i := 1) (oi := ({ dst := some 141, op := Op.load 31 (Operand.tmp 5), type := 31, pos := "l6_journal.go:303", after := #[{ on := 2, ground := Ground.gcOnly Departure.lateStores }], guard := none } : Oper)) rfl ⟨by rfl, fun x hSw => ?h13⟩ hHeld ?r13
  case h13 =>
    obtain ⟨k0, k1, k2, k3, k4, k5⟩ := B6.of hSw.qr; obtain ⟨qc0, qc1⟩ := B2.of hSw.k.lr
    go_simp
    try with_reducible rfl
  try simp only [Act.put, List.setIfInBounds_toArray, List.set_cons_zero, List.set_cons_succ]
  refine wpAnyH_ready (rs := [2]) (by kernel_rfl) (by simp) ?_
  refine AllReadyH.cons (o := ({ dst := none, op := Op.store 30 (Operand.tmp 8) (Operand.tmp 140), type := 0, pos := "l6_journal.go:303", after := #[{ on := 0, ground := Ground.data }, { on := 0, ground := Ground.phase }, { on := 1, ground := Ground.textOnly Departure.lateStores }], guard := none } : Oper)) rfl (fun K hK => ?_) AllReadyH.nil
  have hbz := bdrew1 wq; generalize wq.drew = wz at hbz hHeld ⊢; have hR8z := rowL hR8q hbz; have hR9z := rowL hR9q hbz; obtain ⟨rc0, rc1, rc2, rc3, rc4, rc5⟩ := B6.of hR8z; obtain ⟨rf0, rf1, rf2, rf3, rf4, rf5⟩ := F6.of hR8z
  go_simp
  refine hK.out _ _ (hHeld.set8 (by omega) (.slice (some ⟨gp, 0, none⟩) L2.length cpp) (.int .i64 x1) (.int .i64 y2) (.int .i64 x3) (.int .i64 x4) (.bool d2)) (fun hHeld => ?_)
  clear hK K
  try simp only [Act.put, List.setIfInBounds_toArray, List.set_cons_zero, List.set_cons_succ]
  refine wpAnyH_ready (rs := [3]) (by kernel_rfl) (by simp) ?_
  refine AllReadyH.cons (o := ({ dst := none, op := Op.store 31 (Operand.tmp 9) (Operand.tmp 141), type := 0, pos := "l6_journal.go:303", after := #[{ on := 1, ground := Ground.data }, { on := 2, ground := Ground.chain }, { on := 0, ground := Ground.phase }, { on := 1, ground := Ground.phase }, { on := 2, ground := Ground.phase }], guard := none } : Oper)) rfl (fun K hK => ?_) AllReadyH.nil
  have hR9y := set6_oth (.slice (some ⟨gp, 0, none⟩) L2.length cpp) (.int .i64 x1) (.int .i64 y2) (.int .i64 x3) (.int .i64 x4) (.bool d2) (Q := w.heap.size + 1 + 1) hR9z (by omega); have t0 := (cell_of_row _ _ 0 _ _ _ hR9y).trans rfl; have tf0 := frozen_of_row _ _ 0 _ _ hR9y; have t1 := (cell_of_row _ _ 1 _ _ _ hR9y).trans rfl; have tf1 := frozen_of_row _ _ 1 _ _ hR9y
  go_simp
  refine hK.out _ _ (hHeld.set9 (by omega) (.int .i64 lA) (.int .i64 sA)) (fun hHeld => ?_)
  clear hK K
  try simp only [Act.put, List.setIfInBounds_toArray, List.set_cons_zero, List.set_cons_succ]
  refine' takeF (i := 4) (oi := ({ dst := some 10, op := Op.assign (Operand.const (Value.int IntKind.i64 20)), type := 3, pos := "l6_journal.go:303", after := #[{ on := 3, ground := Ground.chain }, { on := 0, ground := Ground.phase }, { on := 1, ground := Ground.phase }, { on := 2, ground := Ground.phase }, { on := 3, ground := Ground.phase }], guard := none } : Oper)) rfl ⟨by rfl, fun x hSw => ?h14⟩ hHeld ?r14
  case h14 =>
    go_simp
    try with_reducible rfl
  try simp only [Act.put, List.setIfInBounds_toArray, List.set_cons_zero, List.set_cons_succ]
  refine wpAnyH_done (by kernel_rfl) ?_ _
  go_wp2
  refine bodyPost_ret (results_cell2_tmp Tryd.results6 _ _ (w.heap.size + 1 + 1) 30 _ (0, 0) _ rfl (fin8 _ _ _ _ _ _ _ _ hR8z (by omega)) Tryd.underlying30 rfl (by kernel_rfl) (w.heap.size + 1 + 1 + 1) 31 _ (0, 0) _ rfl (fin9 _ _ _ _ _ _ _ _ hR9z (by omega)) Tryd.underlying31 rfl (by kernel_rfl)) rfl ?_
  exact ⟨_, _, rfl, (finO (hOq.later hbz) hR8z hR9z (by omega)).f, hHeld.k.b⟩
end Go.Proofs.YtdbcihebhgpblaaDoor
