/-
  AppendEntry, the specification's side: the tail.
-/
import Derived.Test.YtdbcihebhgpblaaDoorPh
namespace Go.Proofs.YtdbcihebhgpblaaDoor
open Go.RowKit
set_option maxRecDepth 20000 in
set_option maxHeartbeats 8000000 in
theorem sTlA (K : Act → World → Prop) (b0 off0 c0 : Nat) (L : List Fil) (x1 x2 x3 x4 : Int) (x5 : Bool) (lA sA : Int) (f : ByteArray) (w wf : World) (ln : Nat) (L1 : List Fil) (y1 : Int) (d1 : Bool) (L2 : List Fil) (y2 : Int) (d2 : Bool) (r1 : Int) (hr1 : FdAt L (seg ln) r1) (e1 : stS L x1 x2 x3 x4 x5 2 (seg ln) f 0 r1 = (L1, y1, d1, 0)) (r2 : Int) (hr2 : FdAt L1 (seg ln) r2) (e2 : stS L1 x1 y1 x3 x4 d1 3 (seg ln) ⟨#[]⟩ 0 r2 = (L2, y2, d2, 0)) (hK : ∀ a y, Code.wp Tryd.prog (tl5 Tryd.f6.body) (bodyPost Tryd.prog Tryd.f6 (RE L2 x1 y2 x3 x4 d2 lA (sA + (f.size : Int)) 0 w)) a y → K a y) (hXf : wf.heap[w.heap.size]? = some (.cells #[.slice (some ⟨b0, off0, none⟩) L.length c0, .int .i64 x1, .int .i64 x2, .int .i64 x3, .int .i64 x4, .bool x5] 30 (0, 0))) (hLf : wf.heap[w.heap.size + 1]? = some (.cells #[.int .i64 lA, .int .i64 sA] 31 (0, 0))) (hR8f : wf.heap[w.heap.size + 1 + 1]? = some (.cells #[.slice none 0 0, .int .i64 0, .int .i64 0, .int .i64 0, .int .i64 0, .bool false] 30 (0, 0))) (hR9f : wf.heap[w.heap.size + 1 + 1 + 1]? = some (.cells #[.int .i64 0, .int .i64 0] 31 (0, 0))) (hcf : Below w.heap.size w wf) (hFL : FL wf (some ⟨b0, off0, none⟩) L.length (nthF L)) (_hfz : f.size ≤ 65536) (_hs0 : 0 ≤ sA) (_hs1 : sA ≤ 1000000000) (hok : Ok6 L x1 x2 1048576) (h3 : 0 ≤ x3 ∧ x3 ≤ 1000000000000000) (h4 : 0 ≤ x4 ∧ x4 ≤ 1000000000000000) (HLN : Hid (lA = ln)) (_hln : ln ≤ 9999) (v0 v1 v2 v3 v6 v7 v10 v12 v13 v14 v15 v16 v17 v18 v19 v20 v21 v22 v23 v24 v25 v26 v27 v28 v29 v30 v31 v32 v33 v34 v35 v36 v37 v38 v39 v40 v41 v42 v43 v44 v45 v46 v47 v48 v49 v50 v51 v52 v53 v54 v55 v56 v57 v58 v59 v60 v61 v62 v63 v64 v65 v66 v67 v68 v69 v70 v71 v72 v73 v74 v75 v76 v77 v78 v79 v80 v81 v82 v83 v84 v85 v86 v87 v88 v89 v90 v91 v92 v93 v94 v95 v96 v97 v98 v99 v100 v101 v102 v103 v104 v105 v106 v107 v108 v109 v110 v111 v112 v113 v114 v115 v116 v117 v118 v119 v120 v121 v122 v123 v124 v125 v126 v127 v128 v129 v130 v131 v132 v133 v134 v135 v136 v137 v138 v139 v140 v141 : Value) :
    Code.wp Tryd.prog (Code.region 12 #[{ dst := some 81, op := Op.fieldAddr 31 (Operand.tmp 5) 0, type := 0, pos := "l6_journal.go:284", after := #[], guard := none }, { dst := some 82, op := Op.load 3 (Operand.tmp 81), type := 3, pos := "l6_journal.go:284", after := #[{ on := 0, ground := Ground.data }], guard := none }, { dst := some 83, op := Op.call { callee := Callee.value (Operand.func 24), args := #[Operand.tmp 82], argTypes := #[3] }, type := 9, pos := "l6_journal.go:284", after := #[{ on := 1, ground := Ground.data }], guard := none }, { dst := some 14, op := Op.assign (Operand.tmp 83), type := 9, pos := "l6_journal.go:284", after := #[{ on := 2, ground := Ground.data }, { on := 2, ground := Ground.chain }, { on := 0, ground := Ground.phase }, { on := 1, ground := Ground.phase }, { on := 2, ground := Ground.phase }], guard := none }] false) (Exit.then K (bodyPost Tryd.prog Tryd.f6 (RE L2 x1 y2 x3 x4 d2 lA (sA + (f.size : Int)) 0 w))) { tmps := List.toArray (v0 :: v1 :: v2 :: v3 :: (.pointer (some ⟨w.heap.size, 0, none⟩)) :: (.pointer (some ⟨w.heap.size + 1, 0, none⟩)) :: v6 :: v7 :: (.pointer (some ⟨w.heap.size + 1 + 1, 0, none⟩)) :: (.pointer (some ⟨w.heap.size + 1 + 1 + 1, 0, none⟩)) :: v10 :: (.string f) :: v12 :: v13 :: v14 :: v15 :: v16 :: v17 :: v18 :: v19 :: v20 :: v21 :: v22 :: v23 :: v24 :: v25 :: v26 :: v27 :: v28 :: v29 :: v30 :: v31 :: v32 :: v33 :: v34 :: v35 :: v36 :: v37 :: v38 :: v39 :: v40 :: v41 :: v42 :: v43 :: v44 :: v45 :: v46 :: v47 :: v48 :: v49 :: v50 :: v51 :: v52 :: v53 :: v54 :: v55 :: v56 :: v57 :: v58 :: v59 :: v60 :: v61 :: v62 :: v63 :: v64 :: v65 :: v66 :: v67 :: v68 :: v69 :: v70 :: v71 :: v72 :: v73 :: v74 :: v75 :: v76 :: v77 :: v78 :: v79 :: v80 :: v81 :: v82 :: v83 :: v84 :: v85 :: v86 :: v87 :: v88 :: v89 :: v90 :: v91 :: v92 :: v93 :: v94 :: v95 :: v96 :: v97 :: v98 :: v99 :: v100 :: v101 :: v102 :: v103 :: v104 :: v105 :: v106 :: v107 :: v108 :: v109 :: v110 :: v111 :: v112 :: v113 :: v114 :: v115 :: v116 :: v117 :: v118 :: v119 :: v120 :: v121 :: v122 :: v123 :: v124 :: v125 :: v126 :: v127 :: v128 :: v129 :: v130 :: v131 :: v132 :: v133 :: v134 :: v135 :: v136 :: v137 :: v138 :: v139 :: v140 :: v141 :: []), defers := [] } wf := by
  generalize hB : bodyPost Tryd.prog Tryd.f6 (RE L2 x1 y2 x3 x4 d2 lA (sA + (f.size : Int)) 0 w) = Qx at hK ⊢
  unfold Tryd.f6 at hK
  dsimp only [tl5] at hK
  subst hB
  obtain ⟨nm, hnm⟩ : ∃ nm, seg (ln) = nm := ⟨_, rfl⟩
  have hsg := seg_ok (ln)
  rw [hnm] at hsg
  rw [hnm] at hr1 e1
  have ok1 := hok.step hr1 hsg e1
  have E1 : Hid (stS L x1 x2 x3 x4 x5 2 nm f 0 r1 = (L1, y1, d1, 0)) := e1
  clear e1
  rw [hnm] at hr2 e2
  have ok2 := ok1.step hr2 hsg e2
  have E2 : Hid (stS L1 x1 y1 x3 x4 d1 3 nm ⟨#[]⟩ 0 r2 = (L2, y2, d2, 0)) := e2
  clear e2
  have hz : (⟨#[]⟩ : ByteArray).size = 0 := rfl
  obtain ⟨lc0, lc1⟩ := B2.of hLf
  go_upto_region 13 with (first | (go_at_call 24; refine (sSegmentE (ln) (lA) (HLN.out) _ (by have := HLN.out; omega) nm hnm).mono ?_; rintro e wg ⟨rfl, hbg⟩))
  have hXg := rowL hXf hbg
  have hLg := rowL hLf hbg
  have hR8g := rowL hR8f hbg
  have hR9g := rowL hR9f hbg
  have hcg := bstep hcf hbg
  obtain ⟨xc0, xc1, xc2, xc3, xc4, xc5⟩ := B6.of hXg
  go_upto_region 14 with (go_at_call 23; refine (sStepE b0 off0 c0 L x1 x2 x3 x4 x5 2 nm f 0 r1 L1 y1 d1 0 _ _ (hFL.later hbg) hok (by omega) (by omega) (by omega) hsg (by omega) h3 h4 hr1 E1.out).mono ?_; rintro e wi ⟨gi, cpi, rfl, hOi, hbi⟩)
  have hQj := heap_alloc_new wi (.cells #[.slice (some ⟨gi, 0, none⟩) L1.length cpi, .int .i64 x1, .int .i64 y1, .int .i64 x3, .int .i64 x4, .bool d1] 30)
  have hbj := bal wi (.cells #[.slice (some ⟨gi, 0, none⟩) L1.length cpi, .int .i64 x1, .int .i64 y1, .int .i64 x3, .int .i64 x4, .bool d1] 30)
  have hsi : w.heap.size + 1 + 1 + 1 < wi.heap.size := by have := (Array.getElem?_eq_some_iff.1 (rowL hR9g hbi)).1; omega
  generalize wi.alloc (.cells #[.slice (some ⟨gi, 0, none⟩) L1.length cpi, .int .i64 x1, .int .i64 y1, .int .i64 x3, .int .i64 x4, .bool d1] 30) = wj at hQj hbj ⊢
  have hXj := rowL hXg (bstep hbi hbj)
  have hLj := rowL hLg (bstep hbi hbj)
  have hR8j := rowL hR8g (bstep hbi hbj)
  have hR9j := rowL hR9g (bstep hbi hbj)
  have hcj := bstep hcg (bstep hbi hbj)
  have hOj := (hOi.later hbj).wk hcg.size
  obtain ⟨zc0, zc1, zc2, zc3, zc4, zc5⟩ := B6.of hQj
  go_upto_region 16 with (go_at_call 23; refine (sStepE gi 0 cpi L1 x1 y1 x3 x4 d1 3 nm ⟨#[]⟩ 0 r2 L2 y2 d2 0 _ _ hOj.f.fl ok1 (by omega) (by omega) (by omega) hsg (by omega) h3 h4 hr2 E2.out).mono ?_; rintro e wk ⟨gk, cpk, rfl, hOk, hbk⟩; have hQk := rowL hQj hbk; obtain ⟨ic0, ic1, ic2, ic3, ic4, ic5⟩ := B6.of hQk; obtain ⟨if0, if1, if2, if3, if4, if5⟩ := F6.of hQk)
  have hXk := rowL hXj hbk
  have hLk := rowL hLj hbk
  have hR8k := rowL hR8j hbk
  have hR9k := rowL hR9j hbk
  have hck := bstep hcj hbk
  have hQm := set6_row (.slice (some ⟨gk, 0, none⟩) L2.length cpk) (.int .i64 x1) (.int .i64 y2) (.int .i64 x3) (.int .i64 x4) (.bool d2) hQk
  have hXm := set6_oth (Q := wi.heap.size) (.slice (some ⟨gk, 0, none⟩) L2.length cpk) (.int .i64 x1) (.int .i64 y2) (.int .i64 x3) (.int .i64 x4) (.bool d2) hXk (by omega)
  have hLm := set6_oth (Q := wi.heap.size) (.slice (some ⟨gk, 0, none⟩) L2.length cpk) (.int .i64 x1) (.int .i64 y2) (.int .i64 x3) (.int .i64 x4) (.bool d2) hLk (by omega)
  have hR8m := set6_oth (Q := wi.heap.size) (.slice (some ⟨gk, 0, none⟩) L2.length cpk) (.int .i64 x1) (.int .i64 y2) (.int .i64 x3) (.int .i64 x4) (.bool d2) hR8k (by omega)
  have hR9m := set6_oth (Q := wi.heap.size) (.slice (some ⟨gk, 0, none⟩) L2.length cpk) (.int .i64 x1) (.int .i64 y2) (.int .i64 x3) (.int .i64 x4) (.bool d2) hR9k (by omega)
  have hOm := keep6 (v0 := .slice (some ⟨gk, 0, none⟩) L2.length cpk) (v1 := .int .i64 x1) (v2 := .int .i64 y2) (v3 := .int .i64 x3) (v4 := .int .i64 x4) (v5 := .bool d2) (hOk.wk hcj.size) hQk
  have hcm := set6_below (Q := wi.heap.size) (.slice (some ⟨gk, 0, none⟩) L2.length cpk) (.int .i64 x1) (.int .i64 y2) (.int .i64 x3) (.int .i64 x4) (.bool d2) hck (by omega)
  generalize ((((((wk.setCell ⟨wi.heap.size, 0, none⟩ (.slice (some ⟨gk, 0, none⟩) L2.length cpk)).setCell ⟨wi.heap.size, 1, none⟩ (.int .i64 x1)).setCell ⟨wi.heap.size, 2, none⟩ (.int .i64 y2)).setCell ⟨wi.heap.size, 3, none⟩ (.int .i64 x3)).setCell ⟨wi.heap.size, 4, none⟩ (.int .i64 x4)).setCell ⟨wi.heap.size, 5, none⟩ (.bool d2)) = wm at hQm hXm hLm hR8m hR9m hOm hcm ⊢
  obtain ⟨ac0, ac1⟩ := B2.of hLm
  obtain ⟨af0, af1⟩ := F2.of hLm
  go_upto_region 18 with (fail)
  have hLn : (wm.setCell ⟨w.heap.size + 1, 1, none⟩ (.int .i64 (sA + (f.size : Int)))).heap[w.heap.size + 1]? = some (.cells #[.int .i64 lA, .int .i64 (sA + (f.size : Int))] 31 (0, 0)) := heap_setCell_same _ _ 1 _ _ _ hLm
  have hXn := rowO (B := w.heap.size + 1) (i := 1) (v := .int .i64 (sA + (f.size : Int))) hXm (by omega)
  have hR8n := rowO (B := w.heap.size + 1) (i := 1) (v := .int .i64 (sA + (f.size : Int))) hR8m (by omega)
  have hR9n := rowO (B := w.heap.size + 1) (i := 1) (v := .int .i64 (sA + (f.size : Int))) hR9m (by omega)
  have hQn := rowO (B := w.heap.size + 1) (i := 1) (v := .int .i64 (sA + (f.size : Int))) hQm (by omega)
  have hOn := keepG (o := 1) (u := .int .i64 (sA + (f.size : Int))) hOm hLm
  have hcn : Below w.heap.size w (wm.setCell ⟨w.heap.size + 1, 1, none⟩ (.int .i64 (sA + (f.size : Int)))) := bset hcm (by omega)
  generalize wm.setCell ⟨w.heap.size + 1, 1, none⟩ (.int .i64 (sA + (f.size : Int))) = wn at hLn hXn hR8n hR9n hQn hOn hcn ⊢
  have hKy : Ky w wn #[.slice (some ⟨b0, off0, none⟩) L.length c0, .int .i64 x1, .int .i64 x2, .int .i64 x3, .int .i64 x4, .bool x5] #[.int .i64 lA, .int .i64 (sA + (f.size : Int))] (wi.heap.size) #[.slice (some ⟨gk, 0, none⟩) L2.length cpk, .int .i64 x1, .int .i64 y2, .int .i64 x3, .int .i64 x4, .bool d2] := ⟨⟨hcn, hXn, hLn⟩, hQn⟩
  refine wp_region_held_drew (S := fun x => Ky w x #[.slice (some ⟨b0, off0, none⟩) L.length c0, .int .i64 x1, .int .i64 x2, .int .i64 x3, .int .i64 x4, .bool x5] #[.int .i64 lA, .int .i64 (sA + (f.size : Int))] (wi.heap.size) #[.slice (some ⟨gk, 0, none⟩) L2.length cpk, .int .i64 x1, .int .i64 y2, .int .i64 x3, .int .i64 x4, .bool d2]) (by kernel_rfl) (hKy.later (bdrew1 _)) (fun hHeld => ?_)
  refine' takeF (i := 0) (oi := ({ dst := some 109, op := Op.load 30 (Operand.tmp 15), type := 30, pos := "l6_journal.go:291", after := #[], guard := none } : Oper)) rfl ⟨by rfl, fun x hSw => ?h1⟩ hHeld ?r1
  case h1 =>
    obtain ⟨k0, k1, k2, k3, k4, k5⟩ := B6.of hSw.qr; obtain ⟨qc0, qc1⟩ := B2.of hSw.k.lr
    go_simp
    try with_reducible rfl
  try simp only [Act.put, List.setIfInBounds_toArray, List.set_cons_zero, List.set_cons_succ]
  refine' takeF (i := 1) (oi := ({ dst := some 110, op := Op.load 31 (Operand.tmp 5), type := 31, pos := "l6_journal.go:291", after := #[{ on := 3, ground := Ground.gcOnly Departure.lateStores }], guard := none } : Oper)) rfl ⟨by rfl, fun x hSw => ?h2⟩ hHeld ?r2
  case h2 =>
    obtain ⟨k0, k1, k2, k3, k4, k5⟩ := B6.of hSw.qr; obtain ⟨qc0, qc1⟩ := B2.of hSw.k.lr
    go_simp
    try with_reducible rfl
  try simp only [Act.put, List.setIfInBounds_toArray, List.set_cons_zero, List.set_cons_succ]
  refine' takeF (i := 2) (oi := ({ dst := some 111, op := Op.move (Operand.tmp 16), type := 3, pos := "l6_journal.go:291", after := #[{ on := 4, ground := Ground.gcOnly Departure.lateStores }], guard := none } : Oper)) rfl ⟨by rfl, fun x hSw => ?h3⟩ hHeld ?r3
  case h3 =>
    go_simp
    try with_reducible rfl
  try simp only [Act.put, List.setIfInBounds_toArray, List.set_cons_zero, List.set_cons_succ]
  refine wpAnyH_ready (rs := [3]) (by kernel_rfl) (by simp) ?_
  refine AllReadyH.cons (o := ({ dst := none, op := Op.store 30 (Operand.tmp 8) (Operand.tmp 109), type := 0, pos := "l6_journal.go:291", after := #[{ on := 0, ground := Ground.data }, { on := 0, ground := Ground.phase }, { on := 1, ground := Ground.textOnly Departure.lateStores }, { on := 2, ground := Ground.textOnly Departure.lateStores }], guard := none } : Oper)) rfl (fun K hK => ?_) AllReadyH.nil
  have hbz := bdrew1 wn; generalize wn.drew = wz at hbz hHeld ⊢; have hR8z := rowL hR8n hbz; have hR9z := rowL hR9n hbz; obtain ⟨rc0, rc1, rc2, rc3, rc4, rc5⟩ := B6.of hR8z; obtain ⟨rf0, rf1, rf2, rf3, rf4, rf5⟩ := F6.of hR8z
  go_simp
  refine hK.out _ _ (hHeld.set8 (by omega) (.slice (some ⟨gk, 0, none⟩) L2.length cpk) (.int .i64 x1) (.int .i64 y2) (.int .i64 x3) (.int .i64 x4) (.bool d2)) (fun hHeld => ?_)
  clear hK K
  try simp only [Act.put, List.setIfInBounds_toArray, List.set_cons_zero, List.set_cons_succ]
  refine wpAnyH_ready (rs := [4]) (by kernel_rfl) (by simp) ?_
  refine AllReadyH.cons (o := ({ dst := none, op := Op.store 31 (Operand.tmp 9) (Operand.tmp 110), type := 0, pos := "l6_journal.go:291", after := #[{ on := 1, ground := Ground.data }, { on := 3, ground := Ground.chain }, { on := 0, ground := Ground.phase }, { on := 1, ground := Ground.phase }, { on := 2, ground := Ground.textOnly Departure.lateStores }, { on := 3, ground := Ground.phase }], guard := none } : Oper)) rfl (fun K hK => ?_) AllReadyH.nil
  have hR9y := set6_oth (.slice (some ⟨gk, 0, none⟩) L2.length cpk) (.int .i64 x1) (.int .i64 y2) (.int .i64 x3) (.int .i64 x4) (.bool d2) (Q := w.heap.size + 1 + 1) hR9z (by omega); have t0 := (cell_of_row _ _ 0 _ _ _ hR9y).trans rfl; have tf0 := frozen_of_row _ _ 0 _ _ hR9y; have t1 := (cell_of_row _ _ 1 _ _ _ hR9y).trans rfl; have tf1 := frozen_of_row _ _ 1 _ _ hR9y
  go_simp
  refine hK.out _ _ (hHeld.set9 (by omega) (.int .i64 lA) (.int .i64 (sA + (f.size : Int)))) (fun hHeld => ?_)
  clear hK K
  try simp only [Act.put, List.setIfInBounds_toArray, List.set_cons_zero, List.set_cons_succ]
  refine' takeF (i := 5) (oi := ({ dst := some 10, op := Op.assign (Operand.tmp 111), type := 3, pos := "l6_journal.go:291", after := #[{ on := 2, ground := Ground.data }, { on := 4, ground := Ground.chain }, { on := 0, ground := Ground.phase }, { on := 1, ground := Ground.phase }, { on := 2, ground := Ground.phase }, { on := 3, ground := Ground.phase }, { on := 4, ground := Ground.phase }], guard := none } : Oper)) rfl ⟨by rfl, fun x hSw => ?h4⟩ hHeld ?r4
  case h4 =>
    go_simp
    try with_reducible rfl
  try simp only [Act.put, List.setIfInBounds_toArray, List.set_cons_zero, List.set_cons_succ]
  refine wpAnyH_done (by kernel_rfl) ?_ _
  go_wp2
  refine bodyPost_ret (results_cell2_tmp Tryd.results6 _ _ (w.heap.size + 1 + 1) 30 _ (0, 0) _ rfl (fin8 _ _ _ _ _ _ _ _ hR8z (by omega)) Tryd.underlying30 rfl (by kernel_rfl) (w.heap.size + 1 + 1 + 1) 31 _ (0, 0) _ rfl (fin9 _ _ _ _ _ _ _ _ hR9z (by omega)) Tryd.underlying31 rfl (by kernel_rfl)) rfl ?_
  exact ⟨_, _, rfl, (finO (hOn.later hbz) hR8z hR9z (by omega)).f, hHeld.k.b⟩
set_option maxRecDepth 20000 in
set_option maxHeartbeats 8000000 in
theorem sTlB (K : Act → World → Prop) (b0 off0 c0 : Nat) (L : List Fil) (x1 x2 x3 x4 : Int) (x5 : Bool) (lA sA : Int) (f : ByteArray) (w wf : World) (ln : Nat) (L1 : List Fil) (y1 : Int) (d1 : Bool) (L2 : List Fil) (y2 : Int) (d2 : Bool) (r1 : Int) (hr1 : FdAt L (seg ln) r1) (e1 : stS L x1 x2 x3 x4 x5 2 (seg ln) f 0 r1 = (L1, y1, d1, 0)) (r2 : Int) (hr2 : FdAt L1 (seg ln) r2) (e2 : stS L1 x1 y1 x3 x4 d1 3 (seg ln) ⟨#[]⟩ 0 r2 = (L2, y2, d2, 11)) (hK : ∀ a y, Code.wp Tryd.prog (tl5 Tryd.f6.body) (bodyPost Tryd.prog Tryd.f6 (RE L2 x1 y2 x3 x4 d2 lA sA 11 w)) a y → K a y) (hXf : wf.heap[w.heap.size]? = some (.cells #[.slice (some ⟨b0, off0, none⟩) L.length c0, .int .i64 x1, .int .i64 x2, .int .i64 x3, .int .i64 x4, .bool x5] 30 (0, 0))) (hLf : wf.heap[w.heap.size + 1]? = some (.cells #[.int .i64 lA, .int .i64 sA] 31 (0, 0))) (hR8f : wf.heap[w.heap.size + 1 + 1]? = some (.cells #[.slice none 0 0, .int .i64 0, .int .i64 0, .int .i64 0, .int .i64 0, .bool false] 30 (0, 0))) (hR9f : wf.heap[w.heap.size + 1 + 1 + 1]? = some (.cells #[.int .i64 0, .int .i64 0] 31 (0, 0))) (hcf : Below w.heap.size w wf) (hFL : FL wf (some ⟨b0, off0, none⟩) L.length (nthF L)) (_hfz : f.size ≤ 65536) (_hs0 : 0 ≤ sA) (_hs1 : sA ≤ 1000000000) (hok : Ok6 L x1 x2 1048576) (h3 : 0 ≤ x3 ∧ x3 ≤ 1000000000000000) (h4 : 0 ≤ x4 ∧ x4 ≤ 1000000000000000) (HLN : Hid (lA = ln)) (_hln : ln ≤ 9999) (v0 v1 v2 v3 v6 v7 v10 v12 v13 v14 v15 v16 v17 v18 v19 v20 v21 v22 v23 v24 v25 v26 v27 v28 v29 v30 v31 v32 v33 v34 v35 v36 v37 v38 v39 v40 v41 v42 v43 v44 v45 v46 v47 v48 v49 v50 v51 v52 v53 v54 v55 v56 v57 v58 v59 v60 v61 v62 v63 v64 v65 v66 v67 v68 v69 v70 v71 v72 v73 v74 v75 v76 v77 v78 v79 v80 v81 v82 v83 v84 v85 v86 v87 v88 v89 v90 v91 v92 v93 v94 v95 v96 v97 v98 v99 v100 v101 v102 v103 v104 v105 v106 v107 v108 v109 v110 v111 v112 v113 v114 v115 v116 v117 v118 v119 v120 v121 v122 v123 v124 v125 v126 v127 v128 v129 v130 v131 v132 v133 v134 v135 v136 v137 v138 v139 v140 v141 : Value) :
    Code.wp Tryd.prog (Code.region 12 #[{ dst := some 81, op := Op.fieldAddr 31 (Operand.tmp 5) 0, type := 0, pos := "l6_journal.go:284", after := #[], guard := none }, { dst := some 82, op := Op.load 3 (Operand.tmp 81), type := 3, pos := "l6_journal.go:284", after := #[{ on := 0, ground := Ground.data }], guard := none }, { dst := some 83, op := Op.call { callee := Callee.value (Operand.func 24), args := #[Operand.tmp 82], argTypes := #[3] }, type := 9, pos := "l6_journal.go:284", after := #[{ on := 1, ground := Ground.data }], guard := none }, { dst := some 14, op := Op.assign (Operand.tmp 83), type := 9, pos := "l6_journal.go:284", after := #[{ on := 2, ground := Ground.data }, { on := 2, ground := Ground.chain }, { on := 0, ground := Ground.phase }, { on := 1, ground := Ground.phase }, { on := 2, ground := Ground.phase }], guard := none }] false) (Exit.then K (bodyPost Tryd.prog Tryd.f6 (RE L2 x1 y2 x3 x4 d2 lA sA 11 w))) { tmps := List.toArray (v0 :: v1 :: v2 :: v3 :: (.pointer (some ⟨w.heap.size, 0, none⟩)) :: (.pointer (some ⟨w.heap.size + 1, 0, none⟩)) :: v6 :: v7 :: (.pointer (some ⟨w.heap.size + 1 + 1, 0, none⟩)) :: (.pointer (some ⟨w.heap.size + 1 + 1 + 1, 0, none⟩)) :: v10 :: (.string f) :: v12 :: v13 :: v14 :: v15 :: v16 :: v17 :: v18 :: v19 :: v20 :: v21 :: v22 :: v23 :: v24 :: v25 :: v26 :: v27 :: v28 :: v29 :: v30 :: v31 :: v32 :: v33 :: v34 :: v35 :: v36 :: v37 :: v38 :: v39 :: v40 :: v41 :: v42 :: v43 :: v44 :: v45 :: v46 :: v47 :: v48 :: v49 :: v50 :: v51 :: v52 :: v53 :: v54 :: v55 :: v56 :: v57 :: v58 :: v59 :: v60 :: v61 :: v62 :: v63 :: v64 :: v65 :: v66 :: v67 :: v68 :: v69 :: v70 :: v71 :: v72 :: v73 :: v74 :: v75 :: v76 :: v77 :: v78 :: v79 :: v80 :: v81 :: v82 :: v83 :: v84 :: v85 :: v86 :: v87 :: v88 :: v89 :: v90 :: v91 :: v92 :: v93 :: v94 :: v95 :: v96 :: v97 :: v98 :: v99 :: v100 :: v101 :: v102 :: v103 :: v104 :: v105 :: v106 :: v107 :: v108 :: v109 :: v110 :: v111 :: v112 :: v113 :: v114 :: v115 :: v116 :: v117 :: v118 :: v119 :: v120 :: v121 :: v122 :: v123 :: v124 :: v125 :: v126 :: v127 :: v128 :: v129 :: v130 :: v131 :: v132 :: v133 :: v134 :: v135 :: v136 :: v137 :: v138 :: v139 :: v140 :: v141 :: []), defers := [] } wf := by
  generalize hB : bodyPost Tryd.prog Tryd.f6 (RE L2 x1 y2 x3 x4 d2 lA sA 11 w) = Qx at hK ⊢
  unfold Tryd.f6 at hK
  dsimp only [tl5] at hK
  subst hB
  obtain ⟨nm, hnm⟩ : ∃ nm, seg (ln) = nm := ⟨_, rfl⟩
  have hsg := seg_ok (ln)
  rw [hnm] at hsg
  rw [hnm] at hr1 e1
  have ok1 := hok.step hr1 hsg e1
  have E1 : Hid (stS L x1 x2 x3 x4 x5 2 nm f 0 r1 = (L1, y1, d1, 0)) := e1
  clear e1
  rw [hnm] at hr2 e2
  have ok2 := ok1.step hr2 hsg e2
  have E2 : Hid (stS L1 x1 y1 x3 x4 d1 3 nm ⟨#[]⟩ 0 r2 = (L2, y2, d2, 11)) := e2
  clear e2
  have hz : (⟨#[]⟩ : ByteArray).size = 0 := rfl
  obtain ⟨lc0, lc1⟩ := B2.of hLf
  go_upto_region 13 with (first | (go_at_call 24; refine (sSegmentE (ln) (lA) (HLN.out) _ (by have := HLN.out; omega) nm hnm).mono ?_; rintro e wg ⟨rfl, hbg⟩))
  have hXg := rowL hXf hbg
  have hLg := rowL hLf hbg
  have hR8g := rowL hR8f hbg
  have hR9g := rowL hR9f hbg
  have hcg := bstep hcf hbg
  obtain ⟨xc0, xc1, xc2, xc3, xc4, xc5⟩ := B6.of hXg
  go_upto_region 14 with (go_at_call 23; refine (sStepE b0 off0 c0 L x1 x2 x3 x4 x5 2 nm f 0 r1 L1 y1 d1 0 _ _ (hFL.later hbg) hok (by omega) (by omega) (by omega) hsg (by omega) h3 h4 hr1 E1.out).mono ?_; rintro e wi ⟨gi, cpi, rfl, hOi, hbi⟩)
  have hQj := heap_alloc_new wi (.cells #[.slice (some ⟨gi, 0, none⟩) L1.length cpi, .int .i64 x1, .int .i64 y1, .int .i64 x3, .int .i64 x4, .bool d1] 30)
  have hbj := bal wi (.cells #[.slice (some ⟨gi, 0, none⟩) L1.length cpi, .int .i64 x1, .int .i64 y1, .int .i64 x3, .int .i64 x4, .bool d1] 30)
  have hsi : w.heap.size + 1 + 1 + 1 < wi.heap.size := by have := (Array.getElem?_eq_some_iff.1 (rowL hR9g hbi)).1; omega
  generalize wi.alloc (.cells #[.slice (some ⟨gi, 0, none⟩) L1.length cpi, .int .i64 x1, .int .i64 y1, .int .i64 x3, .int .i64 x4, .bool d1] 30) = wj at hQj hbj ⊢
  have hXj := rowL hXg (bstep hbi hbj)
  have hLj := rowL hLg (bstep hbi hbj)
  have hR8j := rowL hR8g (bstep hbi hbj)
  have hR9j := rowL hR9g (bstep hbi hbj)
  have hcj := bstep hcg (bstep hbi hbj)
  have hOj := (hOi.later hbj).wk hcg.size
  obtain ⟨zc0, zc1, zc2, zc3, zc4, zc5⟩ := B6.of hQj
  go_upto_region 16 with (go_at_call 23; refine (sStepE gi 0 cpi L1 x1 y1 x3 x4 d1 3 nm ⟨#[]⟩ 0 r2 L2 y2 d2 11 _ _ hOj.f.fl ok1 (by omega) (by omega) (by omega) hsg (by omega) h3 h4 hr2 E2.out).mono ?_; rintro e wk ⟨gk, cpk, rfl, hOk, hbk⟩; have hQk := rowL hQj hbk; obtain ⟨ic0, ic1, ic2, ic3, ic4, ic5⟩ := B6.of hQk; obtain ⟨if0, if1, if2, if3, if4, if5⟩ := F6.of hQk)
  have hXk := rowL hXj hbk
  have hLk := rowL hLj hbk
  have hR8k := rowL hR8j hbk
  have hR9k := rowL hR9j hbk
  have hck := bstep hcj hbk
  have hQm := set6_row (.slice (some ⟨gk, 0, none⟩) L2.length cpk) (.int .i64 x1) (.int .i64 y2) (.int .i64 x3) (.int .i64 x4) (.bool d2) hQk
  have hXm := set6_oth (Q := wi.heap.size) (.slice (some ⟨gk, 0, none⟩) L2.length cpk) (.int .i64 x1) (.int .i64 y2) (.int .i64 x3) (.int .i64 x4) (.bool d2) hXk (by omega)
  have hLm := set6_oth (Q := wi.heap.size) (.slice (some ⟨gk, 0, none⟩) L2.length cpk) (.int .i64 x1) (.int .i64 y2) (.int .i64 x3) (.int .i64 x4) (.bool d2) hLk (by omega)
  have hR8m := set6_oth (Q := wi.heap.size) (.slice (some ⟨gk, 0, none⟩) L2.length cpk) (.int .i64 x1) (.int .i64 y2) (.int .i64 x3) (.int .i64 x4) (.bool d2) hR8k (by omega)
  have hR9m := set6_oth (Q := wi.heap.size) (.slice (some ⟨gk, 0, none⟩) L2.length cpk) (.int .i64 x1) (.int .i64 y2) (.int .i64 x3) (.int .i64 x4) (.bool d2) hR9k (by omega)
  have hOm := keep6 (v0 := .slice (some ⟨gk, 0, none⟩) L2.length cpk) (v1 := .int .i64 x1) (v2 := .int .i64 y2) (v3 := .int .i64 x3) (v4 := .int .i64 x4) (v5 := .bool d2) (hOk.wk hcj.size) hQk
  have hcm := set6_below (Q := wi.heap.size) (.slice (some ⟨gk, 0, none⟩) L2.length cpk) (.int .i64 x1) (.int .i64 y2) (.int .i64 x3) (.int .i64 x4) (.bool d2) hck (by omega)
  generalize ((((((wk.setCell ⟨wi.heap.size, 0, none⟩ (.slice (some ⟨gk, 0, none⟩) L2.length cpk)).setCell ⟨wi.heap.size, 1, none⟩ (.int .i64 x1)).setCell ⟨wi.heap.size, 2, none⟩ (.int .i64 y2)).setCell ⟨wi.heap.size, 3, none⟩ (.int .i64 x3)).setCell ⟨wi.heap.size, 4, none⟩ (.int .i64 x4)).setCell ⟨wi.heap.size, 5, none⟩ (.bool d2)) = wm at hQm hXm hLm hR8m hR9m hOm hcm ⊢
  go_upto_region 20 with (fail)
  have hKy : Ky w wm #[.slice (some ⟨b0, off0, none⟩) L.length c0, .int .i64 x1, .int .i64 x2, .int .i64 x3, .int .i64 x4, .bool x5] #[.int .i64 lA, .int .i64 sA] (wi.heap.size) #[.slice (some ⟨gk, 0, none⟩) L2.length cpk, .int .i64 x1, .int .i64 y2, .int .i64 x3, .int .i64 x4, .bool d2] := ⟨⟨hcm, hXm, hLm⟩, hQm⟩
  refine wp_region_held_drew (S := fun x => Ky w x #[.slice (some ⟨b0, off0, none⟩) L.length c0, .int .i64 x1, .int .i64 x2, .int .i64 x3, .int .i64 x4, .bool x5] #[.int .i64 lA, .int .i64 sA] (wi.heap.size) #[.slice (some ⟨gk, 0, none⟩) L2.length cpk, .int .i64 x1, .int .i64 y2, .int .i64 x3, .int .i64 x4, .bool d2]) (by kernel_rfl) (hKy.later (bdrew1 _)) (fun hHeld => ?_)
  refine' takeF (i := 0) (oi := ({ dst := some 118, op := Op.load 30 (Operand.tmp 15), type := 30, pos := "l6_journal.go:294", after := #[], guard := none } : Oper)) rfl ⟨by rfl, fun x hSw => ?h5⟩ hHeld ?r5
  case h5 =>
    obtain ⟨k0, k1, k2, k3, k4, k5⟩ := B6.of hSw.qr; obtain ⟨qc0, qc1⟩ := B2.of hSw.k.lr
    go_simp
    try with_reducible rfl
  try simp only [Act.put, List.setIfInBounds_toArray, List.set_cons_zero, List.set_cons_succ]
  refine' takeF (i := 1) (oi := ({ dst := some 119, op := Op.load 31 (Operand.tmp 5), type := 31, pos := "l6_journal.go:294", after := #[{ on := 3, ground := Ground.gcOnly Departure.lateStores }], guard := none } : Oper)) rfl ⟨by rfl, fun x hSw => ?h6⟩ hHeld ?r6
  case h6 =>
    obtain ⟨k0, k1, k2, k3, k4, k5⟩ := B6.of hSw.qr; obtain ⟨qc0, qc1⟩ := B2.of hSw.k.lr
    go_simp
    try with_reducible rfl
  try simp only [Act.put, List.setIfInBounds_toArray, List.set_cons_zero, List.set_cons_succ]
  refine' takeF (i := 2) (oi := ({ dst := some 120, op := Op.move (Operand.tmp 16), type := 3, pos := "l6_journal.go:294", after := #[{ on := 4, ground := Ground.gcOnly Departure.lateStores }], guard := none } : Oper)) rfl ⟨by rfl, fun x hSw => ?h7⟩ hHeld ?r7
  case h7 =>
    go_simp
    try with_reducible rfl
  try simp only [Act.put, List.setIfInBounds_toArray, List.set_cons_zero, List.set_cons_succ]
  refine wpAnyH_ready (rs := [3]) (by kernel_rfl) (by simp) ?_
  refine AllReadyH.cons (o := ({ dst := none, op := Op.store 30 (Operand.tmp 8) (Operand.tmp 118), type := 0, pos := "l6_journal.go:294", after := #[{ on := 0, ground := Ground.data }, { on := 0, ground := Ground.phase }, { on := 1, ground := Ground.textOnly Departure.lateStores }, { on := 2, ground := Ground.textOnly Departure.lateStores }], guard := none } : Oper)) rfl (fun K hK => ?_) AllReadyH.nil
  have hbz := bdrew1 wm; generalize wm.drew = wz at hbz hHeld ⊢; have hR8z := rowL hR8m hbz; have hR9z := rowL hR9m hbz; obtain ⟨rc0, rc1, rc2, rc3, rc4, rc5⟩ := B6.of hR8z; obtain ⟨rf0, rf1, rf2, rf3, rf4, rf5⟩ := F6.of hR8z
  go_simp
  refine hK.out _ _ (hHeld.set8 (by omega) (.slice (some ⟨gk, 0, none⟩) L2.length cpk) (.int .i64 x1) (.int .i64 y2) (.int .i64 x3) (.int .i64 x4) (.bool d2)) (fun hHeld => ?_)
  clear hK K
  try simp only [Act.put, List.setIfInBounds_toArray, List.set_cons_zero, List.set_cons_succ]
  refine wpAnyH_ready (rs := [4]) (by kernel_rfl) (by simp) ?_
  refine AllReadyH.cons (o := ({ dst := none, op := Op.store 31 (Operand.tmp 9) (Operand.tmp 119), type := 0, pos := "l6_journal.go:294", after := #[{ on := 1, ground := Ground.data }, { on := 3, ground := Ground.chain }, { on := 0, ground := Ground.phase }, { on := 1, ground := Ground.phase }, { on := 2, ground := Ground.textOnly Departure.lateStores }, { on := 3, ground := Ground.phase }], guard := none } : Oper)) rfl (fun K hK => ?_) AllReadyH.nil
  have hR9y := set6_oth (.slice (some ⟨gk, 0, none⟩) L2.length cpk) (.int .i64 x1) (.int .i64 y2) (.int .i64 x3) (.int .i64 x4) (.bool d2) (Q := w.heap.size + 1 + 1) hR9z (by omega); have t0 := (cell_of_row _ _ 0 _ _ _ hR9y).trans rfl; have tf0 := frozen_of_row _ _ 0 _ _ hR9y; have t1 := (cell_of_row _ _ 1 _ _ _ hR9y).trans rfl; have tf1 := frozen_of_row _ _ 1 _ _ hR9y
  go_simp
  refine hK.out _ _ (hHeld.set9 (by omega) (.int .i64 lA) (.int .i64 sA)) (fun hHeld => ?_)
  clear hK K
  try simp only [Act.put, List.setIfInBounds_toArray, List.set_cons_zero, List.set_cons_succ]
  refine' takeF (i := 5) (oi := ({ dst := some 10, op := Op.assign (Operand.tmp 120), type := 3, pos := "l6_journal.go:294", after := #[{ on := 2, ground := Ground.data }, { on := 4, ground := Ground.chain }, { on := 0, ground := Ground.phase }, { on := 1, ground := Ground.phase }, { on := 2, ground := Ground.phase }, { on := 3, ground := Ground.phase }, { on := 4, ground := Ground.phase }], guard := none } : Oper)) rfl ⟨by rfl, fun x hSw => ?h8⟩ hHeld ?r8
  case h8 =>
    go_simp
    try with_reducible rfl
  try simp only [Act.put, List.setIfInBounds_toArray, List.set_cons_zero, List.set_cons_succ]
  refine wpAnyH_done (by kernel_rfl) ?_ _
  go_wp2
  refine bodyPost_ret (results_cell2_tmp Tryd.results6 _ _ (w.heap.size + 1 + 1) 30 _ (0, 0) _ rfl (fin8 _ _ _ _ _ _ _ _ hR8z (by omega)) Tryd.underlying30 rfl (by kernel_rfl) (w.heap.size + 1 + 1 + 1) 31 _ (0, 0) _ rfl (fin9 _ _ _ _ _ _ _ _ hR9z (by omega)) Tryd.underlying31 rfl (by kernel_rfl)) rfl ?_
  exact ⟨_, _, rfl, (finO (hOm.later hbz) hR8z hR9z (by omega)).f, hHeld.k.b⟩
set_option maxRecDepth 20000 in
set_option maxHeartbeats 8000000 in
theorem sTlC0 (K : Act → World → Prop) (b0 off0 c0 : Nat) (L : List Fil) (x1 x2 x3 x4 : Int) (x5 : Bool) (lA sA : Int) (f : ByteArray) (w wf : World) (ln : Nat) (L1 : List Fil) (y1 : Int) (d1 : Bool) (L2 : List Fil) (y2 : Int) (d2 : Bool) (c2 : Int) (hc20 : c2 ≠ 0) (hc211 : c2 ≠ 11) (L3 : List Fil) (y3 : Int) (d3 : Bool) (r1 : Int) (hr1 : FdAt L (seg ln) r1) (e1 : stS L x1 x2 x3 x4 x5 2 (seg ln) f 0 r1 = (L1, y1, d1, 0)) (r2 : Int) (hr2 : FdAt L1 (seg ln) r2) (e2 : stS L1 x1 y1 x3 x4 d1 3 (seg ln) ⟨#[]⟩ 0 r2 = (L2, y2, d2, c2)) (r3 : Int) (hr3 : FdAt L2 (seg ln) r3) (e3 : stS L2 x1 y2 x3 x4 d2 4 (seg ln) ⟨#[]⟩ sA r3 = (L3, y3, d3, 0)) (hK : ∀ a y, Code.wp Tryd.prog (tl5 Tryd.f6.body) (bodyPost Tryd.prog Tryd.f6 (RE L3 x1 y3 x3 x4 d3 lA sA c2 w)) a y → K a y) (hXf : wf.heap[w.heap.size]? = some (.cells #[.slice (some ⟨b0, off0, none⟩) L.length c0, .int .i64 x1, .int .i64 x2, .int .i64 x3, .int .i64 x4, .bool x5] 30 (0, 0))) (hLf : wf.heap[w.heap.size + 1]? = some (.cells #[.int .i64 lA, .int .i64 sA] 31 (0, 0))) (hR8f : wf.heap[w.heap.size + 1 + 1]? = some (.cells #[.slice none 0 0, .int .i64 0, .int .i64 0, .int .i64 0, .int .i64 0, .bool false] 30 (0, 0))) (hR9f : wf.heap[w.heap.size + 1 + 1 + 1]? = some (.cells #[.int .i64 0, .int .i64 0] 31 (0, 0))) (hcf : Below w.heap.size w wf) (hFL : FL wf (some ⟨b0, off0, none⟩) L.length (nthF L)) (_hfz : f.size ≤ 65536) (_hs0 : 0 ≤ sA) (_hs1 : sA ≤ 1000000000) (hok : Ok6 L x1 x2 1048576) (h3 : 0 ≤ x3 ∧ x3 ≤ 1000000000000000) (h4 : 0 ≤ x4 ∧ x4 ≤ 1000000000000000) (HLN : Hid (lA = ln)) (_hln : ln ≤ 9999) (v0 v1 v2 v3 v6 v7 v10 v12 v13 v14 v15 v16 v17 v18 v19 v20 v21 v22 v23 v24 v25 v26 v27 v28 v29 v30 v31 v32 v33 v34 v35 v36 v37 v38 v39 v40 v41 v42 v43 v44 v45 v46 v47 v48 v49 v50 v51 v52 v53 v54 v55 v56 v57 v58 v59 v60 v61 v62 v63 v64 v65 v66 v67 v68 v69 v70 v71 v72 v73 v74 v75 v76 v77 v78 v79 v80 v81 v82 v83 v84 v85 v86 v87 v88 v89 v90 v91 v92 v93 v94 v95 v96 v97 v98 v99 v100 v101 v102 v103 v104 v105 v106 v107 v108 v109 v110 v111 v112 v113 v114 v115 v116 v117 v118 v119 v120 v121 v122 v123 v124 v125 v126 v127 v128 v129 v130 v131 v132 v133 v134 v135 v136 v137 v138 v139 v140 v141 : Value) :
    Code.wp Tryd.prog (Code.region 12 #[{ dst := some 81, op := Op.fieldAddr 31 (Operand.tmp 5) 0, type := 0, pos := "l6_journal.go:284", after := #[], guard := none }, { dst := some 82, op := Op.load 3 (Operand.tmp 81), type := 3, pos := "l6_journal.go:284", after := #[{ on := 0, ground := Ground.data }], guard := none }, { dst := some 83, op := Op.call { callee := Callee.value (Operand.func 24), args := #[Operand.tmp 82], argTypes := #[3] }, type := 9, pos := "l6_journal.go:284", after := #[{ on := 1, ground := Ground.data }], guard := none }, { dst := some 14, op := Op.assign (Operand.tmp 83), type := 9, pos := "l6_journal.go:284", after := #[{ on := 2, ground := Ground.data }, { on := 2, ground := Ground.chain }, { on := 0, ground := Ground.phase }, { on := 1, ground := Ground.phase }, { on := 2, ground := Ground.phase }], guard := none }] false) (Exit.then K (bodyPost Tryd.prog Tryd.f6 (RE L3 x1 y3 x3 x4 d3 lA sA c2 w))) { tmps := List.toArray (v0 :: v1 :: v2 :: v3 :: (.pointer (some ⟨w.heap.size, 0, none⟩)) :: (.pointer (some ⟨w.heap.size + 1, 0, none⟩)) :: v6 :: v7 :: (.pointer (some ⟨w.heap.size + 1 + 1, 0, none⟩)) :: (.pointer (some ⟨w.heap.size + 1 + 1 + 1, 0, none⟩)) :: v10 :: (.string f) :: v12 :: v13 :: v14 :: v15 :: v16 :: v17 :: v18 :: v19 :: v20 :: v21 :: v22 :: v23 :: v24 :: v25 :: v26 :: v27 :: v28 :: v29 :: v30 :: v31 :: v32 :: v33 :: v34 :: v35 :: v36 :: v37 :: v38 :: v39 :: v40 :: v41 :: v42 :: v43 :: v44 :: v45 :: v46 :: v47 :: v48 :: v49 :: v50 :: v51 :: v52 :: v53 :: v54 :: v55 :: v56 :: v57 :: v58 :: v59 :: v60 :: v61 :: v62 :: v63 :: v64 :: v65 :: v66 :: v67 :: v68 :: v69 :: v70 :: v71 :: v72 :: v73 :: v74 :: v75 :: v76 :: v77 :: v78 :: v79 :: v80 :: v81 :: v82 :: v83 :: v84 :: v85 :: v86 :: v87 :: v88 :: v89 :: v90 :: v91 :: v92 :: v93 :: v94 :: v95 :: v96 :: v97 :: v98 :: v99 :: v100 :: v101 :: v102 :: v103 :: v104 :: v105 :: v106 :: v107 :: v108 :: v109 :: v110 :: v111 :: v112 :: v113 :: v114 :: v115 :: v116 :: v117 :: v118 :: v119 :: v120 :: v121 :: v122 :: v123 :: v124 :: v125 :: v126 :: v127 :: v128 :: v129 :: v130 :: v131 :: v132 :: v133 :: v134 :: v135 :: v136 :: v137 :: v138 :: v139 :: v140 :: v141 :: []), defers := [] } wf := by
  generalize hB : bodyPost Tryd.prog Tryd.f6 (RE L3 x1 y3 x3 x4 d3 lA sA c2 w) = Qx at hK ⊢
  unfold Tryd.f6 at hK
  dsimp only [tl5] at hK
  subst hB
  obtain ⟨nm, hnm⟩ : ∃ nm, seg (ln) = nm := ⟨_, rfl⟩
  have hsg := seg_ok (ln)
  rw [hnm] at hsg
  rw [hnm] at hr1 e1
  have ok1 := hok.step hr1 hsg e1
  have E1 : Hid (stS L x1 x2 x3 x4 x5 2 nm f 0 r1 = (L1, y1, d1, 0)) := e1
  clear e1
  rw [hnm] at hr2 e2
  have ok2 := ok1.step hr2 hsg e2
  have E2 : Hid (stS L1 x1 y1 x3 x4 d1 3 nm ⟨#[]⟩ 0 r2 = (L2, y2, d2, c2)) := e2
  clear e2
  have nc20 : (c2 == 0) = false := by simp [hc20]
  have nc211 : (c2 == 11) = false := by simp [hc211]
  have hc216 : c2 ≠ 16 := st_16 E2.out (by omega)
  have nc216 : (c2 == 16) = false := by simp [hc216]
  rw [hnm] at hr3 e3
  have ok3 := ok2.step hr3 hsg e3
  have E3 : Hid (stS L2 x1 y2 x3 x4 d2 4 nm ⟨#[]⟩ sA r3 = (L3, y3, d3, 0)) := e3
  clear e3
  have hz : (⟨#[]⟩ : ByteArray).size = 0 := rfl
  obtain ⟨lc0, lc1⟩ := B2.of hLf
  go_upto_region 13 with (first | (go_at_call 24; refine (sSegmentE (ln) (lA) (HLN.out) _ (by have := HLN.out; omega) nm hnm).mono ?_; rintro e wg ⟨rfl, hbg⟩))
  have hXg := rowL hXf hbg
  have hLg := rowL hLf hbg
  have hR8g := rowL hR8f hbg
  have hR9g := rowL hR9f hbg
  have hcg := bstep hcf hbg
  obtain ⟨xc0, xc1, xc2, xc3, xc4, xc5⟩ := B6.of hXg
  go_upto_region 14 with (go_at_call 23; refine (sStepE b0 off0 c0 L x1 x2 x3 x4 x5 2 nm f 0 r1 L1 y1 d1 0 _ _ (hFL.later hbg) hok (by omega) (by omega) (by omega) hsg (by omega) h3 h4 hr1 E1.out).mono ?_; rintro e wi ⟨gi, cpi, rfl, hOi, hbi⟩)
  have hQj := heap_alloc_new wi (.cells #[.slice (some ⟨gi, 0, none⟩) L1.length cpi, .int .i64 x1, .int .i64 y1, .int .i64 x3, .int .i64 x4, .bool d1] 30)
  have hbj := bal wi (.cells #[.slice (some ⟨gi, 0, none⟩) L1.length cpi, .int .i64 x1, .int .i64 y1, .int .i64 x3, .int .i64 x4, .bool d1] 30)
  have hsi : w.heap.size + 1 + 1 + 1 < wi.heap.size := by have := (Array.getElem?_eq_some_iff.1 (rowL hR9g hbi)).1; omega
  generalize wi.alloc (.cells #[.slice (some ⟨gi, 0, none⟩) L1.length cpi, .int .i64 x1, .int .i64 y1, .int .i64 x3, .int .i64 x4, .bool d1] 30) = wj at hQj hbj ⊢
  have hXj := rowL hXg (bstep hbi hbj)
  have hLj := rowL hLg (bstep hbi hbj)
  have hR8j := rowL hR8g (bstep hbi hbj)
  have hR9j := rowL hR9g (bstep hbi hbj)
  have hcj := bstep hcg (bstep hbi hbj)
  have hOj := (hOi.later hbj).wk hcg.size
  obtain ⟨zc0, zc1, zc2, zc3, zc4, zc5⟩ := B6.of hQj
  go_upto_region 16 with (go_at_call 23; refine (sStepE gi 0 cpi L1 x1 y1 x3 x4 d1 3 nm ⟨#[]⟩ 0 r2 L2 y2 d2 c2 _ _ hOj.f.fl ok1 (by omega) (by omega) (by omega) hsg (by omega) h3 h4 hr2 E2.out).mono ?_; rintro e wk ⟨gk, cpk, rfl, hOk, hbk⟩; have hQk := rowL hQj hbk; obtain ⟨ic0, ic1, ic2, ic3, ic4, ic5⟩ := B6.of hQk; obtain ⟨if0, if1, if2, if3, if4, if5⟩ := F6.of hQk)
  have hXk := rowL hXj hbk
  have hLk := rowL hLj hbk
  have hR8k := rowL hR8j hbk
  have hR9k := rowL hR9j hbk
  have hck := bstep hcj hbk
  have hQm := set6_row (.slice (some ⟨gk, 0, none⟩) L2.length cpk) (.int .i64 x1) (.int .i64 y2) (.int .i64 x3) (.int .i64 x4) (.bool d2) hQk
  have hXm := set6_oth (Q := wi.heap.size) (.slice (some ⟨gk, 0, none⟩) L2.length cpk) (.int .i64 x1) (.int .i64 y2) (.int .i64 x3) (.int .i64 x4) (.bool d2) hXk (by omega)
  have hLm := set6_oth (Q := wi.heap.size) (.slice (some ⟨gk, 0, none⟩) L2.length cpk) (.int .i64 x1) (.int .i64 y2) (.int .i64 x3) (.int .i64 x4) (.bool d2) hLk (by omega)
  have hR8m := set6_oth (Q := wi.heap.size) (.slice (some ⟨gk, 0, none⟩) L2.length cpk) (.int .i64 x1) (.int .i64 y2) (.int .i64 x3) (.int .i64 x4) (.bool d2) hR8k (by omega)
  have hR9m := set6_oth (Q := wi.heap.size) (.slice (some ⟨gk, 0, none⟩) L2.length cpk) (.int .i64 x1) (.int .i64 y2) (.int .i64 x3) (.int .i64 x4) (.bool d2) hR9k (by omega)
  have hOm := keep6 (v0 := .slice (some ⟨gk, 0, none⟩) L2.length cpk) (v1 := .int .i64 x1) (v2 := .int .i64 y2) (v3 := .int .i64 x3) (v4 := .int .i64 x4) (v5 := .bool d2) (hOk.wk hcj.size) hQk
  have hcm := set6_below (Q := wi.heap.size) (.slice (some ⟨gk, 0, none⟩) L2.length cpk) (.int .i64 x1) (.int .i64 y2) (.int .i64 x3) (.int .i64 x4) (.bool d2) hck (by omega)
  generalize ((((((wk.setCell ⟨wi.heap.size, 0, none⟩ (.slice (some ⟨gk, 0, none⟩) L2.length cpk)).setCell ⟨wi.heap.size, 1, none⟩ (.int .i64 x1)).setCell ⟨wi.heap.size, 2, none⟩ (.int .i64 y2)).setCell ⟨wi.heap.size, 3, none⟩ (.int .i64 x3)).setCell ⟨wi.heap.size, 4, none⟩ (.int .i64 x4)).setCell ⟨wi.heap.size, 5, none⟩ (.bool d2)) = wm at hQm hXm hLm hR8m hR9m hOm hcm ⊢
  obtain ⟨ac0, ac1⟩ := B2.of hLm
  obtain ⟨bc0, bc1, bc2, bc3, bc4, bc5⟩ := B6.of hQm
  go_upto_region 22 with (go_at_call 23; refine (sStepE gk 0 cpk L2 x1 y2 x3 x4 d2 4 nm ⟨#[]⟩ sA r3 L3 y3 d3 0 _ _ hOm.f.fl ok2 (by omega) (by omega) (by omega) hsg (by omega) h3 h4 hr3 E3.out).mono ?_; rintro e wp ⟨gp, cpp, rfl, hOp, hbp⟩)
  have hQq := heap_alloc_new wp (.cells #[.slice (some ⟨gp, 0, none⟩) L3.length cpp, .int .i64 x1, .int .i64 y3, .int .i64 x3, .int .i64 x4, .bool d3] 30)
  have hbq := bal wp (.cells #[.slice (some ⟨gp, 0, none⟩) L3.length cpp, .int .i64 x1, .int .i64 y3, .int .i64 x3, .int .i64 x4, .bool d3] 30)
  have hsp := hbp.size
  have hsw : wi.heap.size < wm.heap.size := (Array.getElem?_eq_some_iff.1 hQm).1
  generalize wp.alloc (.cells #[.slice (some ⟨gp, 0, none⟩) L3.length cpp, .int .i64 x1, .int .i64 y3, .int .i64 x3, .int .i64 x4, .bool d3] 30) = wq at hQq hbq ⊢
  have hXq := rowL hXm (bstep hbp hbq)
  have hLq := rowL hLm (bstep hbp hbq)
  have hR8q := rowL hR8m (bstep hbp hbq)
  have hR9q := rowL hR9m (bstep hbp hbq)
  have hcq := bstep hcm (bstep hbp hbq)
  have hOq := (hOp.later hbq).wk hcm.size
  have hKy : Ky w wq #[.slice (some ⟨b0, off0, none⟩) L.length c0, .int .i64 x1, .int .i64 x2, .int .i64 x3, .int .i64 x4, .bool x5] #[.int .i64 lA, .int .i64 sA] wp.heap.size #[.slice (some ⟨gp, 0, none⟩) L3.length cpp, .int .i64 x1, .int .i64 y3, .int .i64 x3, .int .i64 x4, .bool d3] := ⟨⟨hcq, hXq, hLq⟩, hQq⟩
  go_upto_region 24 with (fail)
  refine wp_region_held_drew (S := fun x => Ky w x #[.slice (some ⟨b0, off0, none⟩) L.length c0, .int .i64 x1, .int .i64 x2, .int .i64 x3, .int .i64 x4, .bool x5] #[.int .i64 lA, .int .i64 sA] (wp.heap.size) #[.slice (some ⟨gp, 0, none⟩) L3.length cpp, .int .i64 x1, .int .i64 y3, .int .i64 x3, .int .i64 x4, .bool d3]) (by kernel_rfl) (hKy.later (bdrew1 _)) (fun hHeld => ?_)
  refine' takeF (i := 0) (oi := ({ dst := some 133, op := Op.load 30 (Operand.tmp 17), type := 30, pos := "l6_journal.go:299", after := #[], guard := none } : Oper)) rfl ⟨by rfl, fun x hSw => ?h9⟩ hHeld ?r9
  case h9 =>
    obtain ⟨k0, k1, k2, k3, k4, k5⟩ := B6.of hSw.qr; obtain ⟨qc0, qc1⟩ := B2.of hSw.k.lr
    go_simp
    try with_reducible rfl
  try simp only [Act.put, List.setIfInBounds_toArray, List.set_cons_zero, List.set_cons_succ]
  refine' takeF (i := 1) (oi := ({ dst := some 134, op := Op.load 31 (Operand.tmp 5), type := 31, pos := "l6_journal.go:299", after := #[{ on := 3, ground := Ground.gcOnly Departure.lateStores }], guard := none } : Oper)) rfl ⟨by rfl, fun x hSw => ?h10⟩ hHeld ?r10
  case h10 =>
    obtain ⟨k0, k1, k2, k3, k4, k5⟩ := B6.of hSw.qr; obtain ⟨qc0, qc1⟩ := B2.of hSw.k.lr
    go_simp
    try with_reducible rfl
  try simp only [Act.put, List.setIfInBounds_toArray, List.set_cons_zero, List.set_cons_succ]
  refine' takeF (i := 2) (oi := ({ dst := some 135, op := Op.move (Operand.tmp 16), type := 3, pos := "l6_journal.go:299", after := #[{ on := 4, ground := Ground.gcOnly Departure.lateStores }], guard := none } : Oper)) rfl ⟨by rfl, fun x hSw => ?h11⟩ hHeld ?r11
  case h11 =>
    go_simp
    try with_reducible rfl
  try simp only [Act.put, List.setIfInBounds_toArray, List.set_cons_zero, List.set_cons_succ]
  refine wpAnyH_ready (rs := [3]) (by kernel_rfl) (by simp) ?_
  refine AllReadyH.cons (o := ({ dst := none, op := Op.store 30 (Operand.tmp 8) (Operand.tmp 133), type := 0, pos := "l6_journal.go:299", after := #[{ on := 0, ground := Ground.data }, { on := 0, ground := Ground.phase }, { on := 1, ground := Ground.textOnly Departure.lateStores }, { on := 2, ground := Ground.textOnly Departure.lateStores }], guard := none } : Oper)) rfl (fun K hK => ?_) AllReadyH.nil
  have hbz := bdrew1 wq; generalize wq.drew = wz at hbz hHeld ⊢; have hR8z := rowL hR8q hbz; have hR9z := rowL hR9q hbz; obtain ⟨rc0, rc1, rc2, rc3, rc4, rc5⟩ := B6.of hR8z; obtain ⟨rf0, rf1, rf2, rf3, rf4, rf5⟩ := F6.of hR8z
  go_simp
  refine hK.out _ _ (hHeld.set8 (by omega) (.slice (some ⟨gp, 0, none⟩) L3.length cpp) (.int .i64 x1) (.int .i64 y3) (.int .i64 x3) (.int .i64 x4) (.bool d3)) (fun hHeld => ?_)
  clear hK K
  try simp only [Act.put, List.setIfInBounds_toArray, List.set_cons_zero, List.set_cons_succ]
  refine wpAnyH_ready (rs := [4]) (by kernel_rfl) (by simp) ?_
  refine AllReadyH.cons (o := ({ dst := none, op := Op.store 31 (Operand.tmp 9) (Operand.tmp 134), type := 0, pos := "l6_journal.go:299", after := #[{ on := 1, ground := Ground.data }, { on := 3, ground := Ground.chain }, { on := 0, ground := Ground.phase }, { on := 1, ground := Ground.phase }, { on := 2, ground := Ground.textOnly Departure.lateStores }, { on := 3, ground := Ground.phase }], guard := none } : Oper)) rfl (fun K hK => ?_) AllReadyH.nil
  have hR9y := set6_oth (.slice (some ⟨gp, 0, none⟩) L3.length cpp) (.int .i64 x1) (.int .i64 y3) (.int .i64 x3) (.int .i64 x4) (.bool d3) (Q := w.heap.size + 1 + 1) hR9z (by omega); have t0 := (cell_of_row _ _ 0 _ _ _ hR9y).trans rfl; have tf0 := frozen_of_row _ _ 0 _ _ hR9y; have t1 := (cell_of_row _ _ 1 _ _ _ hR9y).trans rfl; have tf1 := frozen_of_row _ _ 1 _ _ hR9y
  go_simp
  refine hK.out _ _ (hHeld.set9 (by omega) (.int .i64 lA) (.int .i64 sA)) (fun hHeld => ?_)
  clear hK K
  try simp only [Act.put, List.setIfInBounds_toArray, List.set_cons_zero, List.set_cons_succ]
  refine' takeF (i := 5) (oi := ({ dst := some 10, op := Op.assign (Operand.tmp 135), type := 3, pos := "l6_journal.go:299", after := #[{ on := 2, ground := Ground.data }, { on := 4, ground := Ground.chain }, { on := 0, ground := Ground.phase }, { on := 1, ground := Ground.phase }, { on := 2, ground := Ground.phase }, { on := 3, ground := Ground.phase }, { on := 4, ground := Ground.phase }], guard := none } : Oper)) rfl ⟨by rfl, fun x hSw => ?h12⟩ hHeld ?r12
  case h12 =>
    go_simp
    try with_reducible rfl
  try simp only [Act.put, List.setIfInBounds_toArray, List.set_cons_zero, List.set_cons_succ]
  refine wpAnyH_done (by kernel_rfl) ?_ _
  go_wp2
  refine bodyPost_ret (results_cell2_tmp Tryd.results6 _ _ (w.heap.size + 1 + 1) 30 _ (0, 0) _ rfl (fin8 _ _ _ _ _ _ _ _ hR8z (by omega)) Tryd.underlying30 rfl (by kernel_rfl) (w.heap.size + 1 + 1 + 1) 31 _ (0, 0) _ rfl (fin9 _ _ _ _ _ _ _ _ hR9z (by omega)) Tryd.underlying31 rfl (by kernel_rfl)) rfl ?_
  exact ⟨_, _, rfl, (finO (hOq.later hbz) hR8z hR9z (by omega)).f, hHeld.k.b⟩
set_option maxRecDepth 20000 in
set_option maxHeartbeats 8000000 in
theorem sTlC1 (K : Act → World → Prop) (b0 off0 c0 : Nat) (L : List Fil) (x1 x2 x3 x4 : Int) (x5 : Bool) (lA sA : Int) (f : ByteArray) (w wf : World) (ln : Nat) (L1 : List Fil) (y1 : Int) (d1 : Bool) (L2 : List Fil) (y2 : Int) (d2 : Bool) (c2 : Int) (hc20 : c2 ≠ 0) (hc211 : c2 ≠ 11) (L3 : List Fil) (y3 : Int) (d3 : Bool) (r1 : Int) (hr1 : FdAt L (seg ln) r1) (e1 : stS L x1 x2 x3 x4 x5 2 (seg ln) f 0 r1 = (L1, y1, d1, 0)) (r2 : Int) (hr2 : FdAt L1 (seg ln) r2) (e2 : stS L1 x1 y1 x3 x4 d1 3 (seg ln) ⟨#[]⟩ 0 r2 = (L2, y2, d2, c2)) (r3 : Int) (hr3 : FdAt L2 (seg ln) r3) (e3 : stS L2 x1 y2 x3 x4 d2 4 (seg ln) ⟨#[]⟩ sA r3 = (L3, y3, d3, 11)) (hK : ∀ a y, Code.wp Tryd.prog (tl5 Tryd.f6.body) (bodyPost Tryd.prog Tryd.f6 (RE L3 x1 y3 x3 x4 d3 lA sA 11 w)) a y → K a y) (hXf : wf.heap[w.heap.size]? = some (.cells #[.slice (some ⟨b0, off0, none⟩) L.length c0, .int .i64 x1, .int .i64 x2, .int .i64 x3, .int .i64 x4, .bool x5] 30 (0, 0))) (hLf : wf.heap[w.heap.size + 1]? = some (.cells #[.int .i64 lA, .int .i64 sA] 31 (0, 0))) (hR8f : wf.heap[w.heap.size + 1 + 1]? = some (.cells #[.slice none 0 0, .int .i64 0, .int .i64 0, .int .i64 0, .int .i64 0, .bool false] 30 (0, 0))) (hR9f : wf.heap[w.heap.size + 1 + 1 + 1]? = some (.cells #[.int .i64 0, .int .i64 0] 31 (0, 0))) (hcf : Below w.heap.size w wf) (hFL : FL wf (some ⟨b0, off0, none⟩) L.length (nthF L)) (_hfz : f.size ≤ 65536) (_hs0 : 0 ≤ sA) (_hs1 : sA ≤ 1000000000) (hok : Ok6 L x1 x2 1048576) (h3 : 0 ≤ x3 ∧ x3 ≤ 1000000000000000) (h4 : 0 ≤ x4 ∧ x4 ≤ 1000000000000000) (HLN : Hid (lA = ln)) (_hln : ln ≤ 9999) (v0 v1 v2 v3 v6 v7 v10 v12 v13 v14 v15 v16 v17 v18 v19 v20 v21 v22 v23 v24 v25 v26 v27 v28 v29 v30 v31 v32 v33 v34 v35 v36 v37 v38 v39 v40 v41 v42 v43 v44 v45 v46 v47 v48 v49 v50 v51 v52 v53 v54 v55 v56 v57 v58 v59 v60 v61 v62 v63 v64 v65 v66 v67 v68 v69 v70 v71 v72 v73 v74 v75 v76 v77 v78 v79 v80 v81 v82 v83 v84 v85 v86 v87 v88 v89 v90 v91 v92 v93 v94 v95 v96 v97 v98 v99 v100 v101 v102 v103 v104 v105 v106 v107 v108 v109 v110 v111 v112 v113 v114 v115 v116 v117 v118 v119 v120 v121 v122 v123 v124 v125 v126 v127 v128 v129 v130 v131 v132 v133 v134 v135 v136 v137 v138 v139 v140 v141 : Value) :
    Code.wp Tryd.prog (Code.region 12 #[{ dst := some 81, op := Op.fieldAddr 31 (Operand.tmp 5) 0, type := 0, pos := "l6_journal.go:284", after := #[], guard := none }, { dst := some 82, op := Op.load 3 (Operand.tmp 81), type := 3, pos := "l6_journal.go:284", after := #[{ on := 0, ground := Ground.data }], guard := none }, { dst := some 83, op := Op.call { callee := Callee.value (Operand.func 24), args := #[Operand.tmp 82], argTypes := #[3] }, type := 9, pos := "l6_journal.go:284", after := #[{ on := 1, ground := Ground.data }], guard := none }, { dst := some 14, op := Op.assign (Operand.tmp 83), type := 9, pos := "l6_journal.go:284", after := #[{ on := 2, ground := Ground.data }, { on := 2, ground := Ground.chain }, { on := 0, ground := Ground.phase }, { on := 1, ground := Ground.phase }, { on := 2, ground := Ground.phase }], guard := none }] false) (Exit.then K (bodyPost Tryd.prog Tryd.f6 (RE L3 x1 y3 x3 x4 d3 lA sA 11 w))) { tmps := List.toArray (v0 :: v1 :: v2 :: v3 :: (.pointer (some ⟨w.heap.size, 0, none⟩)) :: (.pointer (some ⟨w.heap.size + 1, 0, none⟩)) :: v6 :: v7 :: (.pointer (some ⟨w.heap.size + 1 + 1, 0, none⟩)) :: (.pointer (some ⟨w.heap.size + 1 + 1 + 1, 0, none⟩)) :: v10 :: (.string f) :: v12 :: v13 :: v14 :: v15 :: v16 :: v17 :: v18 :: v19 :: v20 :: v21 :: v22 :: v23 :: v24 :: v25 :: v26 :: v27 :: v28 :: v29 :: v30 :: v31 :: v32 :: v33 :: v34 :: v35 :: v36 :: v37 :: v38 :: v39 :: v40 :: v41 :: v42 :: v43 :: v44 :: v45 :: v46 :: v47 :: v48 :: v49 :: v50 :: v51 :: v52 :: v53 :: v54 :: v55 :: v56 :: v57 :: v58 :: v59 :: v60 :: v61 :: v62 :: v63 :: v64 :: v65 :: v66 :: v67 :: v68 :: v69 :: v70 :: v71 :: v72 :: v73 :: v74 :: v75 :: v76 :: v77 :: v78 :: v79 :: v80 :: v81 :: v82 :: v83 :: v84 :: v85 :: v86 :: v87 :: v88 :: v89 :: v90 :: v91 :: v92 :: v93 :: v94 :: v95 :: v96 :: v97 :: v98 :: v99 :: v100 :: v101 :: v102 :: v103 :: v104 :: v105 :: v106 :: v107 :: v108 :: v109 :: v110 :: v111 :: v112 :: v113 :: v114 :: v115 :: v116 :: v117 :: v118 :: v119 :: v120 :: v121 :: v122 :: v123 :: v124 :: v125 :: v126 :: v127 :: v128 :: v129 :: v130 :: v131 :: v132 :: v133 :: v134 :: v135 :: v136 :: v137 :: v138 :: v139 :: v140 :: v141 :: []), defers := [] } wf := by
  generalize hB : bodyPost Tryd.prog Tryd.f6 (RE L3 x1 y3 x3 x4 d3 lA sA 11 w) = Qx at hK ⊢
  unfold Tryd.f6 at hK
  dsimp only [tl5] at hK
  subst hB
  obtain ⟨nm, hnm⟩ : ∃ nm, seg (ln) = nm := ⟨_, rfl⟩
  have hsg := seg_ok (ln)
  rw [hnm] at hsg
  rw [hnm] at hr1 e1
  have ok1 := hok.step hr1 hsg e1
  have E1 : Hid (stS L x1 x2 x3 x4 x5 2 nm f 0 r1 = (L1, y1, d1, 0)) := e1
  clear e1
  rw [hnm] at hr2 e2
  have ok2 := ok1.step hr2 hsg e2
  have E2 : Hid (stS L1 x1 y1 x3 x4 d1 3 nm ⟨#[]⟩ 0 r2 = (L2, y2, d2, c2)) := e2
  clear e2
  have nc20 : (c2 == 0) = false := by simp [hc20]
  have nc211 : (c2 == 11) = false := by simp [hc211]
  have hc216 : c2 ≠ 16 := st_16 E2.out (by omega)
  have nc216 : (c2 == 16) = false := by simp [hc216]
  rw [hnm] at hr3 e3
  have ok3 := ok2.step hr3 hsg e3
  have E3 : Hid (stS L2 x1 y2 x3 x4 d2 4 nm ⟨#[]⟩ sA r3 = (L3, y3, d3, 11)) := e3
  clear e3
  have hz : (⟨#[]⟩ : ByteArray).size = 0 := rfl
  obtain ⟨lc0, lc1⟩ := B2.of hLf
  go_upto_region 13 with (first | (go_at_call 24; refine (sSegmentE (ln) (lA) (HLN.out) _ (by have := HLN.out; omega) nm hnm).mono ?_; rintro e wg ⟨rfl, hbg⟩))
  have hXg := rowL hXf hbg
  have hLg := rowL hLf hbg
  have hR8g := rowL hR8f hbg
  have hR9g := rowL hR9f hbg
  have hcg := bstep hcf hbg
  obtain ⟨xc0, xc1, xc2, xc3, xc4, xc5⟩ := B6.of hXg
  go_upto_region 14 with (go_at_call 23; refine (sStepE b0 off0 c0 L x1 x2 x3 x4 x5 2 nm f 0 r1 L1 y1 d1 0 _ _ (hFL.later hbg) hok (by omega) (by omega) (by omega) hsg (by omega) h3 h4 hr1 E1.out).mono ?_; rintro e wi ⟨gi, cpi, rfl, hOi, hbi⟩)
  have hQj := heap_alloc_new wi (.cells #[.slice (some ⟨gi, 0, none⟩) L1.length cpi, .int .i64 x1, .int .i64 y1, .int .i64 x3, .int .i64 x4, .bool d1] 30)
  have hbj := bal wi (.cells #[.slice (some ⟨gi, 0, none⟩) L1.length cpi, .int .i64 x1, .int .i64 y1, .int .i64 x3, .int .i64 x4, .bool d1] 30)
  have hsi : w.heap.size + 1 + 1 + 1 < wi.heap.size := by have := (Array.getElem?_eq_some_iff.1 (rowL hR9g hbi)).1; omega
  generalize wi.alloc (.cells #[.slice (some ⟨gi, 0, none⟩) L1.length cpi, .int .i64 x1, .int .i64 y1, .int .i64 x3, .int .i64 x4, .bool d1] 30) = wj at hQj hbj ⊢
  have hXj := rowL hXg (bstep hbi hbj)
  have hLj := rowL hLg (bstep hbi hbj)
  have hR8j := rowL hR8g (bstep hbi hbj)
  have hR9j := rowL hR9g (bstep hbi hbj)
  have hcj := bstep hcg (bstep hbi hbj)
  have hOj := (hOi.later hbj).wk hcg.size
  obtain ⟨zc0, zc1, zc2, zc3, zc4, zc5⟩ := B6.of hQj
  go_upto_region 16 with (go_at_call 23; refine (sStepE gi 0 cpi L1 x1 y1 x3 x4 d1 3 nm ⟨#[]⟩ 0 r2 L2 y2 d2 c2 _ _ hOj.f.fl ok1 (by omega) (by omega) (by omega) hsg (by omega) h3 h4 hr2 E2.out).mono ?_; rintro e wk ⟨gk, cpk, rfl, hOk, hbk⟩; have hQk := rowL hQj hbk; obtain ⟨ic0, ic1, ic2, ic3, ic4, ic5⟩ := B6.of hQk; obtain ⟨if0, if1, if2, if3, if4, if5⟩ := F6.of hQk)
  have hXk := rowL hXj hbk
  have hLk := rowL hLj hbk
  have hR8k := rowL hR8j hbk
  have hR9k := rowL hR9j hbk
  have hck := bstep hcj hbk
  have hQm := set6_row (.slice (some ⟨gk, 0, none⟩) L2.length cpk) (.int .i64 x1) (.int .i64 y2) (.int .i64 x3) (.int .i64 x4) (.bool d2) hQk
  have hXm := set6_oth (Q := wi.heap.size) (.slice (some ⟨gk, 0, none⟩) L2.length cpk) (.int .i64 x1) (.int .i64 y2) (.int .i64 x3) (.int .i64 x4) (.bool d2) hXk (by omega)
  have hLm := set6_oth (Q := wi.heap.size) (.slice (some ⟨gk, 0, none⟩) L2.length cpk) (.int .i64 x1) (.int .i64 y2) (.int .i64 x3) (.int .i64 x4) (.bool d2) hLk (by omega)
  have hR8m := set6_oth (Q := wi.heap.size) (.slice (some ⟨gk, 0, none⟩) L2.length cpk) (.int .i64 x1) (.int .i64 y2) (.int .i64 x3) (.int .i64 x4) (.bool d2) hR8k (by omega)
  have hR9m := set6_oth (Q := wi.heap.size) (.slice (some ⟨gk, 0, none⟩) L2.length cpk) (.int .i64 x1) (.int .i64 y2) (.int .i64 x3) (.int .i64 x4) (.bool d2) hR9k (by omega)
  have hOm := keep6 (v0 := .slice (some ⟨gk, 0, none⟩) L2.length cpk) (v1 := .int .i64 x1) (v2 := .int .i64 y2) (v3 := .int .i64 x3) (v4 := .int .i64 x4) (v5 := .bool d2) (hOk.wk hcj.size) hQk
  have hcm := set6_below (Q := wi.heap.size) (.slice (some ⟨gk, 0, none⟩) L2.length cpk) (.int .i64 x1) (.int .i64 y2) (.int .i64 x3) (.int .i64 x4) (.bool d2) hck (by omega)
  generalize ((((((wk.setCell ⟨wi.heap.size, 0, none⟩ (.slice (some ⟨gk, 0, none⟩) L2.length cpk)).setCell ⟨wi.heap.size, 1, none⟩ (.int .i64 x1)).setCell ⟨wi.heap.size, 2, none⟩ (.int .i64 y2)).setCell ⟨wi.heap.size, 3, none⟩ (.int .i64 x3)).setCell ⟨wi.heap.size, 4, none⟩ (.int .i64 x4)).setCell ⟨wi.heap.size, 5, none⟩ (.bool d2)) = wm at hQm hXm hLm hR8m hR9m hOm hcm ⊢
  obtain ⟨ac0, ac1⟩ := B2.of hLm
  obtain ⟨bc0, bc1, bc2, bc3, bc4, bc5⟩ := B6.of hQm
  go_upto_region 22 with (go_at_call 23; refine (sStepE gk 0 cpk L2 x1 y2 x3 x4 d2 4 nm ⟨#[]⟩ sA r3 L3 y3 d3 11 _ _ hOm.f.fl ok2 (by omega) (by omega) (by omega) hsg (by omega) h3 h4 hr3 E3.out).mono ?_; rintro e wp ⟨gp, cpp, rfl, hOp, hbp⟩)
  have hQq := heap_alloc_new wp (.cells #[.slice (some ⟨gp, 0, none⟩) L3.length cpp, .int .i64 x1, .int .i64 y3, .int .i64 x3, .int .i64 x4, .bool d3] 30)
  have hbq := bal wp (.cells #[.slice (some ⟨gp, 0, none⟩) L3.length cpp, .int .i64 x1, .int .i64 y3, .int .i64 x3, .int .i64 x4, .bool d3] 30)
  have hsp := hbp.size
  have hsw : wi.heap.size < wm.heap.size := (Array.getElem?_eq_some_iff.1 hQm).1
  generalize wp.alloc (.cells #[.slice (some ⟨gp, 0, none⟩) L3.length cpp, .int .i64 x1, .int .i64 y3, .int .i64 x3, .int .i64 x4, .bool d3] 30) = wq at hQq hbq ⊢
  have hXq := rowL hXm (bstep hbp hbq)
  have hLq := rowL hLm (bstep hbp hbq)
  have hR8q := rowL hR8m (bstep hbp hbq)
  have hR9q := rowL hR9m (bstep hbp hbq)
  have hcq := bstep hcm (bstep hbp hbq)
  have hOq := (hOp.later hbq).wk hcm.size
  have hKy : Ky w wq #[.slice (some ⟨b0, off0, none⟩) L.length c0, .int .i64 x1, .int .i64 x2, .int .i64 x3, .int .i64 x4, .bool x5] #[.int .i64 lA, .int .i64 sA] wp.heap.size #[.slice (some ⟨gp, 0, none⟩) L3.length cpp, .int .i64 x1, .int .i64 y3, .int .i64 x3, .int .i64 x4, .bool d3] := ⟨⟨hcq, hXq, hLq⟩, hQq⟩
  go_upto_region 26 with (fail)
  refine wp_region_held_drew (S := fun x => Ky w x #[.slice (some ⟨b0, off0, none⟩) L.length c0, .int .i64 x1, .int .i64 x2, .int .i64 x3, .int .i64 x4, .bool x5] #[.int .i64 lA, .int .i64 sA] (wp.heap.size) #[.slice (some ⟨gp, 0, none⟩) L3.length cpp, .int .i64 x1, .int .i64 y3, .int .i64 x3, .int .i64 x4, .bool d3]) (by kernel_rfl) (hKy.later (bdrew1 _)) (fun hHeld => ?_)
  refine' takeF (i := 0) (oi := ({ dst := some 138, op := Op.load 30 (Operand.tmp 17), type := 30, pos := "l6_journal.go:301", after := #[], guard := none } : Oper)) rfl ⟨by rfl, fun x hSw => ?h13⟩ hHeld ?r13
  case h13 =>
    obtain ⟨k0, k1, k2, k3, k4, k5⟩ := B6.of hSw.qr; obtain ⟨qc0, qc1⟩ := B2.of hSw.k.lr
    go_simp
    try with_reducible rfl
  try simp only [Act.put, List.setIfInBounds_toArray, List.set_cons_zero, List.set_cons_succ]
  refine' takeF (i := 1) (oi := ({ dst := some 139, op := Op.load 31 (Operand.tmp 5), type := 31, pos := "l6_journal.go:301", after := #[{ on := 2, ground := Ground.gcOnly Departure.lateStores }], guard := none } : Oper)) rfl ⟨by rfl, fun x hSw => ?h14⟩ hHeld ?r14
  case h14 =>
    obtain ⟨k0, k1, k2, k3, k4, k5⟩ := B6.of hSw.qr; obtain ⟨qc0, qc1⟩ := B2.of hSw.k.lr
    go_simp
    try with_reducible rfl
  try simp only [Act.put, List.setIfInBounds_toArray, List.set_cons_zero, List.set_cons_succ]
  refine wpAnyH_ready (rs := [2]) (by kernel_rfl) (by simp) ?_
  refine AllReadyH.cons (o := ({ dst := none, op := Op.store 30 (Operand.tmp 8) (Operand.tmp 138), type := 0, pos := "l6_journal.go:301", after := #[{ on := 0, ground := Ground.data }, { on := 0, ground := Ground.phase }, { on := 1, ground := Ground.textOnly Departure.lateStores }], guard := none } : Oper)) rfl (fun K hK => ?_) AllReadyH.nil
  have hbz := bdrew1 wq; generalize wq.drew = wz at hbz hHeld ⊢; have hR8z := rowL hR8q hbz; have hR9z := rowL hR9q hbz; obtain ⟨rc0, rc1, rc2, rc3, rc4, rc5⟩ := B6.of hR8z; obtain ⟨rf0, rf1, rf2, rf3, rf4, rf5⟩ := F6.of hR8z
  go_simp
  refine hK.out _ _ (hHeld.set8 (by omega) (.slice (some ⟨gp, 0, none⟩) L3.length cpp) (.int .i64 x1) (.int .i64 y3) (.int .i64 x3) (.int .i64 x4) (.bool d3)) (fun hHeld => ?_)
  clear hK K
  try simp only [Act.put, List.setIfInBounds_toArray, List.set_cons_zero, List.set_cons_succ]
  refine wpAnyH_ready (rs := [3]) (by kernel_rfl) (by simp) ?_
  refine AllReadyH.cons (o := ({ dst := none, op := Op.store 31 (Operand.tmp 9) (Operand.tmp 139), type := 0, pos := "l6_journal.go:301", after := #[{ on := 1, ground := Ground.data }, { on := 2, ground := Ground.chain }, { on := 0, ground := Ground.phase }, { on := 1, ground := Ground.phase }, { on := 2, ground := Ground.phase }], guard := none } : Oper)) rfl (fun K hK => ?_) AllReadyH.nil
  have hR9y := set6_oth (.slice (some ⟨gp, 0, none⟩) L3.length cpp) (.int .i64 x1) (.int .i64 y3) (.int .i64 x3) (.int .i64 x4) (.bool d3) (Q := w.heap.size + 1 + 1) hR9z (by omega); have t0 := (cell_of_row _ _ 0 _ _ _ hR9y).trans rfl; have tf0 := frozen_of_row _ _ 0 _ _ hR9y; have t1 := (cell_of_row _ _ 1 _ _ _ hR9y).trans rfl; have tf1 := frozen_of_row _ _ 1 _ _ hR9y
  go_simp
  refine hK.out _ _ (hHeld.set9 (by omega) (.int .i64 lA) (.int .i64 sA)) (fun hHeld => ?_)
  clear hK K
  try simp only [Act.put, List.setIfInBounds_toArray, List.set_cons_zero, List.set_cons_succ]
  refine' takeF (i := 4) (oi := ({ dst := some 10, op := Op.assign (Operand.const (Value.int IntKind.i64 11)), type := 3, pos := "l6_journal.go:301", after := #[{ on := 3, ground := Ground.chain }, { on := 0, ground := Ground.phase }, { on := 1, ground := Ground.phase }, { on := 2, ground := Ground.phase }, { on := 3, ground := Ground.phase }], guard := none } : Oper)) rfl ⟨by rfl, fun x hSw => ?h15⟩ hHeld ?r15
  case h15 =>
    go_simp
    try with_reducible rfl
  try simp only [Act.put, List.setIfInBounds_toArray, List.set_cons_zero, List.set_cons_succ]
  refine wpAnyH_done (by kernel_rfl) ?_ _
  go_wp2
  refine bodyPost_ret (results_cell2_tmp Tryd.results6 _ _ (w.heap.size + 1 + 1) 30 _ (0, 0) _ rfl (fin8 _ _ _ _ _ _ _ _ hR8z (by omega)) Tryd.underlying30 rfl (by kernel_rfl) (w.heap.size + 1 + 1 + 1) 31 _ (0, 0) _ rfl (fin9 _ _ _ _ _ _ _ _ hR9z (by omega)) Tryd.underlying31 rfl (by kernel_rfl)) rfl ?_
  exact ⟨_, _, rfl, (finO (hOq.later hbz) hR8z hR9z (by omega)).f, hHeld.k.b⟩
set_option maxRecDepth 20000 in
set_option maxHeartbeats 8000000 in
theorem sTlC2 (K : Act → World → Prop) (b0 off0 c0 : Nat) (L : List Fil) (x1 x2 x3 x4 : Int) (x5 : Bool) (lA sA : Int) (f : ByteArray) (w wf : World) (ln : Nat) (L1 : List Fil) (y1 : Int) (d1 : Bool) (L2 : List Fil) (y2 : Int) (d2 : Bool) (c2 : Int) (hc20 : c2 ≠ 0) (hc211 : c2 ≠ 11) (L3 : List Fil) (y3 : Int) (d3 : Bool) (c3 : Int) (hc30 : c3 ≠ 0) (hc311 : c3 ≠ 11) (r1 : Int) (hr1 : FdAt L (seg ln) r1) (e1 : stS L x1 x2 x3 x4 x5 2 (seg ln) f 0 r1 = (L1, y1, d1, 0)) (r2 : Int) (hr2 : FdAt L1 (seg ln) r2) (e2 : stS L1 x1 y1 x3 x4 d1 3 (seg ln) ⟨#[]⟩ 0 r2 = (L2, y2, d2, c2)) (r3 : Int) (hr3 : FdAt L2 (seg ln) r3) (e3 : stS L2 x1 y2 x3 x4 d2 4 (seg ln) ⟨#[]⟩ sA r3 = (L3, y3, d3, c3)) (hK : ∀ a y, Code.wp Tryd.prog (tl5 Tryd.f6.body) (bodyPost Tryd.prog Tryd.f6 (RE L3 x1 y3 x3 x4 d3 lA sA 20 w)) a y → K a y) (hXf : wf.heap[w.heap.size]? = some (.cells #[.slice (some ⟨b0, off0, none⟩) L.length c0, .int .i64 x1, .int .i64 x2, .int .i64 x3, .int .i64 x4, .bool x5] 30 (0, 0))) (hLf : wf.heap[w.heap.size + 1]? = some (.cells #[.int .i64 lA, .int .i64 sA] 31 (0, 0))) (hR8f : wf.heap[w.heap.size + 1 + 1]? = some (.cells #[.slice none 0 0, .int .i64 0, .int .i64 0, .int .i64 0, .int .i64 0, .bool false] 30 (0, 0))) (hR9f : wf.heap[w.heap.size + 1 + 1 + 1]? = some (.cells #[.int .i64 0, .int .i64 0] 31 (0, 0))) (hcf : Below w.heap.size w wf) (hFL : FL wf (some ⟨b0, off0, none⟩) L.length (nthF L)) (_hfz : f.size ≤ 65536) (_hs0 : 0 ≤ sA) (_hs1 : sA ≤ 1000000000) (hok : Ok6 L x1 x2 1048576) (h3 : 0 ≤ x3 ∧ x3 ≤ 1000000000000000) (h4 : 0 ≤ x4 ∧ x4 ≤ 1000000000000000) (HLN : Hid (lA = ln)) (_hln : ln ≤ 9999) (v0 v1 v2 v3 v6 v7 v10 v12 v13 v14 v15 v16 v17 v18 v19 v20 v21 v22 v23 v24 v25 v26 v27 v28 v29 v30 v31 v32 v33 v34 v35 v36 v37 v38 v39 v40 v41 v42 v43 v44 v45 v46 v47 v48 v49 v50 v51 v52 v53 v54 v55 v56 v57 v58 v59 v60 v61 v62 v63 v64 v65 v66 v67 v68 v69 v70 v71 v72 v73 v74 v75 v76 v77 v78 v79 v80 v81 v82 v83 v84 v85 v86 v87 v88 v89 v90 v91 v92 v93 v94 v95 v96 v97 v98 v99 v100 v101 v102 v103 v104 v105 v106 v107 v108 v109 v110 v111 v112 v113 v114 v115 v116 v117 v118 v119 v120 v121 v122 v123 v124 v125 v126 v127 v128 v129 v130 v131 v132 v133 v134 v135 v136 v137 v138 v139 v140 v141 : Value) :
    Code.wp Tryd.prog (Code.region 12 #[{ dst := some 81, op := Op.fieldAddr 31 (Operand.tmp 5) 0, type := 0, pos := "l6_journal.go:284", after := #[], guard := none }, { dst := some 82, op := Op.load 3 (Operand.tmp 81), type := 3, pos := "l6_journal.go:284", after := #[{ on := 0, ground := Ground.data }], guard := none }, { dst := some 83, op := Op.call { callee := Callee.value (Operand.func 24), args := #[Operand.tmp 82], argTypes := #[3] }, type := 9, pos := "l6_journal.go:284", after := #[{ on := 1, ground := Ground.data }], guard := none }, { dst := some 14, op := Op.assign (Operand.tmp 83), type := 9, pos := "l6_journal.go:284", after := #[{ on := 2, ground := Ground.data }, { on := 2, ground := Ground.chain }, { on := 0, ground := Ground.phase }, { on := 1, ground := Ground.phase }, { on := 2, ground := Ground.phase }], guard := none }] false) (Exit.then K (bodyPost Tryd.prog Tryd.f6 (RE L3 x1 y3 x3 x4 d3 lA sA 20 w))) { tmps := List.toArray (v0 :: v1 :: v2 :: v3 :: (.pointer (some ⟨w.heap.size, 0, none⟩)) :: (.pointer (some ⟨w.heap.size + 1, 0, none⟩)) :: v6 :: v7 :: (.pointer (some ⟨w.heap.size + 1 + 1, 0, none⟩)) :: (.pointer (some ⟨w.heap.size + 1 + 1 + 1, 0, none⟩)) :: v10 :: (.string f) :: v12 :: v13 :: v14 :: v15 :: v16 :: v17 :: v18 :: v19 :: v20 :: v21 :: v22 :: v23 :: v24 :: v25 :: v26 :: v27 :: v28 :: v29 :: v30 :: v31 :: v32 :: v33 :: v34 :: v35 :: v36 :: v37 :: v38 :: v39 :: v40 :: v41 :: v42 :: v43 :: v44 :: v45 :: v46 :: v47 :: v48 :: v49 :: v50 :: v51 :: v52 :: v53 :: v54 :: v55 :: v56 :: v57 :: v58 :: v59 :: v60 :: v61 :: v62 :: v63 :: v64 :: v65 :: v66 :: v67 :: v68 :: v69 :: v70 :: v71 :: v72 :: v73 :: v74 :: v75 :: v76 :: v77 :: v78 :: v79 :: v80 :: v81 :: v82 :: v83 :: v84 :: v85 :: v86 :: v87 :: v88 :: v89 :: v90 :: v91 :: v92 :: v93 :: v94 :: v95 :: v96 :: v97 :: v98 :: v99 :: v100 :: v101 :: v102 :: v103 :: v104 :: v105 :: v106 :: v107 :: v108 :: v109 :: v110 :: v111 :: v112 :: v113 :: v114 :: v115 :: v116 :: v117 :: v118 :: v119 :: v120 :: v121 :: v122 :: v123 :: v124 :: v125 :: v126 :: v127 :: v128 :: v129 :: v130 :: v131 :: v132 :: v133 :: v134 :: v135 :: v136 :: v137 :: v138 :: v139 :: v140 :: v141 :: []), defers := [] } wf := by
  generalize hB : bodyPost Tryd.prog Tryd.f6 (RE L3 x1 y3 x3 x4 d3 lA sA 20 w) = Qx at hK ⊢
  unfold Tryd.f6 at hK
  dsimp only [tl5] at hK
  subst hB
  obtain ⟨nm, hnm⟩ : ∃ nm, seg (ln) = nm := ⟨_, rfl⟩
  have hsg := seg_ok (ln)
  rw [hnm] at hsg
  rw [hnm] at hr1 e1
  have ok1 := hok.step hr1 hsg e1
  have E1 : Hid (stS L x1 x2 x3 x4 x5 2 nm f 0 r1 = (L1, y1, d1, 0)) := e1
  clear e1
  rw [hnm] at hr2 e2
  have ok2 := ok1.step hr2 hsg e2
  have E2 : Hid (stS L1 x1 y1 x3 x4 d1 3 nm ⟨#[]⟩ 0 r2 = (L2, y2, d2, c2)) := e2
  clear e2
  have nc20 : (c2 == 0) = false := by simp [hc20]
  have nc211 : (c2 == 11) = false := by simp [hc211]
  have hc216 : c2 ≠ 16 := st_16 E2.out (by omega)
  have nc216 : (c2 == 16) = false := by simp [hc216]
  rw [hnm] at hr3 e3
  have ok3 := ok2.step hr3 hsg e3
  have E3 : Hid (stS L2 x1 y2 x3 x4 d2 4 nm ⟨#[]⟩ sA r3 = (L3, y3, d3, c3)) := e3
  clear e3
  have nc30 : (c3 == 0) = false := by simp [hc30]
  have nc311 : (c3 == 11) = false := by simp [hc311]
  have hz : (⟨#[]⟩ : ByteArray).size = 0 := rfl
  obtain ⟨lc0, lc1⟩ := B2.of hLf
  go_upto_region 13 with (first | (go_at_call 24; refine (sSegmentE (ln) (lA) (HLN.out) _ (by have := HLN.out; omega) nm hnm).mono ?_; rintro e wg ⟨rfl, hbg⟩))
  have hXg := rowL hXf hbg
  have hLg := rowL hLf hbg
  have hR8g := rowL hR8f hbg
  have hR9g := rowL hR9f hbg
  have hcg := bstep hcf hbg
  obtain ⟨xc0, xc1, xc2, xc3, xc4, xc5⟩ := B6.of hXg
  go_upto_region 14 with (go_at_call 23; refine (sStepE b0 off0 c0 L x1 x2 x3 x4 x5 2 nm f 0 r1 L1 y1 d1 0 _ _ (hFL.later hbg) hok (by omega) (by omega) (by omega) hsg (by omega) h3 h4 hr1 E1.out).mono ?_; rintro e wi ⟨gi, cpi, rfl, hOi, hbi⟩)
  have hQj := heap_alloc_new wi (.cells #[.slice (some ⟨gi, 0, none⟩) L1.length cpi, .int .i64 x1, .int .i64 y1, .int .i64 x3, .int .i64 x4, .bool d1] 30)
  have hbj := bal wi (.cells #[.slice (some ⟨gi, 0, none⟩) L1.length cpi, .int .i64 x1, .int .i64 y1, .int .i64 x3, .int .i64 x4, .bool d1] 30)
  have hsi : w.heap.size + 1 + 1 + 1 < wi.heap.size := by have := (Array.getElem?_eq_some_iff.1 (rowL hR9g hbi)).1; omega
  generalize wi.alloc (.cells #[.slice (some ⟨gi, 0, none⟩) L1.length cpi, .int .i64 x1, .int .i64 y1, .int .i64 x3, .int .i64 x4, .bool d1] 30) = wj at hQj hbj ⊢
  have hXj := rowL hXg (bstep hbi hbj)
  have hLj := rowL hLg (bstep hbi hbj)
  have hR8j := rowL hR8g (bstep hbi hbj)
  have hR9j := rowL hR9g (bstep hbi hbj)
  have hcj := bstep hcg (bstep hbi hbj)
  have hOj := (hOi.later hbj).wk hcg.size
  obtain ⟨zc0, zc1, zc2, zc3, zc4, zc5⟩ := B6.of hQj
  go_upto_region 16 with (go_at_call 23; refine (sStepE gi 0 cpi L1 x1 y1 x3 x4 d1 3 nm ⟨#[]⟩ 0 r2 L2 y2 d2 c2 _ _ hOj.f.fl ok1 (by omega) (by omega) (by omega) hsg (by omega) h3 h4 hr2 E2.out).mono ?_; rintro e wk ⟨gk, cpk, rfl, hOk, hbk⟩; have hQk := rowL hQj hbk; obtain ⟨ic0, ic1, ic2, ic3, ic4, ic5⟩ := B6.of hQk; obtain ⟨if0, if1, if2, if3, if4, if5⟩ := F6.of hQk)
  have hXk := rowL hXj hbk
  have hLk := rowL hLj hbk
  have hR8k := rowL hR8j hbk
  have hR9k := rowL hR9j hbk
  have hck := bstep hcj hbk
  have hQm := set6_row (.slice (some ⟨gk, 0, none⟩) L2.length cpk) (.int .i64 x1) (.int .i64 y2) (.int .i64 x3) (.int .i64 x4) (.bool d2) hQk
  have hXm := set6_oth (Q := wi.heap.size) (.slice (some ⟨gk, 0, none⟩) L2.length cpk) (.int .i64 x1) (.int .i64 y2) (.int .i64 x3) (.int .i64 x4) (.bool d2) hXk (by omega)
  have hLm := set6_oth (Q := wi.heap.size) (.slice (some ⟨gk, 0, none⟩) L2.length cpk) (.int .i64 x1) (.int .i64 y2) (.int .i64 x3) (.int .i64 x4) (.bool d2) hLk (by omega)
  have hR8m := set6_oth (Q := wi.heap.size) (.slice (some ⟨gk, 0, none⟩) L2.length cpk) (.int .i64 x1) (.int .i64 y2) (.int .i64 x3) (.int .i64 x4) (.bool d2) hR8k (by omega)
  have hR9m := set6_oth (Q := wi.heap.size) (.slice (some ⟨gk, 0, none⟩) L2.length cpk) (.int .i64 x1) (.int .i64 y2) (.int .i64 x3) (.int .i64 x4) (.bool d2) hR9k (by omega)
  have hOm := keep6 (v0 := .slice (some ⟨gk, 0, none⟩) L2.length cpk) (v1 := .int .i64 x1) (v2 := .int .i64 y2) (v3 := .int .i64 x3) (v4 := .int .i64 x4) (v5 := .bool d2) (hOk.wk hcj.size) hQk
  have hcm := set6_below (Q := wi.heap.size) (.slice (some ⟨gk, 0, none⟩) L2.length cpk) (.int .i64 x1) (.int .i64 y2) (.int .i64 x3) (.int .i64 x4) (.bool d2) hck (by omega)
  generalize ((((((wk.setCell ⟨wi.heap.size, 0, none⟩ (.slice (some ⟨gk, 0, none⟩) L2.length cpk)).setCell ⟨wi.heap.size, 1, none⟩ (.int .i64 x1)).setCell ⟨wi.heap.size, 2, none⟩ (.int .i64 y2)).setCell ⟨wi.heap.size, 3, none⟩ (.int .i64 x3)).setCell ⟨wi.heap.size, 4, none⟩ (.int .i64 x4)).setCell ⟨wi.heap.size, 5, none⟩ (.bool d2)) = wm at hQm hXm hLm hR8m hR9m hOm hcm ⊢
  obtain ⟨ac0, ac1⟩ := B2.of hLm
  obtain ⟨bc0, bc1, bc2, bc3, bc4, bc5⟩ := B6.of hQm
  go_upto_region 22 with (go_at_call 23; refine (sStepE gk 0 cpk L2 x1 y2 x3 x4 d2 4 nm ⟨#[]⟩ sA r3 L3 y3 d3 c3 _ _ hOm.f.fl ok2 (by omega) (by omega) (by omega) hsg (by omega) h3 h4 hr3 E3.out).mono ?_; rintro e wp ⟨gp, cpp, rfl, hOp, hbp⟩)
  have hQq := heap_alloc_new wp (.cells #[.slice (some ⟨gp, 0, none⟩) L3.length cpp, .int .i64 x1, .int .i64 y3, .int .i64 x3, .int .i64 x4, .bool d3] 30)
  have hbq := bal wp (.cells #[.slice (some ⟨gp, 0, none⟩) L3.length cpp, .int .i64 x1, .int .i64 y3, .int .i64 x3, .int .i64 x4, .bool d3] 30)
  have hsp := hbp.size
  have hsw : wi.heap.size < wm.heap.size := (Array.getElem?_eq_some_iff.1 hQm).1
  generalize wp.alloc (.cells #[.slice (some ⟨gp, 0, none⟩) L3.length cpp, .int .i64 x1, .int .i64 y3, .int .i64 x3, .int .i64 x4, .bool d3] 30) = wq at hQq hbq ⊢
  have hXq := rowL hXm (bstep hbp hbq)
  have hLq := rowL hLm (bstep hbp hbq)
  have hR8q := rowL hR8m (bstep hbp hbq)
  have hR9q := rowL hR9m (bstep hbp hbq)
  have hcq := bstep hcm (bstep hbp hbq)
  have hOq := (hOp.later hbq).wk hcm.size
  have hKy : Ky w wq #[.slice (some ⟨b0, off0, none⟩) L.length c0, .int .i64 x1, .int .i64 x2, .int .i64 x3, .int .i64 x4, .bool x5] #[.int .i64 lA, .int .i64 sA] wp.heap.size #[.slice (some ⟨gp, 0, none⟩) L3.length cpp, .int .i64 x1, .int .i64 y3, .int .i64 x3, .int .i64 x4, .bool d3] := ⟨⟨hcq, hXq, hLq⟩, hQq⟩
  go_upto_region 27 with (fail)
  refine wp_region_held_drew (S := fun x => Ky w x #[.slice (some ⟨b0, off0, none⟩) L.length c0, .int .i64 x1, .int .i64 x2, .int .i64 x3, .int .i64 x4, .bool x5] #[.int .i64 lA, .int .i64 sA] (wp.heap.size) #[.slice (some ⟨gp, 0, none⟩) L3.length cpp, .int .i64 x1, .int .i64 y3, .int .i64 x3, .int .i64 x4, .bool d3]) (by kernel_rfl) (hKy.later (bdrew1 _)) (fun hHeld => ?_)
  refine' takeF (i := 0) (oi := ({ dst := some 140, op := Op.load 30 (Operand.tmp 17), type := 30, pos := "l6_journal.go:303", after := #[], guard := none } : Oper)) rfl ⟨by rfl, fun x hSw => ?h16⟩ hHeld ?r16
  case h16 =>
    obtain ⟨k0, k1, k2, k3, k4, k5⟩ := B6.of hSw.qr; obtain ⟨qc0, qc1⟩ := B2.of hSw.k.lr
    go_simp
    try with_reducible rfl
  try simp only [Act.put, List.setIfInBounds_toArray, List.set_cons_zero, List.set_cons_succ]
  refine' takeF (i := 1) (oi := ({ dst := some 141, op := Op.load 31 (Operand.tmp 5), type := 31, pos := "l6_journal.go:303", after := #[{ on := 2, ground := Ground.gcOnly Departure.lateStores }], guard := none } : Oper)) rfl ⟨by rfl, fun x hSw => ?h17⟩ hHeld ?r17
  case h17 =>
    obtain ⟨k0, k1, k2, k3, k4, k5⟩ := B6.of hSw.qr; obtain ⟨qc0, qc1⟩ := B2.of hSw.k.lr
    go_simp
    try with_reducible rfl
  try simp only [Act.put, List.setIfInBounds_toArray, List.set_cons_zero, List.set_cons_succ]
  refine wpAnyH_ready (rs := [2]) (by kernel_rfl) (by simp) ?_
  refine AllReadyH.cons (o := ({ dst := none, op := Op.store 30 (Operand.tmp 8) (Operand.tmp 140), type := 0, pos := "l6_journal.go:303", after := #[{ on := 0, ground := Ground.data }, { on := 0, ground := Ground.phase }, { on := 1, ground := Ground.textOnly Departure.lateStores }], guard := none } : Oper)) rfl (fun K hK => ?_) AllReadyH.nil
  have hbz := bdrew1 wq; generalize wq.drew = wz at hbz hHeld ⊢; have hR8z := rowL hR8q hbz; have hR9z := rowL hR9q hbz; obtain ⟨rc0, rc1, rc2, rc3, rc4, rc5⟩ := B6.of hR8z; obtain ⟨rf0, rf1, rf2, rf3, rf4, rf5⟩ := F6.of hR8z
  go_simp
  refine hK.out _ _ (hHeld.set8 (by omega) (.slice (some ⟨gp, 0, none⟩) L3.length cpp) (.int .i64 x1) (.int .i64 y3) (.int .i64 x3) (.int .i64 x4) (.bool d3)) (fun hHeld => ?_)
  clear hK K
  try simp only [Act.put, List.setIfInBounds_toArray, List.set_cons_zero, List.set_cons_succ]
  refine wpAnyH_ready (rs := [3]) (by kernel_rfl) (by simp) ?_
  refine AllReadyH.cons (o := ({ dst := none, op := Op.store 31 (Operand.tmp 9) (Operand.tmp 141), type := 0, pos := "l6_journal.go:303", after := #[{ on := 1, ground := Ground.data }, { on := 2, ground := Ground.chain }, { on := 0, ground := Ground.phase }, { on := 1, ground := Ground.phase }, { on := 2, ground := Ground.phase }], guard := none } : Oper)) rfl (fun K hK => ?_) AllReadyH.nil
  have hR9y := set6_oth (.slice (some ⟨gp, 0, none⟩) L3.length cpp) (.int .i64 x1) (.int .i64 y3) (.int .i64 x3) (.int .i64 x4) (.bool d3) (Q := w.heap.size + 1 + 1) hR9z (by omega); have t0 := (cell_of_row _ _ 0 _ _ _ hR9y).trans rfl; have tf0 := frozen_of_row _ _ 0 _ _ hR9y; have t1 := (cell_of_row _ _ 1 _ _ _ hR9y).trans rfl; have tf1 := frozen_of_row _ _ 1 _ _ hR9y
  go_simp
  refine hK.out _ _ (hHeld.set9 (by omega) (.int .i64 lA) (.int .i64 sA)) (fun hHeld => ?_)
  clear hK K
  try simp only [Act.put, List.setIfInBounds_toArray, List.set_cons_zero, List.set_cons_succ]
  refine' takeF (i := 4) (oi := ({ dst := some 10, op := Op.assign (Operand.const (Value.int IntKind.i64 20)), type := 3, pos := "l6_journal.go:303", after := #[{ on := 3, ground := Ground.chain }, { on := 0, ground := Ground.phase }, { on := 1, ground := Ground.phase }, { on := 2, ground := Ground.phase }, { on := 3, ground := Ground.phase }], guard := none } : Oper)) rfl ⟨by rfl, fun x hSw => ?h18⟩ hHeld ?r18
  case h18 =>
    go_simp
    try with_reducible rfl
  try simp only [Act.put, List.setIfInBounds_toArray, List.set_cons_zero, List.set_cons_succ]
  refine wpAnyH_done (by kernel_rfl) ?_ _
  go_wp2
  refine bodyPost_ret (results_cell2_tmp Tryd.results6 _ _ (w.heap.size + 1 + 1) 30 _ (0, 0) _ rfl (fin8 _ _ _ _ _ _ _ _ hR8z (by omega)) Tryd.underlying30 rfl (by kernel_rfl) (w.heap.size + 1 + 1 + 1) 31 _ (0, 0) _ rfl (fin9 _ _ _ _ _ _ _ _ hR9z (by omega)) Tryd.underlying31 rfl (by kernel_rfl)) rfl ?_
  exact ⟨_, _, rfl, (finO (hOq.later hbz) hR8z hR9z (by omega)).f, hHeld.k.b⟩
end Go.Proofs.YtdbcihebhgpblaaDoor
