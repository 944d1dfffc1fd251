/-
  AppendEntry, the specification's side: the heads.
-/
import Derived.Test.YtdbcihebhgpblaaDoorPh
namespace Go.Proofs.YtdbcihebhgpblaaDoor
open Go.RowKit
abbrev qPm4 : Oper := { dst := some 66, op := Op.call { callee := Callee.value (Operand.func 24), args := #[Operand.tmp 65], argTypes := #[3] }, type := 9, pos := "l6_journal.go:277", after := #[{ on := 3, ground := Ground.data }], guard := none }
abbrev qPm5 : Oper := { dst := some 12, op := Op.alloc 30, type := 0, pos := "l6_journal.go:277", after := #[], guard := none }
abbrev qPm6 : Oper := { dst := some 67, op := Op.build 59 #[(0, Operand.const (Value.int IntKind.i64 1)), (1, Operand.tmp 66)], type := 59, pos := "l6_journal.go:277", after := #[{ on := 4, ground := Ground.data }], guard := none }
abbrev qPm7 : Oper := { dst := some 68, op := Op.call { callee := Callee.value (Operand.func 23), args := #[Operand.tmp 62, Operand.tmp 67], argTypes := #[30, 59] }, type := 55, pos := "l6_journal.go:277", after := #[{ on := 0, ground := Ground.data }, { on := 5, ground := Ground.data }, { on := 4, ground := Ground.chain }], guard := none }
abbrev qPm8 : Oper := { dst := some 61, op := Op.move (Operand.tmp 68), type := 55, pos := "l6_journal.go:277", after := #[{ on := 6, ground := Ground.data }], guard := none }
abbrev qPm9 : Oper := { dst := some 69, op := Op.extract (Operand.tmp 61) 0, type := 30, pos := "l6_journal.go:277", after := #[{ on := 7, ground := Ground.data }], guard := none }
abbrev qPm10 : Oper := { dst := some 70, op := Op.extract (Operand.tmp 61) 1, type := 3, pos := "l6_journal.go:277", after := #[{ on := 7, ground := Ground.data }, { on := 11, ground := Ground.gcOnly Departure.lateStores }], guard := none }
abbrev qPm11 : Oper := { dst := none, op := Op.store 30 (Operand.tmp 12) (Operand.tmp 69), type := 0, pos := "l6_journal.go:277", after := #[{ on := 10, ground := Ground.data }, { on := 8, ground := Ground.data }, { on := 6, ground := Ground.chain }, { on := 0, ground := Ground.phase }, { on := 1, ground := Ground.phase }, { on := 2, ground := Ground.phase }, { on := 3, ground := Ground.phase }, { on := 4, ground := Ground.phase }, { on := 5, ground := Ground.phase }, { on := 6, ground := Ground.phase }, { on := 7, ground := Ground.phase }, { on := 8, ground := Ground.phase }, { on := 9, ground := Ground.textOnly Departure.lateStores }, { on := 10, ground := Ground.phase }], guard := none }
abbrev qPm12 : Oper := { dst := some 13, op := Op.assign (Operand.tmp 70), type := 3, pos := "l6_journal.go:277", after := #[{ on := 9, ground := Ground.data }, { on := 11, ground := Ground.chain }, { on := 0, ground := Ground.phase }, { on := 1, ground := Ground.phase }, { on := 2, ground := Ground.phase }, { on := 3, ground := Ground.phase }, { on := 4, ground := Ground.phase }, { on := 5, ground := Ground.phase }, { on := 6, ground := Ground.phase }, { on := 7, ground := Ground.phase }, { on := 8, ground := Ground.phase }, { on := 9, ground := Ground.phase }, { on := 10, ground := Ground.phase }, { on := 11, ground := Ground.phase }], guard := none }
set_option maxRecDepth 20000 in
set_option maxHeartbeats 8000000 in
theorem sHdWa (b off c : Nat) (L : List Fil) (x1 x2 x3 x4 : Int) (x5 : Bool) (l s : Int) (en f : ByteArray) (hf : frm en = f) (mo : Int) (w : World) (R : Ending → World → Prop) (h : FL w (some ⟨b, off, none⟩) L.length (nthF L)) (hen : en.size ≤ 1048576) (hsm : Small L.length (nthF L)) (hq : f.size ≠ 0) (_hfz : f.size ≤ 65536) (hbl : btw l 1 9999 = true) (hbs : btw s 0 1000000000 = true) (hmo : btw mo 1 1000000000 = true) (_hs0 : 0 ≤ s) (_hs1 : s ≤ 1000000000) (_hl0 : 1 ≤ l) (_hl1 : l ≤ 9999) (hx1 : s = 0) (HT : Hid (∀ (K : Act → World → Prop) (wf : World), (∀ a w, Code.wp Tryd.prog (tl5 Tryd.f6.body) (bodyPost Tryd.prog Tryd.f6 R) a w → K a w) → wf.heap[w.heap.size]? = some (.cells #[.slice (some ⟨b, off, none⟩) L.length c, .int .i64 x1, .int .i64 x2, .int .i64 x3, .int .i64 x4, .bool x5] 30 (0, 0)) → wf.heap[w.heap.size + 1]? = some (.cells #[.int .i64 l, .int .i64 s] 31 (0, 0)) → wf.heap[w.heap.size + 1 + 1]? = some (.cells #[.slice none 0 0, .int .i64 0, .int .i64 0, .int .i64 0, .int .i64 0, .bool false] 30 (0, 0)) → wf.heap[w.heap.size + 1 + 1 + 1]? = some (.cells #[.int .i64 0, .int .i64 0] 31 (0, 0)) → Below w.heap.size w wf → (FL wf (some ⟨b, off, none⟩) L.length (nthF L)) → ∀ (v0 v1 v2 v3 v6 v7 v10 v12 v13 v14 v15 v16 v17 v18 v19 v20 v21 v22 v23 v24 v25 v26 v27 v28 v29 v30 v31 v32 v33 v34 v35 v36 v37 v38 v39 v40 v41 v42 v43 v44 v45 v46 v47 v48 v49 v50 v51 v52 v53 v54 v55 v56 v57 v58 v59 v60 v61 v62 v63 v64 v65 v66 v67 v68 v69 v70 v71 v72 v73 v74 v75 v76 v77 v78 v79 v80 v81 v82 v83 v84 v85 v86 v87 v88 v89 v90 v91 v92 v93 v94 v95 v96 v97 v98 v99 v100 v101 v102 v103 v104 v105 v106 v107 v108 v109 v110 v111 v112 v113 v114 v115 v116 v117 v118 v119 v120 v121 v122 v123 v124 v125 v126 v127 v128 v129 v130 v131 v132 v133 v134 v135 v136 v137 v138 v139 v140 v141 : Value), Code.wp Tryd.prog (Code.region 12 #[{ dst := some 81, op := Op.fieldAddr 31 (Operand.tmp 5) 0, type := 0, pos := "l6_journal.go:284", after := #[], guard := none }, { dst := some 82, op := Op.load 3 (Operand.tmp 81), type := 3, pos := "l6_journal.go:284", after := #[{ on := 0, ground := Ground.data }], guard := none }, { dst := some 83, op := Op.call { callee := Callee.value (Operand.func 24), args := #[Operand.tmp 82], argTypes := #[3] }, type := 9, pos := "l6_journal.go:284", after := #[{ on := 1, ground := Ground.data }], guard := none }, { dst := some 14, op := Op.assign (Operand.tmp 83), type := 9, pos := "l6_journal.go:284", after := #[{ on := 2, ground := Ground.data }, { on := 2, ground := Ground.chain }, { on := 0, ground := Ground.phase }, { on := 1, ground := Ground.phase }, { on := 2, ground := Ground.phase }], guard := none }] false) (Exit.then K (bodyPost Tryd.prog Tryd.f6 (R))) { tmps := List.toArray (v0 :: v1 :: v2 :: v3 :: (.pointer (some ⟨w.heap.size, 0, none⟩)) :: (.pointer (some ⟨w.heap.size + 1, 0, none⟩)) :: v6 :: v7 :: (.pointer (some ⟨w.heap.size + 1 + 1, 0, none⟩)) :: (.pointer (some ⟨w.heap.size + 1 + 1 + 1, 0, none⟩)) :: v10 :: (.string f) :: v12 :: v13 :: v14 :: v15 :: v16 :: v17 :: v18 :: v19 :: v20 :: v21 :: v22 :: v23 :: v24 :: v25 :: v26 :: v27 :: v28 :: v29 :: v30 :: v31 :: v32 :: v33 :: v34 :: v35 :: v36 :: v37 :: v38 :: v39 :: v40 :: v41 :: v42 :: v43 :: v44 :: v45 :: v46 :: v47 :: v48 :: v49 :: v50 :: v51 :: v52 :: v53 :: v54 :: v55 :: v56 :: v57 :: v58 :: v59 :: v60 :: v61 :: v62 :: v63 :: v64 :: v65 :: v66 :: v67 :: v68 :: v69 :: v70 :: v71 :: v72 :: v73 :: v74 :: v75 :: v76 :: v77 :: v78 :: v79 :: v80 :: v81 :: v82 :: v83 :: v84 :: v85 :: v86 :: v87 :: v88 :: v89 :: v90 :: v91 :: v92 :: v93 :: v94 :: v95 :: v96 :: v97 :: v98 :: v99 :: v100 :: v101 :: v102 :: v103 :: v104 :: v105 :: v106 :: v107 :: v108 :: v109 :: v110 :: v111 :: v112 :: v113 :: v114 :: v115 :: v116 :: v117 :: v118 :: v119 :: v120 :: v121 :: v122 :: v123 :: v124 :: v125 :: v126 :: v127 :: v128 :: v129 :: v130 :: v131 :: v132 :: v133 :: v134 :: v135 :: v136 :: v137 :: v138 :: v139 :: v140 :: v141 :: []), defers := [] } wf)) :
    Calls Tryd.prog 6 #[.agg #[.slice (some ⟨b, off, none⟩) L.length c, .int .i64 x1, .int .i64 x2, .int .i64 x3, .int .i64 x4, .bool x5], .agg #[.int .i64 l, .int .i64 s], .string en, .int .i64 mo] w R := by
  have hn := hsm.n
  have hfe : (f.toList == ([] : List UInt8)) = false := by rw [nilS]; simpa using hq
  have hsz : (s == 0) = true := by simp [hx1]
  have hsy : (s != 0) = false := by simp [hx1]
  have hsx : decide (s = 0) = true := by simp [hx1]
  clear hx1
  obtain ⟨hX0, hL0, hR80, hR90, hb0⟩ := four w (.cells #[.slice (some ⟨b, off, none⟩) L.length c, .int .i64 x1, .int .i64 x2, .int .i64 x3, .int .i64 x4, .bool x5] 30) (.cells #[.int .i64 l, .int .i64 s] 31) (.cells #[.slice none 0 0, .int .i64 0, .int .i64 0, .int .i64 0, .int .i64 0, .bool false] 30) (.cells #[.int .i64 0, .int .i64 0] 31)
  go_enter Tryd.func6, Tryd.ntmps6
  go_upto_region 2 with (go_at_call 20; refine (sFrameE en f hf _ hen).mono ?_; rintro e w1 ⟨rfl, hb1⟩)
  have hX1 := rowL hX0 hb1
  have hL1 := rowL hL0 hb1
  have hR81 := rowL hR80 hb1
  have hR91 := rowL hR90 hb1
  have hc1 := bstep hb0 hb1
  have hKx : Kx w w1 #[.slice (some ⟨b, off, none⟩) L.length c, .int .i64 x1, .int .i64 x2, .int .i64 x3, .int .i64 x4, .bool x5] #[.int .i64 l, .int .i64 s] := ⟨hc1, hX1, hL1⟩
  clear hX0 hL0 hR80 hR90 hb0 hb1
  obtain ⟨lc0, lc1⟩ := B2.of hL1
  obtain ⟨lf0, lf1⟩ := F2.of hL1
  obtain ⟨xc0, xc1, xc2, xc3, xc4, xc5⟩ := B6.of hX1
  go_upto_region 12 with (go_at_call 21; refine (sBetween _ _ _ _).mono ?_; (first | rw [hbl] | rw [hbs] | rw [hmo]); rintro e wb ⟨rfl, rfl⟩)
  exact HT.out _ _ (by assumption) hX1 hL1 hR81 hR91 hc1 (h.later hc1) _ _ _ _ _ _ _ _ _ _ _ _ _ _ _ _ _ _ _ _ _ _ _ _ _ _ _ _ _ _ _ _ _ _ _ _ _ _ _ _ _ _ _ _ _ _ _ _ _ _ _ _ _ _ _ _ _ _ _ _ _ _ _ _ _ _ _ _ _ _ _ _ _ _ _ _ _ _ _ _ _ _ _ _ _ _ _ _ _ _ _ _ _ _ _ _ _ _ _ _ _ _ _ _ _ _ _ _ _ _ _ _ _ _ _ _ _ _ _ _ _ _ _ _ _ _ _ _ _ _ _ _ _ _ _ _ _
set_option maxRecDepth 20000 in
set_option maxHeartbeats 8000000 in
theorem sHdWb (b off c : Nat) (L : List Fil) (x1 x2 x3 x4 : Int) (x5 : Bool) (l s : Int) (en f : ByteArray) (hf : frm en = f) (mo : Int) (w : World) (R : Ending → World → Prop) (h : FL w (some ⟨b, off, none⟩) L.length (nthF L)) (hen : en.size ≤ 1048576) (hsm : Small L.length (nthF L)) (hq : f.size ≠ 0) (_hfz : f.size ≤ 65536) (hbl : btw l 1 9999 = true) (hbs : btw s 0 1000000000 = true) (hmo : btw mo 1 1000000000 = true) (_hs0 : 0 ≤ s) (_hs1 : s ≤ 1000000000) (_hl0 : 1 ≤ l) (_hl1 : l ≤ 9999) (hx1 : s ≠ 0) (hx2 : ¬ mo < s + (f.size : Int)) (HT : Hid (∀ (K : Act → World → Prop) (wf : World), (∀ a w, Code.wp Tryd.prog (tl5 Tryd.f6.body) (bodyPost Tryd.prog Tryd.f6 R) a w → K a w) → wf.heap[w.heap.size]? = some (.cells #[.slice (some ⟨b, off, none⟩) L.length c, .int .i64 x1, .int .i64 x2, .int .i64 x3, .int .i64 x4, .bool x5] 30 (0, 0)) → wf.heap[w.heap.size + 1]? = some (.cells #[.int .i64 l, .int .i64 s] 31 (0, 0)) → wf.heap[w.heap.size + 1 + 1]? = some (.cells #[.slice none 0 0, .int .i64 0, .int .i64 0, .int .i64 0, .int .i64 0, .bool false] 30 (0, 0)) → wf.heap[w.heap.size + 1 + 1 + 1]? = some (.cells #[.int .i64 0, .int .i64 0] 31 (0, 0)) → Below w.heap.size w wf → (FL wf (some ⟨b, off, none⟩) L.length (nthF L)) → ∀ (v0 v1 v2 v3 v6 v7 v10 v12 v13 v14 v15 v16 v17 v18 v19 v20 v21 v22 v23 v24 v25 v26 v27 v28 v29 v30 v31 v32 v33 v34 v35 v36 v37 v38 v39 v40 v41 v42 v43 v44 v45 v46 v47 v48 v49 v50 v51 v52 v53 v54 v55 v56 v57 v58 v59 v60 v61 v62 v63 v64 v65 v66 v67 v68 v69 v70 v71 v72 v73 v74 v75 v76 v77 v78 v79 v80 v81 v82 v83 v84 v85 v86 v87 v88 v89 v90 v91 v92 v93 v94 v95 v96 v97 v98 v99 v100 v101 v102 v103 v104 v105 v106 v107 v108 v109 v110 v111 v112 v113 v114 v115 v116 v117 v118 v119 v120 v121 v122 v123 v124 v125 v126 v127 v128 v129 v130 v131 v132 v133 v134 v135 v136 v137 v138 v139 v140 v141 : Value), Code.wp Tryd.prog (Code.region 12 #[{ dst := some 81, op := Op.fieldAddr 31 (Operand.tmp 5) 0, type := 0, pos := "l6_journal.go:284", after := #[], guard := none }, { dst := some 82, op := Op.load 3 (Operand.tmp 81), type := 3, pos := "l6_journal.go:284", after := #[{ on := 0, ground := Ground.data }], guard := none }, { dst := some 83, op := Op.call { callee := Callee.value (Operand.func 24), args := #[Operand.tmp 82], argTypes := #[3] }, type := 9, pos := "l6_journal.go:284", after := #[{ on := 1, ground := Ground.data }], guard := none }, { dst := some 14, op := Op.assign (Operand.tmp 83), type := 9, pos := "l6_journal.go:284", after := #[{ on := 2, ground := Ground.data }, { on := 2, ground := Ground.chain }, { on := 0, ground := Ground.phase }, { on := 1, ground := Ground.phase }, { on := 2, ground := Ground.phase }], guard := none }] false) (Exit.then K (bodyPost Tryd.prog Tryd.f6 (R))) { tmps := List.toArray (v0 :: v1 :: v2 :: v3 :: (.pointer (some ⟨w.heap.size, 0, none⟩)) :: (.pointer (some ⟨w.heap.size + 1, 0, none⟩)) :: v6 :: v7 :: (.pointer (some ⟨w.heap.size + 1 + 1, 0, none⟩)) :: (.pointer (some ⟨w.heap.size + 1 + 1 + 1, 0, none⟩)) :: v10 :: (.string f) :: v12 :: v13 :: v14 :: v15 :: v16 :: v17 :: v18 :: v19 :: v20 :: v21 :: v22 :: v23 :: v24 :: v25 :: v26 :: v27 :: v28 :: v29 :: v30 :: v31 :: v32 :: v33 :: v34 :: v35 :: v36 :: v37 :: v38 :: v39 :: v40 :: v41 :: v42 :: v43 :: v44 :: v45 :: v46 :: v47 :: v48 :: v49 :: v50 :: v51 :: v52 :: v53 :: v54 :: v55 :: v56 :: v57 :: v58 :: v59 :: v60 :: v61 :: v62 :: v63 :: v64 :: v65 :: v66 :: v67 :: v68 :: v69 :: v70 :: v71 :: v72 :: v73 :: v74 :: v75 :: v76 :: v77 :: v78 :: v79 :: v80 :: v81 :: v82 :: v83 :: v84 :: v85 :: v86 :: v87 :: v88 :: v89 :: v90 :: v91 :: v92 :: v93 :: v94 :: v95 :: v96 :: v97 :: v98 :: v99 :: v100 :: v101 :: v102 :: v103 :: v104 :: v105 :: v106 :: v107 :: v108 :: v109 :: v110 :: v111 :: v112 :: v113 :: v114 :: v115 :: v116 :: v117 :: v118 :: v119 :: v120 :: v121 :: v122 :: v123 :: v124 :: v125 :: v126 :: v127 :: v128 :: v129 :: v130 :: v131 :: v132 :: v133 :: v134 :: v135 :: v136 :: v137 :: v138 :: v139 :: v140 :: v141 :: []), defers := [] } wf)) :
    Calls Tryd.prog 6 #[.agg #[.slice (some ⟨b, off, none⟩) L.length c, .int .i64 x1, .int .i64 x2, .int .i64 x3, .int .i64 x4, .bool x5], .agg #[.int .i64 l, .int .i64 s], .string en, .int .i64 mo] w R := by
  have hn := hsm.n
  have hfe : (f.toList == ([] : List UInt8)) = false := by rw [nilS]; simpa using hq
  have hsz : (s == 0) = false := by simp [hx1]
  have hsy : (s != 0) = true := by simp [hx1]
  have hsx : decide (s = 0) = false := by simp [hx1]
  have hx3 : s + (f.size : Int) ≤ mo := by omega
  clear hx2
  obtain ⟨hX0, hL0, hR80, hR90, hb0⟩ := four w (.cells #[.slice (some ⟨b, off, none⟩) L.length c, .int .i64 x1, .int .i64 x2, .int .i64 x3, .int .i64 x4, .bool x5] 30) (.cells #[.int .i64 l, .int .i64 s] 31) (.cells #[.slice none 0 0, .int .i64 0, .int .i64 0, .int .i64 0, .int .i64 0, .bool false] 30) (.cells #[.int .i64 0, .int .i64 0] 31)
  go_enter Tryd.func6, Tryd.ntmps6
  go_upto_region 2 with (go_at_call 20; refine (sFrameE en f hf _ hen).mono ?_; rintro e w1 ⟨rfl, hb1⟩)
  have hX1 := rowL hX0 hb1
  have hL1 := rowL hL0 hb1
  have hR81 := rowL hR80 hb1
  have hR91 := rowL hR90 hb1
  have hc1 := bstep hb0 hb1
  have hKx : Kx w w1 #[.slice (some ⟨b, off, none⟩) L.length c, .int .i64 x1, .int .i64 x2, .int .i64 x3, .int .i64 x4, .bool x5] #[.int .i64 l, .int .i64 s] := ⟨hc1, hX1, hL1⟩
  clear hX0 hL0 hR80 hR90 hb0 hb1
  obtain ⟨lc0, lc1⟩ := B2.of hL1
  obtain ⟨lf0, lf1⟩ := F2.of hL1
  obtain ⟨xc0, xc1, xc2, xc3, xc4, xc5⟩ := B6.of hX1
  go_upto_region 12 with (go_at_call 21; refine (sBetween _ _ _ _).mono ?_; (first | rw [hbl] | rw [hbs] | rw [hmo]); rintro e wb ⟨rfl, rfl⟩)
  exact HT.out _ _ (by assumption) hX1 hL1 hR81 hR91 hc1 (h.later hc1) _ _ _ _ _ _ _ _ _ _ _ _ _ _ _ _ _ _ _ _ _ _ _ _ _ _ _ _ _ _ _ _ _ _ _ _ _ _ _ _ _ _ _ _ _ _ _ _ _ _ _ _ _ _ _ _ _ _ _ _ _ _ _ _ _ _ _ _ _ _ _ _ _ _ _ _ _ _ _ _ _ _ _ _ _ _ _ _ _ _ _ _ _ _ _ _ _ _ _ _ _ _ _ _ _ _ _ _ _ _ _ _ _ _ _ _ _ _ _ _ _ _ _ _ _ _ _ _ _ _ _ _ _ _ _ _ _
set_option maxRecDepth 20000 in
set_option maxHeartbeats 8000000 in
theorem sHdN (b off c : Nat) (L : List Fil) (x1 x2 x3 x4 : Int) (x5 : Bool) (l s : Int) (en f : ByteArray) (hf : frm en = f) (mo : Int) (w : World) (R : Ending → World → Prop) (h : FL w (some ⟨b, off, none⟩) L.length (nthF L)) (hen : en.size ≤ 1048576) (hsm : Small L.length (nthF L)) (hq : f.size ≠ 0) (_hfz : f.size ≤ 65536) (hbl : btw l 1 9999 = true) (hbs : btw s 0 1000000000 = true) (hmo : btw mo 1 1000000000 = true) (_hs0 : 0 ≤ s) (_hs1 : s ≤ 1000000000) (_hl0 : 1 ≤ l) (_hl1 : l ≤ 9999) (hx1 : s ≠ 0) (hx2 : mo < s + (f.size : Int)) (h99 : l ≠ 9999) (hok : Ok6 L x1 x2 1048576) (h3 : 0 ≤ x3 ∧ x3 ≤ 1000000000000000) (h4 : 0 ≤ x4 ∧ x4 ≤ 1000000000000000) (ln : Nat) (HLN : Hid (l = ln)) (K0 : List Fil) (k2 : Int) (k5 : Bool) (r0 : Int) (hr0 : FdAt L (seg (ln + 1)) r0) (e0 : stS L x1 x2 x3 x4 x5 1 (seg (ln + 1)) ⟨#[]⟩ 0 r0 = (K0, k2, k5, 0)) (HT : Hid (∀ (K : Act → World → Prop) (wf : World) (gc cpc : Nat), (∀ a w, Code.wp Tryd.prog (tl5 Tryd.f6.body) (bodyPost Tryd.prog Tryd.f6 R) a w → K a w) → wf.heap[w.heap.size]? = some (.cells #[.slice (some ⟨gc, 0, none⟩) K0.length cpc, .int .i64 x1, .int .i64 k2, .int .i64 x3, .int .i64 x4, .bool k5] 30 (0, 0)) → wf.heap[w.heap.size + 1]? = some (.cells #[.int .i64 (l + 1), .int .i64 0] 31 (0, 0)) → wf.heap[w.heap.size + 1 + 1]? = some (.cells #[.slice none 0 0, .int .i64 0, .int .i64 0, .int .i64 0, .int .i64 0, .bool false] 30 (0, 0)) → wf.heap[w.heap.size + 1 + 1 + 1]? = some (.cells #[.int .i64 0, .int .i64 0] 31 (0, 0)) → Below w.heap.size w wf → (FL wf (some ⟨gc, 0, none⟩) K0.length (nthF K0)) → ∀ (v0 v1 v2 v3 v6 v7 v10 v12 v13 v14 v15 v16 v17 v18 v19 v20 v21 v22 v23 v24 v25 v26 v27 v28 v29 v30 v31 v32 v33 v34 v35 v36 v37 v38 v39 v40 v41 v42 v43 v44 v45 v46 v47 v48 v49 v50 v51 v52 v53 v54 v55 v56 v57 v58 v59 v60 v61 v62 v63 v64 v65 v66 v67 v68 v69 v70 v71 v72 v73 v74 v75 v76 v77 v78 v79 v80 v81 v82 v83 v84 v85 v86 v87 v88 v89 v90 v91 v92 v93 v94 v95 v96 v97 v98 v99 v100 v101 v102 v103 v104 v105 v106 v107 v108 v109 v110 v111 v112 v113 v114 v115 v116 v117 v118 v119 v120 v121 v122 v123 v124 v125 v126 v127 v128 v129 v130 v131 v132 v133 v134 v135 v136 v137 v138 v139 v140 v141 : Value), Code.wp Tryd.prog (Code.region 12 #[{ dst := some 81, op := Op.fieldAddr 31 (Operand.tmp 5) 0, type := 0, pos := "l6_journal.go:284", after := #[], guard := none }, { dst := some 82, op := Op.load 3 (Operand.tmp 81), type := 3, pos := "l6_journal.go:284", after := #[{ on := 0, ground := Ground.data }], guard := none }, { dst := some 83, op := Op.call { callee := Callee.value (Operand.func 24), args := #[Operand.tmp 82], argTypes := #[3] }, type := 9, pos := "l6_journal.go:284", after := #[{ on := 1, ground := Ground.data }], guard := none }, { dst := some 14, op := Op.assign (Operand.tmp 83), type := 9, pos := "l6_journal.go:284", after := #[{ on := 2, ground := Ground.data }, { on := 2, ground := Ground.chain }, { on := 0, ground := Ground.phase }, { on := 1, ground := Ground.phase }, { on := 2, ground := Ground.phase }], guard := none }] false) (Exit.then K (bodyPost Tryd.prog Tryd.f6 (R))) { tmps := List.toArray (v0 :: v1 :: v2 :: v3 :: (.pointer (some ⟨w.heap.size, 0, none⟩)) :: (.pointer (some ⟨w.heap.size + 1, 0, none⟩)) :: v6 :: v7 :: (.pointer (some ⟨w.heap.size + 1 + 1, 0, none⟩)) :: (.pointer (some ⟨w.heap.size + 1 + 1 + 1, 0, none⟩)) :: v10 :: (.string f) :: v12 :: v13 :: v14 :: v15 :: v16 :: v17 :: v18 :: v19 :: v20 :: v21 :: v22 :: v23 :: v24 :: v25 :: v26 :: v27 :: v28 :: v29 :: v30 :: v31 :: v32 :: v33 :: v34 :: v35 :: v36 :: v37 :: v38 :: v39 :: v40 :: v41 :: v42 :: v43 :: v44 :: v45 :: v46 :: v47 :: v48 :: v49 :: v50 :: v51 :: v52 :: v53 :: v54 :: v55 :: v56 :: v57 :: v58 :: v59 :: v60 :: v61 :: v62 :: v63 :: v64 :: v65 :: v66 :: v67 :: v68 :: v69 :: v70 :: v71 :: v72 :: v73 :: v74 :: v75 :: v76 :: v77 :: v78 :: v79 :: v80 :: v81 :: v82 :: v83 :: v84 :: v85 :: v86 :: v87 :: v88 :: v89 :: v90 :: v91 :: v92 :: v93 :: v94 :: v95 :: v96 :: v97 :: v98 :: v99 :: v100 :: v101 :: v102 :: v103 :: v104 :: v105 :: v106 :: v107 :: v108 :: v109 :: v110 :: v111 :: v112 :: v113 :: v114 :: v115 :: v116 :: v117 :: v118 :: v119 :: v120 :: v121 :: v122 :: v123 :: v124 :: v125 :: v126 :: v127 :: v128 :: v129 :: v130 :: v131 :: v132 :: v133 :: v134 :: v135 :: v136 :: v137 :: v138 :: v139 :: v140 :: v141 :: []), defers := [] } wf)) :
    Calls Tryd.prog 6 #[.agg #[.slice (some ⟨b, off, none⟩) L.length c, .int .i64 x1, .int .i64 x2, .int .i64 x3, .int .i64 x4, .bool x5], .agg #[.int .i64 l, .int .i64 s], .string en, .int .i64 mo] w R := by
  have hn := hsm.n
  have hfe : (f.toList == ([] : List UInt8)) = false := by rw [nilS]; simpa using hq
  have hsz : (s == 0) = false := by simp [hx1]
  have hsy : (s != 0) = true := by simp [hx1]
  have hsx : decide (s = 0) = false := by simp [hx1]
  have h9 : (l == 9999) = false := by simp [h99]
  obtain ⟨mm, hmm⟩ : ∃ mm, seg (ln + 1) = mm := ⟨_, rfl⟩
  have hsm2 := seg_ok (ln + 1)
  rw [hmm] at hsm2
  rw [hmm] at hr0 e0
  have ok0 := hok.step hr0 hsm2 e0
  have E0 : Hid (stS L x1 x2 x3 x4 x5 1 mm ⟨#[]⟩ 0 r0 = (K0, k2, k5, 0)) := e0
  clear e0
  have hz0 : (⟨#[]⟩ : ByteArray).size = 0 := rfl
  obtain ⟨hX0, hL0, hR80, hR90, hb0⟩ := four w (.cells #[.slice (some ⟨b, off, none⟩) L.length c, .int .i64 x1, .int .i64 x2, .int .i64 x3, .int .i64 x4, .bool x5] 30) (.cells #[.int .i64 l, .int .i64 s] 31) (.cells #[.slice none 0 0, .int .i64 0, .int .i64 0, .int .i64 0, .int .i64 0, .bool false] 30) (.cells #[.int .i64 0, .int .i64 0] 31)
  go_enter Tryd.func6, Tryd.ntmps6
  go_upto_region 2 with (go_at_call 20; refine (sFrameE en f hf _ hen).mono ?_; rintro e w1 ⟨rfl, hb1⟩)
  have hX1 := rowL hX0 hb1
  have hL1 := rowL hL0 hb1
  have hR81 := rowL hR80 hb1
  have hR91 := rowL hR90 hb1
  have hc1 := bstep hb0 hb1
  have hKx : Kx w w1 #[.slice (some ⟨b, off, none⟩) L.length c, .int .i64 x1, .int .i64 x2, .int .i64 x3, .int .i64 x4, .bool x5] #[.int .i64 l, .int .i64 s] := ⟨hc1, hX1, hL1⟩
  clear hX0 hL0 hR80 hR90 hb0 hb1
  obtain ⟨lc0, lc1⟩ := B2.of hL1
  obtain ⟨lf0, lf1⟩ := F2.of hL1
  obtain ⟨xc0, xc1, xc2, xc3, xc4, xc5⟩ := B6.of hX1
  go_upto_region 7 with (go_at_call 21; refine (sBetween _ _ _ _).mono ?_; (first | rw [hbl] | rw [hbs] | rw [hmo]); rintro e wb ⟨rfl, rfl⟩)
  refine Code.wp_mono (Q := Exit.then (fun a' w' => ∃ (Q gc cpc : Nat) (u61 u62 u63 u64 u65 u66 u67 u68 u69 u70 : Value), a' = { tmps := List.toArray ((Value.agg #[Value.slice (some ⟨b, off, none⟩) L.length c, Value.int .i64 x1, Value.int .i64 x2, Value.int .i64 x3, Value.int .i64 x4, Value.bool x5]) :: (Value.agg #[Value.int .i64 l, Value.int .i64 s]) :: (Value.string en) :: (Value.int .i64 mo) :: (Value.pointer (some ⟨w.heap.size, 0, none⟩)) :: (Value.pointer (some ⟨w.heap.size + 1, 0, none⟩)) :: (undef) :: (undef) :: (Value.pointer (some ⟨w.heap.size + 1 + 1, 0, none⟩)) :: (Value.pointer (some ⟨w.heap.size + 1 + 1 + 1, 0, none⟩)) :: (Value.int .i64 0) :: (Value.string f) :: (.pointer (some ⟨Q, 0, none⟩)) :: (.int .i64 0) :: (undef) :: (undef) :: (undef) :: (undef) :: (undef) :: (Value.string en) :: (Value.string f) :: (Value.string f) :: (Value.bool false) :: (Value.bool false) :: (Value.pointer (some ⟨w.heap.size + 1, 0, none⟩)) :: (Value.int .i64 l) :: (Value.bool true) :: (Value.bool false) :: (Value.bool false) :: (Value.bool false) :: (Value.pointer (some ⟨w.heap.size + 1, 1, none⟩)) :: (Value.int .i64 s) :: (Value.bool true) :: (Value.bool false) :: (Value.bool false) :: (Value.bool false) :: (Value.int .i64 mo) :: (Value.bool true) :: (Value.bool false) :: (Value.bool false) :: (undef) :: (undef) :: (undef) :: (Value.pointer (some ⟨w.heap.size + 1, 1, none⟩)) :: (Value.int .i64 s) :: (Value.bool true) :: (Value.bool true) :: (Value.pointer (some ⟨w.heap.size + 1, 1, none⟩)) :: (Value.int .i64 s) :: (Value.string f) :: (Value.int .i64 (f.size : Int)) :: (Value.int .i64 (s + (f.size : Int))) :: (Value.int .i64 mo) :: (Value.bool true) :: (Value.bool true) :: (Value.pointer (some ⟨w.heap.size + 1, 0, none⟩)) :: (Value.int .i64 l) :: (Value.bool false) :: (undef) :: (undef) :: (undef) :: (u61) :: (u62) :: (u63) :: (u64) :: (u65) :: (u66) :: (u67) :: (u68) :: (u69) :: (u70) :: (undef) :: (undef) :: (undef) :: (undef) :: (undef) :: (undef) :: (undef) :: (undef) :: (undef) :: (undef) :: (undef) :: (undef) :: (undef) :: (undef) :: (undef) :: (undef) :: (undef) :: (undef) :: (undef) :: (undef) :: (undef) :: (undef) :: (undef) :: (undef) :: (undef) :: (undef) :: (undef) :: (undef) :: (undef) :: (undef) :: (undef) :: (undef) :: (undef) :: (undef) :: (undef) :: (undef) :: (undef) :: (undef) :: (undef) :: (undef) :: (undef) :: (undef) :: (undef) :: (undef) :: (undef) :: (undef) :: (undef) :: (undef) :: (undef) :: (undef) :: (undef) :: (undef) :: (undef) :: (undef) :: (undef) :: (undef) :: (undef) :: (undef) :: (undef) :: (undef) :: (undef) :: (undef) :: (undef) :: (undef) :: (undef) :: (undef) :: (undef) :: (undef) :: (undef) :: (undef) :: (undef) :: []), defers := [] } ∧ w'.heap[Q]? = some (.cells #[.slice (some ⟨gc, 0, none⟩) K0.length cpc, .int .i64 x1, .int .i64 k2, .int .i64 x3, .int .i64 x4, .bool k5] 30 (0, 0)) ∧ OwnL w' wb.heap.size (.slice (some ⟨gc, 0, none⟩) K0.length cpc) K0 ∧ wb.heap.size ≤ Q ∧ Below wb.heap.size wb w') (fun _ _ _ => False)) ?_ ?_
  rotate_left
  · refine wp_region_held_drew (S := fun x => Below wb.heap.size wb x) (by kernel_rfl) (bdrew1 _) (fun hHeld => ?_)
    refine' takeF (i := 0) (oi := ({ dst := some 62, op := Op.load 30 (Operand.tmp 4), type := 30, pos := "l6_journal.go:277", after := #[], guard := none } : Oper)) rfl ⟨by rfl, fun x hSw => ?h1⟩ hHeld ?r1
    case h1 =>
      obtain ⟨k0, k1, k2, k3, k4, k5⟩ := B6.of (rowL hX1 hSw); have hLs := rowL hL1 hSw; obtain ⟨qc0, qc1⟩ := B2.of hLs
      go_simp
      try with_reducible rfl
    try simp only [Act.put, List.setIfInBounds_toArray, List.set_cons_zero, List.set_cons_succ]
    refine' takeF (i := 1) (oi := ({ dst := some 63, op := Op.fieldAddr 31 (Operand.tmp 5) 0, type := 0, pos := "l6_journal.go:277", after := #[], guard := none } : Oper)) rfl ⟨by rfl, fun x hSw => ?h2⟩ hHeld ?r2
    case h2 =>
      go_simp
      try with_reducible rfl
    try simp only [Act.put, List.setIfInBounds_toArray, List.set_cons_zero, List.set_cons_succ]
    refine' takeF (i := 2) (oi := ({ dst := some 64, op := Op.load 3 (Operand.tmp 63), type := 3, pos := "l6_journal.go:277", after := #[{ on := 1, ground := Ground.data }], guard := none } : Oper)) rfl ⟨by rfl, fun x hSw => ?h3⟩ hHeld ?r3
    case h3 =>
      obtain ⟨k0, k1, k2, k3, k4, k5⟩ := B6.of (rowL hX1 hSw); have hLs := rowL hL1 hSw; obtain ⟨qc0, qc1⟩ := B2.of hLs
      go_simp
      try with_reducible rfl
    try simp only [Act.put, List.setIfInBounds_toArray, List.set_cons_zero, List.set_cons_succ]
    refine' takeF (i := 3) (oi := ({ dst := some 65, op := Op.binOp BinOp.add 3 (Operand.tmp 64) (Operand.const (Value.int IntKind.i64 1)) 3, type := 3, pos := "l6_journal.go:277", after := #[{ on := 2, ground := Ground.data }], guard := none } : Oper)) rfl ⟨by rfl, fun x hSw => ?h4⟩ hHeld ?r4
    case h4 =>
      go_simp
      try with_reducible rfl
    try simp only [Act.put, List.setIfInBounds_toArray, List.set_cons_zero, List.set_cons_succ]
    refine wpAnyH_ready (rs := [4, 10]) (by kernel_rfl) (by simp) ?_
    refine (AllReadyH.cons (o := qPm4) rfl (fun K hK => ?_) (AllReadyH.cons (o := qPm5) rfl (fun K hK => ?_) AllReadyH.nil))
    · go_simp
      refine (sSegmentE (ln + 1) _ (by have := HLN.out; (try rw [IntKind.wrap_i64]); omega) _ (by have := HLN.out; omega) mm hmm).mono ?_
      rintro e w4 ⟨rfl, hb4⟩
      refine hK.out _ _ (bstep hHeld hb4) (fun hHeld => ?_)
      clear hK K
      try simp only [Act.put, List.setIfInBounds_toArray, List.set_cons_zero, List.set_cons_succ]
      refine' takeF (i := 5) (oi := qPm6) rfl ⟨by rfl, fun x hSw => ?h5⟩ hHeld ?r5
      case h5 =>
        go_simp
        try with_reducible rfl
      try simp only [Act.put, List.setIfInBounds_toArray, List.set_cons_zero, List.set_cons_succ]
      refine wpAnyH_ready (rs := [6, 10]) (by kernel_rfl) (by simp) ?_
      refine (AllReadyH.cons (o := qPm7) rfl (fun K hK => ?_) (AllReadyH.cons (o := qPm5) rfl (fun K hK => ?_) AllReadyH.nil))
      · go_simp
        have hH6 := hHeld
        refine (sStepE b off c L x1 x2 x3 x4 x5 1 mm ⟨#[]⟩ 0 r0 K0 k2 k5 0 _ _ (h.later (bstep hc1 hHeld)) hok (by omega) (by omega) (by omega) hsm2 (by omega) h3 h4 hr0 E0.out).mono ?_
        rintro e w6 ⟨gc, cpc, rfl, hO6, hb6⟩
        have hH8 := bstep hHeld hb6
        refine hK.out _ _ (bstep hHeld hb6) (fun hHeld => ?_)
        clear hK K
        try simp only [Act.put, List.setIfInBounds_toArray, List.set_cons_zero, List.set_cons_succ]
        refine' takeF (i := 7) (oi := qPm8) rfl ⟨by rfl, fun x hSw => ?h6⟩ hHeld ?r6
        case h6 =>
          go_simp
          try with_reducible rfl
        try simp only [Act.put, List.setIfInBounds_toArray, List.set_cons_zero, List.set_cons_succ]
        refine' takeF (i := 8) (oi := qPm9) rfl ⟨by rfl, fun x hSw => ?h7⟩ hHeld ?r7
        case h7 =>
          go_simp
          try with_reducible rfl
        try simp only [Act.put, List.setIfInBounds_toArray, List.set_cons_zero, List.set_cons_succ]
        refine' takeF (i := 9) (oi := qPm10) rfl ⟨by rfl, fun x hSw => ?h8⟩ hHeld ?r8
        case h8 =>
          go_simp
          try with_reducible rfl
        try simp only [Act.put, List.setIfInBounds_toArray, List.set_cons_zero, List.set_cons_succ]
        refine wpAnyH_ready (rs := [10]) (by kernel_rfl) (by simp) ?_
        refine AllReadyH.cons (o := qPm5) rfl (fun K hK => ?_) AllReadyH.nil
        have hQ : (World.alloc (w6) (.cells #[.slice none 0 0, .int .i64 0, .int .i64 0, .int .i64 0, .int .i64 0, .bool false] 30)).heap[w6.heap.size]? = _ := heap_alloc_new (w6) (.cells #[.slice none 0 0, .int .i64 0, .int .i64 0, .int .i64 0, .int .i64 0, .bool false] 30)
        have hQs := hHeld.size
        go_simp
        refine hK.out _ _ (bstep hHeld (bal _ _)) (fun hHeld => ?_)
        clear hK K
        try simp only [Act.put, List.setIfInBounds_toArray, List.set_cons_zero, List.set_cons_succ]
        refine wpAnyH_ready (rs := [11]) (by kernel_rfl) (by simp) ?_
        refine AllReadyH.cons (o := qPm11) rfl (fun K hK => ?_) AllReadyH.nil
        go_simp
        refine hK.out _ _ (bstep hH8 (bal _ _)) (fun hHeld => ?_)
        clear hK K
        try simp only [Act.put, List.setIfInBounds_toArray, List.set_cons_zero, List.set_cons_succ]
        refine' takeF (i := 12) (oi := qPm12) rfl ⟨by rfl, fun x hSw => ?h9⟩ hHeld ?r9
        case h9 =>
          go_simp
          try with_reducible rfl
        try simp only [Act.put, List.setIfInBounds_toArray, List.set_cons_zero, List.set_cons_succ]
        refine wpAnyH_done (by kernel_rfl) ?_ _
        exact ⟨_, gc, cpc, _, _, _, _, _, _, _, _, _, _, rfl, heap_alloc_new w6 _, (OwnL.wk hO6 hH6.size).later (bal _ _), hQs, hHeld⟩
      · have hQ : (World.alloc (w4) (.cells #[.slice none 0 0, .int .i64 0, .int .i64 0, .int .i64 0, .int .i64 0, .bool false] 30)).heap[w4.heap.size]? = _ := heap_alloc_new (w4) (.cells #[.slice none 0 0, .int .i64 0, .int .i64 0, .int .i64 0, .int .i64 0, .bool false] 30)
        have hQs := hHeld.size
        go_simp
        refine hK.out _ _ (bstep hHeld (bal _ _)) (fun hHeld => ?_)
        clear hK K
        try simp only [Act.put, List.setIfInBounds_toArray, List.set_cons_zero, List.set_cons_succ]
        refine wpAnyH_ready (rs := [6]) (by kernel_rfl) (by simp) ?_
        refine AllReadyH.cons (o := qPm7) rfl (fun K hK => ?_) AllReadyH.nil
        go_simp
        have hH6 := hHeld
        refine (sStepE b off c L x1 x2 x3 x4 x5 1 mm ⟨#[]⟩ 0 r0 K0 k2 k5 0 _ _ (h.later (bstep hc1 hHeld)) hok (by omega) (by omega) (by omega) hsm2 (by omega) h3 h4 hr0 E0.out).mono ?_
        rintro e w6 ⟨gc, cpc, rfl, hO6, hb6⟩
        have hQ := rowL hQ hb6
        have hH8 := bstep hHeld hb6
        refine hK.out _ _ (bstep hHeld hb6) (fun hHeld => ?_)
        clear hK K
        try simp only [Act.put, List.setIfInBounds_toArray, List.set_cons_zero, List.set_cons_succ]
        refine' takeF (i := 7) (oi := qPm8) rfl ⟨by rfl, fun x hSw => ?h10⟩ hHeld ?r10
        case h10 =>
          go_simp
          try with_reducible rfl
        try simp only [Act.put, List.setIfInBounds_toArray, List.set_cons_zero, List.set_cons_succ]
        refine' takeF (i := 8) (oi := qPm9) rfl ⟨by rfl, fun x hSw => ?h11⟩ hHeld ?r11
        case h11 =>
          go_simp
          try with_reducible rfl
        try simp only [Act.put, List.setIfInBounds_toArray, List.set_cons_zero, List.set_cons_succ]
        refine' takeF (i := 9) (oi := qPm10) rfl ⟨by rfl, fun x hSw => ?h12⟩ hHeld ?r12
        case h12 =>
          go_simp
          try with_reducible rfl
        try simp only [Act.put, List.setIfInBounds_toArray, List.set_cons_zero, List.set_cons_succ]
        refine wpAnyH_ready (rs := [11]) (by kernel_rfl) (by simp) ?_
        refine AllReadyH.cons (o := qPm11) rfl (fun K hK => ?_) AllReadyH.nil
        have qc0 := (cell_of_row _ _ 0 _ _ _ hQ).trans rfl; have qf0 := frozen_of_row _ _ 0 _ _ hQ; have qc1 := (cell_of_row _ _ 1 _ _ _ hQ).trans rfl; have qf1 := frozen_of_row _ _ 1 _ _ hQ; have qc2 := (cell_of_row _ _ 2 _ _ _ hQ).trans rfl; have qf2 := frozen_of_row _ _ 2 _ _ hQ; have qc3 := (cell_of_row _ _ 3 _ _ _ hQ).trans rfl; have qf3 := frozen_of_row _ _ 3 _ _ hQ; have qc4 := (cell_of_row _ _ 4 _ _ _ hQ).trans rfl; have qf4 := frozen_of_row _ _ 4 _ _ hQ; have qc5 := (cell_of_row _ _ 5 _ _ _ hQ).trans rfl; have qf5 := frozen_of_row _ _ 5 _ _ hQ
        go_simp
        refine hK.out _ _ (set6_below _ _ _ _ _ _ hHeld (by first | exact Nat.le_refl _ | exact hQs)) (fun hHeld => ?_)
        clear hK K
        try simp only [Act.put, List.setIfInBounds_toArray, List.set_cons_zero, List.set_cons_succ]
        refine' takeF (i := 12) (oi := qPm12) rfl ⟨by rfl, fun x hSw => ?h13⟩ hHeld ?r13
        case h13 =>
          go_simp
          try with_reducible rfl
        try simp only [Act.put, List.setIfInBounds_toArray, List.set_cons_zero, List.set_cons_succ]
        refine wpAnyH_done (by kernel_rfl) ?_ _
        exact ⟨_, gc, cpc, _, _, _, _, _, _, _, _, _, _, rfl, set6_row _ _ _ _ _ _ hQ, keep6 (OwnL.wk hO6 hH6.size) hQ, by first | exact Nat.le_refl _ | exact hQs, hHeld⟩
    · have hQ : (World.alloc (wb.drew) (.cells #[.slice none 0 0, .int .i64 0, .int .i64 0, .int .i64 0, .int .i64 0, .bool false] 30)).heap[wb.heap.size]? = _ := heap_alloc_new (wb.drew) (.cells #[.slice none 0 0, .int .i64 0, .int .i64 0, .int .i64 0, .int .i64 0, .bool false] 30)
      have hQs := hHeld.size
      go_simp
      refine hK.out _ _ (bstep hHeld (bal _ _)) (fun hHeld => ?_)
      clear hK K
      try simp only [Act.put, List.setIfInBounds_toArray, List.set_cons_zero, List.set_cons_succ]
      refine wpAnyH_ready (rs := [4]) (by kernel_rfl) (by simp) ?_
      refine AllReadyH.cons (o := qPm4) rfl (fun K hK => ?_) AllReadyH.nil
      go_simp
      refine (sSegmentE (ln + 1) _ (by have := HLN.out; (try rw [IntKind.wrap_i64]); omega) _ (by have := HLN.out; omega) mm hmm).mono ?_
      rintro e w4 ⟨rfl, hb4⟩
      have hQ := rowL hQ hb4
      refine hK.out _ _ (bstep hHeld hb4) (fun hHeld => ?_)
      clear hK K
      try simp only [Act.put, List.setIfInBounds_toArray, List.set_cons_zero, List.set_cons_succ]
      refine' takeF (i := 5) (oi := qPm6) rfl ⟨by rfl, fun x hSw => ?h14⟩ hHeld ?r14
      case h14 =>
        go_simp
        try with_reducible rfl
      try simp only [Act.put, List.setIfInBounds_toArray, List.set_cons_zero, List.set_cons_succ]
      refine wpAnyH_ready (rs := [6]) (by kernel_rfl) (by simp) ?_
      refine AllReadyH.cons (o := qPm7) rfl (fun K hK => ?_) AllReadyH.nil
      go_simp
      have hH6 := hHeld
      refine (sStepE b off c L x1 x2 x3 x4 x5 1 mm ⟨#[]⟩ 0 r0 K0 k2 k5 0 _ _ (h.later (bstep hc1 hHeld)) hok (by omega) (by omega) (by omega) hsm2 (by omega) h3 h4 hr0 E0.out).mono ?_
      rintro e w6 ⟨gc, cpc, rfl, hO6, hb6⟩
      have hQ := rowL hQ hb6
      have hH8 := bstep hHeld hb6
      refine hK.out _ _ (bstep hHeld hb6) (fun hHeld => ?_)
      clear hK K
      try simp only [Act.put, List.setIfInBounds_toArray, List.set_cons_zero, List.set_cons_succ]
      refine' takeF (i := 7) (oi := qPm8) rfl ⟨by rfl, fun x hSw => ?h15⟩ hHeld ?r15
      case h15 =>
        go_simp
        try with_reducible rfl
      try simp only [Act.put, List.setIfInBounds_toArray, List.set_cons_zero, List.set_cons_succ]
      refine' takeF (i := 8) (oi := qPm9) rfl ⟨by rfl, fun x hSw => ?h16⟩ hHeld ?r16
      case h16 =>
        go_simp
        try with_reducible rfl
      try simp only [Act.put, List.setIfInBounds_toArray, List.set_cons_zero, List.set_cons_succ]
      refine' takeF (i := 9) (oi := qPm10) rfl ⟨by rfl, fun x hSw => ?h17⟩ hHeld ?r17
      case h17 =>
        go_simp
        try with_reducible rfl
      try simp only [Act.put, List.setIfInBounds_toArray, List.set_cons_zero, List.set_cons_succ]
      refine wpAnyH_ready (rs := [11]) (by kernel_rfl) (by simp) ?_
      refine AllReadyH.cons (o := qPm11) rfl (fun K hK => ?_) AllReadyH.nil
      have qc0 := (cell_of_row _ _ 0 _ _ _ hQ).trans rfl; have qf0 := frozen_of_row _ _ 0 _ _ hQ; have qc1 := (cell_of_row _ _ 1 _ _ _ hQ).trans rfl; have qf1 := frozen_of_row _ _ 1 _ _ hQ; have qc2 := (cell_of_row _ _ 2 _ _ _ hQ).trans rfl; have qf2 := frozen_of_row _ _ 2 _ _ hQ; have qc3 := (cell_of_row _ _ 3 _ _ _ hQ).trans rfl; have qf3 := frozen_of_row _ _ 3 _ _ hQ; have qc4 := (cell_of_row _ _ 4 _ _ _ hQ).trans rfl; have qf4 := frozen_of_row _ _ 4 _ _ hQ; have qc5 := (cell_of_row _ _ 5 _ _ _ hQ).trans rfl; have qf5 := frozen_of_row _ _ 5 _ _ hQ
      go_simp
      refine hK.out _ _ (set6_below _ _ _ _ _ _ hHeld (by first | exact Nat.le_refl _ | exact hQs)) (fun hHeld => ?_)
      clear hK K
      try simp only [Act.put, List.setIfInBounds_toArray, List.set_cons_zero, List.set_cons_succ]
      refine' takeF (i := 12) (oi := qPm12) rfl ⟨by rfl, fun x hSw => ?h18⟩ hHeld ?r18
      case h18 =>
        go_simp
        try with_reducible rfl
      try simp only [Act.put, List.setIfInBounds_toArray, List.set_cons_zero, List.set_cons_succ]
      refine wpAnyH_done (by kernel_rfl) ?_ _
      exact ⟨_, gc, cpc, _, _, _, _, _, _, _, _, _, _, rfl, set6_row _ _ _ _ _ _ hQ, keep6 (OwnL.wk hO6 hH6.size) hQ, by first | exact Nat.le_refl _ | exact hQs, hHeld⟩
  intro e a' wc hq
  cases e
  all_goals first | exact hq.elim | skip
  obtain ⟨Q, gc, cpc, u61, u62, u63, u64, u65, u66, u67, u68, u69, u70, rfl, hQc, hOc, hQle, hbc⟩ := hq
  simp only [Exit.then]
  go_at_K
  have hXc := rowL hX1 hbc
  have hLc := rowL hL1 hbc
  have hR8c := rowL hR81 hbc
  have hR9c := rowL hR91 hbc
  have hcc := bstep hc1 hbc
  have hsb : w.heap.size + 1 + 1 + 1 < wb.heap.size := (Array.getElem?_eq_some_iff.1 hR91).1
  obtain ⟨sc0, sc1, sc2, sc3, sc4, sc5⟩ := B6.of hQc
  obtain ⟨xc0, xc1, xc2, xc3, xc4, xc5⟩ := B6.of hXc
  obtain ⟨xf0, xf1, xf2, xf3, xf4, xf5⟩ := F6.of hXc
  go_upto_region 9 with (fail)
  have hXd := set6_row (.slice (some ⟨gc, 0, none⟩) K0.length cpc) (.int .i64 x1) (.int .i64 k2) (.int .i64 x3) (.int .i64 x4) (.bool k5) hXc
  have hLd := set6_oth (Q := w.heap.size) (.slice (some ⟨gc, 0, none⟩) K0.length cpc) (.int .i64 x1) (.int .i64 k2) (.int .i64 x3) (.int .i64 x4) (.bool k5) hLc (by omega)
  have hR8d := set6_oth (Q := w.heap.size) (.slice (some ⟨gc, 0, none⟩) K0.length cpc) (.int .i64 x1) (.int .i64 k2) (.int .i64 x3) (.int .i64 x4) (.bool k5) hR8c (by omega)
  have hR9d := set6_oth (Q := w.heap.size) (.slice (some ⟨gc, 0, none⟩) K0.length cpc) (.int .i64 x1) (.int .i64 k2) (.int .i64 x3) (.int .i64 x4) (.bool k5) hR9c (by omega)
  have hOd := keep6 (v0 := .slice (some ⟨gc, 0, none⟩) K0.length cpc) (v1 := .int .i64 x1) (v2 := .int .i64 k2) (v3 := .int .i64 x3) (v4 := .int .i64 x4) (v5 := .bool k5) (hOc.wk hc1.size) hXc
  have hcd := set6_below (Q := w.heap.size) (.slice (some ⟨gc, 0, none⟩) K0.length cpc) (.int .i64 x1) (.int .i64 k2) (.int .i64 x3) (.int .i64 x4) (.bool k5) hcc (Nat.le_refl _)
  generalize ((((((wc.setCell ⟨w.heap.size, 0, none⟩ (.slice (some ⟨gc, 0, none⟩) K0.length cpc)).setCell ⟨w.heap.size, 1, none⟩ (.int .i64 x1)).setCell ⟨w.heap.size, 2, none⟩ (.int .i64 k2)).setCell ⟨w.heap.size, 3, none⟩ (.int .i64 x3)).setCell ⟨w.heap.size, 4, none⟩ (.int .i64 x4)).setCell ⟨w.heap.size, 5, none⟩ (.bool k5)) = wd at hXd hLd hR8d hR9d hOd hcd ⊢
  obtain ⟨ec0, ec1⟩ := B2.of hLd
  obtain ⟨ef0, ef1⟩ := F2.of hLd
  go_upto_region 12 with (fail)
  have hLf := set2_row (.int .i64 (l + 1)) (.int .i64 0) hLd
  have hXf := set2_oth (Q := w.heap.size + 1) (.int .i64 (l + 1)) (.int .i64 0) hXd (by omega)
  have hR8f := set2_oth (Q := w.heap.size + 1) (.int .i64 (l + 1)) (.int .i64 0) hR8d (by omega)
  have hR9f := set2_oth (Q := w.heap.size + 1) (.int .i64 (l + 1)) (.int .i64 0) hR9d (by omega)
  have hOf := keep2 (v0 := .int .i64 (l + 1)) (v1 := .int .i64 0) hOd hLd
  have hcf := set2_below (Q := w.heap.size + 1) (.int .i64 (l + 1)) (.int .i64 0) hcd (by omega)
  exact HT.out _ _ gc cpc (by assumption) hXf hLf hR8f hR9f hcf hOf.f.fl _ _ _ _ _ _ _ _ _ _ _ _ _ _ _ _ _ _ _ _ _ _ _ _ _ _ _ _ _ _ _ _ _ _ _ _ _ _ _ _ _ _ _ _ _ _ _ _ _ _ _ _ _ _ _ _ _ _ _ _ _ _ _ _ _ _ _ _ _ _ _ _ _ _ _ _ _ _ _ _ _ _ _ _ _ _ _ _ _ _ _ _ _ _ _ _ _ _ _ _ _ _ _ _ _ _ _ _ _ _ _ _ _ _ _ _ _ _ _ _ _ _ _ _ _ _ _ _ _ _ _ _ _ _ _ _ _
end Go.Proofs.YtdbcihebhgpblaaDoor
