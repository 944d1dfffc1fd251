/-
  The law on AppendEntry: a drawn region.
-/
import Derived.Test.YtdbcihebhgpblaaDoorPp
namespace Go.Proofs.YtdbcihebhgpblaaDoor
open Go.RowKit
abbrev qPr4 : Oper := { dst := some 33, op := Op.call { callee := Callee.value (Operand.func 7), args := #[Operand.tmp 32], argTypes := #[24] }, type := 30, pos := "exact.go:2130", after := #[{ on := 0, ground := Ground.data }], guard := none }
abbrev qPr5 : Oper := { dst := some 10, op := Op.alloc 30, type := 0, pos := "exact.go:2130", after := #[], guard := none }
abbrev qPr6 : Oper := { dst := some 11, op := Op.alloc 31, type := 0, pos := "exact.go:2130", after := #[], guard := none }
abbrev qPr7 : Oper := { dst := some 35, op := Op.call { callee := Callee.value (Operand.func 8), args := #[Operand.tmp 34], argTypes := #[26] }, type := 31, pos := "exact.go:2130", after := #[{ on := 2, ground := Ground.data }, { on := 1, ground := Ground.chain }], guard := none }
abbrev qPr8 : Oper := { dst := some 38, op := Op.call { callee := Callee.value (Operand.func 6), args := #[Operand.tmp 33, Operand.tmp 35, Operand.tmp 36, Operand.tmp 37], argTypes := #[30, 31, 9, 3] }, type := 32, pos := "exact.go:2130", after := #[{ on := 1, ground := Ground.data }, { on := 3, ground := Ground.data }, { on := 4, ground := Ground.data }, { on := 5, ground := Ground.data }, { on := 3, ground := Ground.chain }], guard := none }
abbrev qPr9 : Oper := { dst := some 31, op := Op.move (Operand.tmp 38), type := 32, pos := "exact.go:2130", after := #[{ on := 6, ground := Ground.data }], guard := none }
abbrev qPr10 : Oper := { dst := some 39, op := Op.extract (Operand.tmp 31) 0, type := 30, pos := "exact.go:2130", after := #[{ on := 7, ground := Ground.data }], guard := none }
abbrev qPr11 : Oper := { dst := some 40, op := Op.extract (Operand.tmp 31) 1, type := 31, pos := "exact.go:2130", after := #[{ on := 7, ground := Ground.data }, { on := 13, ground := Ground.gcOnly Departure.lateStores }], guard := none }
abbrev qPr12 : Oper := { dst := some 41, op := Op.extract (Operand.tmp 31) 2, type := 3, pos := "exact.go:2130", after := #[{ on := 7, ground := Ground.data }, { on := 14, ground := Ground.gcOnly Departure.lateStores }], guard := none }
set_option maxRecDepth 20000 in
set_option maxHeartbeats 16000000 in
theorem regA (a : Option Addr) (c : Nat) (L : List Fil) (x1 x2 x3 x4 : Int) (x5 : Bool) (l s : Int) (en : ByteArray) (mo : Int) (w w1 : World) (M : List Fil) (z1 z2 z3 z4 : Int) (z5 : Bool) (lr sr zc : Int) (hf : FL w a L.length (nthF L)) (hn : L.length ≤ 2097152) (hc1 : Below w.heap.size w w1) (hX1 : w1.heap[w.heap.size]? = some (.cells #[.slice a L.length c, .int .i64 x1, .int .i64 x2, .int .i64 x3, .int .i64 x4, .bool x5] 24)) (hY1 : w1.heap[w.heap.size + 1]? = some (.cells #[.int .i64 l, .int .i64 s] 26)) (HSP : Hid (∀ w b c, FL w (some ⟨b, 0, none⟩) L.length (nthF L) → Calls Tryd.prog 6 #[.agg #[.slice (some ⟨b, 0, none⟩) L.length c, .int .i64 x1, .int .i64 x2, .int .i64 x3, .int .i64 x4, .bool x5], .agg #[.int .i64 l, .int .i64 s], .string en, .int .i64 mo] w (RE M z1 z2 z3 z4 z5 lr sr zc w))) (v0 v1 v6 v7 v8 v9 v10 v11 v12 v13 v14 v15 v16 v17 v18 v19 v20 v21 v22 v23 v24 v25 v26 v27 v28 v29 v30 v31 v32 v33 v34 v35 v36 v37 v38 v39 v40 v41 v42 v43 v44 v45 v46 v47 v48 v49 v50 v51 v52 v53 v54 v55 v56 v57 v58 v59 v60 v61 v62 v63 v64 v65 v66 v67 v68 v69 v70 v71 v72 v73 v74 v75 v76 v77 v78 v79 v80 v81 v82 v83 v84 v85 v86 v87 v88 v89 v90 v91 v92 v93 v94 v95 v96 v97 v98 v99 v100 v101 v102 v103 v104 v105 v106 v107 v108 v109 v110 v111 v112 v113 v114 v115 v116 v117 v118 v119 v120 v121 v122 v123 v124 v125 v126 v127 v128 v129 v130 v131 v132 : Value) : Code.wp Tryd.prog (Code.region 7 #[{ dst := some 32, op := Op.load 24 (Operand.tmp 4), type := 24, pos := "exact.go:2130", after := #[], guard := none }, { dst := some 33, op := Op.call { callee := Callee.value (Operand.func 7), args := #[Operand.tmp 32], argTypes := #[24] }, type := 30, pos := "exact.go:2130", after := #[{ on := 0, ground := Ground.data }], guard := none }, { dst := some 34, op := Op.load 26 (Operand.tmp 5), type := 26, pos := "exact.go:2130", after := #[], guard := none }, { dst := some 35, op := Op.call { callee := Callee.value (Operand.func 8), args := #[Operand.tmp 34], argTypes := #[26] }, type := 31, pos := "exact.go:2130", after := #[{ on := 2, ground := Ground.data }, { on := 1, ground := Ground.chain }], guard := none }, { dst := some 36, op := Op.move (Operand.tmp 2), type := 9, pos := "exact.go:2130", after := #[], guard := none }, { dst := some 37, op := Op.move (Operand.tmp 3), type := 3, pos := "exact.go:2130", after := #[], guard := none }, { dst := some 38, op := Op.call { callee := Callee.value (Operand.func 6), args := #[Operand.tmp 33, Operand.tmp 35, Operand.tmp 36, Operand.tmp 37], argTypes := #[30, 31, 9, 3] }, type := 32, pos := "exact.go:2130", after := #[{ on := 1, ground := Ground.data }, { on := 3, ground := Ground.data }, { on := 4, ground := Ground.data }, { on := 5, ground := Ground.data }, { on := 3, ground := Ground.chain }], guard := none }, { dst := some 31, op := Op.move (Operand.tmp 38), type := 32, pos := "exact.go:2130", after := #[{ on := 6, ground := Ground.data }], guard := none }, { dst := some 39, op := Op.extract (Operand.tmp 31) 0, type := 30, pos := "exact.go:2130", after := #[{ on := 7, ground := Ground.data }], guard := none }, { dst := some 40, op := Op.extract (Operand.tmp 31) 1, type := 31, pos := "exact.go:2130", after := #[{ on := 7, ground := Ground.data }, { on := 13, ground := Ground.gcOnly Departure.lateStores }], guard := none }, { dst := some 41, op := Op.extract (Operand.tmp 31) 2, type := 3, pos := "exact.go:2130", after := #[{ on := 7, ground := Ground.data }, { on := 14, ground := Ground.gcOnly Departure.lateStores }], guard := none }, { dst := some 10, op := Op.alloc 30, type := 0, pos := "exact.go:2130", after := #[], guard := none }, { dst := some 11, op := Op.alloc 31, type := 0, pos := "exact.go:2130", after := #[], guard := none }, { dst := none, op := Op.store 30 (Operand.tmp 10) (Operand.tmp 39), type := 0, pos := "exact.go:2130", after := #[{ on := 11, ground := Ground.data }, { on := 8, ground := Ground.data }, { on := 6, ground := Ground.chain }, { on := 0, ground := Ground.phase }, { on := 1, ground := Ground.phase }, { on := 2, ground := Ground.phase }, { on := 3, ground := Ground.phase }, { on := 4, ground := Ground.phase }, { on := 5, ground := Ground.phase }, { on := 6, ground := Ground.phase }, { on := 7, ground := Ground.phase }, { on := 8, ground := Ground.phase }, { on := 9, ground := Ground.textOnly Departure.lateStores }, { on := 10, ground := Ground.textOnly Departure.lateStores }, { on := 11, ground := Ground.phase }, { on := 12, ground := Ground.phase }], guard := none }, { dst := none, op := Op.store 31 (Operand.tmp 11) (Operand.tmp 40), type := 0, pos := "exact.go:2130", after := #[{ on := 12, ground := Ground.data }, { on := 9, ground := Ground.data }, { on := 13, ground := Ground.chain }, { on := 0, ground := Ground.phase }, { on := 1, ground := Ground.phase }, { on := 2, ground := Ground.phase }, { on := 3, ground := Ground.phase }, { on := 4, ground := Ground.phase }, { on := 5, ground := Ground.phase }, { on := 6, ground := Ground.phase }, { on := 7, ground := Ground.phase }, { on := 8, ground := Ground.phase }, { on := 9, ground := Ground.phase }, { on := 10, ground := Ground.textOnly Departure.lateStores }, { on := 11, ground := Ground.phase }, { on := 12, ground := Ground.phase }, { on := 13, ground := Ground.phase }], guard := none }, { dst := some 12, op := Op.assign (Operand.tmp 41), type := 3, pos := "exact.go:2130", after := #[{ on := 10, ground := Ground.data }, { on := 14, ground := Ground.chain }, { on := 0, ground := Ground.phase }, { on := 1, ground := Ground.phase }, { on := 2, ground := Ground.phase }, { on := 3, ground := Ground.phase }, { on := 4, ground := Ground.phase }, { on := 5, ground := Ground.phase }, { on := 6, ground := Ground.phase }, { on := 7, ground := Ground.phase }, { on := 8, ground := Ground.phase }, { on := 9, ground := Ground.phase }, { on := 10, ground := Ground.phase }, { on := 11, ground := Ground.phase }, { on := 12, ground := Ground.phase }, { on := 13, ground := Ground.phase }, { on := 14, ground := Ground.phase }], guard := none }] true) (Exit.then (fun a' w' => ∃ (Q Ql : Nat) (av : Option Addr) (cv : Nat) (u31 u32 u33 u34 u35 u36 u37 u38 u39 u40 u41 : Value), a' = { tmps := List.toArray ((v0) :: (v1) :: (.string en) :: (.int .i64 mo) :: (.pointer (some ⟨w.heap.size, 0, none⟩)) :: (.pointer (some ⟨w.heap.size + 1, 0, none⟩)) :: (v6) :: (v7) :: (v8) :: (v9) :: (.pointer (some ⟨Q, 0, none⟩)) :: (.pointer (some ⟨Ql, 0, none⟩)) :: (.int .i64 zc) :: (v13) :: (v14) :: (v15) :: (v16) :: (v17) :: (v18) :: (v19) :: (v20) :: (v21) :: (v22) :: (v23) :: (v24) :: (v25) :: (v26) :: (v27) :: (v28) :: (v29) :: (v30) :: (u31) :: (u32) :: (u33) :: (u34) :: (u35) :: (u36) :: (u37) :: (u38) :: (u39) :: (u40) :: (u41) :: (v42) :: (v43) :: (v44) :: (v45) :: (v46) :: (v47) :: (v48) :: (v49) :: (v50) :: (v51) :: (v52) :: (v53) :: (v54) :: (v55) :: (v56) :: (v57) :: (v58) :: (v59) :: (v60) :: (v61) :: (v62) :: (v63) :: (v64) :: (v65) :: (v66) :: (v67) :: (v68) :: (v69) :: (v70) :: (v71) :: (v72) :: (v73) :: (v74) :: (v75) :: (v76) :: (v77) :: (v78) :: (v79) :: (v80) :: (v81) :: (v82) :: (v83) :: (v84) :: (v85) :: (v86) :: (v87) :: (v88) :: (v89) :: (v90) :: (v91) :: (v92) :: (v93) :: (v94) :: (v95) :: (v96) :: (v97) :: (v98) :: (v99) :: (v100) :: (v101) :: (v102) :: (v103) :: (v104) :: (v105) :: (v106) :: (v107) :: (v108) :: (v109) :: (v110) :: (v111) :: (v112) :: (v113) :: (v114) :: (v115) :: (v116) :: (v117) :: (v118) :: (v119) :: (v120) :: (v121) :: (v122) :: (v123) :: (v124) :: (v125) :: (v126) :: (v127) :: (v128) :: (v129) :: (v130) :: (v131) :: (v132) :: []), defers := [] } ∧ w'.heap[Q]? = some (.cells #[.slice av M.length cv, .int .i64 z1, .int .i64 z2, .int .i64 z3, .int .i64 z4, .bool z5] 30 (0, 0)) ∧ w'.heap[Ql]? = some (.cells #[.int .i64 lr, .int .i64 sr] 31 (0, 0)) ∧ OwnF w' w1.heap.size (.slice av M.length cv) M.length (nthF M) ∧ w1.heap.size ≤ Q ∧ w1.heap.size ≤ Ql ∧ Below w1.heap.size w1 w') (fun _ _ _ => False)) { tmps := List.toArray ((v0) :: (v1) :: (.string en) :: (.int .i64 mo) :: (.pointer (some ⟨w.heap.size, 0, none⟩)) :: (.pointer (some ⟨w.heap.size + 1, 0, none⟩)) :: (v6) :: (v7) :: (v8) :: (v9) :: (v10) :: (v11) :: (v12) :: (v13) :: (v14) :: (v15) :: (v16) :: (v17) :: (v18) :: (v19) :: (v20) :: (v21) :: (v22) :: (v23) :: (v24) :: (v25) :: (v26) :: (v27) :: (v28) :: (v29) :: (v30) :: (v31) :: (v32) :: (v33) :: (v34) :: (v35) :: (v36) :: (v37) :: (v38) :: (v39) :: (v40) :: (v41) :: (v42) :: (v43) :: (v44) :: (v45) :: (v46) :: (v47) :: (v48) :: (v49) :: (v50) :: (v51) :: (v52) :: (v53) :: (v54) :: (v55) :: (v56) :: (v57) :: (v58) :: (v59) :: (v60) :: (v61) :: (v62) :: (v63) :: (v64) :: (v65) :: (v66) :: (v67) :: (v68) :: (v69) :: (v70) :: (v71) :: (v72) :: (v73) :: (v74) :: (v75) :: (v76) :: (v77) :: (v78) :: (v79) :: (v80) :: (v81) :: (v82) :: (v83) :: (v84) :: (v85) :: (v86) :: (v87) :: (v88) :: (v89) :: (v90) :: (v91) :: (v92) :: (v93) :: (v94) :: (v95) :: (v96) :: (v97) :: (v98) :: (v99) :: (v100) :: (v101) :: (v102) :: (v103) :: (v104) :: (v105) :: (v106) :: (v107) :: (v108) :: (v109) :: (v110) :: (v111) :: (v112) :: (v113) :: (v114) :: (v115) :: (v116) :: (v117) :: (v118) :: (v119) :: (v120) :: (v121) :: (v122) :: (v123) :: (v124) :: (v125) :: (v126) :: (v127) :: (v128) :: (v129) :: (v130) :: (v131) :: (v132) :: []), defers := [] } w1 := by
  refine wp_region_held_drew (S := fun x => Below w1.heap.size w1 x) (by kernel_rfl) (bdrew1 _) (fun hHeld => ?_)
  generalize w1.drew = v at hHeld ⊢
  refine' takeF (i := 0) (oi := ({ dst := some 32, op := Op.load 24 (Operand.tmp 4), type := 24, pos := "exact.go:2130", after := #[], guard := none } : Oper)) rfl ⟨by rfl, fun x hSw => ?h1⟩ hHeld ?r1
  case h1 =>
    obtain ⟨k0, k1, k2, k3, k4, k5⟩ := B6.of (rowL hX1 hSw); have hYS := rowL hY1 hSw; obtain ⟨yc0, yc1⟩ := B2.of hYS
    go_simp
    try with_reducible rfl
  try simp only [Act.put, List.setIfInBounds_toArray, List.set_cons_zero, List.set_cons_succ]
  refine' takeF (i := 2) (oi := ({ dst := some 34, op := Op.load 26 (Operand.tmp 5), type := 26, pos := "exact.go:2130", after := #[], guard := none } : Oper)) rfl ⟨by rfl, fun x hSw => ?h2⟩ hHeld ?r2
  case h2 =>
    obtain ⟨k0, k1, k2, k3, k4, k5⟩ := B6.of (rowL hX1 hSw); have hYS := rowL hY1 hSw; obtain ⟨yc0, yc1⟩ := B2.of hYS
    go_simp
    try with_reducible rfl
  try simp only [Act.put, List.setIfInBounds_toArray, List.set_cons_zero, List.set_cons_succ]
  refine' takeF (i := 4) (oi := ({ dst := some 36, op := Op.move (Operand.tmp 2), type := 9, pos := "exact.go:2130", after := #[], guard := none } : Oper)) rfl ⟨by rfl, fun x hSw => ?h3⟩ hHeld ?r3
  case h3 =>
    go_simp
    try with_reducible rfl
  try simp only [Act.put, List.setIfInBounds_toArray, List.set_cons_zero, List.set_cons_succ]
  refine' takeF (i := 5) (oi := ({ dst := some 37, op := Op.move (Operand.tmp 3), type := 3, pos := "exact.go:2130", after := #[], guard := none } : Oper)) rfl ⟨by rfl, fun x hSw => ?h4⟩ hHeld ?r4
  case h4 =>
    go_simp
    try with_reducible rfl
  try simp only [Act.put, List.setIfInBounds_toArray, List.set_cons_zero, List.set_cons_succ]
  refine wpAnyH_ready (rs := [1, 11, 12]) (by kernel_rfl) (by simp) ?_
  refine (AllReadyH.cons (o := qPr4) rfl (fun K hK => ?c3) (AllReadyH.cons (o := qPr5) rfl (fun K hK => ?c2) (AllReadyH.cons (o := qPr6) rfl (fun K hK => ?c1) AllReadyH.nil)))
  case' c3 =>
   go_simp
   refine (toFs_any a L.length c (nthF L) x1 x2 x3 x4 x5 _ (hf.later (bstep hc1 hHeld)) hn).mono ?_
   rintro e v ⟨ga, hga, rfl, hRa, hba⟩
   refine hK.out _ _ (bstep hHeld hba) (fun hHeld => ?_)
   clear hK K
   try simp only [Act.put, List.setIfInBounds_toArray, List.set_cons_zero, List.set_cons_succ]
   refine wpAnyH_ready (rs := [3, 11, 12]) (by kernel_rfl) (by simp) ?_
   refine (AllReadyH.cons (o := qPr7) rfl (fun K hK => ?c6) (AllReadyH.cons (o := qPr5) rfl (fun K hK => ?c5) (AllReadyH.cons (o := qPr6) rfl (fun K hK => ?c4) AllReadyH.nil)))
   case' c6 =>
    go_simp
    refine (toLog l s _).mono ?_
    rintro e v ⟨rfl, hbb⟩
    refine hK.out _ _ (bstep hHeld hbb) (fun hHeld => ?_)
    clear hK K
    try simp only [Act.put, List.setIfInBounds_toArray, List.set_cons_zero, List.set_cons_succ]
    replace hRa := hRa.later hbb
    refine wpAnyH_ready (rs := [6, 11, 12]) (by kernel_rfl) (by simp) ?_
    refine (AllReadyH.cons (o := qPr8) rfl (fun K hK => ?c9) (AllReadyH.cons (o := qPr5) rfl (fun K hK => ?c8) (AllReadyH.cons (o := qPr6) rfl (fun K hK => ?c7) AllReadyH.nil)))
    case' c9 =>
     go_simp
     have hH4 := hHeld
     refine (HSP.out _ ga _ hRa.fl).mono ?_
     rintro e v ⟨av, cv, rfl, hOw, hbc⟩; replace hOw := OwnF.wk hOw hH4.size
     refine hK.out _ _ (bstep hHeld hbc) (fun hHeld => ?_)
     clear hK K
     try simp only [Act.put, List.setIfInBounds_toArray, List.set_cons_zero, List.set_cons_succ]
     replace hRa := hRa.later hbc
     refine' takeF (i := 7) (oi := qPr9) rfl ⟨by rfl, fun x hSw => ?h5⟩ hHeld ?r5
     case h5 =>
       go_simp
       try with_reducible rfl
     try simp only [Act.put, List.setIfInBounds_toArray, List.set_cons_zero, List.set_cons_succ]
     refine' takeF (i := 8) (oi := qPr10) rfl ⟨by rfl, fun x hSw => ?h6⟩ hHeld ?r6
     case h6 =>
       go_simp
       try with_reducible rfl
     try simp only [Act.put, List.setIfInBounds_toArray, List.set_cons_zero, List.set_cons_succ]
     refine' takeF (i := 9) (oi := qPr11) rfl ⟨by rfl, fun x hSw => ?h7⟩ hHeld ?r7
     case h7 =>
       go_simp
       try with_reducible rfl
     try simp only [Act.put, List.setIfInBounds_toArray, List.set_cons_zero, List.set_cons_succ]
     refine' takeF (i := 10) (oi := qPr12) rfl ⟨by rfl, fun x hSw => ?h8⟩ hHeld ?r8
     case h8 =>
       go_simp
       try with_reducible rfl
     try simp only [Act.put, List.setIfInBounds_toArray, List.set_cons_zero, List.set_cons_succ]
     refine wpAnyH_ready (rs := [11, 12]) (by kernel_rfl) (by simp) ?_
     refine (AllReadyH.cons (o := qPr5) rfl (fun K hK => ?c11) (AllReadyH.cons (o := qPr6) rfl (fun K hK => ?c10) AllReadyH.nil))
     case' c11 =>
      have hqA := heap_alloc_new v (.cells #[.slice none 0 0, .int .i64 0, .int .i64 0, .int .i64 0, .int .i64 0, .bool false] 30)
      have hbA := bal v (.cells #[.slice none 0 0, .int .i64 0, .int .i64 0, .int .i64 0, .int .i64 0, .bool false] 30)
      have hsA := hHeld.size
      go_simp
      refine hK.out _ _ (bstep hHeld (bal _ _)) (fun hHeld => ?_)
      clear hK K
      try simp only [Act.put, List.setIfInBounds_toArray, List.set_cons_zero, List.set_cons_succ]
      generalize v.heap.size = QA at hqA hsA ⊢
      generalize v.alloc (.cells #[.slice none 0 0, .int .i64 0, .int .i64 0, .int .i64 0, .int .i64 0, .bool false] 30) = v at hqA hbA hHeld ⊢
      replace hRa := hRa.later hbA
      replace hOw := hOw.later hbA
      clear hbA
      refine wpAnyH_ready (rs := [12]) (by kernel_rfl) (by simp) ?_
      refine AllReadyH.cons (o := qPr6) rfl (fun K hK => ?_) AllReadyH.nil
      have hqB := heap_alloc_new v (.cells #[.int .i64 0, .int .i64 0] 31)
      have hbB := bal v (.cells #[.int .i64 0, .int .i64 0] 31)
      have hsB := hHeld.size
      go_simp
      refine hK.out _ _ (bstep hHeld (bal _ _)) (fun hHeld => ?_)
      clear hK K
      try simp only [Act.put, List.setIfInBounds_toArray, List.set_cons_zero, List.set_cons_succ]
      have hne : QA ≠ v.heap.size := Nat.ne_of_lt (Array.getElem?_eq_some_iff.1 hqA).1
      generalize v.heap.size = QB at hqB hsB hne ⊢
      generalize v.alloc (.cells #[.int .i64 0, .int .i64 0] 31) = v at hqB hbB hHeld ⊢
      replace hRa := hRa.later hbB
      replace hOw := hOw.later hbB
      replace hqA := rowL hqA hbB
      clear hbB
     case' c10 =>
      have hqB := heap_alloc_new v (.cells #[.int .i64 0, .int .i64 0] 31)
      have hbB := bal v (.cells #[.int .i64 0, .int .i64 0] 31)
      have hsB := hHeld.size
      go_simp
      refine hK.out _ _ (bstep hHeld (bal _ _)) (fun hHeld => ?_)
      clear hK K
      try simp only [Act.put, List.setIfInBounds_toArray, List.set_cons_zero, List.set_cons_succ]
      generalize v.heap.size = QB at hqB hsB ⊢
      generalize v.alloc (.cells #[.int .i64 0, .int .i64 0] 31) = v at hqB hbB hHeld ⊢
      replace hRa := hRa.later hbB
      replace hOw := hOw.later hbB
      clear hbB
      refine wpAnyH_ready (rs := [11]) (by kernel_rfl) (by simp) ?_
      refine AllReadyH.cons (o := qPr5) rfl (fun K hK => ?_) AllReadyH.nil
      have hqA := heap_alloc_new v (.cells #[.slice none 0 0, .int .i64 0, .int .i64 0, .int .i64 0, .int .i64 0, .bool false] 30)
      have hbA := bal v (.cells #[.slice none 0 0, .int .i64 0, .int .i64 0, .int .i64 0, .int .i64 0, .bool false] 30)
      have hsA := hHeld.size
      go_simp
      refine hK.out _ _ (bstep hHeld (bal _ _)) (fun hHeld => ?_)
      clear hK K
      try simp only [Act.put, List.setIfInBounds_toArray, List.set_cons_zero, List.set_cons_succ]
      have hne : v.heap.size ≠ QB := (Nat.ne_of_lt (Array.getElem?_eq_some_iff.1 hqB).1).symm
      generalize v.heap.size = QA at hqA hsA hne ⊢
      generalize v.alloc (.cells #[.slice none 0 0, .int .i64 0, .int .i64 0, .int .i64 0, .int .i64 0, .bool false] 30) = v at hqA hbA hHeld ⊢
      replace hRa := hRa.later hbA
      replace hOw := hOw.later hbA
      replace hqB := rowL hqB hbA
      clear hbA
    case' c8 =>
     have hqA := heap_alloc_new v (.cells #[.slice none 0 0, .int .i64 0, .int .i64 0, .int .i64 0, .int .i64 0, .bool false] 30)
     have hbA := bal v (.cells #[.slice none 0 0, .int .i64 0, .int .i64 0, .int .i64 0, .int .i64 0, .bool false] 30)
     have hsA := hHeld.size
     go_simp
     refine hK.out _ _ (bstep hHeld (bal _ _)) (fun hHeld => ?_)
     clear hK K
     try simp only [Act.put, List.setIfInBounds_toArray, List.set_cons_zero, List.set_cons_succ]
     generalize v.heap.size = QA at hqA hsA ⊢
     generalize v.alloc (.cells #[.slice none 0 0, .int .i64 0, .int .i64 0, .int .i64 0, .int .i64 0, .bool false] 30) = v at hqA hbA hHeld ⊢
     replace hRa := hRa.later hbA
     clear hbA
     refine wpAnyH_ready (rs := [6, 12]) (by kernel_rfl) (by simp) ?_
     refine (AllReadyH.cons (o := qPr8) rfl (fun K hK => ?c13) (AllReadyH.cons (o := qPr6) rfl (fun K hK => ?c12) AllReadyH.nil))
     case' c13 =>
      go_simp
      have hH4 := hHeld
      refine (HSP.out _ ga _ hRa.fl).mono ?_
      rintro e v ⟨av, cv, rfl, hOw, hbc⟩; replace hOw := OwnF.wk hOw hH4.size
      refine hK.out _ _ (bstep hHeld hbc) (fun hHeld => ?_)
      clear hK K
      try simp only [Act.put, List.setIfInBounds_toArray, List.set_cons_zero, List.set_cons_succ]
      replace hRa := hRa.later hbc
      replace hqA := rowL hqA hbc
      refine' takeF (i := 7) (oi := qPr9) rfl ⟨by rfl, fun x hSw => ?h9⟩ hHeld ?r9
      case h9 =>
        go_simp
        try with_reducible rfl
      try simp only [Act.put, List.setIfInBounds_toArray, List.set_cons_zero, List.set_cons_succ]
      refine' takeF (i := 8) (oi := qPr10) rfl ⟨by rfl, fun x hSw => ?h10⟩ hHeld ?r10
      case h10 =>
        go_simp
        try with_reducible rfl
      try simp only [Act.put, List.setIfInBounds_toArray, List.set_cons_zero, List.set_cons_succ]
      refine' takeF (i := 9) (oi := qPr11) rfl ⟨by rfl, fun x hSw => ?h11⟩ hHeld ?r11
      case h11 =>
        go_simp
        try with_reducible rfl
      try simp only [Act.put, List.setIfInBounds_toArray, List.set_cons_zero, List.set_cons_succ]
      refine' takeF (i := 10) (oi := qPr12) rfl ⟨by rfl, fun x hSw => ?h12⟩ hHeld ?r12
      case h12 =>
        go_simp
        try with_reducible rfl
      try simp only [Act.put, List.setIfInBounds_toArray, List.set_cons_zero, List.set_cons_succ]
      refine wpAnyH_ready (rs := [12]) (by kernel_rfl) (by simp) ?_
      refine AllReadyH.cons (o := qPr6) rfl (fun K hK => ?_) AllReadyH.nil
      have hqB := heap_alloc_new v (.cells #[.int .i64 0, .int .i64 0] 31)
      have hbB := bal v (.cells #[.int .i64 0, .int .i64 0] 31)
      have hsB := hHeld.size
      go_simp
      refine hK.out _ _ (bstep hHeld (bal _ _)) (fun hHeld => ?_)
      clear hK K
      try simp only [Act.put, List.setIfInBounds_toArray, List.set_cons_zero, List.set_cons_succ]
      have hne : QA ≠ v.heap.size := Nat.ne_of_lt (Array.getElem?_eq_some_iff.1 hqA).1
      generalize v.heap.size = QB at hqB hsB hne ⊢
      generalize v.alloc (.cells #[.int .i64 0, .int .i64 0] 31) = v at hqB hbB hHeld ⊢
      replace hRa := hRa.later hbB
      replace hqA := rowL hqA hbB
      replace hOw := hOw.later hbB
      clear hbB
     case' c12 =>
      have hqB := heap_alloc_new v (.cells #[.int .i64 0, .int .i64 0] 31)
      have hbB := bal v (.cells #[.int .i64 0, .int .i64 0] 31)
      have hsB := hHeld.size
      go_simp
      refine hK.out _ _ (bstep hHeld (bal _ _)) (fun hHeld => ?_)
      clear hK K
      try simp only [Act.put, List.setIfInBounds_toArray, List.set_cons_zero, List.set_cons_succ]
      have hne : QA ≠ v.heap.size := Nat.ne_of_lt (Array.getElem?_eq_some_iff.1 hqA).1
      generalize v.heap.size = QB at hqB hsB hne ⊢
      generalize v.alloc (.cells #[.int .i64 0, .int .i64 0] 31) = v at hqB hbB hHeld ⊢
      replace hRa := hRa.later hbB
      replace hqA := rowL hqA hbB
      clear hbB
      refine wpAnyH_ready (rs := [6]) (by kernel_rfl) (by simp) ?_
      refine AllReadyH.cons (o := qPr8) rfl (fun K hK => ?_) AllReadyH.nil
      go_simp
      have hH4 := hHeld
      refine (HSP.out _ ga _ hRa.fl).mono ?_
      rintro e v ⟨av, cv, rfl, hOw, hbc⟩; replace hOw := OwnF.wk hOw hH4.size
      refine hK.out _ _ (bstep hHeld hbc) (fun hHeld => ?_)
      clear hK K
      try simp only [Act.put, List.setIfInBounds_toArray, List.set_cons_zero, List.set_cons_succ]
      replace hRa := hRa.later hbc
      replace hqA := rowL hqA hbc
      replace hqB := rowL hqB hbc
      refine' takeF (i := 7) (oi := qPr9) rfl ⟨by rfl, fun x hSw => ?h13⟩ hHeld ?r13
      case h13 =>
        go_simp
        try with_reducible rfl
      try simp only [Act.put, List.setIfInBounds_toArray, List.set_cons_zero, List.set_cons_succ]
      refine' takeF (i := 8) (oi := qPr10) rfl ⟨by rfl, fun x hSw => ?h14⟩ hHeld ?r14
      case h14 =>
        go_simp
        try with_reducible rfl
      try simp only [Act.put, List.setIfInBounds_toArray, List.set_cons_zero, List.set_cons_succ]
      refine' takeF (i := 9) (oi := qPr11) rfl ⟨by rfl, fun x hSw => ?h15⟩ hHeld ?r15
      case h15 =>
        go_simp
        try with_reducible rfl
      try simp only [Act.put, List.setIfInBounds_toArray, List.set_cons_zero, List.set_cons_succ]
      refine' takeF (i := 10) (oi := qPr12) rfl ⟨by rfl, fun x hSw => ?h16⟩ hHeld ?r16
      case h16 =>
        go_simp
        try with_reducible rfl
      try simp only [Act.put, List.setIfInBounds_toArray, List.set_cons_zero, List.set_cons_succ]
    case' c7 =>
     have hqB := heap_alloc_new v (.cells #[.int .i64 0, .int .i64 0] 31)
     have hbB := bal v (.cells #[.int .i64 0, .int .i64 0] 31)
     have hsB := hHeld.size
     go_simp
     refine hK.out _ _ (bstep hHeld (bal _ _)) (fun hHeld => ?_)
     clear hK K
     try simp only [Act.put, List.setIfInBounds_toArray, List.set_cons_zero, List.set_cons_succ]
     generalize v.heap.size = QB at hqB hsB ⊢
     generalize v.alloc (.cells #[.int .i64 0, .int .i64 0] 31) = v at hqB hbB hHeld ⊢
     replace hRa := hRa.later hbB
     clear hbB
     refine wpAnyH_ready (rs := [6, 11]) (by kernel_rfl) (by simp) ?_
     refine (AllReadyH.cons (o := qPr8) rfl (fun K hK => ?c15) (AllReadyH.cons (o := qPr5) rfl (fun K hK => ?c14) AllReadyH.nil))
     case' c15 =>
      go_simp
      have hH4 := hHeld
      refine (HSP.out _ ga _ hRa.fl).mono ?_
      rintro e v ⟨av, cv, rfl, hOw, hbc⟩; replace hOw := OwnF.wk hOw hH4.size
      refine hK.out _ _ (bstep hHeld hbc) (fun hHeld => ?_)
      clear hK K
      try simp only [Act.put, List.setIfInBounds_toArray, List.set_cons_zero, List.set_cons_succ]
      replace hRa := hRa.later hbc
      replace hqB := rowL hqB hbc
      refine' takeF (i := 7) (oi := qPr9) rfl ⟨by rfl, fun x hSw => ?h17⟩ hHeld ?r17
      case h17 =>
        go_simp
        try with_reducible rfl
      try simp only [Act.put, List.setIfInBounds_toArray, List.set_cons_zero, List.set_cons_succ]
      refine' takeF (i := 8) (oi := qPr10) rfl ⟨by rfl, fun x hSw => ?h18⟩ hHeld ?r18
      case h18 =>
        go_simp
        try with_reducible rfl
      try simp only [Act.put, List.setIfInBounds_toArray, List.set_cons_zero, List.set_cons_succ]
      refine' takeF (i := 9) (oi := qPr11) rfl ⟨by rfl, fun x hSw => ?h19⟩ hHeld ?r19
      case h19 =>
        go_simp
        try with_reducible rfl
      try simp only [Act.put, List.setIfInBounds_toArray, List.set_cons_zero, List.set_cons_succ]
      refine' takeF (i := 10) (oi := qPr12) rfl ⟨by rfl, fun x hSw => ?h20⟩ hHeld ?r20
      case h20 =>
        go_simp
        try with_reducible rfl
      try simp only [Act.put, List.setIfInBounds_toArray, List.set_cons_zero, List.set_cons_succ]
      refine wpAnyH_ready (rs := [11]) (by kernel_rfl) (by simp) ?_
      refine AllReadyH.cons (o := qPr5) rfl (fun K hK => ?_) AllReadyH.nil
      have hqA := heap_alloc_new v (.cells #[.slice none 0 0, .int .i64 0, .int .i64 0, .int .i64 0, .int .i64 0, .bool false] 30)
      have hbA := bal v (.cells #[.slice none 0 0, .int .i64 0, .int .i64 0, .int .i64 0, .int .i64 0, .bool false] 30)
      have hsA := hHeld.size
      go_simp
      refine hK.out _ _ (bstep hHeld (bal _ _)) (fun hHeld => ?_)
      clear hK K
      try simp only [Act.put, List.setIfInBounds_toArray, List.set_cons_zero, List.set_cons_succ]
      have hne : v.heap.size ≠ QB := (Nat.ne_of_lt (Array.getElem?_eq_some_iff.1 hqB).1).symm
      generalize v.heap.size = QA at hqA hsA hne ⊢
      generalize v.alloc (.cells #[.slice none 0 0, .int .i64 0, .int .i64 0, .int .i64 0, .int .i64 0, .bool false] 30) = v at hqA hbA hHeld ⊢
      replace hRa := hRa.later hbA
      replace hqB := rowL hqB hbA
      replace hOw := hOw.later hbA
      clear hbA
     case' c14 =>
      have hqA := heap_alloc_new v (.cells #[.slice none 0 0, .int .i64 0, .int .i64 0, .int .i64 0, .int .i64 0, .bool false] 30)
      have hbA := bal v (.cells #[.slice none 0 0, .int .i64 0, .int .i64 0, .int .i64 0, .int .i64 0, .bool false] 30)
      have hsA := hHeld.size
      go_simp
      refine hK.out _ _ (bstep hHeld (bal _ _)) (fun hHeld => ?_)
      clear hK K
      try simp only [Act.put, List.setIfInBounds_toArray, List.set_cons_zero, List.set_cons_succ]
      have hne : v.heap.size ≠ QB := (Nat.ne_of_lt (Array.getElem?_eq_some_iff.1 hqB).1).symm
      generalize v.heap.size = QA at hqA hsA hne ⊢
      generalize v.alloc (.cells #[.slice none 0 0, .int .i64 0, .int .i64 0, .int .i64 0, .int .i64 0, .bool false] 30) = v at hqA hbA hHeld ⊢
      replace hRa := hRa.later hbA
      replace hqB := rowL hqB hbA
      clear hbA
      refine wpAnyH_ready (rs := [6]) (by kernel_rfl) (by simp) ?_
      refine AllReadyH.cons (o := qPr8) rfl (fun K hK => ?_) AllReadyH.nil
      go_simp
      have hH4 := hHeld
      refine (HSP.out _ ga _ hRa.fl).mono ?_
      rintro e v ⟨av, cv, rfl, hOw, hbc⟩; replace hOw := OwnF.wk hOw hH4.size
      refine hK.out _ _ (bstep hHeld hbc) (fun hHeld => ?_)
      clear hK K
      try simp only [Act.put, List.setIfInBounds_toArray, List.set_cons_zero, List.set_cons_succ]
      replace hRa := hRa.later hbc
      replace hqB := rowL hqB hbc
      replace hqA := rowL hqA hbc
      refine' takeF (i := 7) (oi := qPr9) rfl ⟨by rfl, fun x hSw => ?h21⟩ hHeld ?r21
      case h21 =>
        go_simp
        try with_reducible rfl
      try simp only [Act.put, List.setIfInBounds_toArray, List.set_cons_zero, List.set_cons_succ]
      refine' takeF (i := 8) (oi := qPr10) rfl ⟨by rfl, fun x hSw => ?h22⟩ hHeld ?r22
      case h22 =>
        go_simp
        try with_reducible rfl
      try simp only [Act.put, List.setIfInBounds_toArray, List.set_cons_zero, List.set_cons_succ]
      refine' takeF (i := 9) (oi := qPr11) rfl ⟨by rfl, fun x hSw => ?h23⟩ hHeld ?r23
      case h23 =>
        go_simp
        try with_reducible rfl
      try simp only [Act.put, List.setIfInBounds_toArray, List.set_cons_zero, List.set_cons_succ]
      refine' takeF (i := 10) (oi := qPr12) rfl ⟨by rfl, fun x hSw => ?h24⟩ hHeld ?r24
      case h24 =>
        go_simp
        try with_reducible rfl
      try simp only [Act.put, List.setIfInBounds_toArray, List.set_cons_zero, List.set_cons_succ]
   case' c5 =>
    have hqA := heap_alloc_new v (.cells #[.slice none 0 0, .int .i64 0, .int .i64 0, .int .i64 0, .int .i64 0, .bool false] 30)
    have hbA := bal v (.cells #[.slice none 0 0, .int .i64 0, .int .i64 0, .int .i64 0, .int .i64 0, .bool false] 30)
    have hsA := hHeld.size
    go_simp
    refine hK.out _ _ (bstep hHeld (bal _ _)) (fun hHeld => ?_)
    clear hK K
    try simp only [Act.put, List.setIfInBounds_toArray, List.set_cons_zero, List.set_cons_succ]
    generalize v.heap.size = QA at hqA hsA ⊢
    generalize v.alloc (.cells #[.slice none 0 0, .int .i64 0, .int .i64 0, .int .i64 0, .int .i64 0, .bool false] 30) = v at hqA hbA hHeld ⊢
    replace hRa := hRa.later hbA
    clear hbA
    refine wpAnyH_ready (rs := [3, 12]) (by kernel_rfl) (by simp) ?_
    refine (AllReadyH.cons (o := qPr7) rfl (fun K hK => ?c17) (AllReadyH.cons (o := qPr6) rfl (fun K hK => ?c16) AllReadyH.nil))
    case' c17 =>
     go_simp
     refine (toLog l s _).mono ?_
     rintro e v ⟨rfl, hbb⟩
     refine hK.out _ _ (bstep hHeld hbb) (fun hHeld => ?_)
     clear hK K
     try simp only [Act.put, List.setIfInBounds_toArray, List.set_cons_zero, List.set_cons_succ]
     replace hRa := hRa.later hbb
     replace hqA := rowL hqA hbb
     refine wpAnyH_ready (rs := [6, 12]) (by kernel_rfl) (by simp) ?_
     refine (AllReadyH.cons (o := qPr8) rfl (fun K hK => ?c19) (AllReadyH.cons (o := qPr6) rfl (fun K hK => ?c18) AllReadyH.nil))
     case' c19 =>
      go_simp
      have hH4 := hHeld
      refine (HSP.out _ ga _ hRa.fl).mono ?_
      rintro e v ⟨av, cv, rfl, hOw, hbc⟩; replace hOw := OwnF.wk hOw hH4.size
      refine hK.out _ _ (bstep hHeld hbc) (fun hHeld => ?_)
      clear hK K
      try simp only [Act.put, List.setIfInBounds_toArray, List.set_cons_zero, List.set_cons_succ]
      replace hRa := hRa.later hbc
      replace hqA := rowL hqA hbc
      refine' takeF (i := 7) (oi := qPr9) rfl ⟨by rfl, fun x hSw => ?h25⟩ hHeld ?r25
      case h25 =>
        go_simp
        try with_reducible rfl
      try simp only [Act.put, List.setIfInBounds_toArray, List.set_cons_zero, List.set_cons_succ]
      refine' takeF (i := 8) (oi := qPr10) rfl ⟨by rfl, fun x hSw => ?h26⟩ hHeld ?r26
      case h26 =>
        go_simp
        try with_reducible rfl
      try simp only [Act.put, List.setIfInBounds_toArray, List.set_cons_zero, List.set_cons_succ]
      refine' takeF (i := 9) (oi := qPr11) rfl ⟨by rfl, fun x hSw => ?h27⟩ hHeld ?r27
      case h27 =>
        go_simp
        try with_reducible rfl
      try simp only [Act.put, List.setIfInBounds_toArray, List.set_cons_zero, List.set_cons_succ]
      refine' takeF (i := 10) (oi := qPr12) rfl ⟨by rfl, fun x hSw => ?h28⟩ hHeld ?r28
      case h28 =>
        go_simp
        try with_reducible rfl
      try simp only [Act.put, List.setIfInBounds_toArray, List.set_cons_zero, List.set_cons_succ]
      refine wpAnyH_ready (rs := [12]) (by kernel_rfl) (by simp) ?_
      refine AllReadyH.cons (o := qPr6) rfl (fun K hK => ?_) AllReadyH.nil
      have hqB := heap_alloc_new v (.cells #[.int .i64 0, .int .i64 0] 31)
      have hbB := bal v (.cells #[.int .i64 0, .int .i64 0] 31)
      have hsB := hHeld.size
      go_simp
      refine hK.out _ _ (bstep hHeld (bal _ _)) (fun hHeld => ?_)
      clear hK K
      try simp only [Act.put, List.setIfInBounds_toArray, List.set_cons_zero, List.set_cons_succ]
      have hne : QA ≠ v.heap.size := Nat.ne_of_lt (Array.getElem?_eq_some_iff.1 hqA).1
      generalize v.heap.size = QB at hqB hsB hne ⊢
      generalize v.alloc (.cells #[.int .i64 0, .int .i64 0] 31) = v at hqB hbB hHeld ⊢
      replace hRa := hRa.later hbB
      replace hqA := rowL hqA hbB
      replace hOw := hOw.later hbB
      clear hbB
     case' c18 =>
      have hqB := heap_alloc_new v (.cells #[.int .i64 0, .int .i64 0] 31)
      have hbB := bal v (.cells #[.int .i64 0, .int .i64 0] 31)
      have hsB := hHeld.size
      go_simp
      refine hK.out _ _ (bstep hHeld (bal _ _)) (fun hHeld => ?_)
      clear hK K
      try simp only [Act.put, List.setIfInBounds_toArray, List.set_cons_zero, List.set_cons_succ]
      have hne : QA ≠ v.heap.size := Nat.ne_of_lt (Array.getElem?_eq_some_iff.1 hqA).1
      generalize v.heap.size = QB at hqB hsB hne ⊢
      generalize v.alloc (.cells #[.int .i64 0, .int .i64 0] 31) = v at hqB hbB hHeld ⊢
      replace hRa := hRa.later hbB
      replace hqA := rowL hqA hbB
      clear hbB
      refine wpAnyH_ready (rs := [6]) (by kernel_rfl) (by simp) ?_
      refine AllReadyH.cons (o := qPr8) rfl (fun K hK => ?_) AllReadyH.nil
      go_simp
      have hH4 := hHeld
      refine (HSP.out _ ga _ hRa.fl).mono ?_
      rintro e v ⟨av, cv, rfl, hOw, hbc⟩; replace hOw := OwnF.wk hOw hH4.size
      refine hK.out _ _ (bstep hHeld hbc) (fun hHeld => ?_)
      clear hK K
      try simp only [Act.put, List.setIfInBounds_toArray, List.set_cons_zero, List.set_cons_succ]
      replace hRa := hRa.later hbc
      replace hqA := rowL hqA hbc
      replace hqB := rowL hqB hbc
      refine' takeF (i := 7) (oi := qPr9) rfl ⟨by rfl, fun x hSw => ?h29⟩ hHeld ?r29
      case h29 =>
        go_simp
        try with_reducible rfl
      try simp only [Act.put, List.setIfInBounds_toArray, List.set_cons_zero, List.set_cons_succ]
      refine' takeF (i := 8) (oi := qPr10) rfl ⟨by rfl, fun x hSw => ?h30⟩ hHeld ?r30
      case h30 =>
        go_simp
        try with_reducible rfl
      try simp only [Act.put, List.setIfInBounds_toArray, List.set_cons_zero, List.set_cons_succ]
      refine' takeF (i := 9) (oi := qPr11) rfl ⟨by rfl, fun x hSw => ?h31⟩ hHeld ?r31
      case h31 =>
        go_simp
        try with_reducible rfl
      try simp only [Act.put, List.setIfInBounds_toArray, List.set_cons_zero, List.set_cons_succ]
      refine' takeF (i := 10) (oi := qPr12) rfl ⟨by rfl, fun x hSw => ?h32⟩ hHeld ?r32
      case h32 =>
        go_simp
        try with_reducible rfl
      try simp only [Act.put, List.setIfInBounds_toArray, List.set_cons_zero, List.set_cons_succ]
    case' c16 =>
     have hqB := heap_alloc_new v (.cells #[.int .i64 0, .int .i64 0] 31)
     have hbB := bal v (.cells #[.int .i64 0, .int .i64 0] 31)
     have hsB := hHeld.size
     go_simp
     refine hK.out _ _ (bstep hHeld (bal _ _)) (fun hHeld => ?_)
     clear hK K
     try simp only [Act.put, List.setIfInBounds_toArray, List.set_cons_zero, List.set_cons_succ]
     have hne : QA ≠ v.heap.size := Nat.ne_of_lt (Array.getElem?_eq_some_iff.1 hqA).1
     generalize v.heap.size = QB at hqB hsB hne ⊢
     generalize v.alloc (.cells #[.int .i64 0, .int .i64 0] 31) = v at hqB hbB hHeld ⊢
     replace hRa := hRa.later hbB
     replace hqA := rowL hqA hbB
     clear hbB
     refine wpAnyH_ready (rs := [3]) (by kernel_rfl) (by simp) ?_
     refine AllReadyH.cons (o := qPr7) rfl (fun K hK => ?_) AllReadyH.nil
     go_simp
     refine (toLog l s _).mono ?_
     rintro e v ⟨rfl, hbb⟩
     refine hK.out _ _ (bstep hHeld hbb) (fun hHeld => ?_)
     clear hK K
     try simp only [Act.put, List.setIfInBounds_toArray, List.set_cons_zero, List.set_cons_succ]
     replace hRa := hRa.later hbb
     replace hqA := rowL hqA hbb
     replace hqB := rowL hqB hbb
     refine wpAnyH_ready (rs := [6]) (by kernel_rfl) (by simp) ?_
     refine AllReadyH.cons (o := qPr8) rfl (fun K hK => ?_) AllReadyH.nil
     go_simp
     have hH4 := hHeld
     refine (HSP.out _ ga _ hRa.fl).mono ?_
     rintro e v ⟨av, cv, rfl, hOw, hbc⟩; replace hOw := OwnF.wk hOw hH4.size
     refine hK.out _ _ (bstep hHeld hbc) (fun hHeld => ?_)
     clear hK K
     try simp only [Act.put, List.setIfInBounds_toArray, List.set_cons_zero, List.set_cons_succ]
     replace hRa := hRa.later hbc
     replace hqA := rowL hqA hbc
     replace hqB := rowL hqB hbc
     refine' takeF (i := 7) (oi := qPr9) rfl ⟨by rfl, fun x hSw => ?h33⟩ hHeld ?r33
     case h33 =>
       go_simp
       try with_reducible rfl
     try simp only [Act.put, List.setIfInBounds_toArray, List.set_cons_zero, List.set_cons_succ]
     refine' takeF (i := 8) (oi := qPr10) rfl ⟨by rfl, fun x hSw => ?h34⟩ hHeld ?r34
     case h34 =>
       go_simp
       try with_reducible rfl
     try simp only [Act.put, List.setIfInBounds_toArray, List.set_cons_zero, List.set_cons_succ]
     refine' takeF (i := 9) (oi := qPr11) rfl ⟨by rfl, fun x hSw => ?h35⟩ hHeld ?r35
     case h35 =>
       go_simp
       try with_reducible rfl
     try simp only [Act.put, List.setIfInBounds_toArray, List.set_cons_zero, List.set_cons_succ]
     refine' takeF (i := 10) (oi := qPr12) rfl ⟨by rfl, fun x hSw => ?h36⟩ hHeld ?r36
     case h36 =>
       go_simp
       try with_reducible rfl
     try simp only [Act.put, List.setIfInBounds_toArray, List.set_cons_zero, List.set_cons_succ]
   case' c4 =>
    have hqB := heap_alloc_new v (.cells #[.int .i64 0, .int .i64 0] 31)
    have hbB := bal v (.cells #[.int .i64 0, .int .i64 0] 31)
    have hsB := hHeld.size
    go_simp
    refine hK.out _ _ (bstep hHeld (bal _ _)) (fun hHeld => ?_)
    clear hK K
    try simp only [Act.put, List.setIfInBounds_toArray, List.set_cons_zero, List.set_cons_succ]
    generalize v.heap.size = QB at hqB hsB ⊢
    generalize v.alloc (.cells #[.int .i64 0, .int .i64 0] 31) = v at hqB hbB hHeld ⊢
    replace hRa := hRa.later hbB
    clear hbB
    refine wpAnyH_ready (rs := [3, 11]) (by kernel_rfl) (by simp) ?_
    refine (AllReadyH.cons (o := qPr7) rfl (fun K hK => ?c21) (AllReadyH.cons (o := qPr5) rfl (fun K hK => ?c20) AllReadyH.nil))
    case' c21 =>
     go_simp
     refine (toLog l s _).mono ?_
     rintro e v ⟨rfl, hbb⟩
     refine hK.out _ _ (bstep hHeld hbb) (fun hHeld => ?_)
     clear hK K
     try simp only [Act.put, List.setIfInBounds_toArray, List.set_cons_zero, List.set_cons_succ]
     replace hRa := hRa.later hbb
     replace hqB := rowL hqB hbb
     refine wpAnyH_ready (rs := [6, 11]) (by kernel_rfl) (by simp) ?_
     refine (AllReadyH.cons (o := qPr8) rfl (fun K hK => ?c23) (AllReadyH.cons (o := qPr5) rfl (fun K hK => ?c22) AllReadyH.nil))
     case' c23 =>
      go_simp
      have hH4 := hHeld
      refine (HSP.out _ ga _ hRa.fl).mono ?_
      rintro e v ⟨av, cv, rfl, hOw, hbc⟩; replace hOw := OwnF.wk hOw hH4.size
      refine hK.out _ _ (bstep hHeld hbc) (fun hHeld => ?_)
      clear hK K
      try simp only [Act.put, List.setIfInBounds_toArray, List.set_cons_zero, List.set_cons_succ]
      replace hRa := hRa.later hbc
      replace hqB := rowL hqB hbc
      refine' takeF (i := 7) (oi := qPr9) rfl ⟨by rfl, fun x hSw => ?h37⟩ hHeld ?r37
      case h37 =>
        go_simp
        try with_reducible rfl
      try simp only [Act.put, List.setIfInBounds_toArray, List.set_cons_zero, List.set_cons_succ]
      refine' takeF (i := 8) (oi := qPr10) rfl ⟨by rfl, fun x hSw => ?h38⟩ hHeld ?r38
      case h38 =>
        go_simp
        try with_reducible rfl
      try simp only [Act.put, List.setIfInBounds_toArray, List.set_cons_zero, List.set_cons_succ]
      refine' takeF (i := 9) (oi := qPr11) rfl ⟨by rfl, fun x hSw => ?h39⟩ hHeld ?r39
      case h39 =>
        go_simp
        try with_reducible rfl
      try simp only [Act.put, List.setIfInBounds_toArray, List.set_cons_zero, List.set_cons_succ]
      refine' takeF (i := 10) (oi := qPr12) rfl ⟨by rfl, fun x hSw => ?h40⟩ hHeld ?r40
      case h40 =>
        go_simp
        try with_reducible rfl
      try simp only [Act.put, List.setIfInBounds_toArray, List.set_cons_zero, List.set_cons_succ]
      refine wpAnyH_ready (rs := [11]) (by kernel_rfl) (by simp) ?_
      refine AllReadyH.cons (o := qPr5) rfl (fun K hK => ?_) AllReadyH.nil
      have hqA := heap_alloc_new v (.cells #[.slice none 0 0, .int .i64 0, .int .i64 0, .int .i64 0, .int .i64 0, .bool false] 30)
      have hbA := bal v (.cells #[.slice none 0 0, .int .i64 0, .int .i64 0, .int .i64 0, .int .i64 0, .bool false] 30)
      have hsA := hHeld.size
      go_simp
      refine hK.out _ _ (bstep hHeld (bal _ _)) (fun hHeld => ?_)
      clear hK K
      try simp only [Act.put, List.setIfInBounds_toArray, List.set_cons_zero, List.set_cons_succ]
      have hne : v.heap.size ≠ QB := (Nat.ne_of_lt (Array.getElem?_eq_some_iff.1 hqB).1).symm
      generalize v.heap.size = QA at hqA hsA hne ⊢
      generalize v.alloc (.cells #[.slice none 0 0, .int .i64 0, .int .i64 0, .int .i64 0, .int .i64 0, .bool false] 30) = v at hqA hbA hHeld ⊢
      replace hRa := hRa.later hbA
      replace hqB := rowL hqB hbA
      replace hOw := hOw.later hbA
      clear hbA
     case' c22 =>
      have hqA := heap_alloc_new v (.cells #[.slice none 0 0, .int .i64 0, .int .i64 0, .int .i64 0, .int .i64 0, .bool false] 30)
      have hbA := bal v (.cells #[.slice none 0 0, .int .i64 0, .int .i64 0, .int .i64 0, .int .i64 0, .bool false] 30)
      have hsA := hHeld.size
      go_simp
      refine hK.out _ _ (bstep hHeld (bal _ _)) (fun hHeld => ?_)
      clear hK K
      try simp only [Act.put, List.setIfInBounds_toArray, List.set_cons_zero, List.set_cons_succ]
      have hne : v.heap.size ≠ QB := (Nat.ne_of_lt (Array.getElem?_eq_some_iff.1 hqB).1).symm
      generalize v.heap.size = QA at hqA hsA hne ⊢
      generalize v.alloc (.cells #[.slice none 0 0, .int .i64 0, .int .i64 0, .int .i64 0, .int .i64 0, .bool false] 30) = v at hqA hbA hHeld ⊢
      replace hRa := hRa.later hbA
      replace hqB := rowL hqB hbA
      clear hbA
      refine wpAnyH_ready (rs := [6]) (by kernel_rfl) (by simp) ?_
      refine AllReadyH.cons (o := qPr8) rfl (fun K hK => ?_) AllReadyH.nil
      go_simp
      have hH4 := hHeld
      refine (HSP.out _ ga _ hRa.fl).mono ?_
      rintro e v ⟨av, cv, rfl, hOw, hbc⟩; replace hOw := OwnF.wk hOw hH4.size
      refine hK.out _ _ (bstep hHeld hbc) (fun hHeld => ?_)
      clear hK K
      try simp only [Act.put, List.setIfInBounds_toArray, List.set_cons_zero, List.set_cons_succ]
      replace hRa := hRa.later hbc
      replace hqB := rowL hqB hbc
      replace hqA := rowL hqA hbc
      refine' takeF (i := 7) (oi := qPr9) rfl ⟨by rfl, fun x hSw => ?h41⟩ hHeld ?r41
      case h41 =>
        go_simp
        try with_reducible rfl
      try simp only [Act.put, List.setIfInBounds_toArray, List.set_cons_zero, List.set_cons_succ]
      refine' takeF (i := 8) (oi := qPr10) rfl ⟨by rfl, fun x hSw => ?h42⟩ hHeld ?r42
      case h42 =>
        go_simp
        try with_reducible rfl
      try simp only [Act.put, List.setIfInBounds_toArray, List.set_cons_zero, List.set_cons_succ]
      refine' takeF (i := 9) (oi := qPr11) rfl ⟨by rfl, fun x hSw => ?h43⟩ hHeld ?r43
      case h43 =>
        go_simp
        try with_reducible rfl
      try simp only [Act.put, List.setIfInBounds_toArray, List.set_cons_zero, List.set_cons_succ]
      refine' takeF (i := 10) (oi := qPr12) rfl ⟨by rfl, fun x hSw => ?h44⟩ hHeld ?r44
      case h44 =>
        go_simp
        try with_reducible rfl
      try simp only [Act.put, List.setIfInBounds_toArray, List.set_cons_zero, List.set_cons_succ]
    case' c20 =>
     have hqA := heap_alloc_new v (.cells #[.slice none 0 0, .int .i64 0, .int .i64 0, .int .i64 0, .int .i64 0, .bool false] 30)
     have hbA := bal v (.cells #[.slice none 0 0, .int .i64 0, .int .i64 0, .int .i64 0, .int .i64 0, .bool false] 30)
     have hsA := hHeld.size
     go_simp
     refine hK.out _ _ (bstep hHeld (bal _ _)) (fun hHeld => ?_)
     clear hK K
     try simp only [Act.put, List.setIfInBounds_toArray, List.set_cons_zero, List.set_cons_succ]
     have hne : v.heap.size ≠ QB := (Nat.ne_of_lt (Array.getElem?_eq_some_iff.1 hqB).1).symm
     generalize v.heap.size = QA at hqA hsA hne ⊢
     generalize v.alloc (.cells #[.slice none 0 0, .int .i64 0, .int .i64 0, .int .i64 0, .int .i64 0, .bool false] 30) = v at hqA hbA hHeld ⊢
     replace hRa := hRa.later hbA
     replace hqB := rowL hqB hbA
     clear hbA
     refine wpAnyH_ready (rs := [3]) (by kernel_rfl) (by simp) ?_
     refine AllReadyH.cons (o := qPr7) rfl (fun K hK => ?_) AllReadyH.nil
     go_simp
     refine (toLog l s _).mono ?_
     rintro e v ⟨rfl, hbb⟩
     refine hK.out _ _ (bstep hHeld hbb) (fun hHeld => ?_)
     clear hK K
     try simp only [Act.put, List.setIfInBounds_toArray, List.set_cons_zero, List.set_cons_succ]
     replace hRa := hRa.later hbb
     replace hqB := rowL hqB hbb
     replace hqA := rowL hqA hbb
     refine wpAnyH_ready (rs := [6]) (by kernel_rfl) (by simp) ?_
     refine AllReadyH.cons (o := qPr8) rfl (fun K hK => ?_) AllReadyH.nil
     go_simp
     have hH4 := hHeld
     refine (HSP.out _ ga _ hRa.fl).mono ?_
     rintro e v ⟨av, cv, rfl, hOw, hbc⟩; replace hOw := OwnF.wk hOw hH4.size
     refine hK.out _ _ (bstep hHeld hbc) (fun hHeld => ?_)
     clear hK K
     try simp only [Act.put, List.setIfInBounds_toArray, List.set_cons_zero, List.set_cons_succ]
     replace hRa := hRa.later hbc
     replace hqB := rowL hqB hbc
     replace hqA := rowL hqA hbc
     refine' takeF (i := 7) (oi := qPr9) rfl ⟨by rfl, fun x hSw => ?h45⟩ hHeld ?r45
     case h45 =>
       go_simp
       try with_reducible rfl
     try simp only [Act.put, List.setIfInBounds_toArray, List.set_cons_zero, List.set_cons_succ]
     refine' takeF (i := 8) (oi := qPr10) rfl ⟨by rfl, fun x hSw => ?h46⟩ hHeld ?r46
     case h46 =>
       go_simp
       try with_reducible rfl
     try simp only [Act.put, List.setIfInBounds_toArray, List.set_cons_zero, List.set_cons_succ]
     refine' takeF (i := 9) (oi := qPr11) rfl ⟨by rfl, fun x hSw => ?h47⟩ hHeld ?r47
     case h47 =>
       go_simp
       try with_reducible rfl
     try simp only [Act.put, List.setIfInBounds_toArray, List.set_cons_zero, List.set_cons_succ]
     refine' takeF (i := 10) (oi := qPr12) rfl ⟨by rfl, fun x hSw => ?h48⟩ hHeld ?r48
     case h48 =>
       go_simp
       try with_reducible rfl
     try simp only [Act.put, List.setIfInBounds_toArray, List.set_cons_zero, List.set_cons_succ]
  case' c2 =>
   have hqA := heap_alloc_new v (.cells #[.slice none 0 0, .int .i64 0, .int .i64 0, .int .i64 0, .int .i64 0, .bool false] 30)
   have hbA := bal v (.cells #[.slice none 0 0, .int .i64 0, .int .i64 0, .int .i64 0, .int .i64 0, .bool false] 30)
   have hsA := hHeld.size
   go_simp
   refine hK.out _ _ (bstep hHeld (bal _ _)) (fun hHeld => ?_)
   clear hK K
   try simp only [Act.put, List.setIfInBounds_toArray, List.set_cons_zero, List.set_cons_succ]
   generalize v.heap.size = QA at hqA hsA ⊢
   generalize v.alloc (.cells #[.slice none 0 0, .int .i64 0, .int .i64 0, .int .i64 0, .int .i64 0, .bool false] 30) = v at hqA hbA hHeld ⊢
   clear hbA
   refine wpAnyH_ready (rs := [1, 12]) (by kernel_rfl) (by simp) ?_
   refine (AllReadyH.cons (o := qPr4) rfl (fun K hK => ?c25) (AllReadyH.cons (o := qPr6) rfl (fun K hK => ?c24) AllReadyH.nil))
   case' c25 =>
    go_simp
    refine (toFs_any a L.length c (nthF L) x1 x2 x3 x4 x5 _ (hf.later (bstep hc1 hHeld)) hn).mono ?_
    rintro e v ⟨ga, hga, rfl, hRa, hba⟩
    refine hK.out _ _ (bstep hHeld hba) (fun hHeld => ?_)
    clear hK K
    try simp only [Act.put, List.setIfInBounds_toArray, List.set_cons_zero, List.set_cons_succ]
    replace hqA := rowL hqA hba
    refine wpAnyH_ready (rs := [3, 12]) (by kernel_rfl) (by simp) ?_
    refine (AllReadyH.cons (o := qPr7) rfl (fun K hK => ?c27) (AllReadyH.cons (o := qPr6) rfl (fun K hK => ?c26) AllReadyH.nil))
    case' c27 =>
     go_simp
     refine (toLog l s _).mono ?_
     rintro e v ⟨rfl, hbb⟩
     refine hK.out _ _ (bstep hHeld hbb) (fun hHeld => ?_)
     clear hK K
     try simp only [Act.put, List.setIfInBounds_toArray, List.set_cons_zero, List.set_cons_succ]
     replace hqA := rowL hqA hbb
     replace hRa := hRa.later hbb
     refine wpAnyH_ready (rs := [6, 12]) (by kernel_rfl) (by simp) ?_
     refine (AllReadyH.cons (o := qPr8) rfl (fun K hK => ?c29) (AllReadyH.cons (o := qPr6) rfl (fun K hK => ?c28) AllReadyH.nil))
     case' c29 =>
      go_simp
      have hH4 := hHeld
      refine (HSP.out _ ga _ hRa.fl).mono ?_
      rintro e v ⟨av, cv, rfl, hOw, hbc⟩; replace hOw := OwnF.wk hOw hH4.size
      refine hK.out _ _ (bstep hHeld hbc) (fun hHeld => ?_)
      clear hK K
      try simp only [Act.put, List.setIfInBounds_toArray, List.set_cons_zero, List.set_cons_succ]
      replace hqA := rowL hqA hbc
      replace hRa := hRa.later hbc
      refine' takeF (i := 7) (oi := qPr9) rfl ⟨by rfl, fun x hSw => ?h49⟩ hHeld ?r49
      case h49 =>
        go_simp
        try with_reducible rfl
      try simp only [Act.put, List.setIfInBounds_toArray, List.set_cons_zero, List.set_cons_succ]
      refine' takeF (i := 8) (oi := qPr10) rfl ⟨by rfl, fun x hSw => ?h50⟩ hHeld ?r50
      case h50 =>
        go_simp
        try with_reducible rfl
      try simp only [Act.put, List.setIfInBounds_toArray, List.set_cons_zero, List.set_cons_succ]
      refine' takeF (i := 9) (oi := qPr11) rfl ⟨by rfl, fun x hSw => ?h51⟩ hHeld ?r51
      case h51 =>
        go_simp
        try with_reducible rfl
      try simp only [Act.put, List.setIfInBounds_toArray, List.set_cons_zero, List.set_cons_succ]
      refine' takeF (i := 10) (oi := qPr12) rfl ⟨by rfl, fun x hSw => ?h52⟩ hHeld ?r52
      case h52 =>
        go_simp
        try with_reducible rfl
      try simp only [Act.put, List.setIfInBounds_toArray, List.set_cons_zero, List.set_cons_succ]
      refine wpAnyH_ready (rs := [12]) (by kernel_rfl) (by simp) ?_
      refine AllReadyH.cons (o := qPr6) rfl (fun K hK => ?_) AllReadyH.nil
      have hqB := heap_alloc_new v (.cells #[.int .i64 0, .int .i64 0] 31)
      have hbB := bal v (.cells #[.int .i64 0, .int .i64 0] 31)
      have hsB := hHeld.size
      go_simp
      refine hK.out _ _ (bstep hHeld (bal _ _)) (fun hHeld => ?_)
      clear hK K
      try simp only [Act.put, List.setIfInBounds_toArray, List.set_cons_zero, List.set_cons_succ]
      have hne : QA ≠ v.heap.size := Nat.ne_of_lt (Array.getElem?_eq_some_iff.1 hqA).1
      generalize v.heap.size = QB at hqB hsB hne ⊢
      generalize v.alloc (.cells #[.int .i64 0, .int .i64 0] 31) = v at hqB hbB hHeld ⊢
      replace hqA := rowL hqA hbB
      replace hRa := hRa.later hbB
      replace hOw := hOw.later hbB
      clear hbB
     case' c28 =>
      have hqB := heap_alloc_new v (.cells #[.int .i64 0, .int .i64 0] 31)
      have hbB := bal v (.cells #[.int .i64 0, .int .i64 0] 31)
      have hsB := hHeld.size
      go_simp
      refine hK.out _ _ (bstep hHeld (bal _ _)) (fun hHeld => ?_)
      clear hK K
      try simp only [Act.put, List.setIfInBounds_toArray, List.set_cons_zero, List.set_cons_succ]
      have hne : QA ≠ v.heap.size := Nat.ne_of_lt (Array.getElem?_eq_some_iff.1 hqA).1
      generalize v.heap.size = QB at hqB hsB hne ⊢
      generalize v.alloc (.cells #[.int .i64 0, .int .i64 0] 31) = v at hqB hbB hHeld ⊢
      replace hqA := rowL hqA hbB
      replace hRa := hRa.later hbB
      clear hbB
      refine wpAnyH_ready (rs := [6]) (by kernel_rfl) (by simp) ?_
      refine AllReadyH.cons (o := qPr8) rfl (fun K hK => ?_) AllReadyH.nil
      go_simp
      have hH4 := hHeld
      refine (HSP.out _ ga _ hRa.fl).mono ?_
      rintro e v ⟨av, cv, rfl, hOw, hbc⟩; replace hOw := OwnF.wk hOw hH4.size
      refine hK.out _ _ (bstep hHeld hbc) (fun hHeld => ?_)
      clear hK K
      try simp only [Act.put, List.setIfInBounds_toArray, List.set_cons_zero, List.set_cons_succ]
      replace hqA := rowL hqA hbc
      replace hRa := hRa.later hbc
      replace hqB := rowL hqB hbc
      refine' takeF (i := 7) (oi := qPr9) rfl ⟨by rfl, fun x hSw => ?h53⟩ hHeld ?r53
      case h53 =>
        go_simp
        try with_reducible rfl
      try simp only [Act.put, List.setIfInBounds_toArray, List.set_cons_zero, List.set_cons_succ]
      refine' takeF (i := 8) (oi := qPr10) rfl ⟨by rfl, fun x hSw => ?h54⟩ hHeld ?r54
      case h54 =>
        go_simp
        try with_reducible rfl
      try simp only [Act.put, List.setIfInBounds_toArray, List.set_cons_zero, List.set_cons_succ]
      refine' takeF (i := 9) (oi := qPr11) rfl ⟨by rfl, fun x hSw => ?h55⟩ hHeld ?r55
      case h55 =>
        go_simp
        try with_reducible rfl
      try simp only [Act.put, List.setIfInBounds_toArray, List.set_cons_zero, List.set_cons_succ]
      refine' takeF (i := 10) (oi := qPr12) rfl ⟨by rfl, fun x hSw => ?h56⟩ hHeld ?r56
      case h56 =>
        go_simp
        try with_reducible rfl
      try simp only [Act.put, List.setIfInBounds_toArray, List.set_cons_zero, List.set_cons_succ]
    case' c26 =>
     have hqB := heap_alloc_new v (.cells #[.int .i64 0, .int .i64 0] 31)
     have hbB := bal v (.cells #[.int .i64 0, .int .i64 0] 31)
     have hsB := hHeld.size
     go_simp
     refine hK.out _ _ (bstep hHeld (bal _ _)) (fun hHeld => ?_)
     clear hK K
     try simp only [Act.put, List.setIfInBounds_toArray, List.set_cons_zero, List.set_cons_succ]
     have hne : QA ≠ v.heap.size := Nat.ne_of_lt (Array.getElem?_eq_some_iff.1 hqA).1
     generalize v.heap.size = QB at hqB hsB hne ⊢
     generalize v.alloc (.cells #[.int .i64 0, .int .i64 0] 31) = v at hqB hbB hHeld ⊢
     replace hqA := rowL hqA hbB
     replace hRa := hRa.later hbB
     clear hbB
     refine wpAnyH_ready (rs := [3]) (by kernel_rfl) (by simp) ?_
     refine AllReadyH.cons (o := qPr7) rfl (fun K hK => ?_) AllReadyH.nil
     go_simp
     refine (toLog l s _).mono ?_
     rintro e v ⟨rfl, hbb⟩
     refine hK.out _ _ (bstep hHeld hbb) (fun hHeld => ?_)
     clear hK K
     try simp only [Act.put, List.setIfInBounds_toArray, List.set_cons_zero, List.set_cons_succ]
     replace hqA := rowL hqA hbb
     replace hRa := hRa.later hbb
     replace hqB := rowL hqB hbb
     refine wpAnyH_ready (rs := [6]) (by kernel_rfl) (by simp) ?_
     refine AllReadyH.cons (o := qPr8) rfl (fun K hK => ?_) AllReadyH.nil
     go_simp
     have hH4 := hHeld
     refine (HSP.out _ ga _ hRa.fl).mono ?_
     rintro e v ⟨av, cv, rfl, hOw, hbc⟩; replace hOw := OwnF.wk hOw hH4.size
     refine hK.out _ _ (bstep hHeld hbc) (fun hHeld => ?_)
     clear hK K
     try simp only [Act.put, List.setIfInBounds_toArray, List.set_cons_zero, List.set_cons_succ]
     replace hqA := rowL hqA hbc
     replace hRa := hRa.later hbc
     replace hqB := rowL hqB hbc
     refine' takeF (i := 7) (oi := qPr9) rfl ⟨by rfl, fun x hSw => ?h57⟩ hHeld ?r57
     case h57 =>
       go_simp
       try with_reducible rfl
     try simp only [Act.put, List.setIfInBounds_toArray, List.set_cons_zero, List.set_cons_succ]
     refine' takeF (i := 8) (oi := qPr10) rfl ⟨by rfl, fun x hSw => ?h58⟩ hHeld ?r58
     case h58 =>
       go_simp
       try with_reducible rfl
     try simp only [Act.put, List.setIfInBounds_toArray, List.set_cons_zero, List.set_cons_succ]
     refine' takeF (i := 9) (oi := qPr11) rfl ⟨by rfl, fun x hSw => ?h59⟩ hHeld ?r59
     case h59 =>
       go_simp
       try with_reducible rfl
     try simp only [Act.put, List.setIfInBounds_toArray, List.set_cons_zero, List.set_cons_succ]
     refine' takeF (i := 10) (oi := qPr12) rfl ⟨by rfl, fun x hSw => ?h60⟩ hHeld ?r60
     case h60 =>
       go_simp
       try with_reducible rfl
     try simp only [Act.put, List.setIfInBounds_toArray, List.set_cons_zero, List.set_cons_succ]
   case' c24 =>
    have hqB := heap_alloc_new v (.cells #[.int .i64 0, .int .i64 0] 31)
    have hbB := bal v (.cells #[.int .i64 0, .int .i64 0] 31)
    have hsB := hHeld.size
    go_simp
    refine hK.out _ _ (bstep hHeld (bal _ _)) (fun hHeld => ?_)
    clear hK K
    try simp only [Act.put, List.setIfInBounds_toArray, List.set_cons_zero, List.set_cons_succ]
    have hne : QA ≠ v.heap.size := Nat.ne_of_lt (Array.getElem?_eq_some_iff.1 hqA).1
    generalize v.heap.size = QB at hqB hsB hne ⊢
    generalize v.alloc (.cells #[.int .i64 0, .int .i64 0] 31) = v at hqB hbB hHeld ⊢
    replace hqA := rowL hqA hbB
    clear hbB
    refine wpAnyH_ready (rs := [1]) (by kernel_rfl) (by simp) ?_
    refine AllReadyH.cons (o := qPr4) rfl (fun K hK => ?_) AllReadyH.nil
    go_simp
    refine (toFs_any a L.length c (nthF L) x1 x2 x3 x4 x5 _ (hf.later (bstep hc1 hHeld)) hn).mono ?_
    rintro e v ⟨ga, hga, rfl, hRa, hba⟩
    refine hK.out _ _ (bstep hHeld hba) (fun hHeld => ?_)
    clear hK K
    try simp only [Act.put, List.setIfInBounds_toArray, List.set_cons_zero, List.set_cons_succ]
    replace hqA := rowL hqA hba
    replace hqB := rowL hqB hba
    refine wpAnyH_ready (rs := [3]) (by kernel_rfl) (by simp) ?_
    refine AllReadyH.cons (o := qPr7) rfl (fun K hK => ?_) AllReadyH.nil
    go_simp
    refine (toLog l s _).mono ?_
    rintro e v ⟨rfl, hbb⟩
    refine hK.out _ _ (bstep hHeld hbb) (fun hHeld => ?_)
    clear hK K
    try simp only [Act.put, List.setIfInBounds_toArray, List.set_cons_zero, List.set_cons_succ]
    replace hqA := rowL hqA hbb
    replace hqB := rowL hqB hbb
    replace hRa := hRa.later hbb
    refine wpAnyH_ready (rs := [6]) (by kernel_rfl) (by simp) ?_
    refine AllReadyH.cons (o := qPr8) rfl (fun K hK => ?_) AllReadyH.nil
    go_simp
    have hH4 := hHeld
    refine (HSP.out _ ga _ hRa.fl).mono ?_
    rintro e v ⟨av, cv, rfl, hOw, hbc⟩; replace hOw := OwnF.wk hOw hH4.size
    refine hK.out _ _ (bstep hHeld hbc) (fun hHeld => ?_)
    clear hK K
    try simp only [Act.put, List.setIfInBounds_toArray, List.set_cons_zero, List.set_cons_succ]
    replace hqA := rowL hqA hbc
    replace hqB := rowL hqB hbc
    replace hRa := hRa.later hbc
    refine' takeF (i := 7) (oi := qPr9) rfl ⟨by rfl, fun x hSw => ?h61⟩ hHeld ?r61
    case h61 =>
      go_simp
      try with_reducible rfl
    try simp only [Act.put, List.setIfInBounds_toArray, List.set_cons_zero, List.set_cons_succ]
    refine' takeF (i := 8) (oi := qPr10) rfl ⟨by rfl, fun x hSw => ?h62⟩ hHeld ?r62
    case h62 =>
      go_simp
      try with_reducible rfl
    try simp only [Act.put, List.setIfInBounds_toArray, List.set_cons_zero, List.set_cons_succ]
    refine' takeF (i := 9) (oi := qPr11) rfl ⟨by rfl, fun x hSw => ?h63⟩ hHeld ?r63
    case h63 =>
      go_simp
      try with_reducible rfl
    try simp only [Act.put, List.setIfInBounds_toArray, List.set_cons_zero, List.set_cons_succ]
    refine' takeF (i := 10) (oi := qPr12) rfl ⟨by rfl, fun x hSw => ?h64⟩ hHeld ?r64
    case h64 =>
      go_simp
      try with_reducible rfl
    try simp only [Act.put, List.setIfInBounds_toArray, List.set_cons_zero, List.set_cons_succ]
  case' c1 =>
   have hqB := heap_alloc_new v (.cells #[.int .i64 0, .int .i64 0] 31)
   have hbB := bal v (.cells #[.int .i64 0, .int .i64 0] 31)
   have hsB := hHeld.size
   go_simp
   refine hK.out _ _ (bstep hHeld (bal _ _)) (fun hHeld => ?_)
   clear hK K
   try simp only [Act.put, List.setIfInBounds_toArray, List.set_cons_zero, List.set_cons_succ]
   generalize v.heap.size = QB at hqB hsB ⊢
   generalize v.alloc (.cells #[.int .i64 0, .int .i64 0] 31) = v at hqB hbB hHeld ⊢
   clear hbB
   refine wpAnyH_ready (rs := [1, 11]) (by kernel_rfl) (by simp) ?_
   refine (AllReadyH.cons (o := qPr4) rfl (fun K hK => ?c31) (AllReadyH.cons (o := qPr5) rfl (fun K hK => ?c30) AllReadyH.nil))
   case' c31 =>
    go_simp
    refine (toFs_any a L.length c (nthF L) x1 x2 x3 x4 x5 _ (hf.later (bstep hc1 hHeld)) hn).mono ?_
    rintro e v ⟨ga, hga, rfl, hRa, hba⟩
    refine hK.out _ _ (bstep hHeld hba) (fun hHeld => ?_)
    clear hK K
    try simp only [Act.put, List.setIfInBounds_toArray, List.set_cons_zero, List.set_cons_succ]
    replace hqB := rowL hqB hba
    refine wpAnyH_ready (rs := [3, 11]) (by kernel_rfl) (by simp) ?_
    refine (AllReadyH.cons (o := qPr7) rfl (fun K hK => ?c33) (AllReadyH.cons (o := qPr5) rfl (fun K hK => ?c32) AllReadyH.nil))
    case' c33 =>
     go_simp
     refine (toLog l s _).mono ?_
     rintro e v ⟨rfl, hbb⟩
     refine hK.out _ _ (bstep hHeld hbb) (fun hHeld => ?_)
     clear hK K
     try simp only [Act.put, List.setIfInBounds_toArray, List.set_cons_zero, List.set_cons_succ]
     replace hqB := rowL hqB hbb
     replace hRa := hRa.later hbb
     refine wpAnyH_ready (rs := [6, 11]) (by kernel_rfl) (by simp) ?_
     refine (AllReadyH.cons (o := qPr8) rfl (fun K hK => ?c35) (AllReadyH.cons (o := qPr5) rfl (fun K hK => ?c34) AllReadyH.nil))
     case' c35 =>
      go_simp
      have hH4 := hHeld
      refine (HSP.out _ ga _ hRa.fl).mono ?_
      rintro e v ⟨av, cv, rfl, hOw, hbc⟩; replace hOw := OwnF.wk hOw hH4.size
      refine hK.out _ _ (bstep hHeld hbc) (fun hHeld => ?_)
      clear hK K
      try simp only [Act.put, List.setIfInBounds_toArray, List.set_cons_zero, List.set_cons_succ]
      replace hqB := rowL hqB hbc
      replace hRa := hRa.later hbc
      refine' takeF (i := 7) (oi := qPr9) rfl ⟨by rfl, fun x hSw => ?h65⟩ hHeld ?r65
      case h65 =>
        go_simp
        try with_reducible rfl
      try simp only [Act.put, List.setIfInBounds_toArray, List.set_cons_zero, List.set_cons_succ]
      refine' takeF (i := 8) (oi := qPr10) rfl ⟨by rfl, fun x hSw => ?h66⟩ hHeld ?r66
      case h66 =>
        go_simp
        try with_reducible rfl
      try simp only [Act.put, List.setIfInBounds_toArray, List.set_cons_zero, List.set_cons_succ]
      refine' takeF (i := 9) (oi := qPr11) rfl ⟨by rfl, fun x hSw => ?h67⟩ hHeld ?r67
      case h67 =>
        go_simp
        try with_reducible rfl
      try simp only [Act.put, List.setIfInBounds_toArray, List.set_cons_zero, List.set_cons_succ]
      refine' takeF (i := 10) (oi := qPr12) rfl ⟨by rfl, fun x hSw => ?h68⟩ hHeld ?r68
      case h68 =>
        go_simp
        try with_reducible rfl
      try simp only [Act.put, List.setIfInBounds_toArray, List.set_cons_zero, List.set_cons_succ]
      refine wpAnyH_ready (rs := [11]) (by kernel_rfl) (by simp) ?_
      refine AllReadyH.cons (o := qPr5) rfl (fun K hK => ?_) AllReadyH.nil
      have hqA := heap_alloc_new v (.cells #[.slice none 0 0, .int .i64 0, .int .i64 0, .int .i64 0, .int .i64 0, .bool false] 30)
      have hbA := bal v (.cells #[.slice none 0 0, .int .i64 0, .int .i64 0, .int .i64 0, .int .i64 0, .bool false] 30)
      have hsA := hHeld.size
      go_simp
      refine hK.out _ _ (bstep hHeld (bal _ _)) (fun hHeld => ?_)
      clear hK K
      try simp only [Act.put, List.setIfInBounds_toArray, List.set_cons_zero, List.set_cons_succ]
      have hne : v.heap.size ≠ QB := (Nat.ne_of_lt (Array.getElem?_eq_some_iff.1 hqB).1).symm
      generalize v.heap.size = QA at hqA hsA hne ⊢
      generalize v.alloc (.cells #[.slice none 0 0, .int .i64 0, .int .i64 0, .int .i64 0, .int .i64 0, .bool false] 30) = v at hqA hbA hHeld ⊢
      replace hqB := rowL hqB hbA
      replace hRa := hRa.later hbA
      replace hOw := hOw.later hbA
      clear hbA
     case' c34 =>
      have hqA := heap_alloc_new v (.cells #[.slice none 0 0, .int .i64 0, .int .i64 0, .int .i64 0, .int .i64 0, .bool false] 30)
      have hbA := bal v (.cells #[.slice none 0 0, .int .i64 0, .int .i64 0, .int .i64 0, .int .i64 0, .bool false] 30)
      have hsA := hHeld.size
      go_simp
      refine hK.out _ _ (bstep hHeld (bal _ _)) (fun hHeld => ?_)
      clear hK K
      try simp only [Act.put, List.setIfInBounds_toArray, List.set_cons_zero, List.set_cons_succ]
      have hne : v.heap.size ≠ QB := (Nat.ne_of_lt (Array.getElem?_eq_some_iff.1 hqB).1).symm
      generalize v.heap.size = QA at hqA hsA hne ⊢
      generalize v.alloc (.cells #[.slice none 0 0, .int .i64 0, .int .i64 0, .int .i64 0, .int .i64 0, .bool false] 30) = v at hqA hbA hHeld ⊢
      replace hqB := rowL hqB hbA
      replace hRa := hRa.later hbA
      clear hbA
      refine wpAnyH_ready (rs := [6]) (by kernel_rfl) (by simp) ?_
      refine AllReadyH.cons (o := qPr8) rfl (fun K hK => ?_) AllReadyH.nil
      go_simp
      have hH4 := hHeld
      refine (HSP.out _ ga _ hRa.fl).mono ?_
      rintro e v ⟨av, cv, rfl, hOw, hbc⟩; replace hOw := OwnF.wk hOw hH4.size
      refine hK.out _ _ (bstep hHeld hbc) (fun hHeld => ?_)
      clear hK K
      try simp only [Act.put, List.setIfInBounds_toArray, List.set_cons_zero, List.set_cons_succ]
      replace hqB := rowL hqB hbc
      replace hRa := hRa.later hbc
      replace hqA := rowL hqA hbc
      refine' takeF (i := 7) (oi := qPr9) rfl ⟨by rfl, fun x hSw => ?h69⟩ hHeld ?r69
      case h69 =>
        go_simp
        try with_reducible rfl
      try simp only [Act.put, List.setIfInBounds_toArray, List.set_cons_zero, List.set_cons_succ]
      refine' takeF (i := 8) (oi := qPr10) rfl ⟨by rfl, fun x hSw => ?h70⟩ hHeld ?r70
      case h70 =>
        go_simp
        try with_reducible rfl
      try simp only [Act.put, List.setIfInBounds_toArray, List.set_cons_zero, List.set_cons_succ]
      refine' takeF (i := 9) (oi := qPr11) rfl ⟨by rfl, fun x hSw => ?h71⟩ hHeld ?r71
      case h71 =>
        go_simp
        try with_reducible rfl
      try simp only [Act.put, List.setIfInBounds_toArray, List.set_cons_zero, List.set_cons_succ]
      refine' takeF (i := 10) (oi := qPr12) rfl ⟨by rfl, fun x hSw => ?h72⟩ hHeld ?r72
      case h72 =>
        go_simp
        try with_reducible rfl
      try simp only [Act.put, List.setIfInBounds_toArray, List.set_cons_zero, List.set_cons_succ]
    case' c32 =>
     have hqA := heap_alloc_new v (.cells #[.slice none 0 0, .int .i64 0, .int .i64 0, .int .i64 0, .int .i64 0, .bool false] 30)
     have hbA := bal v (.cells #[.slice none 0 0, .int .i64 0, .int .i64 0, .int .i64 0, .int .i64 0, .bool false] 30)
     have hsA := hHeld.size
     go_simp
     refine hK.out _ _ (bstep hHeld (bal _ _)) (fun hHeld => ?_)
     clear hK K
     try simp only [Act.put, List.setIfInBounds_toArray, List.set_cons_zero, List.set_cons_succ]
     have hne : v.heap.size ≠ QB := (Nat.ne_of_lt (Array.getElem?_eq_some_iff.1 hqB).1).symm
     generalize v.heap.size = QA at hqA hsA hne ⊢
     generalize v.alloc (.cells #[.slice none 0 0, .int .i64 0, .int .i64 0, .int .i64 0, .int .i64 0, .bool false] 30) = v at hqA hbA hHeld ⊢
     replace hqB := rowL hqB hbA
     replace hRa := hRa.later hbA
     clear hbA
     refine wpAnyH_ready (rs := [3]) (by kernel_rfl) (by simp) ?_
     refine AllReadyH.cons (o := qPr7) rfl (fun K hK => ?_) AllReadyH.nil
     go_simp
     refine (toLog l s _).mono ?_
     rintro e v ⟨rfl, hbb⟩
     refine hK.out _ _ (bstep hHeld hbb) (fun hHeld => ?_)
     clear hK K
     try simp only [Act.put, List.setIfInBounds_toArray, List.set_cons_zero, List.set_cons_succ]
     replace hqB := rowL hqB hbb
     replace hRa := hRa.later hbb
     replace hqA := rowL hqA hbb
     refine wpAnyH_ready (rs := [6]) (by kernel_rfl) (by simp) ?_
     refine AllReadyH.cons (o := qPr8) rfl (fun K hK => ?_) AllReadyH.nil
     go_simp
     have hH4 := hHeld
     refine (HSP.out _ ga _ hRa.fl).mono ?_
     rintro e v ⟨av, cv, rfl, hOw, hbc⟩; replace hOw := OwnF.wk hOw hH4.size
     refine hK.out _ _ (bstep hHeld hbc) (fun hHeld => ?_)
     clear hK K
     try simp only [Act.put, List.setIfInBounds_toArray, List.set_cons_zero, List.set_cons_succ]
     replace hqB := rowL hqB hbc
     replace hRa := hRa.later hbc
     replace hqA := rowL hqA hbc
     refine' takeF (i := 7) (oi := qPr9) rfl ⟨by rfl, fun x hSw => ?h73⟩ hHeld ?r73
     case h73 =>
       go_simp
       try with_reducible rfl
     try simp only [Act.put, List.setIfInBounds_toArray, List.set_cons_zero, List.set_cons_succ]
     refine' takeF (i := 8) (oi := qPr10) rfl ⟨by rfl, fun x hSw => ?h74⟩ hHeld ?r74
     case h74 =>
       go_simp
       try with_reducible rfl
     try simp only [Act.put, List.setIfInBounds_toArray, List.set_cons_zero, List.set_cons_succ]
     refine' takeF (i := 9) (oi := qPr11) rfl ⟨by rfl, fun x hSw => ?h75⟩ hHeld ?r75
     case h75 =>
       go_simp
       try with_reducible rfl
     try simp only [Act.put, List.setIfInBounds_toArray, List.set_cons_zero, List.set_cons_succ]
     refine' takeF (i := 10) (oi := qPr12) rfl ⟨by rfl, fun x hSw => ?h76⟩ hHeld ?r76
     case h76 =>
       go_simp
       try with_reducible rfl
     try simp only [Act.put, List.setIfInBounds_toArray, List.set_cons_zero, List.set_cons_succ]
   case' c30 =>
    have hqA := heap_alloc_new v (.cells #[.slice none 0 0, .int .i64 0, .int .i64 0, .int .i64 0, .int .i64 0, .bool false] 30)
    have hbA := bal v (.cells #[.slice none 0 0, .int .i64 0, .int .i64 0, .int .i64 0, .int .i64 0, .bool false] 30)
    have hsA := hHeld.size
    go_simp
    refine hK.out _ _ (bstep hHeld (bal _ _)) (fun hHeld => ?_)
    clear hK K
    try simp only [Act.put, List.setIfInBounds_toArray, List.set_cons_zero, List.set_cons_succ]
    have hne : v.heap.size ≠ QB := (Nat.ne_of_lt (Array.getElem?_eq_some_iff.1 hqB).1).symm
    generalize v.heap.size = QA at hqA hsA hne ⊢
    generalize v.alloc (.cells #[.slice none 0 0, .int .i64 0, .int .i64 0, .int .i64 0, .int .i64 0, .bool false] 30) = v at hqA hbA hHeld ⊢
    replace hqB := rowL hqB hbA
    clear hbA
    refine wpAnyH_ready (rs := [1]) (by kernel_rfl) (by simp) ?_
    refine AllReadyH.cons (o := qPr4) rfl (fun K hK => ?_) AllReadyH.nil
    go_simp
    refine (toFs_any a L.length c (nthF L) x1 x2 x3 x4 x5 _ (hf.later (bstep hc1 hHeld)) hn).mono ?_
    rintro e v ⟨ga, hga, rfl, hRa, hba⟩
    refine hK.out _ _ (bstep hHeld hba) (fun hHeld => ?_)
    clear hK K
    try simp only [Act.put, List.setIfInBounds_toArray, List.set_cons_zero, List.set_cons_succ]
    replace hqB := rowL hqB hba
    replace hqA := rowL hqA hba
    refine wpAnyH_ready (rs := [3]) (by kernel_rfl) (by simp) ?_
    refine AllReadyH.cons (o := qPr7) rfl (fun K hK => ?_) AllReadyH.nil
    go_simp
    refine (toLog l s _).mono ?_
    rintro e v ⟨rfl, hbb⟩
    refine hK.out _ _ (bstep hHeld hbb) (fun hHeld => ?_)
    clear hK K
    try simp only [Act.put, List.setIfInBounds_toArray, List.set_cons_zero, List.set_cons_succ]
    replace hqB := rowL hqB hbb
    replace hqA := rowL hqA hbb
    replace hRa := hRa.later hbb
    refine wpAnyH_ready (rs := [6]) (by kernel_rfl) (by simp) ?_
    refine AllReadyH.cons (o := qPr8) rfl (fun K hK => ?_) AllReadyH.nil
    go_simp
    have hH4 := hHeld
    refine (HSP.out _ ga _ hRa.fl).mono ?_
    rintro e v ⟨av, cv, rfl, hOw, hbc⟩; replace hOw := OwnF.wk hOw hH4.size
    refine hK.out _ _ (bstep hHeld hbc) (fun hHeld => ?_)
    clear hK K
    try simp only [Act.put, List.setIfInBounds_toArray, List.set_cons_zero, List.set_cons_succ]
    replace hqB := rowL hqB hbc
    replace hqA := rowL hqA hbc
    replace hRa := hRa.later hbc
    refine' takeF (i := 7) (oi := qPr9) rfl ⟨by rfl, fun x hSw => ?h77⟩ hHeld ?r77
    case h77 =>
      go_simp
      try with_reducible rfl
    try simp only [Act.put, List.setIfInBounds_toArray, List.set_cons_zero, List.set_cons_succ]
    refine' takeF (i := 8) (oi := qPr10) rfl ⟨by rfl, fun x hSw => ?h78⟩ hHeld ?r78
    case h78 =>
      go_simp
      try with_reducible rfl
    try simp only [Act.put, List.setIfInBounds_toArray, List.set_cons_zero, List.set_cons_succ]
    refine' takeF (i := 9) (oi := qPr11) rfl ⟨by rfl, fun x hSw => ?h79⟩ hHeld ?r79
    case h79 =>
      go_simp
      try with_reducible rfl
    try simp only [Act.put, List.setIfInBounds_toArray, List.set_cons_zero, List.set_cons_succ]
    refine' takeF (i := 10) (oi := qPr12) rfl ⟨by rfl, fun x hSw => ?h80⟩ hHeld ?r80
    case h80 =>
      go_simp
      try with_reducible rfl
    try simp only [Act.put, List.setIfInBounds_toArray, List.set_cons_zero, List.set_cons_succ]
  all_goals
    refine wpAnyH_ready (rs := [13]) (by kernel_rfl) (by simp) ?_
    refine AllReadyH.cons (o := ({ dst := none, op := Op.store 30 (Operand.tmp 10) (Operand.tmp 39), type := 0, pos := "exact.go:2130", after := #[{ on := 11, ground := Ground.data }, { on := 8, ground := Ground.data }, { on := 6, ground := Ground.chain }, { on := 0, ground := Ground.phase }, { on := 1, ground := Ground.phase }, { on := 2, ground := Ground.phase }, { on := 3, ground := Ground.phase }, { on := 4, ground := Ground.phase }, { on := 5, ground := Ground.phase }, { on := 6, ground := Ground.phase }, { on := 7, ground := Ground.phase }, { on := 8, ground := Ground.phase }, { on := 9, ground := Ground.textOnly Departure.lateStores }, { on := 10, ground := Ground.textOnly Departure.lateStores }, { on := 11, ground := Ground.phase }, { on := 12, ground := Ground.phase }], guard := none } : Oper)) rfl (fun K hK => ?_) AllReadyH.nil
    obtain ⟨c0, c1, c2, c3, c4, c5⟩ := B6.of hqA
    obtain ⟨f0, f1, f2, f3, f4, f5⟩ := F6.of hqA
    go_simp
    refine hK.out _ _ (set6_below (.slice av M.length cv) (.int .i64 z1) (.int .i64 z2) (.int .i64 z3) (.int .i64 z4) (.bool z5) hHeld hsA) (fun hHeld => ?_)
    clear hK K c0 c1 c2 c3 c4 c5 f0 f1 f2 f3 f4 f5
    try simp only [Act.put, List.setIfInBounds_toArray, List.set_cons_zero, List.set_cons_succ]
    replace hqB := set6_oth (.slice av M.length cv) (.int .i64 z1) (.int .i64 z2) (.int .i64 z3) (.int .i64 z4) (.bool z5) hqB hne.symm
    replace hOw := (keep6 (v0 := .slice av M.length cv) (v1 := .int .i64 z1) (v2 := .int .i64 z2) (v3 := .int .i64 z3) (v4 := .int .i64 z4) (v5 := .bool z5) (OwnF.l hOw) hqA).f
    replace hqA := set6_row (.slice av M.length cv) (.int .i64 z1) (.int .i64 z2) (.int .i64 z3) (.int .i64 z4) (.bool z5) hqA
    generalize ((((((v.setCell ⟨QA, 0, none⟩ (.slice av M.length cv)).setCell ⟨QA, 1, none⟩ (.int .i64 z1)).setCell ⟨QA, 2, none⟩ (.int .i64 z2)).setCell ⟨QA, 3, none⟩ (.int .i64 z3)).setCell ⟨QA, 4, none⟩ (.int .i64 z4)).setCell ⟨QA, 5, none⟩ (.bool z5)) = v at hqA hqB hOw hHeld ⊢
    refine wpAnyH_ready (rs := [14]) (by kernel_rfl) (by simp) ?_
    refine AllReadyH.cons (o := ({ dst := none, op := Op.store 31 (Operand.tmp 11) (Operand.tmp 40), type := 0, pos := "exact.go:2130", after := #[{ on := 12, ground := Ground.data }, { on := 9, ground := Ground.data }, { on := 13, ground := Ground.chain }, { on := 0, ground := Ground.phase }, { on := 1, ground := Ground.phase }, { on := 2, ground := Ground.phase }, { on := 3, ground := Ground.phase }, { on := 4, ground := Ground.phase }, { on := 5, ground := Ground.phase }, { on := 6, ground := Ground.phase }, { on := 7, ground := Ground.phase }, { on := 8, ground := Ground.phase }, { on := 9, ground := Ground.phase }, { on := 10, ground := Ground.textOnly Departure.lateStores }, { on := 11, ground := Ground.phase }, { on := 12, ground := Ground.phase }, { on := 13, ground := Ground.phase }], guard := none } : Oper)) rfl (fun K hK => ?_) AllReadyH.nil
    obtain ⟨c0, c1⟩ := B2.of hqB
    obtain ⟨f0, f1⟩ := F2.of hqB
    go_simp
    refine hK.out _ _ (set2_below (.int .i64 lr) (.int .i64 sr) hHeld hsB) (fun hHeld => ?_)
    clear hK K c0 c1 f0 f1
    try simp only [Act.put, List.setIfInBounds_toArray, List.set_cons_zero, List.set_cons_succ]
    replace hqA := set2_oth (.int .i64 lr) (.int .i64 sr) hqA hne
    replace hOw := (keep2 (v0 := .int .i64 lr) (v1 := .int .i64 sr) (OwnF.l hOw) hqB).f
    replace hqB := set2_row (.int .i64 lr) (.int .i64 sr) hqB
    generalize ((v.setCell ⟨QB, 0, none⟩ (.int .i64 lr)).setCell ⟨QB, 1, none⟩ (.int .i64 sr)) = v at hqA hqB hOw hHeld ⊢
    refine takeF (i := 15) (oi := ({ dst := some 12, op := Op.assign (Operand.tmp 41), type := 3, pos := "exact.go:2130", after := #[{ on := 10, ground := Ground.data }, { on := 14, ground := Ground.chain }, { on := 0, ground := Ground.phase }, { on := 1, ground := Ground.phase }, { on := 2, ground := Ground.phase }, { on := 3, ground := Ground.phase }, { on := 4, ground := Ground.phase }, { on := 5, ground := Ground.phase }, { on := 6, ground := Ground.phase }, { on := 7, ground := Ground.phase }, { on := 8, ground := Ground.phase }, { on := 9, ground := Ground.phase }, { on := 10, ground := Ground.phase }, { on := 11, ground := Ground.phase }, { on := 12, ground := Ground.phase }, { on := 13, ground := Ground.phase }, { on := 14, ground := Ground.phase }], guard := none } : Oper)) (v := .int .i64 zc) rfl ⟨by rfl, fun x hSw => ?_⟩ hHeld ?_
    · go_simp
      try with_reducible rfl
    try simp only [Act.put, List.setIfInBounds_toArray, List.set_cons_zero, List.set_cons_succ]
    refine wpAnyH_done (by kernel_rfl) ?_ _
    exact ⟨_, _, av, cv, _, _, _, _, _, _, _, _, _, _, _, rfl, hqA, hqB, hOw, hsA, hsB, hHeld⟩
end Go.Proofs.YtdbcihebhgpblaaDoor
