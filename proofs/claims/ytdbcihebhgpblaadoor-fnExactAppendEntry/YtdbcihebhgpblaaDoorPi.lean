/-
  AppendEntry, the specification's side: where nothing is done.
-/
import Derived.Test.YtdbcihebhgpblaaDoorPh
namespace Go.Proofs.YtdbcihebhgpblaaDoor
open Go.RowKit
abbrev qPi0 : Oper := { dst := some 40, op := Op.load 30 (Operand.tmp 4), type := 30, pos := "l6_journal.go:271", after := #[], guard := none }
abbrev qPi1 : Oper := { dst := some 42, op := Op.load 31 (Operand.tmp 5), type := 31, pos := "l6_journal.go:271", after := #[{ on := 3, ground := Ground.gcOnly Departure.lateStores }], guard := none }
abbrev qPi2 : Oper := { dst := some 41, op := Op.call { callee := Callee.value (Operand.func 22), args := #[Operand.tmp 40], argTypes := #[30] }, type := 30, pos := "l6_journal.go:271", after := #[{ on := 0, ground := Ground.data }], guard := none }
abbrev qPi3 : Oper := { dst := none, op := Op.store 30 (Operand.tmp 8) (Operand.tmp 41), type := 0, pos := "l6_journal.go:271", after := #[{ on := 1, ground := Ground.data }, { on := 1, ground := Ground.chain }, { on := 0, ground := Ground.phase }, { on := 1, ground := Ground.phase }, { on := 2, ground := Ground.textOnly Departure.lateStores }], guard := none }
abbrev qPi4 : Oper := { dst := none, op := Op.store 31 (Operand.tmp 9) (Operand.tmp 42), type := 0, pos := "l6_journal.go:271", after := #[{ on := 2, ground := Ground.data }, { on := 3, ground := Ground.chain }, { on := 0, ground := Ground.phase }, { on := 1, ground := Ground.phase }, { on := 2, ground := Ground.phase }, { on := 3, ground := Ground.phase }], guard := none }
abbrev qPi5 : Oper := { dst := some 10, op := Op.assign (Operand.const (Value.int IntKind.i64 22)), type := 3, pos := "l6_journal.go:271", after := #[{ on := 4, ground := Ground.chain }, { on := 0, ground := Ground.phase }, { on := 1, ground := Ground.phase }, { on := 2, ground := Ground.phase }, { on := 3, ground := Ground.phase }, { on := 4, ground := Ground.phase }], guard := none }
set_option maxRecDepth 20000 in
set_option maxHeartbeats 8000000 in
theorem sAp22a (b off c : Nat) (L : List Fil) (x1 x2 x3 x4 : Int) (x5 : Bool) (l s : Int) (en f : ByteArray) (hf : frm en = f) (mo : Int) (w : World) (h : FL w (some ⟨b, off, none⟩) L.length (nthF L)) (hen : en.size ≤ 1048576) (hsm : Small L.length (nthF L)) (hq : f.size = 0) :
    Calls Tryd.prog 6 #[.agg #[.slice (some ⟨b, off, none⟩) L.length c, .int .i64 x1, .int .i64 x2, .int .i64 x3, .int .i64 x4, .bool x5], .agg #[.int .i64 l, .int .i64 s], .string en, .int .i64 mo] w (RE L x1 x2 x3 x4 x5 l s 22 w) := by
  have hn := hsm.n
  have hfe : (f.toList == ([] : List UInt8)) = true := by rw [nilS]; simpa using hq
  obtain ⟨hX0, hL0, hR80, hR90, hb0⟩ := four w (.cells #[.slice (some ⟨b, off, none⟩) L.length c, .int .i64 x1, .int .i64 x2, .int .i64 x3, .int .i64 x4, .bool x5] 30) (.cells #[.int .i64 l, .int .i64 s] 31) (.cells #[.slice none 0 0, .int .i64 0, .int .i64 0, .int .i64 0, .int .i64 0, .bool false] 30) (.cells #[.int .i64 0, .int .i64 0] 31)
  go_enter Tryd.func6, Tryd.ntmps6
  go_upto_region 2 with (go_at_call 20; refine (sFrameE en f hf _ hen).mono ?_; rintro e w1 ⟨rfl, hb1⟩)
  have hX1 := rowL hX0 hb1
  have hL1 := rowL hL0 hb1
  have hR81 := rowL hR80 hb1
  have hR91 := rowL hR90 hb1
  have hc1 := bstep hb0 hb1
  have hKx : Kx w w1 #[.slice (some ⟨b, off, none⟩) L.length c, .int .i64 x1, .int .i64 x2, .int .i64 x3, .int .i64 x4, .bool x5] #[.int .i64 l, .int .i64 s] := ⟨hc1, hX1, hL1⟩
  clear hX0 hL0 hR80 hR90 hb0 hb1
  obtain ⟨lc0, lc1⟩ := B2.of hL1
  obtain ⟨lf0, lf1⟩ := F2.of hL1
  obtain ⟨xc0, xc1, xc2, xc3, xc4, xc5⟩ := B6.of hX1
  go_upto_region 3 with (fail)
  refine wp_region_held_drew (S := fun x => Kx w x #[.slice (some ⟨b, off, none⟩) L.length c, .int .i64 x1, .int .i64 x2, .int .i64 x3, .int .i64 x4, .bool x5] #[.int .i64 l, .int .i64 s]) (by kernel_rfl) (hKx.later (bdrew1 _)) (fun hHeld => ?_)
  refine' takeF (i := 0) (oi := qPi0) rfl ⟨by rfl, fun x hSw => ?h1⟩ hHeld ?r1
  case h1 =>
    obtain ⟨k0, k1, k2, k3, k4, k5⟩ := B6.of hSw.xr; obtain ⟨qc0, qc1⟩ := B2.of hSw.lr
    go_simp
    try with_reducible rfl
  try simp only [Act.put, List.setIfInBounds_toArray, List.set_cons_zero, List.set_cons_succ]
  refine' takeF (i := 2) (oi := qPi1) rfl ⟨by rfl, fun x hSw => ?h2⟩ hHeld ?r2
  case h2 =>
    obtain ⟨k0, k1, k2, k3, k4, k5⟩ := B6.of hSw.xr; obtain ⟨qc0, qc1⟩ := B2.of hSw.lr
    go_simp
    try with_reducible rfl
  try simp only [Act.put, List.setIfInBounds_toArray, List.set_cons_zero, List.set_cons_succ]
  refine wpAnyH_ready (rs := [1]) (by kernel_rfl) (by simp) ?_
  refine AllReadyH.cons (o := qPi2) rfl (fun K hK => ?_) AllReadyH.nil
  go_simp
  refine (sCopy b off L.length c (nthF L) x1 x2 x3 x4 x5 _ (h.later hHeld.b) hn).mono ?_
  rintro e wz ⟨g5, cap5, rfl, hO5, hbz⟩; have hR85 := rowL hR81 (bstep (bdrew1 _) hbz); have hR95 := rowL hR91 (bstep (bdrew1 _) hbz)
  refine hK.out _ _ (hHeld.later hbz) (fun hHeld => ?_)
  clear hK K
  try simp only [Act.put, List.setIfInBounds_toArray, List.set_cons_zero, List.set_cons_succ]
  refine wpAnyH_ready (rs := [3]) (by kernel_rfl) (by simp) ?_
  refine AllReadyH.cons (o := qPi3) rfl (fun K hK => ?_) AllReadyH.nil
  obtain ⟨rc0, rc1, rc2, rc3, rc4, rc5⟩ := B6.of hR85; obtain ⟨rf0, rf1, rf2, rf3, rf4, rf5⟩ := F6.of hR85
  go_simp
  refine hK.out _ _ (hHeld.set8 (.slice (some ⟨g5, 0, none⟩) L.length cap5) (.int .i64 x1) (.int .i64 x2) (.int .i64 x3) (.int .i64 x4) (.bool x5)) (fun hHeld => ?_)
  clear hK K
  try simp only [Act.put, List.setIfInBounds_toArray, List.set_cons_zero, List.set_cons_succ]
  refine wpAnyH_ready (rs := [4]) (by kernel_rfl) (by simp) ?_
  refine AllReadyH.cons (o := qPi4) rfl (fun K hK => ?_) AllReadyH.nil
  have hR96 := set6_oth (.slice (some ⟨g5, 0, none⟩) L.length cap5) (.int .i64 x1) (.int .i64 x2) (.int .i64 x3) (.int .i64 x4) (.bool x5) (Q := w.heap.size + 1 + 1) hR95 (by omega); have t0 := (cell_of_row _ _ 0 _ _ _ hR96).trans rfl; have tf0 := frozen_of_row _ _ 0 _ _ hR96; have t1 := (cell_of_row _ _ 1 _ _ _ hR96).trans rfl; have tf1 := frozen_of_row _ _ 1 _ _ hR96
  go_simp
  refine hK.out _ _ (hHeld.set9 (.int .i64 l) (.int .i64 s)) (fun hHeld => ?_)
  clear hK K
  try simp only [Act.put, List.setIfInBounds_toArray, List.set_cons_zero, List.set_cons_succ]
  refine' takeF (i := 5) (oi := qPi5) rfl ⟨by rfl, fun x hSw => ?h3⟩ hHeld ?r3
  case h3 =>
    go_simp
    try with_reducible rfl
  try simp only [Act.put, List.setIfInBounds_toArray, List.set_cons_zero, List.set_cons_succ]
  refine wpAnyH_done (by kernel_rfl) ?_ _
  go_wp2
  refine bodyPost_ret (results_cell2_tmp Tryd.results6 _ _ (w.heap.size + 1 + 1) 30 _ (0, 0) _ rfl (fin8 _ _ _ _ _ _ _ _ hR85 (by omega)) Tryd.underlying30 rfl (by kernel_rfl) (w.heap.size + 1 + 1 + 1) 31 _ (0, 0) _ rfl (fin9 _ _ _ _ _ _ _ _ hR95 (by omega)) Tryd.underlying31 rfl (by kernel_rfl)) rfl ?_
  exact ⟨_, _, rfl, (finO (OwnF.wk hO5 hc1.size).l hR85 hR95 (by omega)).f, hHeld.b⟩
set_option maxRecDepth 20000 in
set_option maxHeartbeats 8000000 in
theorem sAp22b (b off c : Nat) (L : List Fil) (x1 x2 x3 x4 : Int) (x5 : Bool) (l s : Int) (en f : ByteArray) (hf : frm en = f) (mo : Int) (w : World) (h : FL w (some ⟨b, off, none⟩) L.length (nthF L)) (hen : en.size ≤ 1048576) (hsm : Small L.length (nthF L)) (hq : f.size ≠ 0) (hbl : btw l 1 9999 = false) :
    Calls Tryd.prog 6 #[.agg #[.slice (some ⟨b, off, none⟩) L.length c, .int .i64 x1, .int .i64 x2, .int .i64 x3, .int .i64 x4, .bool x5], .agg #[.int .i64 l, .int .i64 s], .string en, .int .i64 mo] w (RE L x1 x2 x3 x4 x5 l s 22 w) := by
  have hn := hsm.n
  have hfe : (f.toList == ([] : List UInt8)) = false := by rw [nilS]; simpa using hq
  obtain ⟨hX0, hL0, hR80, hR90, hb0⟩ := four w (.cells #[.slice (some ⟨b, off, none⟩) L.length c, .int .i64 x1, .int .i64 x2, .int .i64 x3, .int .i64 x4, .bool x5] 30) (.cells #[.int .i64 l, .int .i64 s] 31) (.cells #[.slice none 0 0, .int .i64 0, .int .i64 0, .int .i64 0, .int .i64 0, .bool false] 30) (.cells #[.int .i64 0, .int .i64 0] 31)
  go_enter Tryd.func6, Tryd.ntmps6
  go_upto_region 2 with (go_at_call 20; refine (sFrameE en f hf _ hen).mono ?_; rintro e w1 ⟨rfl, hb1⟩)
  have hX1 := rowL hX0 hb1
  have hL1 := rowL hL0 hb1
  have hR81 := rowL hR80 hb1
  have hR91 := rowL hR90 hb1
  have hc1 := bstep hb0 hb1
  have hKx : Kx w w1 #[.slice (some ⟨b, off, none⟩) L.length c, .int .i64 x1, .int .i64 x2, .int .i64 x3, .int .i64 x4, .bool x5] #[.int .i64 l, .int .i64 s] := ⟨hc1, hX1, hL1⟩
  clear hX0 hL0 hR80 hR90 hb0 hb1
  obtain ⟨lc0, lc1⟩ := B2.of hL1
  obtain ⟨lf0, lf1⟩ := F2.of hL1
  obtain ⟨xc0, xc1, xc2, xc3, xc4, xc5⟩ := B6.of hX1
  go_upto_region 3 with (go_at_call 21; refine (sBetween _ _ _ _).mono ?_; (first | rw [hbl]); rintro e wb ⟨rfl, rfl⟩)
  refine wp_region_held_drew (S := fun x => Kx w x #[.slice (some ⟨b, off, none⟩) L.length c, .int .i64 x1, .int .i64 x2, .int .i64 x3, .int .i64 x4, .bool x5] #[.int .i64 l, .int .i64 s]) (by kernel_rfl) (hKx.later (bdrew1 _)) (fun hHeld => ?_)
  refine' takeF (i := 0) (oi := qPi0) rfl ⟨by rfl, fun x hSw => ?h4⟩ hHeld ?r4
  case h4 =>
    obtain ⟨k0, k1, k2, k3, k4, k5⟩ := B6.of hSw.xr; obtain ⟨qc0, qc1⟩ := B2.of hSw.lr
    go_simp
    try with_reducible rfl
  try simp only [Act.put, List.setIfInBounds_toArray, List.set_cons_zero, List.set_cons_succ]
  refine' takeF (i := 2) (oi := qPi1) rfl ⟨by rfl, fun x hSw => ?h5⟩ hHeld ?r5
  case h5 =>
    obtain ⟨k0, k1, k2, k3, k4, k5⟩ := B6.of hSw.xr; obtain ⟨qc0, qc1⟩ := B2.of hSw.lr
    go_simp
    try with_reducible rfl
  try simp only [Act.put, List.setIfInBounds_toArray, List.set_cons_zero, List.set_cons_succ]
  refine wpAnyH_ready (rs := [1]) (by kernel_rfl) (by simp) ?_
  refine AllReadyH.cons (o := qPi2) rfl (fun K hK => ?_) AllReadyH.nil
  go_simp
  refine (sCopy b off L.length c (nthF L) x1 x2 x3 x4 x5 _ (h.later hHeld.b) hn).mono ?_
  rintro e wz ⟨g5, cap5, rfl, hO5, hbz⟩; have hR85 := rowL hR81 (bstep (bdrew1 _) hbz); have hR95 := rowL hR91 (bstep (bdrew1 _) hbz)
  refine hK.out _ _ (hHeld.later hbz) (fun hHeld => ?_)
  clear hK K
  try simp only [Act.put, List.setIfInBounds_toArray, List.set_cons_zero, List.set_cons_succ]
  refine wpAnyH_ready (rs := [3]) (by kernel_rfl) (by simp) ?_
  refine AllReadyH.cons (o := qPi3) rfl (fun K hK => ?_) AllReadyH.nil
  obtain ⟨rc0, rc1, rc2, rc3, rc4, rc5⟩ := B6.of hR85; obtain ⟨rf0, rf1, rf2, rf3, rf4, rf5⟩ := F6.of hR85
  go_simp
  refine hK.out _ _ (hHeld.set8 (.slice (some ⟨g5, 0, none⟩) L.length cap5) (.int .i64 x1) (.int .i64 x2) (.int .i64 x3) (.int .i64 x4) (.bool x5)) (fun hHeld => ?_)
  clear hK K
  try simp only [Act.put, List.setIfInBounds_toArray, List.set_cons_zero, List.set_cons_succ]
  refine wpAnyH_ready (rs := [4]) (by kernel_rfl) (by simp) ?_
  refine AllReadyH.cons (o := qPi4) rfl (fun K hK => ?_) AllReadyH.nil
  have hR96 := set6_oth (.slice (some ⟨g5, 0, none⟩) L.length cap5) (.int .i64 x1) (.int .i64 x2) (.int .i64 x3) (.int .i64 x4) (.bool x5) (Q := w.heap.size + 1 + 1) hR95 (by omega); have t0 := (cell_of_row _ _ 0 _ _ _ hR96).trans rfl; have tf0 := frozen_of_row _ _ 0 _ _ hR96; have t1 := (cell_of_row _ _ 1 _ _ _ hR96).trans rfl; have tf1 := frozen_of_row _ _ 1 _ _ hR96
  go_simp
  refine hK.out _ _ (hHeld.set9 (.int .i64 l) (.int .i64 s)) (fun hHeld => ?_)
  clear hK K
  try simp only [Act.put, List.setIfInBounds_toArray, List.set_cons_zero, List.set_cons_succ]
  refine' takeF (i := 5) (oi := qPi5) rfl ⟨by rfl, fun x hSw => ?h6⟩ hHeld ?r6
  case h6 =>
    go_simp
    try with_reducible rfl
  try simp only [Act.put, List.setIfInBounds_toArray, List.set_cons_zero, List.set_cons_succ]
  refine wpAnyH_done (by kernel_rfl) ?_ _
  go_wp2
  refine bodyPost_ret (results_cell2_tmp Tryd.results6 _ _ (w.heap.size + 1 + 1) 30 _ (0, 0) _ rfl (fin8 _ _ _ _ _ _ _ _ hR85 (by omega)) Tryd.underlying30 rfl (by kernel_rfl) (w.heap.size + 1 + 1 + 1) 31 _ (0, 0) _ rfl (fin9 _ _ _ _ _ _ _ _ hR95 (by omega)) Tryd.underlying31 rfl (by kernel_rfl)) rfl ?_
  exact ⟨_, _, rfl, (finO (OwnF.wk hO5 hc1.size).l hR85 hR95 (by omega)).f, hHeld.b⟩
set_option maxRecDepth 20000 in
set_option maxHeartbeats 8000000 in
theorem sAp22d (b off c : Nat) (L : List Fil) (x1 x2 x3 x4 : Int) (x5 : Bool) (l s : Int) (en f : ByteArray) (hf : frm en = f) (mo : Int) (w : World) (h : FL w (some ⟨b, off, none⟩) L.length (nthF L)) (hen : en.size ≤ 1048576) (hsm : Small L.length (nthF L)) (hq : f.size ≠ 0) (hbl : btw l 1 9999 = true) (hbs : btw s 0 1000000000 = false) :
    Calls Tryd.prog 6 #[.agg #[.slice (some ⟨b, off, none⟩) L.length c, .int .i64 x1, .int .i64 x2, .int .i64 x3, .int .i64 x4, .bool x5], .agg #[.int .i64 l, .int .i64 s], .string en, .int .i64 mo] w (RE L x1 x2 x3 x4 x5 l s 22 w) := by
  have hn := hsm.n
  have hfe : (f.toList == ([] : List UInt8)) = false := by rw [nilS]; simpa using hq
  obtain ⟨hX0, hL0, hR80, hR90, hb0⟩ := four w (.cells #[.slice (some ⟨b, off, none⟩) L.length c, .int .i64 x1, .int .i64 x2, .int .i64 x3, .int .i64 x4, .bool x5] 30) (.cells #[.int .i64 l, .int .i64 s] 31) (.cells #[.slice none 0 0, .int .i64 0, .int .i64 0, .int .i64 0, .int .i64 0, .bool false] 30) (.cells #[.int .i64 0, .int .i64 0] 31)
  go_enter Tryd.func6, Tryd.ntmps6
  go_upto_region 2 with (go_at_call 20; refine (sFrameE en f hf _ hen).mono ?_; rintro e w1 ⟨rfl, hb1⟩)
  have hX1 := rowL hX0 hb1
  have hL1 := rowL hL0 hb1
  have hR81 := rowL hR80 hb1
  have hR91 := rowL hR90 hb1
  have hc1 := bstep hb0 hb1
  have hKx : Kx w w1 #[.slice (some ⟨b, off, none⟩) L.length c, .int .i64 x1, .int .i64 x2, .int .i64 x3, .int .i64 x4, .bool x5] #[.int .i64 l, .int .i64 s] := ⟨hc1, hX1, hL1⟩
  clear hX0 hL0 hR80 hR90 hb0 hb1
  obtain ⟨lc0, lc1⟩ := B2.of hL1
  obtain ⟨lf0, lf1⟩ := F2.of hL1
  obtain ⟨xc0, xc1, xc2, xc3, xc4, xc5⟩ := B6.of hX1
  go_upto_region 3 with (go_at_call 21; refine (sBetween _ _ _ _).mono ?_; (first | rw [hbl] | rw [hbs]); rintro e wb ⟨rfl, rfl⟩)
  refine wp_region_held_drew (S := fun x => Kx w x #[.slice (some ⟨b, off, none⟩) L.length c, .int .i64 x1, .int .i64 x2, .int .i64 x3, .int .i64 x4, .bool x5] #[.int .i64 l, .int .i64 s]) (by kernel_rfl) (hKx.later (bdrew1 _)) (fun hHeld => ?_)
  refine' takeF (i := 0) (oi := qPi0) rfl ⟨by rfl, fun x hSw => ?h7⟩ hHeld ?r7
  case h7 =>
    obtain ⟨k0, k1, k2, k3, k4, k5⟩ := B6.of hSw.xr; obtain ⟨qc0, qc1⟩ := B2.of hSw.lr
    go_simp
    try with_reducible rfl
  try simp only [Act.put, List.setIfInBounds_toArray, List.set_cons_zero, List.set_cons_succ]
  refine' takeF (i := 2) (oi := qPi1) rfl ⟨by rfl, fun x hSw => ?h8⟩ hHeld ?r8
  case h8 =>
    obtain ⟨k0, k1, k2, k3, k4, k5⟩ := B6.of hSw.xr; obtain ⟨qc0, qc1⟩ := B2.of hSw.lr
    go_simp
    try with_reducible rfl
  try simp only [Act.put, List.setIfInBounds_toArray, List.set_cons_zero, List.set_cons_succ]
  refine wpAnyH_ready (rs := [1]) (by kernel_rfl) (by simp) ?_
  refine AllReadyH.cons (o := qPi2) rfl (fun K hK => ?_) AllReadyH.nil
  go_simp
  refine (sCopy b off L.length c (nthF L) x1 x2 x3 x4 x5 _ (h.later hHeld.b) hn).mono ?_
  rintro e wz ⟨g5, cap5, rfl, hO5, hbz⟩; have hR85 := rowL hR81 (bstep (bdrew1 _) hbz); have hR95 := rowL hR91 (bstep (bdrew1 _) hbz)
  refine hK.out _ _ (hHeld.later hbz) (fun hHeld => ?_)
  clear hK K
  try simp only [Act.put, List.setIfInBounds_toArray, List.set_cons_zero, List.set_cons_succ]
  refine wpAnyH_ready (rs := [3]) (by kernel_rfl) (by simp) ?_
  refine AllReadyH.cons (o := qPi3) rfl (fun K hK => ?_) AllReadyH.nil
  obtain ⟨rc0, rc1, rc2, rc3, rc4, rc5⟩ := B6.of hR85; obtain ⟨rf0, rf1, rf2, rf3, rf4, rf5⟩ := F6.of hR85
  go_simp
  refine hK.out _ _ (hHeld.set8 (.slice (some ⟨g5, 0, none⟩) L.length cap5) (.int .i64 x1) (.int .i64 x2) (.int .i64 x3) (.int .i64 x4) (.bool x5)) (fun hHeld => ?_)
  clear hK K
  try simp only [Act.put, List.setIfInBounds_toArray, List.set_cons_zero, List.set_cons_succ]
  refine wpAnyH_ready (rs := [4]) (by kernel_rfl) (by simp) ?_
  refine AllReadyH.cons (o := qPi4) rfl (fun K hK => ?_) AllReadyH.nil
  have hR96 := set6_oth (.slice (some ⟨g5, 0, none⟩) L.length cap5) (.int .i64 x1) (.int .i64 x2) (.int .i64 x3) (.int .i64 x4) (.bool x5) (Q := w.heap.size + 1 + 1) hR95 (by omega); have t0 := (cell_of_row _ _ 0 _ _ _ hR96).trans rfl; have tf0 := frozen_of_row _ _ 0 _ _ hR96; have t1 := (cell_of_row _ _ 1 _ _ _ hR96).trans rfl; have tf1 := frozen_of_row _ _ 1 _ _ hR96
  go_simp
  refine hK.out _ _ (hHeld.set9 (.int .i64 l) (.int .i64 s)) (fun hHeld => ?_)
  clear hK K
  try simp only [Act.put, List.setIfInBounds_toArray, List.set_cons_zero, List.set_cons_succ]
  refine' takeF (i := 5) (oi := qPi5) rfl ⟨by rfl, fun x hSw => ?h9⟩ hHeld ?r9
  case h9 =>
    go_simp
    try with_reducible rfl
  try simp only [Act.put, List.setIfInBounds_toArray, List.set_cons_zero, List.set_cons_succ]
  refine wpAnyH_done (by kernel_rfl) ?_ _
  go_wp2
  refine bodyPost_ret (results_cell2_tmp Tryd.results6 _ _ (w.heap.size + 1 + 1) 30 _ (0, 0) _ rfl (fin8 _ _ _ _ _ _ _ _ hR85 (by omega)) Tryd.underlying30 rfl (by kernel_rfl) (w.heap.size + 1 + 1 + 1) 31 _ (0, 0) _ rfl (fin9 _ _ _ _ _ _ _ _ hR95 (by omega)) Tryd.underlying31 rfl (by kernel_rfl)) rfl ?_
  exact ⟨_, _, rfl, (finO (OwnF.wk hO5 hc1.size).l hR85 hR95 (by omega)).f, hHeld.b⟩
set_option maxRecDepth 20000 in
set_option maxHeartbeats 8000000 in
theorem sAp22c (b off c : Nat) (L : List Fil) (x1 x2 x3 x4 : Int) (x5 : Bool) (l s : Int) (en f : ByteArray) (hf : frm en = f) (mo : Int) (w : World) (h : FL w (some ⟨b, off, none⟩) L.length (nthF L)) (hen : en.size ≤ 1048576) (hsm : Small L.length (nthF L)) (hq : f.size ≠ 0) (hbl : btw l 1 9999 = true) (hbs : btw s 0 1000000000 = true) (hmo : btw mo 1 1000000000 = false) :
    Calls Tryd.prog 6 #[.agg #[.slice (some ⟨b, off, none⟩) L.length c, .int .i64 x1, .int .i64 x2, .int .i64 x3, .int .i64 x4, .bool x5], .agg #[.int .i64 l, .int .i64 s], .string en, .int .i64 mo] w (RE L x1 x2 x3 x4 x5 l s 22 w) := by
  have hn := hsm.n
  have hfe : (f.toList == ([] : List UInt8)) = false := by rw [nilS]; simpa using hq
  obtain ⟨hX0, hL0, hR80, hR90, hb0⟩ := four w (.cells #[.slice (some ⟨b, off, none⟩) L.length c, .int .i64 x1, .int .i64 x2, .int .i64 x3, .int .i64 x4, .bool x5] 30) (.cells #[.int .i64 l, .int .i64 s] 31) (.cells #[.slice none 0 0, .int .i64 0, .int .i64 0, .int .i64 0, .int .i64 0, .bool false] 30) (.cells #[.int .i64 0, .int .i64 0] 31)
  go_enter Tryd.func6, Tryd.ntmps6
  go_upto_region 2 with (go_at_call 20; refine (sFrameE en f hf _ hen).mono ?_; rintro e w1 ⟨rfl, hb1⟩)
  have hX1 := rowL hX0 hb1
  have hL1 := rowL hL0 hb1
  have hR81 := rowL hR80 hb1
  have hR91 := rowL hR90 hb1
  have hc1 := bstep hb0 hb1
  have hKx : Kx w w1 #[.slice (some ⟨b, off, none⟩) L.length c, .int .i64 x1, .int .i64 x2, .int .i64 x3, .int .i64 x4, .bool x5] #[.int .i64 l, .int .i64 s] := ⟨hc1, hX1, hL1⟩
  clear hX0 hL0 hR80 hR90 hb0 hb1
  obtain ⟨lc0, lc1⟩ := B2.of hL1
  obtain ⟨lf0, lf1⟩ := F2.of hL1
  obtain ⟨xc0, xc1, xc2, xc3, xc4, xc5⟩ := B6.of hX1
  go_upto_region 3 with (go_at_call 21; refine (sBetween _ _ _ _).mono ?_; (first | rw [hbl] | rw [hbs] | rw [hmo]); rintro e wb ⟨rfl, rfl⟩)
  refine wp_region_held_drew (S := fun x => Kx w x #[.slice (some ⟨b, off, none⟩) L.length c, .int .i64 x1, .int .i64 x2, .int .i64 x3, .int .i64 x4, .bool x5] #[.int .i64 l, .int .i64 s]) (by kernel_rfl) (hKx.later (bdrew1 _)) (fun hHeld => ?_)
  refine' takeF (i := 0) (oi := qPi0) rfl ⟨by rfl, fun x hSw => ?h10⟩ hHeld ?r10
  case h10 =>
    obtain ⟨k0, k1, k2, k3, k4, k5⟩ := B6.of hSw.xr; obtain ⟨qc0, qc1⟩ := B2.of hSw.lr
    go_simp
    try with_reducible rfl
  try simp only [Act.put, List.setIfInBounds_toArray, List.set_cons_zero, List.set_cons_succ]
  refine' takeF (i := 2) (oi := qPi1) rfl ⟨by rfl, fun x hSw => ?h11⟩ hHeld ?r11
  case h11 =>
    obtain ⟨k0, k1, k2, k3, k4, k5⟩ := B6.of hSw.xr; obtain ⟨qc0, qc1⟩ := B2.of hSw.lr
    go_simp
    try with_reducible rfl
  try simp only [Act.put, List.setIfInBounds_toArray, List.set_cons_zero, List.set_cons_succ]
  refine wpAnyH_ready (rs := [1]) (by kernel_rfl) (by simp) ?_
  refine AllReadyH.cons (o := qPi2) rfl (fun K hK => ?_) AllReadyH.nil
  go_simp
  refine (sCopy b off L.length c (nthF L) x1 x2 x3 x4 x5 _ (h.later hHeld.b) hn).mono ?_
  rintro e wz ⟨g5, cap5, rfl, hO5, hbz⟩; have hR85 := rowL hR81 (bstep (bdrew1 _) hbz); have hR95 := rowL hR91 (bstep (bdrew1 _) hbz)
  refine hK.out _ _ (hHeld.later hbz) (fun hHeld => ?_)
  clear hK K
  try simp only [Act.put, List.setIfInBounds_toArray, List.set_cons_zero, List.set_cons_succ]
  refine wpAnyH_ready (rs := [3]) (by kernel_rfl) (by simp) ?_
  refine AllReadyH.cons (o := qPi3) rfl (fun K hK => ?_) AllReadyH.nil
  obtain ⟨rc0, rc1, rc2, rc3, rc4, rc5⟩ := B6.of hR85; obtain ⟨rf0, rf1, rf2, rf3, rf4, rf5⟩ := F6.of hR85
  go_simp
  refine hK.out _ _ (hHeld.set8 (.slice (some ⟨g5, 0, none⟩) L.length cap5) (.int .i64 x1) (.int .i64 x2) (.int .i64 x3) (.int .i64 x4) (.bool x5)) (fun hHeld => ?_)
  clear hK K
  try simp only [Act.put, List.setIfInBounds_toArray, List.set_cons_zero, List.set_cons_succ]
  refine wpAnyH_ready (rs := [4]) (by kernel_rfl) (by simp) ?_
  refine AllReadyH.cons (o := qPi4) rfl (fun K hK => ?_) AllReadyH.nil
  have hR96 := set6_oth (.slice (some ⟨g5, 0, none⟩) L.length cap5) (.int .i64 x1) (.int .i64 x2) (.int .i64 x3) (.int .i64 x4) (.bool x5) (Q := w.heap.size + 1 + 1) hR95 (by omega); have t0 := (cell_of_row _ _ 0 _ _ _ hR96).trans rfl; have tf0 := frozen_of_row _ _ 0 _ _ hR96; have t1 := (cell_of_row _ _ 1 _ _ _ hR96).trans rfl; have tf1 := frozen_of_row _ _ 1 _ _ hR96
  go_simp
  refine hK.out _ _ (hHeld.set9 (.int .i64 l) (.int .i64 s)) (fun hHeld => ?_)
  clear hK K
  try simp only [Act.put, List.setIfInBounds_toArray, List.set_cons_zero, List.set_cons_succ]
  refine' takeF (i := 5) (oi := qPi5) rfl ⟨by rfl, fun x hSw => ?h12⟩ hHeld ?r12
  case h12 =>
    go_simp
    try with_reducible rfl
  try simp only [Act.put, List.setIfInBounds_toArray, List.set_cons_zero, List.set_cons_succ]
  refine wpAnyH_done (by kernel_rfl) ?_ _
  go_wp2
  refine bodyPost_ret (results_cell2_tmp Tryd.results6 _ _ (w.heap.size + 1 + 1) 30 _ (0, 0) _ rfl (fin8 _ _ _ _ _ _ _ _ hR85 (by omega)) Tryd.underlying30 rfl (by kernel_rfl) (w.heap.size + 1 + 1 + 1) 31 _ (0, 0) _ rfl (fin9 _ _ _ _ _ _ _ _ hR95 (by omega)) Tryd.underlying31 rfl (by kernel_rfl)) rfl ?_
  exact ⟨_, _, rfl, (finO (OwnF.wk hO5 hc1.size).l hR85 hR95 (by omega)).f, hHeld.b⟩
set_option maxRecDepth 20000 in
set_option maxHeartbeats 8000000 in
theorem sAp21 (b off c : Nat) (L : List Fil) (x1 x2 x3 x4 : Int) (x5 : Bool) (l s : Int) (en f : ByteArray) (hf : frm en = f) (mo : Int) (w : World) (h : FL w (some ⟨b, off, none⟩) L.length (nthF L)) (hen : en.size ≤ 1048576) (hsm : Small L.length (nthF L)) (hq : f.size ≠ 0) (_hfz : f.size ≤ 65536) (hbl : btw l 1 9999 = true) (hbs : btw s 0 1000000000 = true) (hmo : btw mo 1 1000000000 = true) (_hs0 : 0 ≤ s) (_hs1 : s ≤ 1000000000) (_hl0 : 1 ≤ l) (_hl1 : l ≤ 9999) (hx1 : s ≠ 0) (hx2 : mo < s + (f.size : Int)) (h99 : l = 9999) :
    Calls Tryd.prog 6 #[.agg #[.slice (some ⟨b, off, none⟩) L.length c, .int .i64 x1, .int .i64 x2, .int .i64 x3, .int .i64 x4, .bool x5], .agg #[.int .i64 l, .int .i64 s], .string en, .int .i64 mo] w (RE L x1 x2 x3 x4 x5 l s 21 w) := by
  have hn := hsm.n
  have hfe : (f.toList == ([] : List UInt8)) = false := by rw [nilS]; simpa using hq
  have hsz : (s == 0) = false := by simp [hx1]
  have hsy : (s != 0) = true := by simp [hx1]
  have hsx : decide (s = 0) = false := by simp [hx1]
  have h9 : (l == 9999) = true := by simp [h99]
  clear h99
  obtain ⟨hX0, hL0, hR80, hR90, hb0⟩ := four w (.cells #[.slice (some ⟨b, off, none⟩) L.length c, .int .i64 x1, .int .i64 x2, .int .i64 x3, .int .i64 x4, .bool x5] 30) (.cells #[.int .i64 l, .int .i64 s] 31) (.cells #[.slice none 0 0, .int .i64 0, .int .i64 0, .int .i64 0, .int .i64 0, .bool false] 30) (.cells #[.int .i64 0, .int .i64 0] 31)
  go_enter Tryd.func6, Tryd.ntmps6
  go_upto_region 2 with (go_at_call 20; refine (sFrameE en f hf _ hen).mono ?_; rintro e w1 ⟨rfl, hb1⟩)
  have hX1 := rowL hX0 hb1
  have hL1 := rowL hL0 hb1
  have hR81 := rowL hR80 hb1
  have hR91 := rowL hR90 hb1
  have hc1 := bstep hb0 hb1
  have hKx : Kx w w1 #[.slice (some ⟨b, off, none⟩) L.length c, .int .i64 x1, .int .i64 x2, .int .i64 x3, .int .i64 x4, .bool x5] #[.int .i64 l, .int .i64 s] := ⟨hc1, hX1, hL1⟩
  clear hX0 hL0 hR80 hR90 hb0 hb1
  obtain ⟨lc0, lc1⟩ := B2.of hL1
  obtain ⟨lf0, lf1⟩ := F2.of hL1
  obtain ⟨xc0, xc1, xc2, xc3, xc4, xc5⟩ := B6.of hX1
  go_upto_region 6 with (go_at_call 21; refine (sBetween _ _ _ _).mono ?_; (first | rw [hbl] | rw [hbs] | rw [hmo]); rintro e wb ⟨rfl, rfl⟩)
  refine wp_region_held_drew (S := fun x => Kx w x #[.slice (some ⟨b, off, none⟩) L.length c, .int .i64 x1, .int .i64 x2, .int .i64 x3, .int .i64 x4, .bool x5] #[.int .i64 l, .int .i64 s]) (by kernel_rfl) (hKx.later (bdrew1 _)) (fun hHeld => ?_)
  refine' takeF (i := 0) (oi := ({ dst := some 58, op := Op.load 30 (Operand.tmp 4), type := 30, pos := "l6_journal.go:275", after := #[], guard := none } : Oper)) rfl ⟨by rfl, fun x hSw => ?h13⟩ hHeld ?r13
  case h13 =>
    obtain ⟨k0, k1, k2, k3, k4, k5⟩ := B6.of hSw.xr; obtain ⟨qc0, qc1⟩ := B2.of hSw.lr
    go_simp
    try with_reducible rfl
  try simp only [Act.put, List.setIfInBounds_toArray, List.set_cons_zero, List.set_cons_succ]
  refine' takeF (i := 2) (oi := ({ dst := some 60, op := Op.load 31 (Operand.tmp 5), type := 31, pos := "l6_journal.go:275", after := #[{ on := 3, ground := Ground.gcOnly Departure.lateStores }], guard := none } : Oper)) rfl ⟨by rfl, fun x hSw => ?h14⟩ hHeld ?r14
  case h14 =>
    obtain ⟨k0, k1, k2, k3, k4, k5⟩ := B6.of hSw.xr; obtain ⟨qc0, qc1⟩ := B2.of hSw.lr
    go_simp
    try with_reducible rfl
  try simp only [Act.put, List.setIfInBounds_toArray, List.set_cons_zero, List.set_cons_succ]
  refine wpAnyH_ready (rs := [1]) (by kernel_rfl) (by simp) ?_
  refine AllReadyH.cons (o := ({ dst := some 59, op := Op.call { callee := Callee.value (Operand.func 22), args := #[Operand.tmp 58], argTypes := #[30] }, type := 30, pos := "l6_journal.go:275", after := #[{ on := 0, ground := Ground.data }], guard := none } : Oper)) rfl (fun K hK => ?_) AllReadyH.nil
  go_simp
  refine (sCopy b off L.length c (nthF L) x1 x2 x3 x4 x5 _ (h.later hHeld.b) hn).mono ?_
  rintro e wz ⟨g5, cap5, rfl, hO5, hbz⟩; have hR85 := rowL hR81 (bstep (bdrew1 _) hbz); have hR95 := rowL hR91 (bstep (bdrew1 _) hbz)
  refine hK.out _ _ (hHeld.later hbz) (fun hHeld => ?_)
  clear hK K
  try simp only [Act.put, List.setIfInBounds_toArray, List.set_cons_zero, List.set_cons_succ]
  refine wpAnyH_ready (rs := [3]) (by kernel_rfl) (by simp) ?_
  refine AllReadyH.cons (o := ({ dst := none, op := Op.store 30 (Operand.tmp 8) (Operand.tmp 59), type := 0, pos := "l6_journal.go:275", after := #[{ on := 1, ground := Ground.data }, { on := 1, ground := Ground.chain }, { on := 0, ground := Ground.phase }, { on := 1, ground := Ground.phase }, { on := 2, ground := Ground.textOnly Departure.lateStores }], guard := none } : Oper)) rfl (fun K hK => ?_) AllReadyH.nil
  obtain ⟨rc0, rc1, rc2, rc3, rc4, rc5⟩ := B6.of hR85; obtain ⟨rf0, rf1, rf2, rf3, rf4, rf5⟩ := F6.of hR85
  go_simp
  refine hK.out _ _ (hHeld.set8 (.slice (some ⟨g5, 0, none⟩) L.length cap5) (.int .i64 x1) (.int .i64 x2) (.int .i64 x3) (.int .i64 x4) (.bool x5)) (fun hHeld => ?_)
  clear hK K
  try simp only [Act.put, List.setIfInBounds_toArray, List.set_cons_zero, List.set_cons_succ]
  refine wpAnyH_ready (rs := [4]) (by kernel_rfl) (by simp) ?_
  refine AllReadyH.cons (o := ({ dst := none, op := Op.store 31 (Operand.tmp 9) (Operand.tmp 60), type := 0, pos := "l6_journal.go:275", after := #[{ on := 2, ground := Ground.data }, { on := 3, ground := Ground.chain }, { on := 0, ground := Ground.phase }, { on := 1, ground := Ground.phase }, { on := 2, ground := Ground.phase }, { on := 3, ground := Ground.phase }], guard := none } : Oper)) rfl (fun K hK => ?_) AllReadyH.nil
  have hR96 := set6_oth (.slice (some ⟨g5, 0, none⟩) L.length cap5) (.int .i64 x1) (.int .i64 x2) (.int .i64 x3) (.int .i64 x4) (.bool x5) (Q := w.heap.size + 1 + 1) hR95 (by omega); have t0 := (cell_of_row _ _ 0 _ _ _ hR96).trans rfl; have tf0 := frozen_of_row _ _ 0 _ _ hR96; have t1 := (cell_of_row _ _ 1 _ _ _ hR96).trans rfl; have tf1 := frozen_of_row _ _ 1 _ _ hR96
  go_simp
  refine hK.out _ _ (hHeld.set9 (.int .i64 l) (.int .i64 s)) (fun hHeld => ?_)
  clear hK K
  try simp only [Act.put, List.setIfInBounds_toArray, List.set_cons_zero, List.set_cons_succ]
  refine' takeF (i := 5) (oi := ({ dst := some 10, op := Op.assign (Operand.const (Value.int IntKind.i64 21)), type := 3, pos := "l6_journal.go:275", after := #[{ on := 4, ground := Ground.chain }, { on := 0, ground := Ground.phase }, { on := 1, ground := Ground.phase }, { on := 2, ground := Ground.phase }, { on := 3, ground := Ground.phase }, { on := 4, ground := Ground.phase }], guard := none } : Oper)) rfl ⟨by rfl, fun x hSw => ?h15⟩ hHeld ?r15
  case h15 =>
    go_simp
    try with_reducible rfl
  try simp only [Act.put, List.setIfInBounds_toArray, List.set_cons_zero, List.set_cons_succ]
  refine wpAnyH_done (by kernel_rfl) ?_ _
  go_wp2
  refine bodyPost_ret (results_cell2_tmp Tryd.results6 _ _ (w.heap.size + 1 + 1) 30 _ (0, 0) _ rfl (fin8 _ _ _ _ _ _ _ _ hR85 (by omega)) Tryd.underlying30 rfl (by kernel_rfl) (w.heap.size + 1 + 1 + 1) 31 _ (0, 0) _ rfl (fin9 _ _ _ _ _ _ _ _ hR95 (by omega)) Tryd.underlying31 rfl (by kernel_rfl)) rfl ?_
  exact ⟨_, _, rfl, (finO (OwnF.wk hO5 hc1.size).l hR85 hR95 (by omega)).f, hHeld.b⟩
end Go.Proofs.YtdbcihebhgpblaaDoor
