/-
  The frame with which a text begins: the walks.
-/
import Derived.Test.YtngppfjphbodcaaGreatDoorHa
namespace Go.Proofs.YtngppfjphbodcaaGreatDoor
open Go.RowKit
theorem sGet0 (s : ByteArray) (w : World) (hp : 4 ≤ s.size) (hs : s.size ≤ 1048576) : Calls Tryz.prog 49 #[.string s, .int .i64 0, .int .i64 4] w fun e w' => e = .returned (.int .i64 (be s 0 4 : Nat)) ∧ w' = w := sGet s 0 w (by omega) hs
theorem word0 (s : ByteArray) (w : World) (hp : 8 ≤ s.size) (hs : s.size ≤ 1048576) : Calls Tryz.prog 82 #[.string s, .int .i64 0] w fun e w' => e = .returned (.int .u32 (be s 0 4 : Nat)) ∧ Below w.heap.size w w' := word_as s 0 w (by omega) hs
theorem word4 (s : ByteArray) (w : World) (hp : 8 ≤ s.size) (hs : s.size ≤ 1048576) : Calls Tryz.prog 82 #[.string s, .int .i64 4] w fun e w' => e = .returned (.int .u32 (be s 4 4 : Nat)) ∧ Below w.heap.size w w' := word_as s 4 w (by omega) hs
theorem nilS (s : ByteArray) : (s.toList == ([] : List UInt8)) = decide (s.size = 0) := by
  have h := empty_iff s
  rcases hb : (s.toList == ([] : List UInt8))
  · have h1 : ¬ s.toList = [] := by simpa using hb
    have : ¬ s.size = 0 := fun e => h1 (h.2 e)
    simp [this]
  · have h1 : s.toList = [] := by simpa using hb
    simp [h.1 h1]
set_option maxRecDepth 20000 in
set_option maxHeartbeats 4000000 in
theorem sFirst (s : ByteArray) (w : World) (hs : s.size ≤ 1048576) : Calls Tryz.prog 36 #[.string s] w fun e w' => e = .returned (.string (fst s)) ∧ Below w.heap.size w w' := by
  by_cases hA : s.size < 8
  · rw [fst_a hA]
    go_enter Tryz.func36, Tryz.ntmps36
    go_wp2
    go_ret
    exact ⟨rfl, Below.refl _ _⟩
  by_cases hB : s.size < 8 + be s 0 4
  · rw [fst_b hB]
    go_enter Tryz.func36, Tryz.ntmps36
    go_wp2_with (go_at_call 49; refine (sGet0 s _ (by omega) hs).mono ?_; rintro e w1 ⟨rfl, rfl⟩)
    go_ret
    exact ⟨rfl, Below.refl _ _⟩
  have hB8 : 8 + be s 0 4 ≤ s.size := by omega
  obtain ⟨E, hE⟩ : ∃ E, s.extract 8 (8 + be s 0 4) = E := ⟨_, rfl⟩
  have hEs : E.size = be s 0 4 := by rw [← hE]; exact ext_size s _ hB8
  have q0 : (0 : Int) ≤ 8 + ((be s 0 4 : Nat) : Int) := by omega
  have q1 : 8 + ((be s 0 4 : Nat) : Int) ≤ (s.size : Int) := by omega
  have q2 : (8 : Int) ≤ 8 + ((be s 0 4 : Nat) : Int) := by omega
  have q3 : (8 + ((be s 0 4 : Nat) : Int)).toNat = 8 + be s 0 4 := by omega
  have q4 : IntKind.i64.wrap (8 + ((be s 0 4 : Nat) : Int)) = 8 + ((be s 0 4 : Nat) : Int) := by rw [IntKind.wrap_i64]; omega
  have hN := nilS (frm E)
  by_cases hC : be s 0 4 = 0 ∨ 60000 < be s 0 4
  · rw [fst_c hC]
    have hF : frm E = ByteArray.empty := (frm_empty E).2 (by omega)
    have hQ : (ByteArray.empty.toList == ([] : List UInt8)) = true := by rw [nilS]; rfl
    go_enter Tryz.func36, Tryz.ntmps36
    go_wp2_with (first | (go_at_call 49; refine (sGet0 s _ (by omega) hs).mono ?_; rintro e w1 ⟨rfl, rfl⟩) | (go_at_call 50; refine (sFrame E _ (by omega)).mono ?_; rw [hF]; rintro e w2 ⟨rfl, hb2⟩))
    go_ret
    exact ⟨rfl, hb2⟩
  have hF : ¬ frm E = ByteArray.empty := fun h => by have := (frm_empty E).1 h; omega
  have hFz : ¬ (frm E).size = 0 := fun h => hF (by apply bytes_eq; rw [List.length_eq_zero_iff.1 (show (frm E).data.toList.length = 0 by simpa using h)]; rfl)
  have hQ : ((frm E).toList == ([] : List UInt8)) = false := by rw [nilS]; simp [hFz]
  have hQ' : ¬ (frm E).toList = [] := by simpa using hQ
  obtain ⟨D, hD⟩ : ∃ D, s.extract 0 (8 + be s 0 4) = D := ⟨_, rfl⟩
  have hiff := frm_iff s hB8 hC
  rw [hE, hD] at hiff
  by_cases hX : crcOf E = be s 4 4
  · have hFE := fst_e hA hB hC (by rw [hE]; exact hX)
    rw [hE] at hFE
    rw [hFE]
    have hP : ((frm E).toList == D.toList) = true := by rw [eqS]; simp [hiff.2 hX]
    clear hFE hiff
    go_enter Tryz.func36, Tryz.ntmps36
    go_wp2_with (first | (go_at_call 49; refine (sGet0 s _ (by omega) hs).mono ?_; rintro e w1 ⟨rfl, rfl⟩) | (go_at_call 50; refine (sFrame E _ (by omega)).mono ?_; rintro e w2 ⟨rfl, hb2⟩))
    go_ret
    exact ⟨rfl, hb2⟩
  · have hFE := fst_d (s := s) (by rw [hE]; exact hX)
    rw [hFE]
    have hP : ((frm E).toList == D.toList) = false := by rw [eqS]; simp only [decide_eq_false_iff_not]; exact fun h => hX (hiff.1 h)
    clear hFE hiff
    go_enter Tryz.func36, Tryz.ntmps36
    go_wp2_with (first | (go_at_call 49; refine (sGet0 s _ (by omega) hs).mono ?_; rintro e w1 ⟨rfl, rfl⟩) | (go_at_call 50; refine (sFrame E _ (by omega)).mono ?_; rintro e w2 ⟨rfl, hb2⟩))
    go_ret
    exact ⟨rfl, hb2⟩
theorem tabRange {x : World} {g : Nat} (h : x.heap[g]? = some (.cells (tab 256) 103 (0, 0))) : x.rangeAt g 0 (tab 256).toList := fun j v hv => by
  rw [Nat.zero_add, cell_of_row x _ j _ _ _ h]
  simpa using hv
theorem sumOf (s : ByteArray) (w : World) (hs : s.size ≤ 1048576) : Calls Tryz.prog 83 #[.agg (tab 256), .string s] w fun e w' => e = .returned (.int .u32 (crcOf s : Nat)) ∧ Below w.heap.size w w' := sum_any s w hs
theorem ext_ext (s : ByteArray) (n : Nat) (h : 8 + n ≤ s.size) : (s.extract 8 s.size).extract 0 n = s.extract 8 (8 + n) := by
  apply bytes_eq
  rw [ext_list, ext_list, ext_list, List.drop_zero, List.take_take]
  congr 1
  omega
set_option maxRecDepth 20000 in
set_option maxHeartbeats 4000000 in
theorem iFirst (s : ByteArray) (w : World) (hs : s.size ≤ 1048576) : Calls Tryz.prog 71 #[.string s, .agg (tab 256)] w fun e w' => e = .returned (.string (fst s)) ∧ Below w.heap.size w w' := by
  have hb0 := bal w (.cells (tab 256) 103)
  have hT := heap_alloc_new w (.cells (tab 256) 103)
  have hlen : (Tryz.prog.info? 103).map (·.size) = some (tab 256).toList.length := by
    rw [Array.length_toList, tab_size]
    kernel_rfl
  by_cases hA : s.size < 8
  · rw [fst_a hA]
    go_enter Tryz.func71, Tryz.ntmps71
    go_wp2
    go_ret
    exact ⟨rfl, hb0⟩
  have h8 : 8 ≤ s.size := by omega
  have hbe := be4_lt s 0
  have hbe4 := be4_lt s 4
  obtain ⟨R, hR⟩ : ∃ R, s.extract 8 s.size = R := ⟨_, rfl⟩
  have HRs : Hid (R.size = s.size - 8) := by show R.size = _; rw [← hR]; simp
  obtain ⟨n, hn⟩ : ∃ n, be s 0 4 = n := ⟨_, rfl⟩
  obtain ⟨m, hm⟩ : ∃ m, be s 4 4 = m := ⟨_, rfl⟩
  have HN : Hid (be s 0 4 = n) := hn
  have HM : Hid (be s 4 4 = m) := hm
  have HR : Hid (s.extract 8 s.size = R) := hR
  rw [hn] at hbe
  rw [hm] at hbe4
  have u1 : (8 : Int) ≤ (s.size : Int) := by omega
  have u2 : IntKind.i64.wrap (n : Int) = (n : Int) := by rw [IntKind.wrap_i64]; omega
  go_enter Tryz.func71, Tryz.ntmps71
  go_wp2
  refine wp_region_held_drew (S := fun x => Below (w.alloc (.cells (tab 256) 103)).heap.size (w.alloc (.cells (tab 256) 103)) x) (by kernel_rfl) (bdrew1 _) (fun hHeld => ?_)
  refine' wpAnyH_take (i := 0) (oi := ({ dst := some 11, op := Op.move (Operand.tmp 0), type := 9, pos := "l6_journal.go:340", after := #[], guard := none } : Oper)) (v := _) rfl (by kernel_rfl) (by kernel_rfl) (by kernel_rfl) (fun _ _ _ h => h) (Or.inl ⟨by rfl, fun x hSw => ?hyz1_0⟩) hHeld ?restz1_0
  case hyz1_0 =>
    skip
    go_simp
    try with_reducible rfl
  try simp only [Act.put, List.setIfInBounds_toArray, List.set_cons_zero, List.set_cons_succ]
  refine' wpAnyH_take (i := 3) (oi := ({ dst := some 14, op := Op.move (Operand.tmp 0), type := 9, pos := "l6_journal.go:340", after := #[], guard := none } : Oper)) (v := _) rfl (by kernel_rfl) (by kernel_rfl) (by kernel_rfl) (fun _ _ _ h => h) (Or.inl ⟨by rfl, fun x hSw => ?hyz1_3⟩) hHeld ?restz1_3
  case hyz1_3 =>
    skip
    go_simp
    try with_reducible rfl
  try simp only [Act.put, List.setIfInBounds_toArray, List.set_cons_zero, List.set_cons_succ]
  refine' wpAnyH_take (i := 5) (oi := ({ dst := some 16, op := Op.move (Operand.tmp 0), type := 9, pos := "l6_journal.go:340", after := #[], guard := none } : Oper)) (v := _) rfl (by kernel_rfl) (by kernel_rfl) (by kernel_rfl) (fun _ _ _ h => h) (Or.inl ⟨by rfl, fun x hSw => ?hyz1_5⟩) hHeld ?restz1_5
  case hyz1_5 =>
    skip
    go_simp
    try with_reducible rfl
  try simp only [Act.put, List.setIfInBounds_toArray, List.set_cons_zero, List.set_cons_succ]
  refine' wpAnyH_take (i := 6) (oi := ({ dst := some 17, op := Op.slice 9 (Operand.tmp 16) (some (Operand.const (Value.int IntKind.i64 8))) none none, type := 9, pos := "l6_journal.go:340", after := #[{ on := 5, ground := Ground.data }], guard := none } : Oper)) (v := .string R) rfl (by kernel_rfl) (by kernel_rfl) (by kernel_rfl) (fun _ _ _ h => h) (Or.inl ⟨by rfl, fun x hSw => ?hyz1_6⟩) hHeld ?restz1_6
  case hyz1_6 =>
    skip
    go_simp
    try with_reducible rfl
  try simp only [Act.put, List.setIfInBounds_toArray, List.set_cons_zero, List.set_cons_succ]
  refine wpAnyH_ready (rs := [1]) (by kernel_rfl) (by simp) ?_
  refine AllReadyH.cons (o := ({ dst := some 12, op := Op.call { callee := Callee.value (Operand.func 82), args := #[Operand.tmp 11, Operand.const (Value.int IntKind.i64 0)], argTypes := #[9, 3] }, type := 101, pos := "l6_journal.go:340", after := #[{ on := 0, ground := Ground.data }], guard := none } : Oper)) rfl (fun K hK => ?_) AllReadyH.nil
  go_simp
  refine (word0 s _ h8 hs).mono ?_
  rw [hn]; rintro e w1 ⟨rfl, hb1⟩
  refine hK.out _ _ (bstep hHeld hb1) (fun hHeld => ?_)
  clear hK K
  try simp only [Act.put, List.setIfInBounds_toArray, List.set_cons_zero, List.set_cons_succ]
  refine' wpAnyH_take (i := 2) (oi := ({ dst := some 13, op := Op.convert 101 3 (Operand.tmp 12), type := 3, pos := "l6_journal.go:340", after := #[{ on := 1, ground := Ground.data }], guard := none } : Oper)) (v := _) rfl (by kernel_rfl) (by kernel_rfl) (by kernel_rfl) (fun _ _ _ h => h) (Or.inl ⟨by rfl, fun x hSw => ?hyz1_2⟩) hHeld ?restz1_2
  case hyz1_2 =>
    skip
    go_simp
    try with_reducible rfl
  try simp only [Act.put, List.setIfInBounds_toArray, List.set_cons_zero, List.set_cons_succ]
  refine wpAnyH_ready (rs := [4]) (by kernel_rfl) (by simp) ?_
  refine AllReadyH.cons (o := ({ dst := some 15, op := Op.call { callee := Callee.value (Operand.func 82), args := #[Operand.tmp 14, Operand.const (Value.int IntKind.i64 4)], argTypes := #[9, 3] }, type := 101, pos := "l6_journal.go:340", after := #[{ on := 3, ground := Ground.data }, { on := 1, ground := Ground.chain }], guard := none } : Oper)) rfl (fun K hK => ?_) AllReadyH.nil
  go_simp
  refine (word4 s _ h8 hs).mono ?_
  rw [hm]; rintro e w2 ⟨rfl, hb2⟩
  refine hK.out _ _ (bstep hHeld hb2) (fun hHeld => ?_)
  clear hK K
  try simp only [Act.put, List.setIfInBounds_toArray, List.set_cons_zero, List.set_cons_succ]
  refine' wpAnyH_take (i := 7) (oi := ({ dst := some 5, op := Op.assign (Operand.tmp 13), type := 3, pos := "l6_journal.go:340", after := #[{ on := 2, ground := Ground.data }, { on := 4, ground := Ground.chain }, { on := 0, ground := Ground.phase }, { on := 1, ground := Ground.phase }, { on := 2, ground := Ground.phase }, { on := 3, ground := Ground.textOnly Departure.lateStores }, { on := 4, ground := Ground.textOnly Departure.lateStoresUnsure }, { on := 5, ground := Ground.textOnly Departure.lateStores }, { on := 6, ground := Ground.textOnly Departure.lateStoresUnsure }], guard := none } : Oper)) (v := _) rfl (by kernel_rfl) (by kernel_rfl) (by kernel_rfl) (fun _ _ _ h => h) (Or.inl ⟨by rfl, fun x hSw => ?hyz1_7⟩) hHeld ?restz1_7
  case hyz1_7 =>
    skip
    go_simp
    try with_reducible rfl
  try simp only [Act.put, List.setIfInBounds_toArray, List.set_cons_zero, List.set_cons_succ]
  refine' wpAnyH_take (i := 8) (oi := ({ dst := some 6, op := Op.assign (Operand.tmp 15), type := 101, pos := "l6_journal.go:340", after := #[{ on := 4, ground := Ground.data }, { on := 7, ground := Ground.chain }, { on := 0, ground := Ground.phase }, { on := 1, ground := Ground.phase }, { on := 2, ground := Ground.phase }, { on := 3, ground := Ground.phase }, { on := 4, ground := Ground.phase }, { on := 5, ground := Ground.textOnly Departure.lateStores }, { on := 6, ground := Ground.textOnly Departure.lateStoresUnsure }, { on := 7, ground := Ground.phase }], guard := none } : Oper)) (v := _) rfl (by kernel_rfl) (by kernel_rfl) (by kernel_rfl) (fun _ _ _ h => h) (Or.inl ⟨by rfl, fun x hSw => ?hyz1_8⟩) hHeld ?restz1_8
  case hyz1_8 =>
    skip
    go_simp
    try with_reducible rfl
  try simp only [Act.put, List.setIfInBounds_toArray, List.set_cons_zero, List.set_cons_succ]
  refine' wpAnyH_take (i := 9) (oi := ({ dst := some 7, op := Op.assign (Operand.tmp 17), type := 9, pos := "l6_journal.go:340", after := #[{ on := 6, ground := Ground.data }, { on := 8, ground := Ground.chain }, { on := 0, ground := Ground.phase }, { on := 1, ground := Ground.phase }, { on := 2, ground := Ground.phase }, { on := 3, ground := Ground.phase }, { on := 4, ground := Ground.phase }, { on := 5, ground := Ground.phase }, { on := 6, ground := Ground.phase }, { on := 7, ground := Ground.phase }, { on := 8, ground := Ground.phase }], guard := none } : Oper)) (v := _) rfl (by kernel_rfl) (by kernel_rfl) (by kernel_rfl) (fun _ _ _ h => h) (Or.inl ⟨by rfl, fun x hSw => ?hyz1_9⟩) hHeld ?restz1_9
  case hyz1_9 =>
    skip
    go_simp
    try with_reducible rfl
  try simp only [Act.put, List.setIfInBounds_toArray, List.set_cons_zero, List.set_cons_succ]
  refine wpAnyH_done (by kernel_rfl) ?_ _
  have hb4 := bstep hb0 hHeld
  have hT4 : w2.heap[w.heap.size]? = some (.cells (tab 256) 103 (0, 0)) := (hHeld.block _ (by simp)).trans hT
  clear hHeld hn hm hR
  by_cases hB : 60000 < n
  · have HF : Hid (fst s = ByteArray.empty) := fst_c (by rw [HN.out]; omega)
    have d1 : decide ((60000 : Int) < (n : Int)) = true := by simp; omega
    go_wp2
    refine wp_region_held_drew (S := fun x => Below w2.heap.size w2 x) (by kernel_rfl) (bdrew1 _) (fun hHeld => ?_)
    refine' wpAnyH_take (i := 0) (oi := ({ dst := some 18, op := Op.move (Operand.tmp 5), type := 3, pos := "l6_journal.go:341", after := #[], guard := none } : Oper)) (v := _) rfl (by kernel_rfl) (by kernel_rfl) (by kernel_rfl) (fun _ _ _ h => h) (Or.inl ⟨by rfl, fun x hSw => ?hyz2_0⟩) hHeld ?restz2_0
    case hyz2_0 =>
      skip
      go_simp
      try with_reducible rfl
    try simp only [Act.put, List.setIfInBounds_toArray, List.set_cons_zero, List.set_cons_succ]
    refine' wpAnyH_take (i := 1) (oi := ({ dst := some 19, op := Op.binOp BinOp.gtr 3 (Operand.tmp 18) (Operand.const (Value.int IntKind.i64 60000)) 3, type := 4, pos := "l6_journal.go:341", after := #[{ on := 0, ground := Ground.data }], guard := none } : Oper)) (v := .bool true) rfl (by kernel_rfl) (by kernel_rfl) (by kernel_rfl) (fun _ _ _ h => h) (Or.inl ⟨by rfl, fun x hSw => ?hyz2_1⟩) hHeld ?restz2_1
    case hyz2_1 =>
      skip
      go_simp
      try with_reducible rfl
    try simp only [Act.put, List.setIfInBounds_toArray, List.set_cons_zero, List.set_cons_succ]
    refine' wpAnyH_take (i := 2) (oi := ({ dst := some 20, op := Op.move (Operand.tmp 19), type := 4, pos := "l6_journal.go:341", after := #[{ on := 1, ground := Ground.data }], guard := none } : Oper)) (v := _) rfl (by kernel_rfl) (by kernel_rfl) (by kernel_rfl) (fun _ _ _ h => h) (Or.inl ⟨by rfl, fun x hSw => ?hyz2_2⟩) hHeld ?restz2_2
    case hyz2_2 =>
      skip
      go_simp
      try with_reducible rfl
    try simp only [Act.put, List.setIfInBounds_toArray, List.set_cons_zero, List.set_cons_succ]
    refine wpAnyH_take (i := 3) (oi := ({ dst := some 21, op := Op.move (Operand.tmp 5), type := 3, pos := "l6_journal.go:341", after := #[{ on := 2, ground := Ground.guard }], guard := some (2, false) } : Oper)) (v := undef) rfl (by kernel_rfl) (by kernel_rfl) (by kernel_rfl) (fun _ _ _ h => h) (Or.inr ⟨by rfl, rfl⟩) hHeld ?_
    try simp only [Act.put, List.setIfInBounds_toArray, List.set_cons_zero, List.set_cons_succ]
    refine wpAnyH_take (i := 4) (oi := ({ dst := some 22, op := Op.move (Operand.tmp 7), type := 9, pos := "l6_journal.go:341", after := #[{ on := 2, ground := Ground.guard }], guard := some (2, false) } : Oper)) (v := undef) rfl (by kernel_rfl) (by kernel_rfl) (by kernel_rfl) (fun _ _ _ h => h) (Or.inr ⟨by rfl, rfl⟩) hHeld ?_
    try simp only [Act.put, List.setIfInBounds_toArray, List.set_cons_zero, List.set_cons_succ]
    refine wpAnyH_take (i := 5) (oi := ({ dst := some 23, op := Op.call { callee := Callee.builtin Builtin.len, args := #[Operand.tmp 22], argTypes := #[9] }, type := 3, pos := "l6_journal.go:341", after := #[{ on := 4, ground := Ground.data }, { on := 2, ground := Ground.guard }], guard := some (2, false) } : Oper)) (v := undef) rfl (by kernel_rfl) (by kernel_rfl) (by kernel_rfl) (fun _ _ _ h => h) (Or.inr ⟨by rfl, rfl⟩) hHeld ?_
    try simp only [Act.put, List.setIfInBounds_toArray, List.set_cons_zero, List.set_cons_succ]
    refine wpAnyH_take (i := 6) (oi := ({ dst := some 24, op := Op.binOp BinOp.gtr 3 (Operand.tmp 21) (Operand.tmp 23) 3, type := 4, pos := "l6_journal.go:341", after := #[{ on := 3, ground := Ground.data }, { on := 5, ground := Ground.data }, { on := 2, ground := Ground.guard }], guard := some (2, false) } : Oper)) (v := undef) rfl (by kernel_rfl) (by kernel_rfl) (by kernel_rfl) (fun _ _ _ h => h) (Or.inr ⟨by rfl, rfl⟩) hHeld ?_
    try simp only [Act.put, List.setIfInBounds_toArray, List.set_cons_zero, List.set_cons_succ]
    refine' wpAnyH_take (i := 7) (oi := ({ dst := some 25, op := Op.pick (Operand.tmp 20) (Operand.const (Value.bool true)) (Operand.tmp 24), type := 4, pos := "l6_journal.go:341", after := #[{ on := 2, ground := Ground.data }, { on := 6, ground := Ground.data }], guard := none } : Oper)) (v := _) rfl (by kernel_rfl) (by kernel_rfl) (by kernel_rfl) (fun _ _ _ h => h) (Or.inl ⟨by rfl, fun x hSw => ?hyz2_7⟩) hHeld ?restz2_7
    case hyz2_7 =>
      skip
      go_simp
      try with_reducible rfl
    try simp only [Act.put, List.setIfInBounds_toArray, List.set_cons_zero, List.set_cons_succ]
    refine' wpAnyH_take (i := 8) (oi := ({ dst := some 26, op := Op.move (Operand.tmp 25), type := 4, pos := "l6_journal.go:341", after := #[{ on := 7, ground := Ground.data }, { on := 2, ground := Ground.chain }], guard := none } : Oper)) (v := _) rfl (by kernel_rfl) (by kernel_rfl) (by kernel_rfl) (fun _ _ _ h => h) (Or.inl ⟨by rfl, fun x hSw => ?hyz2_8⟩) hHeld ?restz2_8
    case hyz2_8 =>
      skip
      go_simp
      try with_reducible rfl
    try simp only [Act.put, List.setIfInBounds_toArray, List.set_cons_zero, List.set_cons_succ]
    refine wpAnyH_take (i := 9) (oi := ({ dst := some 27, op := Op.load 103 (Operand.tmp 3), type := 103, pos := "l6_journal.go:341", after := #[{ on := 8, ground := Ground.guard }], guard := some (8, false) } : Oper)) (v := undef) rfl (by kernel_rfl) (by kernel_rfl) (by kernel_rfl) (fun _ _ _ h => h) (Or.inr ⟨by rfl, rfl⟩) hHeld ?_
    try simp only [Act.put, List.setIfInBounds_toArray, List.set_cons_zero, List.set_cons_succ]
    refine wpAnyH_take (i := 10) (oi := ({ dst := some 28, op := Op.move (Operand.tmp 7), type := 9, pos := "l6_journal.go:341", after := #[{ on := 8, ground := Ground.guard }], guard := some (8, false) } : Oper)) (v := undef) rfl (by kernel_rfl) (by kernel_rfl) (by kernel_rfl) (fun _ _ _ h => h) (Or.inr ⟨by rfl, rfl⟩) hHeld ?_
    try simp only [Act.put, List.setIfInBounds_toArray, List.set_cons_zero, List.set_cons_succ]
    refine wpAnyH_take (i := 11) (oi := ({ dst := some 29, op := Op.move (Operand.tmp 5), type := 3, pos := "l6_journal.go:341", after := #[{ on := 8, ground := Ground.guard }], guard := some (8, false) } : Oper)) (v := undef) rfl (by kernel_rfl) (by kernel_rfl) (by kernel_rfl) (fun _ _ _ h => h) (Or.inr ⟨by rfl, rfl⟩) hHeld ?_
    try simp only [Act.put, List.setIfInBounds_toArray, List.set_cons_zero, List.set_cons_succ]
    refine wpAnyH_take (i := 12) (oi := ({ dst := some 30, op := Op.slice 9 (Operand.tmp 28) none (some (Operand.tmp 29)) none, type := 9, pos := "l6_journal.go:341", after := #[{ on := 10, ground := Ground.data }, { on := 11, ground := Ground.data }, { on := 8, ground := Ground.guard }], guard := some (8, false) } : Oper)) (v := undef) rfl (by kernel_rfl) (by kernel_rfl) (by kernel_rfl) (fun _ _ _ h => h) (Or.inr ⟨by rfl, rfl⟩) hHeld ?_
    try simp only [Act.put, List.setIfInBounds_toArray, List.set_cons_zero, List.set_cons_succ]
    refine wpAnyH_take (i := 13) (oi := ({ dst := some 31, op := Op.call { callee := Callee.value (Operand.func 83), args := #[Operand.tmp 27, Operand.tmp 30], argTypes := #[103, 9] }, type := 101, pos := "l6_journal.go:341", after := #[{ on := 9, ground := Ground.data }, { on := 12, ground := Ground.data }, { on := 8, ground := Ground.chain }, { on := 8, ground := Ground.guard }], guard := some (8, false) } : Oper)) (v := undef) rfl (by kernel_rfl) (by kernel_rfl) (by kernel_rfl) (fun _ _ _ h => h) (Or.inr ⟨by rfl, rfl⟩) hHeld ?_
    try simp only [Act.put, List.setIfInBounds_toArray, List.set_cons_zero, List.set_cons_succ]
    refine wpAnyH_take (i := 14) (oi := ({ dst := some 32, op := Op.move (Operand.tmp 6), type := 101, pos := "l6_journal.go:341", after := #[{ on := 8, ground := Ground.guard }], guard := some (8, false) } : Oper)) (v := undef) rfl (by kernel_rfl) (by kernel_rfl) (by kernel_rfl) (fun _ _ _ h => h) (Or.inr ⟨by rfl, rfl⟩) hHeld ?_
    try simp only [Act.put, List.setIfInBounds_toArray, List.set_cons_zero, List.set_cons_succ]
    refine wpAnyH_take (i := 15) (oi := ({ dst := some 33, op := Op.binOp BinOp.neq 101 (Operand.tmp 31) (Operand.tmp 32) 101, type := 4, pos := "l6_journal.go:341", after := #[{ on := 13, ground := Ground.data }, { on := 14, ground := Ground.data }, { on := 8, ground := Ground.guard }], guard := some (8, false) } : Oper)) (v := undef) rfl (by kernel_rfl) (by kernel_rfl) (by kernel_rfl) (fun _ _ _ h => h) (Or.inr ⟨by rfl, rfl⟩) hHeld ?_
    try simp only [Act.put, List.setIfInBounds_toArray, List.set_cons_zero, List.set_cons_succ]
    refine' wpAnyH_take (i := 16) (oi := ({ dst := some 34, op := Op.pick (Operand.tmp 26) (Operand.const (Value.bool true)) (Operand.tmp 33), type := 4, pos := "l6_journal.go:341", after := #[{ on := 8, ground := Ground.data }, { on := 15, ground := Ground.data }], guard := none } : Oper)) (v := _) rfl (by kernel_rfl) (by kernel_rfl) (by kernel_rfl) (fun _ _ _ h => h) (Or.inl ⟨by rfl, fun x hSw => ?hyz2_16⟩) hHeld ?restz2_16
    case hyz2_16 =>
      skip
      go_simp
      try with_reducible rfl
    try simp only [Act.put, List.setIfInBounds_toArray, List.set_cons_zero, List.set_cons_succ]
    refine wpAnyH_done (by kernel_rfl) ?_ _
    go_wp2
    go_ret
    exact ⟨by rw [HF.out]; rfl, bstep hb4 hHeld⟩
  have d1 : decide ((60000 : Int) < (n : Int)) = false := by simp; omega
  by_cases hC : R.size < n
  · have HF : Hid (fst s = ByteArray.empty) := fst_b (by have := HRs.out; rw [HN.out]; omega)
    have d2 : decide ((R.size : Int) < (n : Int)) = true := by simp; omega
    go_wp2
    refine wp_region_held_drew (S := fun x => Below w2.heap.size w2 x) (by kernel_rfl) (bdrew1 _) (fun hHeld => ?_)
    refine' wpAnyH_take (i := 0) (oi := ({ dst := some 18, op := Op.move (Operand.tmp 5), type := 3, pos := "l6_journal.go:341", after := #[], guard := none } : Oper)) (v := _) rfl (by kernel_rfl) (by kernel_rfl) (by kernel_rfl) (fun _ _ _ h => h) (Or.inl ⟨by rfl, fun x hSw => ?hyz3_0⟩) hHeld ?restz3_0
    case hyz3_0 =>
      skip
      go_simp
      try with_reducible rfl
    try simp only [Act.put, List.setIfInBounds_toArray, List.set_cons_zero, List.set_cons_succ]
    refine' wpAnyH_take (i := 1) (oi := ({ dst := some 19, op := Op.binOp BinOp.gtr 3 (Operand.tmp 18) (Operand.const (Value.int IntKind.i64 60000)) 3, type := 4, pos := "l6_journal.go:341", after := #[{ on := 0, ground := Ground.data }], guard := none } : Oper)) (v := .bool false) rfl (by kernel_rfl) (by kernel_rfl) (by kernel_rfl) (fun _ _ _ h => h) (Or.inl ⟨by rfl, fun x hSw => ?hyz3_1⟩) hHeld ?restz3_1
    case hyz3_1 =>
      skip
      go_simp
      try with_reducible rfl
    try simp only [Act.put, List.setIfInBounds_toArray, List.set_cons_zero, List.set_cons_succ]
    refine' wpAnyH_take (i := 2) (oi := ({ dst := some 20, op := Op.move (Operand.tmp 19), type := 4, pos := "l6_journal.go:341", after := #[{ on := 1, ground := Ground.data }], guard := none } : Oper)) (v := _) rfl (by kernel_rfl) (by kernel_rfl) (by kernel_rfl) (fun _ _ _ h => h) (Or.inl ⟨by rfl, fun x hSw => ?hyz3_2⟩) hHeld ?restz3_2
    case hyz3_2 =>
      skip
      go_simp
      try with_reducible rfl
    try simp only [Act.put, List.setIfInBounds_toArray, List.set_cons_zero, List.set_cons_succ]
    refine' wpAnyH_take (i := 3) (oi := ({ dst := some 21, op := Op.move (Operand.tmp 5), type := 3, pos := "l6_journal.go:341", after := #[{ on := 2, ground := Ground.guard }], guard := some (2, false) } : Oper)) (v := _) rfl (by kernel_rfl) (by kernel_rfl) (by kernel_rfl) (fun _ _ _ h => h) (Or.inl ⟨by rfl, fun x hSw => ?hyz3_3⟩) hHeld ?restz3_3
    case hyz3_3 =>
      skip
      go_simp
      try with_reducible rfl
    try simp only [Act.put, List.setIfInBounds_toArray, List.set_cons_zero, List.set_cons_succ]
    refine' wpAnyH_take (i := 4) (oi := ({ dst := some 22, op := Op.move (Operand.tmp 7), type := 9, pos := "l6_journal.go:341", after := #[{ on := 2, ground := Ground.guard }], guard := some (2, false) } : Oper)) (v := _) rfl (by kernel_rfl) (by kernel_rfl) (by kernel_rfl) (fun _ _ _ h => h) (Or.inl ⟨by rfl, fun x hSw => ?hyz3_4⟩) hHeld ?restz3_4
    case hyz3_4 =>
      skip
      go_simp
      try with_reducible rfl
    try simp only [Act.put, List.setIfInBounds_toArray, List.set_cons_zero, List.set_cons_succ]
    refine' wpAnyH_take (i := 5) (oi := ({ dst := some 23, op := Op.call { callee := Callee.builtin Builtin.len, args := #[Operand.tmp 22], argTypes := #[9] }, type := 3, pos := "l6_journal.go:341", after := #[{ on := 4, ground := Ground.data }, { on := 2, ground := Ground.guard }], guard := some (2, false) } : Oper)) (v := _) rfl (by kernel_rfl) (by kernel_rfl) (by kernel_rfl) (fun _ _ _ h => h) (Or.inl ⟨by rfl, fun x hSw => ?hyz3_5⟩) hHeld ?restz3_5
    case hyz3_5 =>
      skip
      go_simp
      try with_reducible rfl
    try simp only [Act.put, List.setIfInBounds_toArray, List.set_cons_zero, List.set_cons_succ]
    refine' wpAnyH_take (i := 6) (oi := ({ dst := some 24, op := Op.binOp BinOp.gtr 3 (Operand.tmp 21) (Operand.tmp 23) 3, type := 4, pos := "l6_journal.go:341", after := #[{ on := 3, ground := Ground.data }, { on := 5, ground := Ground.data }, { on := 2, ground := Ground.guard }], guard := some (2, false) } : Oper)) (v := .bool true) rfl (by kernel_rfl) (by kernel_rfl) (by kernel_rfl) (fun _ _ _ h => h) (Or.inl ⟨by rfl, fun x hSw => ?hyz3_6⟩) hHeld ?restz3_6
    case hyz3_6 =>
      skip
      go_simp
      try with_reducible rfl
    try simp only [Act.put, List.setIfInBounds_toArray, List.set_cons_zero, List.set_cons_succ]
    refine' wpAnyH_take (i := 7) (oi := ({ dst := some 25, op := Op.pick (Operand.tmp 20) (Operand.const (Value.bool true)) (Operand.tmp 24), type := 4, pos := "l6_journal.go:341", after := #[{ on := 2, ground := Ground.data }, { on := 6, ground := Ground.data }], guard := none } : Oper)) (v := _) rfl (by kernel_rfl) (by kernel_rfl) (by kernel_rfl) (fun _ _ _ h => h) (Or.inl ⟨by rfl, fun x hSw => ?hyz3_7⟩) hHeld ?restz3_7
    case hyz3_7 =>
      skip
      go_simp
      try with_reducible rfl
    try simp only [Act.put, List.setIfInBounds_toArray, List.set_cons_zero, List.set_cons_succ]
    refine' wpAnyH_take (i := 8) (oi := ({ dst := some 26, op := Op.move (Operand.tmp 25), type := 4, pos := "l6_journal.go:341", after := #[{ on := 7, ground := Ground.data }, { on := 2, ground := Ground.chain }], guard := none } : Oper)) (v := _) rfl (by kernel_rfl) (by kernel_rfl) (by kernel_rfl) (fun _ _ _ h => h) (Or.inl ⟨by rfl, fun x hSw => ?hyz3_8⟩) hHeld ?restz3_8
    case hyz3_8 =>
      skip
      go_simp
      try with_reducible rfl
    try simp only [Act.put, List.setIfInBounds_toArray, List.set_cons_zero, List.set_cons_succ]
    refine wpAnyH_take (i := 9) (oi := ({ dst := some 27, op := Op.load 103 (Operand.tmp 3), type := 103, pos := "l6_journal.go:341", after := #[{ on := 8, ground := Ground.guard }], guard := some (8, false) } : Oper)) (v := undef) rfl (by kernel_rfl) (by kernel_rfl) (by kernel_rfl) (fun _ _ _ h => h) (Or.inr ⟨by rfl, rfl⟩) hHeld ?_
    try simp only [Act.put, List.setIfInBounds_toArray, List.set_cons_zero, List.set_cons_succ]
    refine wpAnyH_take (i := 10) (oi := ({ dst := some 28, op := Op.move (Operand.tmp 7), type := 9, pos := "l6_journal.go:341", after := #[{ on := 8, ground := Ground.guard }], guard := some (8, false) } : Oper)) (v := undef) rfl (by kernel_rfl) (by kernel_rfl) (by kernel_rfl) (fun _ _ _ h => h) (Or.inr ⟨by rfl, rfl⟩) hHeld ?_
    try simp only [Act.put, List.setIfInBounds_toArray, List.set_cons_zero, List.set_cons_succ]
    refine wpAnyH_take (i := 11) (oi := ({ dst := some 29, op := Op.move (Operand.tmp 5), type := 3, pos := "l6_journal.go:341", after := #[{ on := 8, ground := Ground.guard }], guard := some (8, false) } : Oper)) (v := undef) rfl (by kernel_rfl) (by kernel_rfl) (by kernel_rfl) (fun _ _ _ h => h) (Or.inr ⟨by rfl, rfl⟩) hHeld ?_
    try simp only [Act.put, List.setIfInBounds_toArray, List.set_cons_zero, List.set_cons_succ]
    refine wpAnyH_take (i := 12) (oi := ({ dst := some 30, op := Op.slice 9 (Operand.tmp 28) none (some (Operand.tmp 29)) none, type := 9, pos := "l6_journal.go:341", after := #[{ on := 10, ground := Ground.data }, { on := 11, ground := Ground.data }, { on := 8, ground := Ground.guard }], guard := some (8, false) } : Oper)) (v := undef) rfl (by kernel_rfl) (by kernel_rfl) (by kernel_rfl) (fun _ _ _ h => h) (Or.inr ⟨by rfl, rfl⟩) hHeld ?_
    try simp only [Act.put, List.setIfInBounds_toArray, List.set_cons_zero, List.set_cons_succ]
    refine wpAnyH_take (i := 13) (oi := ({ dst := some 31, op := Op.call { callee := Callee.value (Operand.func 83), args := #[Operand.tmp 27, Operand.tmp 30], argTypes := #[103, 9] }, type := 101, pos := "l6_journal.go:341", after := #[{ on := 9, ground := Ground.data }, { on := 12, ground := Ground.data }, { on := 8, ground := Ground.chain }, { on := 8, ground := Ground.guard }], guard := some (8, false) } : Oper)) (v := undef) rfl (by kernel_rfl) (by kernel_rfl) (by kernel_rfl) (fun _ _ _ h => h) (Or.inr ⟨by rfl, rfl⟩) hHeld ?_
    try simp only [Act.put, List.setIfInBounds_toArray, List.set_cons_zero, List.set_cons_succ]
    refine wpAnyH_take (i := 14) (oi := ({ dst := some 32, op := Op.move (Operand.tmp 6), type := 101, pos := "l6_journal.go:341", after := #[{ on := 8, ground := Ground.guard }], guard := some (8, false) } : Oper)) (v := undef) rfl (by kernel_rfl) (by kernel_rfl) (by kernel_rfl) (fun _ _ _ h => h) (Or.inr ⟨by rfl, rfl⟩) hHeld ?_
    try simp only [Act.put, List.setIfInBounds_toArray, List.set_cons_zero, List.set_cons_succ]
    refine wpAnyH_take (i := 15) (oi := ({ dst := some 33, op := Op.binOp BinOp.neq 101 (Operand.tmp 31) (Operand.tmp 32) 101, type := 4, pos := "l6_journal.go:341", after := #[{ on := 13, ground := Ground.data }, { on := 14, ground := Ground.data }, { on := 8, ground := Ground.guard }], guard := some (8, false) } : Oper)) (v := undef) rfl (by kernel_rfl) (by kernel_rfl) (by kernel_rfl) (fun _ _ _ h => h) (Or.inr ⟨by rfl, rfl⟩) hHeld ?_
    try simp only [Act.put, List.setIfInBounds_toArray, List.set_cons_zero, List.set_cons_succ]
    refine' wpAnyH_take (i := 16) (oi := ({ dst := some 34, op := Op.pick (Operand.tmp 26) (Operand.const (Value.bool true)) (Operand.tmp 33), type := 4, pos := "l6_journal.go:341", after := #[{ on := 8, ground := Ground.data }, { on := 15, ground := Ground.data }], guard := none } : Oper)) (v := _) rfl (by kernel_rfl) (by kernel_rfl) (by kernel_rfl) (fun _ _ _ h => h) (Or.inl ⟨by rfl, fun x hSw => ?hyz3_16⟩) hHeld ?restz3_16
    case hyz3_16 =>
      skip
      go_simp
      try with_reducible rfl
    try simp only [Act.put, List.setIfInBounds_toArray, List.set_cons_zero, List.set_cons_succ]
    refine wpAnyH_done (by kernel_rfl) ?_ _
    go_wp2
    go_ret
    exact ⟨by rw [HF.out]; rfl, bstep hb4 hHeld⟩
  have d2 : decide ((R.size : Int) < (n : Int)) = false := by simp; omega
  obtain ⟨E, hE⟩ : ∃ E, R.extract 0 n = E := ⟨_, rfl⟩
  have hEE : s.extract 8 (8 + n) = E := by have := HRs.out; rw [← hE, ← HR.out, ext_ext s n (by omega)]
  have hEs : E.size = n := by rw [← hEE]; have := HRs.out; exact ext_size s n (by omega)
  have u3 : (0 : Int) ≤ (n : Int) := by omega
  have u4 : (n : Int) ≤ (R.size : Int) := by omega
  rcases hX : ((crcOf E : Int) != (m : Int))
  · have hX' : crcOf E = m := by simp at hX; omega
    have HF : Hid (fst s = E) := by
      show fst s = E
      by_cases h0 : n = 0
      · rw [fst_c (by rw [HN.out]; omega)]
        apply bytes_eq
        rw [List.length_eq_zero_iff.1 (show E.data.toList.length = 0 by simpa using hEs.trans h0)]
        rfl
      · have := HRs.out
        rw [fst_e hA (by rw [HN.out]; omega) (by rw [HN.out]; omega) (by rw [HN.out, HM.out, hEE]; exact hX'), HN.out, hEE]
    clear hEE
    go_wp2
    refine wp_region_held_drew (S := fun x => Below w2.heap.size w2 x) (by kernel_rfl) (bdrew1 _) (fun hHeld => ?_)
    refine' wpAnyH_take (i := 0) (oi := ({ dst := some 18, op := Op.move (Operand.tmp 5), type := 3, pos := "l6_journal.go:341", after := #[], guard := none } : Oper)) (v := _) rfl (by kernel_rfl) (by kernel_rfl) (by kernel_rfl) (fun _ _ _ h => h) (Or.inl ⟨by rfl, fun x hSw => ?hyz4_0⟩) hHeld ?restz4_0
    case hyz4_0 =>
      skip
      go_simp
      try with_reducible rfl
    try simp only [Act.put, List.setIfInBounds_toArray, List.set_cons_zero, List.set_cons_succ]
    refine' wpAnyH_take (i := 1) (oi := ({ dst := some 19, op := Op.binOp BinOp.gtr 3 (Operand.tmp 18) (Operand.const (Value.int IntKind.i64 60000)) 3, type := 4, pos := "l6_journal.go:341", after := #[{ on := 0, ground := Ground.data }], guard := none } : Oper)) (v := .bool false) rfl (by kernel_rfl) (by kernel_rfl) (by kernel_rfl) (fun _ _ _ h => h) (Or.inl ⟨by rfl, fun x hSw => ?hyz4_1⟩) hHeld ?restz4_1
    case hyz4_1 =>
      skip
      go_simp
      try with_reducible rfl
    try simp only [Act.put, List.setIfInBounds_toArray, List.set_cons_zero, List.set_cons_succ]
    refine' wpAnyH_take (i := 2) (oi := ({ dst := some 20, op := Op.move (Operand.tmp 19), type := 4, pos := "l6_journal.go:341", after := #[{ on := 1, ground := Ground.data }], guard := none } : Oper)) (v := _) rfl (by kernel_rfl) (by kernel_rfl) (by kernel_rfl) (fun _ _ _ h => h) (Or.inl ⟨by rfl, fun x hSw => ?hyz4_2⟩) hHeld ?restz4_2
    case hyz4_2 =>
      skip
      go_simp
      try with_reducible rfl
    try simp only [Act.put, List.setIfInBounds_toArray, List.set_cons_zero, List.set_cons_succ]
    refine' wpAnyH_take (i := 3) (oi := ({ dst := some 21, op := Op.move (Operand.tmp 5), type := 3, pos := "l6_journal.go:341", after := #[{ on := 2, ground := Ground.guard }], guard := some (2, false) } : Oper)) (v := _) rfl (by kernel_rfl) (by kernel_rfl) (by kernel_rfl) (fun _ _ _ h => h) (Or.inl ⟨by rfl, fun x hSw => ?hyz4_3⟩) hHeld ?restz4_3
    case hyz4_3 =>
      skip
      go_simp
      try with_reducible rfl
    try simp only [Act.put, List.setIfInBounds_toArray, List.set_cons_zero, List.set_cons_succ]
    refine' wpAnyH_take (i := 4) (oi := ({ dst := some 22, op := Op.move (Operand.tmp 7), type := 9, pos := "l6_journal.go:341", after := #[{ on := 2, ground := Ground.guard }], guard := some (2, false) } : Oper)) (v := _) rfl (by kernel_rfl) (by kernel_rfl) (by kernel_rfl) (fun _ _ _ h => h) (Or.inl ⟨by rfl, fun x hSw => ?hyz4_4⟩) hHeld ?restz4_4
    case hyz4_4 =>
      skip
      go_simp
      try with_reducible rfl
    try simp only [Act.put, List.setIfInBounds_toArray, List.set_cons_zero, List.set_cons_succ]
    refine' wpAnyH_take (i := 5) (oi := ({ dst := some 23, op := Op.call { callee := Callee.builtin Builtin.len, args := #[Operand.tmp 22], argTypes := #[9] }, type := 3, pos := "l6_journal.go:341", after := #[{ on := 4, ground := Ground.data }, { on := 2, ground := Ground.guard }], guard := some (2, false) } : Oper)) (v := _) rfl (by kernel_rfl) (by kernel_rfl) (by kernel_rfl) (fun _ _ _ h => h) (Or.inl ⟨by rfl, fun x hSw => ?hyz4_5⟩) hHeld ?restz4_5
    case hyz4_5 =>
      skip
      go_simp
      try with_reducible rfl
    try simp only [Act.put, List.setIfInBounds_toArray, List.set_cons_zero, List.set_cons_succ]
    refine' wpAnyH_take (i := 6) (oi := ({ dst := some 24, op := Op.binOp BinOp.gtr 3 (Operand.tmp 21) (Operand.tmp 23) 3, type := 4, pos := "l6_journal.go:341", after := #[{ on := 3, ground := Ground.data }, { on := 5, ground := Ground.data }, { on := 2, ground := Ground.guard }], guard := some (2, false) } : Oper)) (v := .bool false) rfl (by kernel_rfl) (by kernel_rfl) (by kernel_rfl) (fun _ _ _ h => h) (Or.inl ⟨by rfl, fun x hSw => ?hyz4_6⟩) hHeld ?restz4_6
    case hyz4_6 =>
      skip
      go_simp
      try with_reducible rfl
    try simp only [Act.put, List.setIfInBounds_toArray, List.set_cons_zero, List.set_cons_succ]
    refine' wpAnyH_take (i := 7) (oi := ({ dst := some 25, op := Op.pick (Operand.tmp 20) (Operand.const (Value.bool true)) (Operand.tmp 24), type := 4, pos := "l6_journal.go:341", after := #[{ on := 2, ground := Ground.data }, { on := 6, ground := Ground.data }], guard := none } : Oper)) (v := _) rfl (by kernel_rfl) (by kernel_rfl) (by kernel_rfl) (fun _ _ _ h => h) (Or.inl ⟨by rfl, fun x hSw => ?hyz4_7⟩) hHeld ?restz4_7
    case hyz4_7 =>
      skip
      go_simp
      try with_reducible rfl
    try simp only [Act.put, List.setIfInBounds_toArray, List.set_cons_zero, List.set_cons_succ]
    refine' wpAnyH_take (i := 8) (oi := ({ dst := some 26, op := Op.move (Operand.tmp 25), type := 4, pos := "l6_journal.go:341", after := #[{ on := 7, ground := Ground.data }, { on := 2, ground := Ground.chain }], guard := none } : Oper)) (v := _) rfl (by kernel_rfl) (by kernel_rfl) (by kernel_rfl) (fun _ _ _ h => h) (Or.inl ⟨by rfl, fun x hSw => ?hyz4_8⟩) hHeld ?restz4_8
    case hyz4_8 =>
      skip
      go_simp
      try with_reducible rfl
    try simp only [Act.put, List.setIfInBounds_toArray, List.set_cons_zero, List.set_cons_succ]
    refine wpAnyH_take (i := 9) (oi := ({ dst := some 27, op := Op.load 103 (Operand.tmp 3), type := 103, pos := "l6_journal.go:341", after := #[{ on := 8, ground := Ground.guard }], guard := some (8, false) } : Oper)) (v := .agg (tab 256)) rfl (by kernel_rfl) (by kernel_rfl) (by kernel_rfl) (fun _ _ _ h => h) (yieldsIf_load_mid (by rfl) _ _ rfl w.heap.size 0 rfl (tab 256).toList (.array 256 101) (fun x hx => tabRange ((hx.block _ (Array.getElem?_eq_some_iff.1 hT4).1).trans hT4)) Tryz.underlying103 rfl hlen) hHeld ?_
    try simp only [Act.put, List.setIfInBounds_toArray, List.set_cons_zero, List.set_cons_succ]
    refine' wpAnyH_take (i := 10) (oi := ({ dst := some 28, op := Op.move (Operand.tmp 7), type := 9, pos := "l6_journal.go:341", after := #[{ on := 8, ground := Ground.guard }], guard := some (8, false) } : Oper)) (v := _) rfl (by kernel_rfl) (by kernel_rfl) (by kernel_rfl) (fun _ _ _ h => h) (Or.inl ⟨by rfl, fun x hSw => ?hyz4_10⟩) hHeld ?restz4_10
    case hyz4_10 =>
      skip
      go_simp
      try with_reducible rfl
    try simp only [Act.put, List.setIfInBounds_toArray, List.set_cons_zero, List.set_cons_succ]
    refine' wpAnyH_take (i := 11) (oi := ({ dst := some 29, op := Op.move (Operand.tmp 5), type := 3, pos := "l6_journal.go:341", after := #[{ on := 8, ground := Ground.guard }], guard := some (8, false) } : Oper)) (v := _) rfl (by kernel_rfl) (by kernel_rfl) (by kernel_rfl) (fun _ _ _ h => h) (Or.inl ⟨by rfl, fun x hSw => ?hyz4_11⟩) hHeld ?restz4_11
    case hyz4_11 =>
      skip
      go_simp
      try with_reducible rfl
    try simp only [Act.put, List.setIfInBounds_toArray, List.set_cons_zero, List.set_cons_succ]
    refine' wpAnyH_take (i := 12) (oi := ({ dst := some 30, op := Op.slice 9 (Operand.tmp 28) none (some (Operand.tmp 29)) none, type := 9, pos := "l6_journal.go:341", after := #[{ on := 10, ground := Ground.data }, { on := 11, ground := Ground.data }, { on := 8, ground := Ground.guard }], guard := some (8, false) } : Oper)) (v := .string E) rfl (by kernel_rfl) (by kernel_rfl) (by kernel_rfl) (fun _ _ _ h => h) (Or.inl ⟨by rfl, fun x hSw => ?hyz4_12⟩) hHeld ?restz4_12
    case hyz4_12 =>
      skip
      go_simp
      try with_reducible rfl
    try simp only [Act.put, List.setIfInBounds_toArray, List.set_cons_zero, List.set_cons_succ]
    refine' wpAnyH_take (i := 14) (oi := ({ dst := some 32, op := Op.move (Operand.tmp 6), type := 101, pos := "l6_journal.go:341", after := #[{ on := 8, ground := Ground.guard }], guard := some (8, false) } : Oper)) (v := _) rfl (by kernel_rfl) (by kernel_rfl) (by kernel_rfl) (fun _ _ _ h => h) (Or.inl ⟨by rfl, fun x hSw => ?hyz4_14⟩) hHeld ?restz4_14
    case hyz4_14 =>
      skip
      go_simp
      try with_reducible rfl
    try simp only [Act.put, List.setIfInBounds_toArray, List.set_cons_zero, List.set_cons_succ]
    refine wpAnyH_ready (rs := [13]) (by kernel_rfl) (by simp) ?_
    refine AllReadyH.cons (o := ({ dst := some 31, op := Op.call { callee := Callee.value (Operand.func 83), args := #[Operand.tmp 27, Operand.tmp 30], argTypes := #[103, 9] }, type := 101, pos := "l6_journal.go:341", after := #[{ on := 9, ground := Ground.data }, { on := 12, ground := Ground.data }, { on := 8, ground := Ground.chain }, { on := 8, ground := Ground.guard }], guard := some (8, false) } : Oper)) rfl (fun K hK => ?_) AllReadyH.nil
    go_simp
    refine (sumOf E _ (by omega)).mono ?_
    rintro e w5 ⟨rfl, hb5⟩
    refine hK.out _ _ (bstep hHeld hb5) (fun hHeld => ?_)
    clear hK K
    try simp only [Act.put, List.setIfInBounds_toArray, List.set_cons_zero, List.set_cons_succ]
    refine' wpAnyH_take (i := 15) (oi := ({ dst := some 33, op := Op.binOp BinOp.neq 101 (Operand.tmp 31) (Operand.tmp 32) 101, type := 4, pos := "l6_journal.go:341", after := #[{ on := 13, ground := Ground.data }, { on := 14, ground := Ground.data }, { on := 8, ground := Ground.guard }], guard := some (8, false) } : Oper)) (v := .bool false) rfl (by kernel_rfl) (by kernel_rfl) (by kernel_rfl) (fun _ _ _ h => h) (Or.inl ⟨by rfl, fun x hSw => ?hyz4_15⟩) hHeld ?restz4_15
    case hyz4_15 =>
      skip
      go_simp
      try with_reducible rfl
    try simp only [Act.put, List.setIfInBounds_toArray, List.set_cons_zero, List.set_cons_succ]
    refine' wpAnyH_take (i := 16) (oi := ({ dst := some 34, op := Op.pick (Operand.tmp 26) (Operand.const (Value.bool true)) (Operand.tmp 33), type := 4, pos := "l6_journal.go:341", after := #[{ on := 8, ground := Ground.data }, { on := 15, ground := Ground.data }], guard := none } : Oper)) (v := _) rfl (by kernel_rfl) (by kernel_rfl) (by kernel_rfl) (fun _ _ _ h => h) (Or.inl ⟨by rfl, fun x hSw => ?hyz4_16⟩) hHeld ?restz4_16
    case hyz4_16 =>
      skip
      go_simp
      try with_reducible rfl
    try simp only [Act.put, List.setIfInBounds_toArray, List.set_cons_zero, List.set_cons_succ]
    refine wpAnyH_done (by kernel_rfl) ?_ _
    go_wp2
    go_ret
    exact ⟨by rw [HF.out]; rfl, bstep hb4 hHeld⟩
  · have HF : Hid (fst s = ByteArray.empty) := fst_d (by
      rw [HN.out, HM.out, hEE]
      simp at hX
      omega)
    clear hEE
    go_wp2
    refine wp_region_held_drew (S := fun x => Below w2.heap.size w2 x) (by kernel_rfl) (bdrew1 _) (fun hHeld => ?_)
    refine' wpAnyH_take (i := 0) (oi := ({ dst := some 18, op := Op.move (Operand.tmp 5), type := 3, pos := "l6_journal.go:341", after := #[], guard := none } : Oper)) (v := _) rfl (by kernel_rfl) (by kernel_rfl) (by kernel_rfl) (fun _ _ _ h => h) (Or.inl ⟨by rfl, fun x hSw => ?hyz5_0⟩) hHeld ?restz5_0
    case hyz5_0 =>
      skip
      go_simp
      try with_reducible rfl
    try simp only [Act.put, List.setIfInBounds_toArray, List.set_cons_zero, List.set_cons_succ]
    refine' wpAnyH_take (i := 1) (oi := ({ dst := some 19, op := Op.binOp BinOp.gtr 3 (Operand.tmp 18) (Operand.const (Value.int IntKind.i64 60000)) 3, type := 4, pos := "l6_journal.go:341", after := #[{ on := 0, ground := Ground.data }], guard := none } : Oper)) (v := .bool false) rfl (by kernel_rfl) (by kernel_rfl) (by kernel_rfl) (fun _ _ _ h => h) (Or.inl ⟨by rfl, fun x hSw => ?hyz5_1⟩) hHeld ?restz5_1
    case hyz5_1 =>
      skip
      go_simp
      try with_reducible rfl
    try simp only [Act.put, List.setIfInBounds_toArray, List.set_cons_zero, List.set_cons_succ]
    refine' wpAnyH_take (i := 2) (oi := ({ dst := some 20, op := Op.move (Operand.tmp 19), type := 4, pos := "l6_journal.go:341", after := #[{ on := 1, ground := Ground.data }], guard := none } : Oper)) (v := _) rfl (by kernel_rfl) (by kernel_rfl) (by kernel_rfl) (fun _ _ _ h => h) (Or.inl ⟨by rfl, fun x hSw => ?hyz5_2⟩) hHeld ?restz5_2
    case hyz5_2 =>
      skip
      go_simp
      try with_reducible rfl
    try simp only [Act.put, List.setIfInBounds_toArray, List.set_cons_zero, List.set_cons_succ]
    refine' wpAnyH_take (i := 3) (oi := ({ dst := some 21, op := Op.move (Operand.tmp 5), type := 3, pos := "l6_journal.go:341", after := #[{ on := 2, ground := Ground.guard }], guard := some (2, false) } : Oper)) (v := _) rfl (by kernel_rfl) (by kernel_rfl) (by kernel_rfl) (fun _ _ _ h => h) (Or.inl ⟨by rfl, fun x hSw => ?hyz5_3⟩) hHeld ?restz5_3
    case hyz5_3 =>
      skip
      go_simp
      try with_reducible rfl
    try simp only [Act.put, List.setIfInBounds_toArray, List.set_cons_zero, List.set_cons_succ]
    refine' wpAnyH_take (i := 4) (oi := ({ dst := some 22, op := Op.move (Operand.tmp 7), type := 9, pos := "l6_journal.go:341", after := #[{ on := 2, ground := Ground.guard }], guard := some (2, false) } : Oper)) (v := _) rfl (by kernel_rfl) (by kernel_rfl) (by kernel_rfl) (fun _ _ _ h => h) (Or.inl ⟨by rfl, fun x hSw => ?hyz5_4⟩) hHeld ?restz5_4
    case hyz5_4 =>
      skip
      go_simp
      try with_reducible rfl
    try simp only [Act.put, List.setIfInBounds_toArray, List.set_cons_zero, List.set_cons_succ]
    refine' wpAnyH_take (i := 5) (oi := ({ dst := some 23, op := Op.call { callee := Callee.builtin Builtin.len, args := #[Operand.tmp 22], argTypes := #[9] }, type := 3, pos := "l6_journal.go:341", after := #[{ on := 4, ground := Ground.data }, { on := 2, ground := Ground.guard }], guard := some (2, false) } : Oper)) (v := _) rfl (by kernel_rfl) (by kernel_rfl) (by kernel_rfl) (fun _ _ _ h => h) (Or.inl ⟨by rfl, fun x hSw => ?hyz5_5⟩) hHeld ?restz5_5
    case hyz5_5 =>
      skip
      go_simp
      try with_reducible rfl
    try simp only [Act.put, List.setIfInBounds_toArray, List.set_cons_zero, List.set_cons_succ]
    refine' wpAnyH_take (i := 6) (oi := ({ dst := some 24, op := Op.binOp BinOp.gtr 3 (Operand.tmp 21) (Operand.tmp 23) 3, type := 4, pos := "l6_journal.go:341", after := #[{ on := 3, ground := Ground.data }, { on := 5, ground := Ground.data }, { on := 2, ground := Ground.guard }], guard := some (2, false) } : Oper)) (v := .bool false) rfl (by kernel_rfl) (by kernel_rfl) (by kernel_rfl) (fun _ _ _ h => h) (Or.inl ⟨by rfl, fun x hSw => ?hyz5_6⟩) hHeld ?restz5_6
    case hyz5_6 =>
      skip
      go_simp
      try with_reducible rfl
    try simp only [Act.put, List.setIfInBounds_toArray, List.set_cons_zero, List.set_cons_succ]
    refine' wpAnyH_take (i := 7) (oi := ({ dst := some 25, op := Op.pick (Operand.tmp 20) (Operand.const (Value.bool true)) (Operand.tmp 24), type := 4, pos := "l6_journal.go:341", after := #[{ on := 2, ground := Ground.data }, { on := 6, ground := Ground.data }], guard := none } : Oper)) (v := _) rfl (by kernel_rfl) (by kernel_rfl) (by kernel_rfl) (fun _ _ _ h => h) (Or.inl ⟨by rfl, fun x hSw => ?hyz5_7⟩) hHeld ?restz5_7
    case hyz5_7 =>
      skip
      go_simp
      try with_reducible rfl
    try simp only [Act.put, List.setIfInBounds_toArray, List.set_cons_zero, List.set_cons_succ]
    refine' wpAnyH_take (i := 8) (oi := ({ dst := some 26, op := Op.move (Operand.tmp 25), type := 4, pos := "l6_journal.go:341", after := #[{ on := 7, ground := Ground.data }, { on := 2, ground := Ground.chain }], guard := none } : Oper)) (v := _) rfl (by kernel_rfl) (by kernel_rfl) (by kernel_rfl) (fun _ _ _ h => h) (Or.inl ⟨by rfl, fun x hSw => ?hyz5_8⟩) hHeld ?restz5_8
    case hyz5_8 =>
      skip
      go_simp
      try with_reducible rfl
    try simp only [Act.put, List.setIfInBounds_toArray, List.set_cons_zero, List.set_cons_succ]
    refine wpAnyH_take (i := 9) (oi := ({ dst := some 27, op := Op.load 103 (Operand.tmp 3), type := 103, pos := "l6_journal.go:341", after := #[{ on := 8, ground := Ground.guard }], guard := some (8, false) } : Oper)) (v := .agg (tab 256)) rfl (by kernel_rfl) (by kernel_rfl) (by kernel_rfl) (fun _ _ _ h => h) (yieldsIf_load_mid (by rfl) _ _ rfl w.heap.size 0 rfl (tab 256).toList (.array 256 101) (fun x hx => tabRange ((hx.block _ (Array.getElem?_eq_some_iff.1 hT4).1).trans hT4)) Tryz.underlying103 rfl hlen) hHeld ?_
    try simp only [Act.put, List.setIfInBounds_toArray, List.set_cons_zero, List.set_cons_succ]
    refine' wpAnyH_take (i := 10) (oi := ({ dst := some 28, op := Op.move (Operand.tmp 7), type := 9, pos := "l6_journal.go:341", after := #[{ on := 8, ground := Ground.guard }], guard := some (8, false) } : Oper)) (v := _) rfl (by kernel_rfl) (by kernel_rfl) (by kernel_rfl) (fun _ _ _ h => h) (Or.inl ⟨by rfl, fun x hSw => ?hyz5_10⟩) hHeld ?restz5_10
    case hyz5_10 =>
      skip
      go_simp
      try with_reducible rfl
    try simp only [Act.put, List.setIfInBounds_toArray, List.set_cons_zero, List.set_cons_succ]
    refine' wpAnyH_take (i := 11) (oi := ({ dst := some 29, op := Op.move (Operand.tmp 5), type := 3, pos := "l6_journal.go:341", after := #[{ on := 8, ground := Ground.guard }], guard := some (8, false) } : Oper)) (v := _) rfl (by kernel_rfl) (by kernel_rfl) (by kernel_rfl) (fun _ _ _ h => h) (Or.inl ⟨by rfl, fun x hSw => ?hyz5_11⟩) hHeld ?restz5_11
    case hyz5_11 =>
      skip
      go_simp
      try with_reducible rfl
    try simp only [Act.put, List.setIfInBounds_toArray, List.set_cons_zero, List.set_cons_succ]
    refine' wpAnyH_take (i := 12) (oi := ({ dst := some 30, op := Op.slice 9 (Operand.tmp 28) none (some (Operand.tmp 29)) none, type := 9, pos := "l6_journal.go:341", after := #[{ on := 10, ground := Ground.data }, { on := 11, ground := Ground.data }, { on := 8, ground := Ground.guard }], guard := some (8, false) } : Oper)) (v := .string E) rfl (by kernel_rfl) (by kernel_rfl) (by kernel_rfl) (fun _ _ _ h => h) (Or.inl ⟨by rfl, fun x hSw => ?hyz5_12⟩) hHeld ?restz5_12
    case hyz5_12 =>
      skip
      go_simp
      try with_reducible rfl
    try simp only [Act.put, List.setIfInBounds_toArray, List.set_cons_zero, List.set_cons_succ]
    refine' wpAnyH_take (i := 14) (oi := ({ dst := some 32, op := Op.move (Operand.tmp 6), type := 101, pos := "l6_journal.go:341", after := #[{ on := 8, ground := Ground.guard }], guard := some (8, false) } : Oper)) (v := _) rfl (by kernel_rfl) (by kernel_rfl) (by kernel_rfl) (fun _ _ _ h => h) (Or.inl ⟨by rfl, fun x hSw => ?hyz5_14⟩) hHeld ?restz5_14
    case hyz5_14 =>
      skip
      go_simp
      try with_reducible rfl
    try simp only [Act.put, List.setIfInBounds_toArray, List.set_cons_zero, List.set_cons_succ]
    refine wpAnyH_ready (rs := [13]) (by kernel_rfl) (by simp) ?_
    refine AllReadyH.cons (o := ({ dst := some 31, op := Op.call { callee := Callee.value (Operand.func 83), args := #[Operand.tmp 27, Operand.tmp 30], argTypes := #[103, 9] }, type := 101, pos := "l6_journal.go:341", after := #[{ on := 9, ground := Ground.data }, { on := 12, ground := Ground.data }, { on := 8, ground := Ground.chain }, { on := 8, ground := Ground.guard }], guard := some (8, false) } : Oper)) rfl (fun K hK => ?_) AllReadyH.nil
    go_simp
    refine (sumOf E _ (by omega)).mono ?_
    rintro e w5 ⟨rfl, hb5⟩
    refine hK.out _ _ (bstep hHeld hb5) (fun hHeld => ?_)
    clear hK K
    try simp only [Act.put, List.setIfInBounds_toArray, List.set_cons_zero, List.set_cons_succ]
    refine' wpAnyH_take (i := 15) (oi := ({ dst := some 33, op := Op.binOp BinOp.neq 101 (Operand.tmp 31) (Operand.tmp 32) 101, type := 4, pos := "l6_journal.go:341", after := #[{ on := 13, ground := Ground.data }, { on := 14, ground := Ground.data }, { on := 8, ground := Ground.guard }], guard := some (8, false) } : Oper)) (v := .bool true) rfl (by kernel_rfl) (by kernel_rfl) (by kernel_rfl) (fun _ _ _ h => h) (Or.inl ⟨by rfl, fun x hSw => ?hyz5_15⟩) hHeld ?restz5_15
    case hyz5_15 =>
      skip
      go_simp
      try with_reducible rfl
    try simp only [Act.put, List.setIfInBounds_toArray, List.set_cons_zero, List.set_cons_succ]
    refine' wpAnyH_take (i := 16) (oi := ({ dst := some 34, op := Op.pick (Operand.tmp 26) (Operand.const (Value.bool true)) (Operand.tmp 33), type := 4, pos := "l6_journal.go:341", after := #[{ on := 8, ground := Ground.data }, { on := 15, ground := Ground.data }], guard := none } : Oper)) (v := _) rfl (by kernel_rfl) (by kernel_rfl) (by kernel_rfl) (fun _ _ _ h => h) (Or.inl ⟨by rfl, fun x hSw => ?hyz5_16⟩) hHeld ?restz5_16
    case hyz5_16 =>
      skip
      go_simp
      try with_reducible rfl
    try simp only [Act.put, List.setIfInBounds_toArray, List.set_cons_zero, List.set_cons_succ]
    refine wpAnyH_done (by kernel_rfl) ?_ _
    go_wp2
    go_ret
    exact ⟨by rw [HF.out]; rfl, bstep hb4 hHeld⟩
end Go.Proofs.YtngppfjphbodcaaGreatDoor
