/-
  Tables: DbOK, the program's way.
-/
import Derived.Test.YtgeiamgeclbiaaaGreatDoorTp
namespace Go.Proofs.YtgeiamgeclbiaaaGreatDoor
open Go.RowKit Go.Maps Go.WideMaps
abbrev qTq0 : Oper := { dst := some 7, op := Op.fieldAddr 38 (Operand.tmp 1) 0, type := 0, pos := "l5_replay.go:51", after := #[], guard := none }
abbrev qTq1 : Oper := { dst := some 8, op := Op.load 36 (Operand.tmp 7), type := 36, pos := "l5_replay.go:51", after := #[{ on := 0, ground := Ground.data }], guard := none }
abbrev qTq2 : Oper := { dst := some 9, op := Op.call { callee := Callee.value (Operand.func 74), args := #[], argTypes := #[] }, type := 120, pos := "l5_replay.go:51", after := #[], guard := none }
abbrev qTq3 : Oper := { dst := some 10, op := Op.makeFunc (Fn.func 75) #[Operand.tmp 9] #[], type := 118, pos := "l5_replay.go:51", after := #[{ on := 2, ground := Ground.data }], guard := none }
abbrev qTq4 : Oper := { dst := some 11, op := Op.call { callee := Callee.value (Operand.func 73), args := #[Operand.tmp 8, Operand.const (Value.int IntKind.i64 100), Operand.tmp 10], argTypes := #[36, 3, 118] }, type := 4, pos := "l5_replay.go:51", after := #[{ on := 1, ground := Ground.data }, { on := 3, ground := Ground.data }, { on := 2, ground := Ground.chain }], guard := none }
abbrev qTq5 : Oper := { dst := some 12, op := Op.move (Operand.tmp 11), type := 4, pos := "l5_replay.go:51", after := #[{ on := 4, ground := Ground.data }, { on := 4, ground := Ground.chain }], guard := none }
abbrev qTq6 : Oper := { dst := some 13, op := Op.fieldAddr 38 (Operand.tmp 1) 0, type := 0, pos := "l5_replay.go:51", after := #[{ on := 5, ground := Ground.guard }], guard := some (5, true) }
abbrev qTq7 : Oper := { dst := some 14, op := Op.load 36 (Operand.tmp 13), type := 36, pos := "l5_replay.go:51", after := #[{ on := 6, ground := Ground.data }, { on := 5, ground := Ground.guard }], guard := some (5, true) }
abbrev qTq8 : Oper := { dst := some 15, op := Op.call { callee := Callee.value (Operand.func 76), args := #[Operand.tmp 14, Operand.func 77], argTypes := #[36, 123] }, type := 4, pos := "l5_replay.go:51", after := #[{ on := 7, ground := Ground.data }, { on := 5, ground := Ground.chain }, { on := 5, ground := Ground.guard }], guard := some (5, true) }
abbrev qTq9 : Oper := { dst := some 16, op := Op.pick (Operand.tmp 12) (Operand.tmp 15) (Operand.const (Value.bool false)), type := 4, pos := "l5_replay.go:51", after := #[{ on := 5, ground := Ground.data }, { on := 8, ground := Ground.data }], guard := none }
abbrev qTq10 : Oper := { dst := some 2, op := Op.assign (Operand.tmp 16), type := 4, pos := "l5_replay.go:51", after := #[{ on := 9, ground := Ground.data }, { on := 8, ground := Ground.chain }, { on := 0, ground := Ground.phase }, { on := 1, ground := Ground.phase }, { on := 2, ground := Ground.phase }, { on := 3, ground := Ground.phase }, { on := 4, ground := Ground.phase }, { on := 5, ground := Ground.phase }, { on := 6, ground := Ground.phase }, { on := 7, ground := Ground.phase }, { on := 8, ground := Ground.phase }, { on := 9, ground := Ground.phase }], guard := none }
/-- A table is right. -/
def okTd (d : Td) : Bool := okTab d.s d.n d.C d.r d.m d.R
def allT (n : Nat) (T : Nat → Td) : Bool := decide (n ≤ 100) && allN n (fun k => okTd (T k))
def okDb (n : Nat) (T : Nat → Td) : Bool := allT n T && allN n (ltD T)
theorem allT_out {n : Nat} {T : Nat → Td} (h : 100 < n) : allT n T = false := by unfold allT; rw [decide_eq_false (by omega)]; rfl
theorem allT_no {n k : Nat} {T : Nat → Td} (hk : k < n) (h : okTd (T k) = false) : allT n T = false := by unfold allT; rw [allN_false (p := fun k => okTd (T k)) hk h]; simp
theorem allT_yes {n : Nat} {T : Nat → Td} (hn : n ≤ 100) (h : ∀ k, k < n → okTd (T k) = true) : allT n T = true := by unfold allT; rw [allN_true h, decide_eq_true hn]; rfl
set_option maxRecDepth 20000 in
set_option maxHeartbeats 4000000 in
theorem iAllTab (b : Nat) (a : Option Addr) (n c : Nat) (T : Nat → Td) (w : World) (hK : KwAt w b) (h : TL w a n T) (hn : n ≤ 1048576) (h0 : 0 < n) :
    Calls Tryz.prog 73 #[.slice a n c, .int .i64 100, .func (.func 75) #[.map (some b)] #[]] w fun e w' => e = .returned (.bool (allT n T)) ∧ Below w.heap.size w w' := by
  have hb0 := Below.refl w.heap.size w
  go_enter Tryz.func73, Tryz.ntmps73
  have h0' : ((n : Int) == 0) = false := by simp; omega
  by_cases h20 : 100 < n
  · have h20' : (100 : Int) < n := by omega
    go_wp2
    go_ret
    exact ⟨retB (allT_out h20).symm, hb0⟩
  have h20' : (n : Int) ≤ 100 := by omega
  go_wp2
  go_loopw [20] (fun i wr => ∃ k : Nat, k ≤ n ∧ i = .int .i64 k ∧ (∀ j, j < k → okTd (T j) = true) ∧ Below w.heap.size w wr) (fun i _ => n - (intOf i).toNat)
  case atStart => exact ⟨0, by omega, rfl, fun j hj => by omega, hb0⟩
  case round =>
    obtain ⟨j, hj, rfl, hall, hb2⟩ := hrel
    by_cases hlt : j < n
    · obtain ⟨b', off, ac, cc, ar, cr, rfl, d0, d1, d2, hC, hO, hs⟩ := h.later hb2 j hlt
      have hB := bal wr (.cells #[.string (T j).s, .slice ac (T j).n cc, .slice ar (T j).r cr] 62)
      have hK2 := hK.later (bstep hb2 hB)
      have hC2 := hC.later hB
      have hO2 := hO.later hB
      go_wp2_with (go_at_call 75; refine (iTable b _ _ _ _ _ _ ac cc ar cr _ hK2 hC2 hO2 hs).mono ?_; rintro e w3 ⟨rfl, hb3⟩; replace hb3 := bj hb2 hb3; rcases ho : okTab (T j).s (T j).n (T j).C (T j).r (T j).m (T j).R)
      · go_ret
        exact ⟨retB (allT_no hlt ho).symm, hb3⟩
      · go_roundw
        case rel => exact ⟨j + 1, by omega, by go_num, fun i hi => by
          by_cases e : i = j
          · subst e; exact ho
          · exact hall i (by omega), hb3⟩
        case measure => simp [intOf]; omega
    · obtain rfl : j = n := by omega
      go_wp2
      go_ret
      exact ⟨retB (allT_yes (by omega) hall).symm, hb2⟩
set_option maxRecDepth 20000 in
set_option maxHeartbeats 4000000 in
theorem iDb (a : Option Addr) (n c : Nat) (T : Nat → Td) (w : World) (hT : SpT w) (h : TL w a n T) (hn : n ≤ 1048576) :
    Calls Tryz.prog 34 #[.agg #[.slice a n c]] w fun e w' => e = .returned (.bool (okDb n T)) ∧ Below w.heap.size w w' := by
  have hb0 := bal w (.cells #[.slice a n c] 38)
  have hX0 := heap_alloc_new w (.cells #[.slice a n c] 38)
  have c0 : (w.alloc (.cells #[.slice a n c] 38)).cell? ⟨w.heap.size, 0, none⟩ = some (.slice a n c) := (cell_of_row _ _ 0 _ _ _ hX0).trans rfl
  clear hX0
  by_cases h0 : n = 0
  · subst h0
    go_enter Tryz.func34, Tryz.ntmps34
    go_wp2
    go_ret
    exact ⟨rfl, hb0⟩
  have h0' : ((n : Int) == 0) = false := by simp; omega
  rcases hq1 : allT n T
  · have HF : Hid (okDb n T = false) := by show _ = _; unfold okDb; rw [hq1]; rfl
    go_enter Tryz.func34, Tryz.ntmps34
    go_wp2
    refine wp_region_held_drew (S := fun x => Below (w.alloc (.cells #[.slice a n c] 38)).heap.size (w.alloc (.cells #[.slice a n c] 38)) x) (by kernel_rfl) (bdrew _) (fun hHeld => ?_)
    refine' takeF (i := 0) (oi := qTq0) rfl ⟨by rfl, fun x hSw => ?h1⟩ hHeld ?r1
    case h1 =>
      go_simp
      try with_reducible rfl
    try simp only [Act.put, List.setIfInBounds_toArray, List.set_cons_zero, List.set_cons_succ]
    refine' takeF (i := 1) (oi := qTq1) rfl ⟨by rfl, fun x hSw => ?h2⟩ hHeld ?r2
    case h2 =>
      have k0 := keepB hSw c0
      go_simp
      try with_reducible rfl
    try simp only [Act.put, List.setIfInBounds_toArray, List.set_cons_zero, List.set_cons_succ]
    refine wpAnyH_ready (rs := [2]) (by kernel_rfl) (by simp) ?_
    refine AllReadyH.cons (o := qTq2) rfl (fun K hK => ?_) AllReadyH.nil
    go_simp
    refine (iKeywords _ (hT.later (bstep hb0 hHeld))).mono ?_
    rintro e w1 ⟨b, rfl, hKw, hb1⟩
    refine hK.out _ _ (bstep hHeld hb1) (fun hHeld => ?_)
    clear hK K
    try simp only [Act.put, List.setIfInBounds_toArray, List.set_cons_zero, List.set_cons_succ]
    refine' takeF (i := 3) (oi := qTq3) rfl ⟨by rfl, fun x hSw => ?h3⟩ hHeld ?r3
    case h3 =>
      go_simp
      try with_reducible rfl
    try simp only [Act.put, List.setIfInBounds_toArray, List.set_cons_zero, List.set_cons_succ]
    refine wpAnyH_ready (rs := [4]) (by kernel_rfl) (by simp) ?_
    refine AllReadyH.cons (o := qTq4) rfl (fun K hK => ?_) AllReadyH.nil
    go_simp
    refine (iAllTab b _ _ _ T _ hKw (h.later (bstep hb0 hHeld)) hn (by omega)).mono ?_
    rw [hq1]; rintro e w2 ⟨rfl, hb2⟩
    refine hK.out _ _ (bstep hHeld hb2) (fun hHeld => ?_)
    clear hK K
    try simp only [Act.put, List.setIfInBounds_toArray, List.set_cons_zero, List.set_cons_succ]
    refine' takeF (i := 5) (oi := qTq5) rfl ⟨by rfl, fun x hSw => ?h4⟩ hHeld ?r4
    case h4 =>
      go_simp
      try with_reducible rfl
    try simp only [Act.put, List.setIfInBounds_toArray, List.set_cons_zero, List.set_cons_succ]
    refine wpAnyH_take (i := 6) (oi := qTq6) (v := undef) rfl (by kernel_rfl) (by kernel_rfl) (by kernel_rfl) (fun _ _ _ h => h) (Or.inr ⟨by rfl, rfl⟩) hHeld ?_
    try simp only [Act.put, List.setIfInBounds_toArray, List.set_cons_zero, List.set_cons_succ]
    refine wpAnyH_take (i := 7) (oi := qTq7) (v := undef) rfl (by kernel_rfl) (by kernel_rfl) (by kernel_rfl) (fun _ _ _ h => h) (Or.inr ⟨by rfl, rfl⟩) hHeld ?_
    try simp only [Act.put, List.setIfInBounds_toArray, List.set_cons_zero, List.set_cons_succ]
    refine wpAnyH_take (i := 8) (oi := qTq8) (v := undef) rfl (by kernel_rfl) (by kernel_rfl) (by kernel_rfl) (fun _ _ _ h => h) (Or.inr ⟨by rfl, rfl⟩) hHeld ?_
    try simp only [Act.put, List.setIfInBounds_toArray, List.set_cons_zero, List.set_cons_succ]
    refine' takeF (i := 9) (oi := qTq9) rfl ⟨by rfl, fun x hSw => ?h5⟩ hHeld ?r5
    case h5 =>
      go_simp
      try with_reducible rfl
    try simp only [Act.put, List.setIfInBounds_toArray, List.set_cons_zero, List.set_cons_succ]
    refine' takeF (i := 10) (oi := qTq10) rfl ⟨by rfl, fun x hSw => ?h6⟩ hHeld ?r6
    case h6 =>
      go_simp
      try with_reducible rfl
    try simp only [Act.put, List.setIfInBounds_toArray, List.set_cons_zero, List.set_cons_succ]
    refine wpAnyH_done (by kernel_rfl) ?_ _
    go_wp2
    go_ret
    exact ⟨retB HF.out.symm, bstep hb0 hHeld⟩
  · have HF : Hid (okDb n T = allN n (ltD T)) := by show _ = _; unfold okDb; rw [hq1]; rfl
    go_enter Tryz.func34, Tryz.ntmps34
    go_wp2
    refine wp_region_held_drew (S := fun x => Below (w.alloc (.cells #[.slice a n c] 38)).heap.size (w.alloc (.cells #[.slice a n c] 38)) x) (by kernel_rfl) (bdrew _) (fun hHeld => ?_)
    refine' takeF (i := 0) (oi := qTq0) rfl ⟨by rfl, fun x hSw => ?h7⟩ hHeld ?r7
    case h7 =>
      go_simp
      try with_reducible rfl
    try simp only [Act.put, List.setIfInBounds_toArray, List.set_cons_zero, List.set_cons_succ]
    refine' takeF (i := 1) (oi := qTq1) rfl ⟨by rfl, fun x hSw => ?h8⟩ hHeld ?r8
    case h8 =>
      have k0 := keepB hSw c0
      go_simp
      try with_reducible rfl
    try simp only [Act.put, List.setIfInBounds_toArray, List.set_cons_zero, List.set_cons_succ]
    refine wpAnyH_ready (rs := [2]) (by kernel_rfl) (by simp) ?_
    refine AllReadyH.cons (o := qTq2) rfl (fun K hK => ?_) AllReadyH.nil
    go_simp
    refine (iKeywords _ (hT.later (bstep hb0 hHeld))).mono ?_
    rintro e w1 ⟨b, rfl, hKw, hb1⟩
    refine hK.out _ _ (bstep hHeld hb1) (fun hHeld => ?_)
    clear hK K
    try simp only [Act.put, List.setIfInBounds_toArray, List.set_cons_zero, List.set_cons_succ]
    refine' takeF (i := 3) (oi := qTq3) rfl ⟨by rfl, fun x hSw => ?h9⟩ hHeld ?r9
    case h9 =>
      go_simp
      try with_reducible rfl
    try simp only [Act.put, List.setIfInBounds_toArray, List.set_cons_zero, List.set_cons_succ]
    refine wpAnyH_ready (rs := [4]) (by kernel_rfl) (by simp) ?_
    refine AllReadyH.cons (o := qTq4) rfl (fun K hK => ?_) AllReadyH.nil
    go_simp
    refine (iAllTab b _ _ _ T _ hKw (h.later (bstep hb0 hHeld)) hn (by omega)).mono ?_
    rw [hq1]; rintro e w2 ⟨rfl, hb2⟩
    refine hK.out _ _ (bstep hHeld hb2) (fun hHeld => ?_)
    clear hK K
    try simp only [Act.put, List.setIfInBounds_toArray, List.set_cons_zero, List.set_cons_succ]
    refine' takeF (i := 5) (oi := qTq5) rfl ⟨by rfl, fun x hSw => ?h10⟩ hHeld ?r10
    case h10 =>
      go_simp
      try with_reducible rfl
    try simp only [Act.put, List.setIfInBounds_toArray, List.set_cons_zero, List.set_cons_succ]
    refine' takeF (i := 6) (oi := qTq6) rfl ⟨by rfl, fun x hSw => ?h11⟩ hHeld ?r11
    case h11 =>
      go_simp
      try with_reducible rfl
    try simp only [Act.put, List.setIfInBounds_toArray, List.set_cons_zero, List.set_cons_succ]
    refine' takeF (i := 7) (oi := qTq7) rfl ⟨by rfl, fun x hSw => ?h12⟩ hHeld ?r12
    case h12 =>
      have k0 := keepB hSw c0
      go_simp
      try with_reducible rfl
    try simp only [Act.put, List.setIfInBounds_toArray, List.set_cons_zero, List.set_cons_succ]
    refine wpAnyH_ready (rs := [8]) (by kernel_rfl) (by simp) ?_
    refine AllReadyH.cons (o := qTq8) rfl (fun K hK => ?_) AllReadyH.nil
    go_simp
    refine (iSortD _ _ _ T _ (h.later (bstep hb0 hHeld)) hn).mono ?_
    rintro e w3 ⟨rfl, hb3⟩
    refine hK.out _ _ (bstep hHeld hb3) (fun hHeld => ?_)
    clear hK K
    try simp only [Act.put, List.setIfInBounds_toArray, List.set_cons_zero, List.set_cons_succ]
    refine' takeF (i := 9) (oi := qTq9) rfl ⟨by rfl, fun x hSw => ?h13⟩ hHeld ?r13
    case h13 =>
      go_simp
      try with_reducible rfl
    try simp only [Act.put, List.setIfInBounds_toArray, List.set_cons_zero, List.set_cons_succ]
    refine' takeF (i := 10) (oi := qTq10) rfl ⟨by rfl, fun x hSw => ?h14⟩ hHeld ?r14
    case h14 =>
      go_simp
      try with_reducible rfl
    try simp only [Act.put, List.setIfInBounds_toArray, List.set_cons_zero, List.set_cons_succ]
    refine wpAnyH_done (by kernel_rfl) ?_ _
    go_wp2
    go_ret
    exact ⟨retB HF.out.symm, bstep hb0 hHeld⟩
end Go.Proofs.YtgeiamgeclbiaaaGreatDoor
