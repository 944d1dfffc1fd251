/-
  Tables: DbOK, the program's way.
-/
import Derived.Test.YtfodndnkhgijmaaDoorTp
namespace Go.Proofs.YtfodndnkhgijmaaDoor
open Go.RowKit Go.Maps Go.WideMaps
/-- A table is right. -/
def okTd (d : Td) : Bool := okTab d.s d.n d.C d.r d.m d.R
def allT (n : Nat) (T : Nat → Td) : Bool := decide (n ≤ 100) && allN n (fun k => okTd (T k))
def okDb (n : Nat) (T : Nat → Td) : Bool := allT n T && allN n (ltD T)
theorem allT_out {n : Nat} {T : Nat → Td} (h : 100 < n) : allT n T = false := by unfold allT; rw [decide_eq_false (by omega)]; rfl
theorem allT_no {n k : Nat} {T : Nat → Td} (hk : k < n) (h : okTd (T k) = false) : allT n T = false := by unfold allT; rw [allN_false (p := fun k => okTd (T k)) hk h]; simp
theorem allT_yes {n : Nat} {T : Nat → Td} (hn : n ≤ 100) (h : ∀ k, k < n → okTd (T k) = true) : allT n T = true := by unfold allT; rw [allN_true h, decide_eq_true hn]; rfl
set_option maxRecDepth 20000 in
set_option maxHeartbeats 4000000 in
theorem iAllTab (b : Nat) (a : Option Addr) (n c : Nat) (T : Nat → Td) (w : World) (hK : KwAt w b) (h : TL w a n T) (hn : n ≤ 1048576) (h0 : 0 < n) :
    Calls Tryd.prog 21 #[.slice a n c, .int .i64 100, .func (.func 23) #[.map (some b)] #[]] w fun e w' => e = .returned (.bool (allT n T)) ∧ Below w.heap.size w w' := by
  have hb0 := Below.refl w.heap.size w
  go_enter Tryd.func21, Tryd.ntmps21
  have h0' : ((n : Int) == 0) = false := by simp; omega
  by_cases h20 : 100 < n
  · have h20' : (100 : Int) < n := by omega
    go_wp2
    go_ret
    exact ⟨retB (allT_out h20).symm, hb0⟩
  have h20' : (n : Int) ≤ 100 := by omega
  go_wp2
  go_loopw [20] (fun i wr => ∃ k : Nat, k ≤ n ∧ i = .int .i64 k ∧ (∀ j, j < k → okTd (T j) = true) ∧ Below w.heap.size w wr) (fun i _ => n - (intOf i).toNat)
  case atStart => exact ⟨0, by omega, rfl, fun j hj => by omega, hb0⟩
  case round =>
    obtain ⟨j, hj, rfl, hall, hb2⟩ := hrel
    by_cases hlt : j < n
    · obtain ⟨b', off, ac, cc, ar, cr, rfl, d0, d1, d2, hC, hO, hs⟩ := h.later hb2 j hlt
      have hB := bal wr (.cells #[.string (T j).s, .slice ac (T j).n cc, .slice ar (T j).r cr] 54)
      have hK2 := hK.later (bstep hb2 hB)
      have hC2 := hC.later hB
      have hO2 := hO.later hB
      go_wp2_with (go_at_call 23; refine (iTable b _ _ _ _ _ _ ac cc ar cr _ hK2 hC2 hO2 hs).mono ?_; rintro e w3 ⟨rfl, hb3⟩; replace hb3 := bj hb2 hb3; rcases ho : okTab (T j).s (T j).n (T j).C (T j).r (T j).m (T j).R)
      · go_ret
        exact ⟨retB (allT_no hlt ho).symm, hb3⟩
      · go_roundw
        case rel => exact ⟨j + 1, by omega, by go_num, fun i hi => by
          by_cases e : i = j
          · subst e; exact ho
          · exact hall i (by omega), hb3⟩
        case measure => simp [intOf]; omega
    · obtain rfl : j = n := by omega
      go_wp2
      go_ret
      exact ⟨retB (allT_yes (by omega) hall).symm, hb2⟩
set_option maxRecDepth 20000 in
set_option maxHeartbeats 4000000 in
theorem iDb (a : Option Addr) (n c : Nat) (T : Nat → Td) (w : World) (hT : SpT w) (h : TL w a n T) (hn : n ≤ 1048576) :
    Calls Tryd.prog 9 #[.agg #[.slice a n c]] w fun e w' => e = .returned (.bool (okDb n T)) ∧ Below w.heap.size w w' := by
  have hb0 := bal w (.cells #[.slice a n c] 29)
  have hX0 := heap_alloc_new w (.cells #[.slice a n c] 29)
  have c0 : (w.alloc (.cells #[.slice a n c] 29)).cell? ⟨w.heap.size, 0, none⟩ = some (.slice a n c) := (cell_of_row _ _ 0 _ _ _ hX0).trans rfl
  clear hX0
  by_cases h0 : n = 0
  · subst h0
    go_enter Tryd.func9, Tryd.ntmps9
    go_wp2
    go_ret
    exact ⟨rfl, hb0⟩
  have h0' : ((n : Int) == 0) = false := by simp; omega
  rcases hq1 : allT n T
  · have HF : Hid (okDb n T = false) := by show _ = _; unfold okDb; rw [hq1]; rfl
    go_enter Tryd.func9, Tryd.ntmps9
    go_wp2
    refine wp_region_held_drew (S := fun x => Below (w.alloc (.cells #[.slice a n c] 29)).heap.size (w.alloc (.cells #[.slice a n c] 29)) x) (by kernel_rfl) (bdrew _) (fun hHeld => ?_)
    refine' wpAnyH_take (i := 0) (oi := ({ dst := some 7, op := Op.fieldAddr 29 (Operand.tmp 1) 0, type := 0, pos := "l5_replay.go:51", after := #[], guard := none } : Oper)) (v := _) rfl (by kernel_rfl) (by kernel_rfl) (by kernel_rfl) (fun _ _ _ h => h) (Or.inl ⟨by rfl, fun x hSw => ?hyz1_0⟩) hHeld ?restz1_0
    case hyz1_0 =>
      have k0 := keepB hSw c0
      go_simp
      try with_reducible rfl
    try simp only [Act.put, List.setIfInBounds_toArray, List.set_cons_zero, List.set_cons_succ]
    refine' wpAnyH_take (i := 1) (oi := ({ dst := some 8, op := Op.load 27 (Operand.tmp 7), type := 27, pos := "l5_replay.go:51", after := #[{ on := 0, ground := Ground.data }], guard := none } : Oper)) (v := _) rfl (by kernel_rfl) (by kernel_rfl) (by kernel_rfl) (fun _ _ _ h => h) (Or.inl ⟨by rfl, fun x hSw => ?hyz1_1⟩) hHeld ?restz1_1
    case hyz1_1 =>
      have k0 := keepB hSw c0
      go_simp
      try with_reducible rfl
    try simp only [Act.put, List.setIfInBounds_toArray, List.set_cons_zero, List.set_cons_succ]
    refine wpAnyH_ready (rs := [2]) (by kernel_rfl) (by simp) ?_
    refine AllReadyH.cons (o := ({ dst := some 9, op := Op.call { callee := Callee.value (Operand.func 22), args := #[], argTypes := #[] }, type := 59, pos := "l5_replay.go:51", after := #[], guard := none } : Oper)) rfl (fun K hK => ?_) AllReadyH.nil
    go_simp
    refine (iKeywords _ (hT.later (bstep hb0 hHeld))).mono ?_
    rintro e w1 ⟨b, rfl, hKw, hb1⟩
    refine hK.out _ _ (bstep hHeld hb1) (fun hHeld => ?_)
    clear hK K
    try simp only [Act.put, List.setIfInBounds_toArray, List.set_cons_zero, List.set_cons_succ]
    refine' wpAnyH_take (i := 3) (oi := ({ dst := some 10, op := Op.makeFunc (Fn.func 23) #[Operand.tmp 9] #[], type := 55, pos := "l5_replay.go:51", after := #[{ on := 2, ground := Ground.data }], guard := none } : Oper)) (v := _) rfl (by kernel_rfl) (by kernel_rfl) (by kernel_rfl) (fun _ _ _ h => h) (Or.inl ⟨by rfl, fun x hSw => ?hyz1_3⟩) hHeld ?restz1_3
    case hyz1_3 =>
      have k0 := keepB hSw c0
      go_simp
      try with_reducible rfl
    try simp only [Act.put, List.setIfInBounds_toArray, List.set_cons_zero, List.set_cons_succ]
    refine wpAnyH_ready (rs := [4]) (by kernel_rfl) (by simp) ?_
    refine AllReadyH.cons (o := ({ dst := some 11, op := Op.call { callee := Callee.value (Operand.func 21), args := #[Operand.tmp 8, Operand.const (Value.int IntKind.i64 100), Operand.tmp 10], argTypes := #[27, 3, 55] }, type := 4, pos := "l5_replay.go:51", after := #[{ on := 1, ground := Ground.data }, { on := 3, ground := Ground.data }, { on := 2, ground := Ground.chain }], guard := none } : Oper)) rfl (fun K hK => ?_) AllReadyH.nil
    go_simp
    refine (iAllTab b _ _ _ T _ hKw (h.later (bstep hb0 hHeld)) hn (by omega)).mono ?_
    rw [hq1]; rintro e w2 ⟨rfl, hb2⟩
    refine hK.out _ _ (bstep hHeld hb2) (fun hHeld => ?_)
    clear hK K
    try simp only [Act.put, List.setIfInBounds_toArray, List.set_cons_zero, List.set_cons_succ]
    refine' wpAnyH_take (i := 5) (oi := ({ dst := some 12, op := Op.move (Operand.tmp 11), type := 4, pos := "l5_replay.go:51", after := #[{ on := 4, ground := Ground.data }, { on := 4, ground := Ground.chain }], guard := none } : Oper)) (v := _) rfl (by kernel_rfl) (by kernel_rfl) (by kernel_rfl) (fun _ _ _ h => h) (Or.inl ⟨by rfl, fun x hSw => ?hyz1_5⟩) hHeld ?restz1_5
    case hyz1_5 =>
      have k0 := keepB hSw c0
      go_simp
      try with_reducible rfl
    try simp only [Act.put, List.setIfInBounds_toArray, List.set_cons_zero, List.set_cons_succ]
    refine wpAnyH_take (i := 6) (oi := ({ dst := some 13, op := Op.fieldAddr 29 (Operand.tmp 1) 0, type := 0, pos := "l5_replay.go:51", after := #[{ on := 5, ground := Ground.guard }], guard := some (5, true) } : Oper)) (v := undef) rfl (by kernel_rfl) (by kernel_rfl) (by kernel_rfl) (fun _ _ _ h => h) (Or.inr ⟨by rfl, rfl⟩) hHeld ?_
    try simp only [Act.put, List.setIfInBounds_toArray, List.set_cons_zero, List.set_cons_succ]
    refine wpAnyH_take (i := 7) (oi := ({ dst := some 14, op := Op.load 27 (Operand.tmp 13), type := 27, pos := "l5_replay.go:51", after := #[{ on := 6, ground := Ground.data }, { on := 5, ground := Ground.guard }], guard := some (5, true) } : Oper)) (v := undef) rfl (by kernel_rfl) (by kernel_rfl) (by kernel_rfl) (fun _ _ _ h => h) (Or.inr ⟨by rfl, rfl⟩) hHeld ?_
    try simp only [Act.put, List.setIfInBounds_toArray, List.set_cons_zero, List.set_cons_succ]
    refine wpAnyH_take (i := 8) (oi := ({ dst := some 15, op := Op.call { callee := Callee.value (Operand.func 24), args := #[Operand.tmp 14, Operand.func 25], argTypes := #[27, 62] }, type := 4, pos := "l5_replay.go:51", after := #[{ on := 7, ground := Ground.data }, { on := 5, ground := Ground.chain }, { on := 5, ground := Ground.guard }], guard := some (5, true) } : Oper)) (v := undef) rfl (by kernel_rfl) (by kernel_rfl) (by kernel_rfl) (fun _ _ _ h => h) (Or.inr ⟨by rfl, rfl⟩) hHeld ?_
    try simp only [Act.put, List.setIfInBounds_toArray, List.set_cons_zero, List.set_cons_succ]
    refine' wpAnyH_take (i := 9) (oi := ({ dst := some 16, op := Op.pick (Operand.tmp 12) (Operand.tmp 15) (Operand.const (Value.bool false)), type := 4, pos := "l5_replay.go:51", after := #[{ on := 5, ground := Ground.data }, { on := 8, ground := Ground.data }], guard := none } : Oper)) (v := _) rfl (by kernel_rfl) (by kernel_rfl) (by kernel_rfl) (fun _ _ _ h => h) (Or.inl ⟨by rfl, fun x hSw => ?hyz1_9⟩) hHeld ?restz1_9
    case hyz1_9 =>
      have k0 := keepB hSw c0
      go_simp
      try with_reducible rfl
    try simp only [Act.put, List.setIfInBounds_toArray, List.set_cons_zero, List.set_cons_succ]
    refine' wpAnyH_take (i := 10) (oi := ({ dst := some 2, op := Op.assign (Operand.tmp 16), type := 4, pos := "l5_replay.go:51", after := #[{ on := 9, ground := Ground.data }, { on := 8, ground := Ground.chain }, { on := 0, ground := Ground.phase }, { on := 1, ground := Ground.phase }, { on := 2, ground := Ground.phase }, { on := 3, ground := Ground.phase }, { on := 4, ground := Ground.phase }, { on := 5, ground := Ground.phase }, { on := 6, ground := Ground.phase }, { on := 7, ground := Ground.phase }, { on := 8, ground := Ground.phase }, { on := 9, ground := Ground.phase }], guard := none } : Oper)) (v := _) rfl (by kernel_rfl) (by kernel_rfl) (by kernel_rfl) (fun _ _ _ h => h) (Or.inl ⟨by rfl, fun x hSw => ?hyz1_10⟩) hHeld ?restz1_10
    case hyz1_10 =>
      have k0 := keepB hSw c0
      go_simp
      try with_reducible rfl
    try simp only [Act.put, List.setIfInBounds_toArray, List.set_cons_zero, List.set_cons_succ]
    refine wpAnyH_done (by kernel_rfl) ?_ _
    go_wp2
    go_ret
    exact ⟨retB HF.out.symm, bstep hb0 hHeld⟩
  · have HF : Hid (okDb n T = allN n (ltD T)) := by show _ = _; unfold okDb; rw [hq1]; rfl
    go_enter Tryd.func9, Tryd.ntmps9
    go_wp2
    refine wp_region_held_drew (S := fun x => Below (w.alloc (.cells #[.slice a n c] 29)).heap.size (w.alloc (.cells #[.slice a n c] 29)) x) (by kernel_rfl) (bdrew _) (fun hHeld => ?_)
    refine' wpAnyH_take (i := 0) (oi := ({ dst := some 7, op := Op.fieldAddr 29 (Operand.tmp 1) 0, type := 0, pos := "l5_replay.go:51", after := #[], guard := none } : Oper)) (v := _) rfl (by kernel_rfl) (by kernel_rfl) (by kernel_rfl) (fun _ _ _ h => h) (Or.inl ⟨by rfl, fun x hSw => ?hyz2_0⟩) hHeld ?restz2_0
    case hyz2_0 =>
      have k0 := keepB hSw c0
      go_simp
      try with_reducible rfl
    try simp only [Act.put, List.setIfInBounds_toArray, List.set_cons_zero, List.set_cons_succ]
    refine' wpAnyH_take (i := 1) (oi := ({ dst := some 8, op := Op.load 27 (Operand.tmp 7), type := 27, pos := "l5_replay.go:51", after := #[{ on := 0, ground := Ground.data }], guard := none } : Oper)) (v := _) rfl (by kernel_rfl) (by kernel_rfl) (by kernel_rfl) (fun _ _ _ h => h) (Or.inl ⟨by rfl, fun x hSw => ?hyz2_1⟩) hHeld ?restz2_1
    case hyz2_1 =>
      have k0 := keepB hSw c0
      go_simp
      try with_reducible rfl
    try simp only [Act.put, List.setIfInBounds_toArray, List.set_cons_zero, List.set_cons_succ]
    refine wpAnyH_ready (rs := [2]) (by kernel_rfl) (by simp) ?_
    refine AllReadyH.cons (o := ({ dst := some 9, op := Op.call { callee := Callee.value (Operand.func 22), args := #[], argTypes := #[] }, type := 59, pos := "l5_replay.go:51", after := #[], guard := none } : Oper)) rfl (fun K hK => ?_) AllReadyH.nil
    go_simp
    refine (iKeywords _ (hT.later (bstep hb0 hHeld))).mono ?_
    rintro e w1 ⟨b, rfl, hKw, hb1⟩
    refine hK.out _ _ (bstep hHeld hb1) (fun hHeld => ?_)
    clear hK K
    try simp only [Act.put, List.setIfInBounds_toArray, List.set_cons_zero, List.set_cons_succ]
    refine' wpAnyH_take (i := 3) (oi := ({ dst := some 10, op := Op.makeFunc (Fn.func 23) #[Operand.tmp 9] #[], type := 55, pos := "l5_replay.go:51", after := #[{ on := 2, ground := Ground.data }], guard := none } : Oper)) (v := _) rfl (by kernel_rfl) (by kernel_rfl) (by kernel_rfl) (fun _ _ _ h => h) (Or.inl ⟨by rfl, fun x hSw => ?hyz2_3⟩) hHeld ?restz2_3
    case hyz2_3 =>
      have k0 := keepB hSw c0
      go_simp
      try with_reducible rfl
    try simp only [Act.put, List.setIfInBounds_toArray, List.set_cons_zero, List.set_cons_succ]
    refine wpAnyH_ready (rs := [4]) (by kernel_rfl) (by simp) ?_
    refine AllReadyH.cons (o := ({ dst := some 11, op := Op.call { callee := Callee.value (Operand.func 21), args := #[Operand.tmp 8, Operand.const (Value.int IntKind.i64 100), Operand.tmp 10], argTypes := #[27, 3, 55] }, type := 4, pos := "l5_replay.go:51", after := #[{ on := 1, ground := Ground.data }, { on := 3, ground := Ground.data }, { on := 2, ground := Ground.chain }], guard := none } : Oper)) rfl (fun K hK => ?_) AllReadyH.nil
    go_simp
    refine (iAllTab b _ _ _ T _ hKw (h.later (bstep hb0 hHeld)) hn (by omega)).mono ?_
    rw [hq1]; rintro e w2 ⟨rfl, hb2⟩
    refine hK.out _ _ (bstep hHeld hb2) (fun hHeld => ?_)
    clear hK K
    try simp only [Act.put, List.setIfInBounds_toArray, List.set_cons_zero, List.set_cons_succ]
    refine' wpAnyH_take (i := 5) (oi := ({ dst := some 12, op := Op.move (Operand.tmp 11), type := 4, pos := "l5_replay.go:51", after := #[{ on := 4, ground := Ground.data }, { on := 4, ground := Ground.chain }], guard := none } : Oper)) (v := _) rfl (by kernel_rfl) (by kernel_rfl) (by kernel_rfl) (fun _ _ _ h => h) (Or.inl ⟨by rfl, fun x hSw => ?hyz2_5⟩) hHeld ?restz2_5
    case hyz2_5 =>
      have k0 := keepB hSw c0
      go_simp
      try with_reducible rfl
    try simp only [Act.put, List.setIfInBounds_toArray, List.set_cons_zero, List.set_cons_succ]
    refine' wpAnyH_take (i := 6) (oi := ({ dst := some 13, op := Op.fieldAddr 29 (Operand.tmp 1) 0, type := 0, pos := "l5_replay.go:51", after := #[{ on := 5, ground := Ground.guard }], guard := some (5, true) } : Oper)) (v := _) rfl (by kernel_rfl) (by kernel_rfl) (by kernel_rfl) (fun _ _ _ h => h) (Or.inl ⟨by rfl, fun x hSw => ?hyz2_6⟩) hHeld ?restz2_6
    case hyz2_6 =>
      have k0 := keepB hSw c0
      go_simp
      try with_reducible rfl
    try simp only [Act.put, List.setIfInBounds_toArray, List.set_cons_zero, List.set_cons_succ]
    refine' wpAnyH_take (i := 7) (oi := ({ dst := some 14, op := Op.load 27 (Operand.tmp 13), type := 27, pos := "l5_replay.go:51", after := #[{ on := 6, ground := Ground.data }, { on := 5, ground := Ground.guard }], guard := some (5, true) } : Oper)) (v := _) rfl (by kernel_rfl) (by kernel_rfl) (by kernel_rfl) (fun _ _ _ h => h) (Or.inl ⟨by rfl, fun x hSw => ?hyz2_7⟩) hHeld ?restz2_7
    case hyz2_7 =>
      have k0 := keepB hSw c0
      go_simp
      try with_reducible rfl
    try simp only [Act.put, List.setIfInBounds_toArray, List.set_cons_zero, List.set_cons_succ]
    refine wpAnyH_ready (rs := [8]) (by kernel_rfl) (by simp) ?_
    refine AllReadyH.cons (o := ({ dst := some 15, op := Op.call { callee := Callee.value (Operand.func 24), args := #[Operand.tmp 14, Operand.func 25], argTypes := #[27, 62] }, type := 4, pos := "l5_replay.go:51", after := #[{ on := 7, ground := Ground.data }, { on := 5, ground := Ground.chain }, { on := 5, ground := Ground.guard }], guard := some (5, true) } : Oper)) rfl (fun K hK => ?_) AllReadyH.nil
    go_simp
    refine (iSortD _ _ _ T _ (h.later (bstep hb0 hHeld)) hn).mono ?_
    rintro e w3 ⟨rfl, hb3⟩
    refine hK.out _ _ (bstep hHeld hb3) (fun hHeld => ?_)
    clear hK K
    try simp only [Act.put, List.setIfInBounds_toArray, List.set_cons_zero, List.set_cons_succ]
    refine' wpAnyH_take (i := 9) (oi := ({ dst := some 16, op := Op.pick (Operand.tmp 12) (Operand.tmp 15) (Operand.const (Value.bool false)), type := 4, pos := "l5_replay.go:51", after := #[{ on := 5, ground := Ground.data }, { on := 8, ground := Ground.data }], guard := none } : Oper)) (v := _) rfl (by kernel_rfl) (by kernel_rfl) (by kernel_rfl) (fun _ _ _ h => h) (Or.inl ⟨by rfl, fun x hSw => ?hyz2_9⟩) hHeld ?restz2_9
    case hyz2_9 =>
      have k0 := keepB hSw c0
      go_simp
      try with_reducible rfl
    try simp only [Act.put, List.setIfInBounds_toArray, List.set_cons_zero, List.set_cons_succ]
    refine' wpAnyH_take (i := 10) (oi := ({ dst := some 2, op := Op.assign (Operand.tmp 16), type := 4, pos := "l5_replay.go:51", after := #[{ on := 9, ground := Ground.data }, { on := 8, ground := Ground.chain }, { on := 0, ground := Ground.phase }, { on := 1, ground := Ground.phase }, { on := 2, ground := Ground.phase }, { on := 3, ground := Ground.phase }, { on := 4, ground := Ground.phase }, { on := 5, ground := Ground.phase }, { on := 6, ground := Ground.phase }, { on := 7, ground := Ground.phase }, { on := 8, ground := Ground.phase }, { on := 9, ground := Ground.phase }], guard := none } : Oper)) (v := _) rfl (by kernel_rfl) (by kernel_rfl) (by kernel_rfl) (fun _ _ _ h => h) (Or.inl ⟨by rfl, fun x hSw => ?hyz2_10⟩) hHeld ?restz2_10
    case hyz2_10 =>
      have k0 := keepB hSw c0
      go_simp
      try with_reducible rfl
    try simp only [Act.put, List.setIfInBounds_toArray, List.set_cons_zero, List.set_cons_succ]
    refine wpAnyH_done (by kernel_rfl) ?_ _
    go_wp2
    go_ret
    exact ⟨retB HF.out.symm, bstep hb0 hHeld⟩
end Go.Proofs.YtfodndnkhgijmaaDoor
