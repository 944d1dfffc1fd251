/-
  PrintSql: the program's way.
-/
import Derived.Test.YtnbgdfhfmbgbhaaGreatDoorQh
import Derived.Test.YtnbgdfhfmbgbhaaGreatDoorNn
namespace Go.Proofs.YtnbgdfhfmbgbhaaGreatDoor
open Go.RowKit Go.Maps Go.WideMaps
/-- All numbers of a statement are in range. -/
structure RG (d : St) : Prop where
  va : ∀ j, j < d.n3 → rng (d.V j).m
  ex : ∀ j, j < d.n5 → rng (d.E j).m
  wh : ∀ j, j < d.n6 → rng (d.W j).m
  ou : ∀ k, k < d.n7 → ∀ j, j < d.m7 k → rng (d.O k j).m
/-- A statement as SQL. -/
def sqlS (d : St) : ByteArray :=
  if d.k = 1 then ⟨#[99, 114, 101, 97, 116, 101, 32, 116, 97, 98, 108, 101, 32]⟩ ++ d.tb ++ ⟨#[32, 40]⟩ ++ cm (fun k => colS (d.C k).s (d.C k).t) d.n2 ++ ⟨#[41]⟩
  else if d.k = 2 then ⟨#[105, 110, 115, 101, 114, 116, 32, 105, 110, 116, 111, 32]⟩ ++ d.tb ++ ⟨#[32, 118, 97, 108, 117, 101, 115, 32, 40]⟩ ++ cm (fun k => valS (d.V k).o (d.V k).m (d.V k).s) d.n3 ++ ⟨#[41]⟩
  else if d.k = 3 then ⟨#[117, 112, 100, 97, 116, 101, 32]⟩ ++ d.tb ++ ⟨#[32, 115, 101, 116, 32]⟩ ++ d.col ++ ⟨#[32, 61, 32]⟩ ++ exS d.E d.n5 ++ whS d.W d.n6
  else if d.k = 4 then ⟨#[100, 101, 108, 101, 116, 101, 32, 102, 114, 111, 109, 32]⟩ ++ d.tb ++ whS d.W d.n6
  else ⟨#[115, 101, 108, 101, 99, 116, 32]⟩ ++ cm (fun k => exS (d.O k) (d.m7 k)) d.n7 ++ ⟨#[32, 102, 114, 111, 109, 32]⟩ ++ d.tb ++ whS d.W d.n6
def prS (d : St) : ByteArray := if okStm d then sqlS d else ⟨#[]⟩
theorem name_len {s : ByteArray} (h : okName s = true) : s.size ≤ 30 := by
  simp [okName, okWord] at h
  omega
theorem allN_at' {n : Nat} {p : Nat → Bool} (h : allN n p = true) (j : Nat) (hj : j < n) : p j = true := by
  rcases hq : p j
  · rw [allN_false hj hq] at h; cases h
  · rfl
theorem btw20 {n : Nat} (h : btw n 1 20 = true) : n ≤ 20 := by
  simp [btw] at h
  omega
theorem okS {d : St} (h : okStm d = true) : d.tb.size ≤ 30 ∧ restS d = true := by
  simp only [okStm, Bool.and_eq_true] at h
  exact ⟨name_len h.1.1.1, h.2⟩
theorem okK {d : St} (h : okStm d = true) : d.k = 1 ∨ d.k = 2 ∨ d.k = 3 ∨ d.k = 4 ∨ d.k = 5 := by
  have := (okS h).2
  unfold restS at this
  by_cases e1 : d.k = 1
  · exact .inl e1
  by_cases e2 : d.k = 2
  · exact .inr (.inl e2)
  by_cases e3 : d.k = 3
  · exact .inr (.inr (.inl e3))
  by_cases e4 : d.k = 4
  · exact .inr (.inr (.inr (.inl e4)))
  by_cases e5 : d.k = 5
  · exact .inr (.inr (.inr (.inr e5)))
  rw [if_neg e1, if_neg e2, if_neg e3, if_neg e4, if_neg e5] at this
  cases this
theorem m1 {d : St} (h : okStm d = true) (e : d.k = 1) : d.n2 ≤ 20 ∧ ∀ k, k < d.n2 → (colS (d.C k).s (d.C k).t).size ≤ 1000 ∧ isTyp (d.C k).t = true := by
  have := (okS h).2
  unfold restS at this
  rw [if_pos e, Bool.and_eq_true] at this
  refine ⟨btw20 this.1, fun k hk => ?_⟩
  have h1 := allN_at' this.2 k hk
  simp only [okCol, Bool.and_eq_true] at h1
  have h2 := name_len h1.1
  have h3 := colS_size (d.C k).s (d.C k).t
  exact ⟨by omega, h1.2⟩
theorem m2 {d : St} (h : okStm d = true) (hR : RG d) (e : d.k = 2) : d.n3 ≤ 20 ∧ ∀ k, k < d.n3 → (valS (d.V k).o (d.V k).m (d.V k).s).size ≤ 1000 := by
  have := (okS h).2
  unfold restS at this
  rw [if_neg (by omega), if_pos e, Bool.and_eq_true] at this
  refine ⟨btw20 this.1, fun k hk => ?_⟩
  have h1 := allN_at' this.2 k hk
  have h3 := valS_size (o := (d.V k).o) (s := (d.V k).s) (hR.va k hk)
  have h2 : (d.V k).s.size ≤ 200 := by
    simp [okValue, okText] at h1
    rcases h1 with h1 | h1
    · rw [h1.2]; decide
    · omega
  omega
theorem m3 {d : St} (h : okStm d = true) (e : d.k = 3) : d.col.size ≤ 30 ∧ okExp d.E d.n5 = true ∧ okWhere d.W d.n6 = true := by
  have := (okS h).2
  unfold restS at this
  rw [if_neg (by omega), if_neg (by omega), if_pos e, Bool.and_eq_true, Bool.and_eq_true] at this
  exact ⟨name_len this.1.1, this.1.2, this.2⟩
theorem m4 {d : St} (h : okStm d = true) (e : d.k = 4) : okWhere d.W d.n6 = true := by
  have := (okS h).2
  unfold restS at this
  rwa [if_neg (by omega), if_neg (by omega), if_neg (by omega), if_pos e] at this
theorem m5 {d : St} (h : okStm d = true) (hR : RG d) (e : d.k = 5) : d.n7 ≤ 20 ∧ (∀ k, k < d.n7 → okExp (d.O k) (d.m7 k) = true) ∧ (∀ k, k < d.n7 → (exS (d.O k) (d.m7 k)).size ≤ 42000) ∧ okWhere d.W d.n6 = true := by
  have := (okS h).2
  unfold restS at this
  rw [if_neg (by omega), if_neg (by omega), if_neg (by omega), if_neg (by omega), if_pos e, Bool.and_eq_true, Bool.and_eq_true] at this
  have h1 := fun k hk => allN_at' this.1.2 k hk
  exact ⟨btw20 this.1.1, h1, fun k hk => exS_size (h1 k hk) (hR.ou k hk), this.2⟩
theorem cm_le {T : Nat → ByteArray} {n M : Nat} (hn : n ≤ 20) (h : ∀ k, k < n → (T k).size ≤ M) : (cm T n).size ≤ 20 * (M + 2) :=
  Nat.le_trans (cm_size h n (Nat.le_refl _)) (Nat.mul_le_mul_right _ hn)
set_option maxRecDepth 20000 in
set_option maxHeartbeats 8000000 in
theorem iPrint1 (d : St) (p : Sa) (w : World) (hM : SM w d p) (hT : SpT w) (_hP : PL w) (_hR : RG d) (hok : okStm d = true) (hk : d.k = 1) : Calls Tryz.prog 13 #[.agg (cs8 d p)] w fun e w' => e = .returned (.string (sqlS d)) ∧ Below w.heap.size w w' := by
    have hb0 := bal w (.cells (cs8 d p) 27)
    have hQ0 := B8.new w d p 27
    have htb := (okS hok).1
    have HS : sqlS d = ⟨#[99, 114, 101, 97, 116, 101, 32, 116, 97, 98, 108, 101, 32]⟩ ++ d.tb ++ ⟨#[32, 40]⟩ ++ cm (fun k => colS (d.C k).s (d.C k).t) d.n2 ++ ⟨#[41]⟩ := by unfold sqlS; rw [if_pos hk]
    obtain ⟨l1, l2⟩ := m1 hok hk
    have lz := cm_le l1 (fun k hk => (l2 k hk).1)
    have hL := fun v hb => iListC p.a2 d.n2 p.c2 d.C v (hM.co.later hb) (by omega) (fun k hk => Nat.le_trans (l2 k hk).1 (by omega))
    obtain ⟨X, hX⟩ : ∃ X, cm (fun k => colS (d.C k).s (d.C k).t) d.n2 = X := ⟨_, rfl⟩
    rw [hX] at hL lz HS
    clear hX l2
    have n1 : (d.k == 1) = true := by simp; omega
    have HSS : Hid (sqlS d = ⟨#[99, 114, 101, 97, 116, 101, 32, 116, 97, 98, 108, 101, 32]⟩ ++ d.tb ++ ⟨#[32, 40]⟩ ++ X ++ ⟨#[41]⟩) := HS
    have HOK : Hid (okStm d = true) := hok
    clear HS hk hok
    go_enter Tryz.func13, Tryz.ntmps13
    go_upto_region 3 with (go_at_call 46; refine (iStm d p _ (hM.later hb0) (hT.later hb0)).mono ?_; rw [HOK.out]; rintro e w1 ⟨rfl, hb1⟩; have hQ1 := hQ0.later hb1; have hB1 := bstep hb0 hb1; obtain ⟨x0, x1, x2, x3, x4, x5, x6, x7⟩ := id hQ1)
    go_wp2
    refine wp_region_held_drew (S := fun x => Below w1.heap.size w1 x) (by kernel_rfl) (bdrew _) (fun hHeld => ?_)
    refine' wpAnyH_take (i := 0) (oi := ({ dst := some 10, op := Op.fieldAddr 27 (Operand.tmp 1) 1, type := 0, pos := "l4_stm.go:223", after := #[], guard := none } : Oper)) (v := _) rfl (by kernel_rfl) (by kernel_rfl) (by kernel_rfl) (fun _ _ _ h => h) (Or.inl ⟨by rfl, fun x hSw => ?hyz1_0⟩) hHeld ?restz1_0
    case hyz1_0 =>
      obtain ⟨k0, k1, k2, k3, k4, k5, k6, k7⟩ := hQ1.later hSw
      go_simp
      try with_reducible rfl
    try simp only [Act.put, List.setIfInBounds_toArray, List.set_cons_zero, List.set_cons_succ]
    refine' wpAnyH_take (i := 1) (oi := ({ dst := some 11, op := Op.load 9 (Operand.tmp 10), type := 9, pos := "l4_stm.go:223", after := #[{ on := 0, ground := Ground.data }], guard := none } : Oper)) (v := _) rfl (by kernel_rfl) (by kernel_rfl) (by kernel_rfl) (fun _ _ _ h => h) (Or.inl ⟨by rfl, fun x hSw => ?hyz1_1⟩) hHeld ?restz1_1
    case hyz1_1 =>
      obtain ⟨k0, k1, k2, k3, k4, k5, k6, k7⟩ := hQ1.later hSw
      go_simp
      try with_reducible rfl
    try simp only [Act.put, List.setIfInBounds_toArray, List.set_cons_zero, List.set_cons_succ]
    refine wpAnyH_take (i := 2) (oi := ({ dst := some 12, op := Op.binOp BinOp.add 9 (Operand.const (Value.string { data := #[99, 114, 101, 97, 116, 101, 32, 116, 97, 98, 108, 101, 32] })) (Operand.tmp 11) 9, type := 9, pos := "l4_stm.go:223", after := #[{ on := 1, ground := Ground.data }], guard := none } : Oper)) (v := .string (⟨#[99, 114, 101, 97, 116, 101, 32, 116, 97, 98, 108, 101, 32]⟩ ++ d.tb)) rfl (by kernel_rfl) (by kernel_rfl) (by kernel_rfl) (fun _ _ _ h => h) (Or.inl ⟨by rfl, fun x hSw => (by go_simp; try omega)⟩) hHeld ?_
    try simp only [Act.put, List.setIfInBounds_toArray, List.set_cons_zero, List.set_cons_succ]
    refine wpAnyH_take (i := 3) (oi := ({ dst := some 13, op := Op.binOp BinOp.add 9 (Operand.tmp 12) (Operand.const (Value.string { data := #[32, 40] })) 9, type := 9, pos := "l4_stm.go:223", after := #[{ on := 2, ground := Ground.data }], guard := none } : Oper)) (v := .string (⟨#[99, 114, 101, 97, 116, 101, 32, 116, 97, 98, 108, 101, 32]⟩ ++ d.tb ++ ⟨#[32, 40]⟩)) rfl (by kernel_rfl) (by kernel_rfl) (by kernel_rfl) (fun _ _ _ h => h) (Or.inl ⟨by rfl, fun x hSw => (by go_simp; try omega)⟩) hHeld ?_
    try simp only [Act.put, List.setIfInBounds_toArray, List.set_cons_zero, List.set_cons_succ]
    refine' wpAnyH_take (i := 4) (oi := ({ dst := some 14, op := Op.fieldAddr 27 (Operand.tmp 1) 2, type := 0, pos := "l4_stm.go:223", after := #[], guard := none } : Oper)) (v := _) rfl (by kernel_rfl) (by kernel_rfl) (by kernel_rfl) (fun _ _ _ h => h) (Or.inl ⟨by rfl, fun x hSw => ?hyz1_4⟩) hHeld ?restz1_4
    case hyz1_4 =>
      obtain ⟨k0, k1, k2, k3, k4, k5, k6, k7⟩ := hQ1.later hSw
      go_simp
      try with_reducible rfl
    try simp only [Act.put, List.setIfInBounds_toArray, List.set_cons_zero, List.set_cons_succ]
    refine' wpAnyH_take (i := 5) (oi := ({ dst := some 15, op := Op.load 22 (Operand.tmp 14), type := 22, pos := "l4_stm.go:223", after := #[{ on := 4, ground := Ground.data }], guard := none } : Oper)) (v := _) rfl (by kernel_rfl) (by kernel_rfl) (by kernel_rfl) (fun _ _ _ h => h) (Or.inl ⟨by rfl, fun x hSw => ?hyz1_5⟩) hHeld ?restz1_5
    case hyz1_5 =>
      obtain ⟨k0, k1, k2, k3, k4, k5, k6, k7⟩ := hQ1.later hSw
      go_simp
      try with_reducible rfl
    try simp only [Act.put, List.setIfInBounds_toArray, List.set_cons_zero, List.set_cons_succ]
    refine wpAnyH_ready (rs := [6]) (by kernel_rfl) (by simp) ?_
    refine AllReadyH.cons (o := ({ dst := some 16, op := Op.call { callee := Callee.value (Operand.func 47), args := #[Operand.tmp 15, Operand.func 48], argTypes := #[22, 80] }, type := 9, pos := "l4_stm.go:223", after := #[{ on := 5, ground := Ground.data }], guard := none } : Oper)) rfl (fun K hK => ?_) AllReadyH.nil
    go_simp
    refine (hL _ (bstep hB1 hHeld)).mono ?_
    rintro e w5 ⟨rfl, hb5⟩
    refine hK.out _ _ (bstep hHeld hb5) (fun hHeld => ?_)
    clear hK K
    try simp only [Act.put, List.setIfInBounds_toArray, List.set_cons_zero, List.set_cons_succ]
    refine wpAnyH_take (i := 7) (oi := ({ dst := some 17, op := Op.binOp BinOp.add 9 (Operand.tmp 13) (Operand.tmp 16) 9, type := 9, pos := "l4_stm.go:223", after := #[{ on := 3, ground := Ground.data }, { on := 6, ground := Ground.data }], guard := none } : Oper)) (v := .string (⟨#[99, 114, 101, 97, 116, 101, 32, 116, 97, 98, 108, 101, 32]⟩ ++ d.tb ++ ⟨#[32, 40]⟩ ++ X)) rfl (by kernel_rfl) (by kernel_rfl) (by kernel_rfl) (fun _ _ _ h => h) (Or.inl ⟨by rfl, fun x hSw => (by go_simp; try omega)⟩) hHeld ?_
    try simp only [Act.put, List.setIfInBounds_toArray, List.set_cons_zero, List.set_cons_succ]
    refine wpAnyH_take (i := 8) (oi := ({ dst := some 18, op := Op.binOp BinOp.add 9 (Operand.tmp 17) (Operand.const (Value.string { data := #[41] })) 9, type := 9, pos := "l4_stm.go:223", after := #[{ on := 7, ground := Ground.data }], guard := none } : Oper)) (v := .string (⟨#[99, 114, 101, 97, 116, 101, 32, 116, 97, 98, 108, 101, 32]⟩ ++ d.tb ++ ⟨#[32, 40]⟩ ++ X ++ ⟨#[41]⟩)) rfl (by kernel_rfl) (by kernel_rfl) (by kernel_rfl) (fun _ _ _ h => h) (Or.inl ⟨by rfl, fun x hSw => (by go_simp; try omega)⟩) hHeld ?_
    try simp only [Act.put, List.setIfInBounds_toArray, List.set_cons_zero, List.set_cons_succ]
    refine' wpAnyH_take (i := 9) (oi := ({ dst := some 2, op := Op.assign (Operand.tmp 18), type := 9, pos := "l4_stm.go:223", after := #[{ on := 8, ground := Ground.data }, { on := 6, ground := Ground.chain }, { on := 0, ground := Ground.phase }, { on := 1, ground := Ground.phase }, { on := 2, ground := Ground.phase }, { on := 3, ground := Ground.phase }, { on := 4, ground := Ground.phase }, { on := 5, ground := Ground.phase }, { on := 6, ground := Ground.phase }, { on := 7, ground := Ground.phase }, { on := 8, ground := Ground.phase }], guard := none } : Oper)) (v := _) rfl (by kernel_rfl) (by kernel_rfl) (by kernel_rfl) (fun _ _ _ h => h) (Or.inl ⟨by rfl, fun x hSw => ?hyz1_9⟩) hHeld ?restz1_9
    case hyz1_9 =>
      obtain ⟨k0, k1, k2, k3, k4, k5, k6, k7⟩ := hQ1.later hSw
      go_simp
      try with_reducible rfl
    try simp only [Act.put, List.setIfInBounds_toArray, List.set_cons_zero, List.set_cons_succ]
    refine wpAnyH_done (by kernel_rfl) ?_ _
    go_wp2
    go_ret
    exact ⟨by rw [HSS.out]; rfl, bstep hB1 hHeld⟩
set_option maxRecDepth 20000 in
set_option maxHeartbeats 8000000 in
theorem iPrint2 (d : St) (p : Sa) (w : World) (hM : SM w d p) (hT : SpT w) (hP : PL w) (hR : RG d) (hok : okStm d = true) (hk : d.k = 2) : Calls Tryz.prog 13 #[.agg (cs8 d p)] w fun e w' => e = .returned (.string (sqlS d)) ∧ Below w.heap.size w w' := by
    have hb0 := bal w (.cells (cs8 d p) 27)
    have hQ0 := B8.new w d p 27
    have htb := (okS hok).1
    have HS : sqlS d = ⟨#[105, 110, 115, 101, 114, 116, 32, 105, 110, 116, 111, 32]⟩ ++ d.tb ++ ⟨#[32, 118, 97, 108, 117, 101, 115, 32, 40]⟩ ++ cm (fun k => valS (d.V k).o (d.V k).m (d.V k).s) d.n3 ++ ⟨#[41]⟩ := by unfold sqlS; rw [if_neg (by omega), if_pos hk]
    obtain ⟨l1, l2⟩ := m2 hok hR hk
    have lz := cm_le l1 l2
    have hL := fun v hP hb => iListV p.a3 d.n3 p.c3 d.V v hP (hM.va.later hb) hR.va (by omega) (fun k hk => Nat.le_trans (l2 k hk) (by omega))
    obtain ⟨X, hX⟩ : ∃ X, cm (fun k => valS (d.V k).o (d.V k).m (d.V k).s) d.n3 = X := ⟨_, rfl⟩
    rw [hX] at hL lz HS
    clear hX l2
    have n1 : (d.k == 1) = false := by simp; omega
    have n2 : (d.k == 2) = true := by simp; omega
    have HSS : Hid (sqlS d = ⟨#[105, 110, 115, 101, 114, 116, 32, 105, 110, 116, 111, 32]⟩ ++ d.tb ++ ⟨#[32, 118, 97, 108, 117, 101, 115, 32, 40]⟩ ++ X ++ ⟨#[41]⟩) := HS
    have HOK : Hid (okStm d = true) := hok
    clear HS hk hok
    go_enter Tryz.func13, Tryz.ntmps13
    go_upto_region 3 with (go_at_call 46; refine (iStm d p _ (hM.later hb0) (hT.later hb0)).mono ?_; rw [HOK.out]; rintro e w1 ⟨rfl, hb1⟩; have hQ1 := hQ0.later hb1; have hB1 := bstep hb0 hb1; obtain ⟨x0, x1, x2, x3, x4, x5, x6, x7⟩ := id hQ1)
    go_wp2
    refine wp_region_held_drew (S := fun x => Below w1.heap.size w1 x) (by kernel_rfl) (bdrew _) (fun hHeld => ?_)
    refine' wpAnyH_take (i := 0) (oi := ({ dst := some 21, op := Op.fieldAddr 27 (Operand.tmp 1) 1, type := 0, pos := "l4_stm.go:225", after := #[], guard := none } : Oper)) (v := _) rfl (by kernel_rfl) (by kernel_rfl) (by kernel_rfl) (fun _ _ _ h => h) (Or.inl ⟨by rfl, fun x hSw => ?hyz2_0⟩) hHeld ?restz2_0
    case hyz2_0 =>
      obtain ⟨k0, k1, k2, k3, k4, k5, k6, k7⟩ := hQ1.later hSw
      go_simp
      try with_reducible rfl
    try simp only [Act.put, List.setIfInBounds_toArray, List.set_cons_zero, List.set_cons_succ]
    refine' wpAnyH_take (i := 1) (oi := ({ dst := some 22, op := Op.load 9 (Operand.tmp 21), type := 9, pos := "l4_stm.go:225", after := #[{ on := 0, ground := Ground.data }], guard := none } : Oper)) (v := _) rfl (by kernel_rfl) (by kernel_rfl) (by kernel_rfl) (fun _ _ _ h => h) (Or.inl ⟨by rfl, fun x hSw => ?hyz2_1⟩) hHeld ?restz2_1
    case hyz2_1 =>
      obtain ⟨k0, k1, k2, k3, k4, k5, k6, k7⟩ := hQ1.later hSw
      go_simp
      try with_reducible rfl
    try simp only [Act.put, List.setIfInBounds_toArray, List.set_cons_zero, List.set_cons_succ]
    refine wpAnyH_take (i := 2) (oi := ({ dst := some 23, op := Op.binOp BinOp.add 9 (Operand.const (Value.string { data := #[105, 110, 115, 101, 114, 116, 32, 105, 110, 116, 111, 32] })) (Operand.tmp 22) 9, type := 9, pos := "l4_stm.go:225", after := #[{ on := 1, ground := Ground.data }], guard := none } : Oper)) (v := .string (⟨#[105, 110, 115, 101, 114, 116, 32, 105, 110, 116, 111, 32]⟩ ++ d.tb)) rfl (by kernel_rfl) (by kernel_rfl) (by kernel_rfl) (fun _ _ _ h => h) (Or.inl ⟨by rfl, fun x hSw => (by go_simp; try omega)⟩) hHeld ?_
    try simp only [Act.put, List.setIfInBounds_toArray, List.set_cons_zero, List.set_cons_succ]
    refine wpAnyH_take (i := 3) (oi := ({ dst := some 24, op := Op.binOp BinOp.add 9 (Operand.tmp 23) (Operand.const (Value.string { data := #[32, 118, 97, 108, 117, 101, 115, 32, 40] })) 9, type := 9, pos := "l4_stm.go:225", after := #[{ on := 2, ground := Ground.data }], guard := none } : Oper)) (v := .string (⟨#[105, 110, 115, 101, 114, 116, 32, 105, 110, 116, 111, 32]⟩ ++ d.tb ++ ⟨#[32, 118, 97, 108, 117, 101, 115, 32, 40]⟩)) rfl (by kernel_rfl) (by kernel_rfl) (by kernel_rfl) (fun _ _ _ h => h) (Or.inl ⟨by rfl, fun x hSw => (by go_simp; try omega)⟩) hHeld ?_
    try simp only [Act.put, List.setIfInBounds_toArray, List.set_cons_zero, List.set_cons_succ]
    refine' wpAnyH_take (i := 4) (oi := ({ dst := some 25, op := Op.fieldAddr 27 (Operand.tmp 1) 3, type := 0, pos := "l4_stm.go:225", after := #[], guard := none } : Oper)) (v := _) rfl (by kernel_rfl) (by kernel_rfl) (by kernel_rfl) (fun _ _ _ h => h) (Or.inl ⟨by rfl, fun x hSw => ?hyz2_4⟩) hHeld ?restz2_4
    case hyz2_4 =>
      obtain ⟨k0, k1, k2, k3, k4, k5, k6, k7⟩ := hQ1.later hSw
      go_simp
      try with_reducible rfl
    try simp only [Act.put, List.setIfInBounds_toArray, List.set_cons_zero, List.set_cons_succ]
    refine' wpAnyH_take (i := 5) (oi := ({ dst := some 26, op := Op.load 23 (Operand.tmp 25), type := 23, pos := "l4_stm.go:225", after := #[{ on := 4, ground := Ground.data }], guard := none } : Oper)) (v := _) rfl (by kernel_rfl) (by kernel_rfl) (by kernel_rfl) (fun _ _ _ h => h) (Or.inl ⟨by rfl, fun x hSw => ?hyz2_5⟩) hHeld ?restz2_5
    case hyz2_5 =>
      obtain ⟨k0, k1, k2, k3, k4, k5, k6, k7⟩ := hQ1.later hSw
      go_simp
      try with_reducible rfl
    try simp only [Act.put, List.setIfInBounds_toArray, List.set_cons_zero, List.set_cons_succ]
    refine wpAnyH_ready (rs := [6]) (by kernel_rfl) (by simp) ?_
    refine AllReadyH.cons (o := ({ dst := some 27, op := Op.call { callee := Callee.value (Operand.func 49), args := #[Operand.tmp 26, Operand.func 50], argTypes := #[23, 73] }, type := 9, pos := "l4_stm.go:225", after := #[{ on := 5, ground := Ground.data }], guard := none } : Oper)) rfl (fun K hK => ?_) AllReadyH.nil
    go_simp
    refine (hL _ (hP.later (bstep hB1 hHeld)) (bstep hB1 hHeld)).mono ?_
    rintro e w5 ⟨rfl, hb5⟩
    refine hK.out _ _ (bstep hHeld hb5) (fun hHeld => ?_)
    clear hK K
    try simp only [Act.put, List.setIfInBounds_toArray, List.set_cons_zero, List.set_cons_succ]
    refine wpAnyH_take (i := 7) (oi := ({ dst := some 28, op := Op.binOp BinOp.add 9 (Operand.tmp 24) (Operand.tmp 27) 9, type := 9, pos := "l4_stm.go:225", after := #[{ on := 3, ground := Ground.data }, { on := 6, ground := Ground.data }], guard := none } : Oper)) (v := .string (⟨#[105, 110, 115, 101, 114, 116, 32, 105, 110, 116, 111, 32]⟩ ++ d.tb ++ ⟨#[32, 118, 97, 108, 117, 101, 115, 32, 40]⟩ ++ X)) rfl (by kernel_rfl) (by kernel_rfl) (by kernel_rfl) (fun _ _ _ h => h) (Or.inl ⟨by rfl, fun x hSw => (by go_simp; try omega)⟩) hHeld ?_
    try simp only [Act.put, List.setIfInBounds_toArray, List.set_cons_zero, List.set_cons_succ]
    refine wpAnyH_take (i := 8) (oi := ({ dst := some 29, op := Op.binOp BinOp.add 9 (Operand.tmp 28) (Operand.const (Value.string { data := #[41] })) 9, type := 9, pos := "l4_stm.go:225", after := #[{ on := 7, ground := Ground.data }], guard := none } : Oper)) (v := .string (⟨#[105, 110, 115, 101, 114, 116, 32, 105, 110, 116, 111, 32]⟩ ++ d.tb ++ ⟨#[32, 118, 97, 108, 117, 101, 115, 32, 40]⟩ ++ X ++ ⟨#[41]⟩)) rfl (by kernel_rfl) (by kernel_rfl) (by kernel_rfl) (fun _ _ _ h => h) (Or.inl ⟨by rfl, fun x hSw => (by go_simp; try omega)⟩) hHeld ?_
    try simp only [Act.put, List.setIfInBounds_toArray, List.set_cons_zero, List.set_cons_succ]
    refine' wpAnyH_take (i := 9) (oi := ({ dst := some 2, op := Op.assign (Operand.tmp 29), type := 9, pos := "l4_stm.go:225", after := #[{ on := 8, ground := Ground.data }, { on := 6, ground := Ground.chain }, { on := 0, ground := Ground.phase }, { on := 1, ground := Ground.phase }, { on := 2, ground := Ground.phase }, { on := 3, ground := Ground.phase }, { on := 4, ground := Ground.phase }, { on := 5, ground := Ground.phase }, { on := 6, ground := Ground.phase }, { on := 7, ground := Ground.phase }, { on := 8, ground := Ground.phase }], guard := none } : Oper)) (v := _) rfl (by kernel_rfl) (by kernel_rfl) (by kernel_rfl) (fun _ _ _ h => h) (Or.inl ⟨by rfl, fun x hSw => ?hyz2_9⟩) hHeld ?restz2_9
    case hyz2_9 =>
      obtain ⟨k0, k1, k2, k3, k4, k5, k6, k7⟩ := hQ1.later hSw
      go_simp
      try with_reducible rfl
    try simp only [Act.put, List.setIfInBounds_toArray, List.set_cons_zero, List.set_cons_succ]
    refine wpAnyH_done (by kernel_rfl) ?_ _
    go_wp2
    go_ret
    exact ⟨by rw [HSS.out]; rfl, bstep hB1 hHeld⟩
set_option maxRecDepth 20000 in
set_option maxHeartbeats 8000000 in
theorem iPrint3 (d : St) (p : Sa) (w : World) (hM : SM w d p) (hT : SpT w) (hP : PL w) (hR : RG d) (hok : okStm d = true) (hk : d.k = 3) : Calls Tryz.prog 13 #[.agg (cs8 d p)] w fun e w' => e = .returned (.string (sqlS d)) ∧ Below w.heap.size w w' := by
    have hb0 := bal w (.cells (cs8 d p) 27)
    have hQ0 := B8.new w d p 27
    have htb := (okS hok).1
    have HS : sqlS d = ⟨#[117, 112, 100, 97, 116, 101, 32]⟩ ++ d.tb ++ ⟨#[32, 115, 101, 116, 32]⟩ ++ d.col ++ ⟨#[32, 61, 32]⟩ ++ exS d.E d.n5 ++ whS d.W d.n6 := by unfold sqlS; rw [if_neg (by omega), if_neg (by omega), if_pos hk]
    obtain ⟨l1, l2, l3⟩ := m3 hok hk
    have lz := exS_size l2 hR.ex
    have ly := whS_size l3 hR.wh
    have hL := fun v hP hb => iItems p.a5 d.n5 p.c5 d.E v hP (hM.ex.later hb) hM.l5 l2 hR.ex
    have hY := fun v hP hb => iWhere p.a6 d.n6 p.c6 d.W v hP (hM.wh.later hb) hM.l6 l3 hR.wh
    obtain ⟨X, hX⟩ : ∃ X, exS d.E d.n5 = X := ⟨_, rfl⟩
    obtain ⟨Y, hY2⟩ : ∃ Y, whS d.W d.n6 = Y := ⟨_, rfl⟩
    rw [hX] at hL lz HS
    rw [hY2] at hY ly HS
    clear hX hY2 l2 l3
    have n1 : (d.k == 1) = false := by simp; omega
    have n2 : (d.k == 2) = false := by simp; omega
    have n3 : (d.k == 3) = true := by simp; omega
    have HSS : Hid (sqlS d = ⟨#[117, 112, 100, 97, 116, 101, 32]⟩ ++ d.tb ++ ⟨#[32, 115, 101, 116, 32]⟩ ++ d.col ++ ⟨#[32, 61, 32]⟩ ++ X ++ Y) := HS
    have HOK : Hid (okStm d = true) := hok
    clear HS hk hok
    go_enter Tryz.func13, Tryz.ntmps13
    go_upto_region 3 with (go_at_call 46; refine (iStm d p _ (hM.later hb0) (hT.later hb0)).mono ?_; rw [HOK.out]; rintro e w1 ⟨rfl, hb1⟩; have hQ1 := hQ0.later hb1; have hB1 := bstep hb0 hb1; obtain ⟨x0, x1, x2, x3, x4, x5, x6, x7⟩ := id hQ1)
    go_wp2
    refine wp_region_held_drew (S := fun x => Below w1.heap.size w1 x) (by kernel_rfl) (bdrew _) (fun hHeld => ?_)
    refine' wpAnyH_take (i := 0) (oi := ({ dst := some 32, op := Op.fieldAddr 27 (Operand.tmp 1) 1, type := 0, pos := "l4_stm.go:227", after := #[], guard := none } : Oper)) (v := _) rfl (by kernel_rfl) (by kernel_rfl) (by kernel_rfl) (fun _ _ _ h => h) (Or.inl ⟨by rfl, fun x hSw => ?hyz3_0⟩) hHeld ?restz3_0
    case hyz3_0 =>
      obtain ⟨k0, k1, k2, k3, k4, k5, k6, k7⟩ := hQ1.later hSw
      go_simp
      try with_reducible rfl
    try simp only [Act.put, List.setIfInBounds_toArray, List.set_cons_zero, List.set_cons_succ]
    refine' wpAnyH_take (i := 1) (oi := ({ dst := some 33, op := Op.load 9 (Operand.tmp 32), type := 9, pos := "l4_stm.go:227", after := #[{ on := 0, ground := Ground.data }], guard := none } : Oper)) (v := _) rfl (by kernel_rfl) (by kernel_rfl) (by kernel_rfl) (fun _ _ _ h => h) (Or.inl ⟨by rfl, fun x hSw => ?hyz3_1⟩) hHeld ?restz3_1
    case hyz3_1 =>
      obtain ⟨k0, k1, k2, k3, k4, k5, k6, k7⟩ := hQ1.later hSw
      go_simp
      try with_reducible rfl
    try simp only [Act.put, List.setIfInBounds_toArray, List.set_cons_zero, List.set_cons_succ]
    refine wpAnyH_take (i := 2) (oi := ({ dst := some 34, op := Op.binOp BinOp.add 9 (Operand.const (Value.string { data := #[117, 112, 100, 97, 116, 101, 32] })) (Operand.tmp 33) 9, type := 9, pos := "l4_stm.go:227", after := #[{ on := 1, ground := Ground.data }], guard := none } : Oper)) (v := .string (⟨#[117, 112, 100, 97, 116, 101, 32]⟩ ++ d.tb)) rfl (by kernel_rfl) (by kernel_rfl) (by kernel_rfl) (fun _ _ _ h => h) (Or.inl ⟨by rfl, fun x hSw => (by go_simp; try omega)⟩) hHeld ?_
    try simp only [Act.put, List.setIfInBounds_toArray, List.set_cons_zero, List.set_cons_succ]
    refine wpAnyH_take (i := 3) (oi := ({ dst := some 35, op := Op.binOp BinOp.add 9 (Operand.tmp 34) (Operand.const (Value.string { data := #[32, 115, 101, 116, 32] })) 9, type := 9, pos := "l4_stm.go:227", after := #[{ on := 2, ground := Ground.data }], guard := none } : Oper)) (v := .string (⟨#[117, 112, 100, 97, 116, 101, 32]⟩ ++ d.tb ++ ⟨#[32, 115, 101, 116, 32]⟩)) rfl (by kernel_rfl) (by kernel_rfl) (by kernel_rfl) (fun _ _ _ h => h) (Or.inl ⟨by rfl, fun x hSw => (by go_simp; try omega)⟩) hHeld ?_
    try simp only [Act.put, List.setIfInBounds_toArray, List.set_cons_zero, List.set_cons_succ]
    refine' wpAnyH_take (i := 4) (oi := ({ dst := some 36, op := Op.fieldAddr 27 (Operand.tmp 1) 4, type := 0, pos := "l4_stm.go:227", after := #[], guard := none } : Oper)) (v := _) rfl (by kernel_rfl) (by kernel_rfl) (by kernel_rfl) (fun _ _ _ h => h) (Or.inl ⟨by rfl, fun x hSw => ?hyz3_4⟩) hHeld ?restz3_4
    case hyz3_4 =>
      obtain ⟨k0, k1, k2, k3, k4, k5, k6, k7⟩ := hQ1.later hSw
      go_simp
      try with_reducible rfl
    try simp only [Act.put, List.setIfInBounds_toArray, List.set_cons_zero, List.set_cons_succ]
    refine' wpAnyH_take (i := 5) (oi := ({ dst := some 37, op := Op.load 9 (Operand.tmp 36), type := 9, pos := "l4_stm.go:227", after := #[{ on := 4, ground := Ground.data }], guard := none } : Oper)) (v := _) rfl (by kernel_rfl) (by kernel_rfl) (by kernel_rfl) (fun _ _ _ h => h) (Or.inl ⟨by rfl, fun x hSw => ?hyz3_5⟩) hHeld ?restz3_5
    case hyz3_5 =>
      obtain ⟨k0, k1, k2, k3, k4, k5, k6, k7⟩ := hQ1.later hSw
      go_simp
      try with_reducible rfl
    try simp only [Act.put, List.setIfInBounds_toArray, List.set_cons_zero, List.set_cons_succ]
    refine wpAnyH_take (i := 6) (oi := ({ dst := some 38, op := Op.binOp BinOp.add 9 (Operand.tmp 35) (Operand.tmp 37) 9, type := 9, pos := "l4_stm.go:227", after := #[{ on := 3, ground := Ground.data }, { on := 5, ground := Ground.data }], guard := none } : Oper)) (v := .string (⟨#[117, 112, 100, 97, 116, 101, 32]⟩ ++ d.tb ++ ⟨#[32, 115, 101, 116, 32]⟩ ++ d.col)) rfl (by kernel_rfl) (by kernel_rfl) (by kernel_rfl) (fun _ _ _ h => h) (Or.inl ⟨by rfl, fun x hSw => (by go_simp; try omega)⟩) hHeld ?_
    try simp only [Act.put, List.setIfInBounds_toArray, List.set_cons_zero, List.set_cons_succ]
    refine wpAnyH_take (i := 7) (oi := ({ dst := some 39, op := Op.binOp BinOp.add 9 (Operand.tmp 38) (Operand.const (Value.string { data := #[32, 61, 32] })) 9, type := 9, pos := "l4_stm.go:227", after := #[{ on := 6, ground := Ground.data }], guard := none } : Oper)) (v := .string (⟨#[117, 112, 100, 97, 116, 101, 32]⟩ ++ d.tb ++ ⟨#[32, 115, 101, 116, 32]⟩ ++ d.col ++ ⟨#[32, 61, 32]⟩)) rfl (by kernel_rfl) (by kernel_rfl) (by kernel_rfl) (fun _ _ _ h => h) (Or.inl ⟨by rfl, fun x hSw => (by go_simp; try omega)⟩) hHeld ?_
    try simp only [Act.put, List.setIfInBounds_toArray, List.set_cons_zero, List.set_cons_succ]
    refine' wpAnyH_take (i := 8) (oi := ({ dst := some 40, op := Op.fieldAddr 27 (Operand.tmp 1) 5, type := 0, pos := "l4_stm.go:227", after := #[], guard := none } : Oper)) (v := _) rfl (by kernel_rfl) (by kernel_rfl) (by kernel_rfl) (fun _ _ _ h => h) (Or.inl ⟨by rfl, fun x hSw => ?hyz3_8⟩) hHeld ?restz3_8
    case hyz3_8 =>
      obtain ⟨k0, k1, k2, k3, k4, k5, k6, k7⟩ := hQ1.later hSw
      go_simp
      try with_reducible rfl
    try simp only [Act.put, List.setIfInBounds_toArray, List.set_cons_zero, List.set_cons_succ]
    refine' wpAnyH_take (i := 9) (oi := ({ dst := some 41, op := Op.load 24 (Operand.tmp 40), type := 24, pos := "l4_stm.go:227", after := #[{ on := 8, ground := Ground.data }], guard := none } : Oper)) (v := _) rfl (by kernel_rfl) (by kernel_rfl) (by kernel_rfl) (fun _ _ _ h => h) (Or.inl ⟨by rfl, fun x hSw => ?hyz3_9⟩) hHeld ?restz3_9
    case hyz3_9 =>
      obtain ⟨k0, k1, k2, k3, k4, k5, k6, k7⟩ := hQ1.later hSw
      go_simp
      try with_reducible rfl
    try simp only [Act.put, List.setIfInBounds_toArray, List.set_cons_zero, List.set_cons_succ]
    refine' wpAnyH_take (i := 12) (oi := ({ dst := some 44, op := Op.fieldAddr 27 (Operand.tmp 1) 6, type := 0, pos := "l4_stm.go:227", after := #[], guard := none } : Oper)) (v := _) rfl (by kernel_rfl) (by kernel_rfl) (by kernel_rfl) (fun _ _ _ h => h) (Or.inl ⟨by rfl, fun x hSw => ?hyz3_12⟩) hHeld ?restz3_12
    case hyz3_12 =>
      obtain ⟨k0, k1, k2, k3, k4, k5, k6, k7⟩ := hQ1.later hSw
      go_simp
      try with_reducible rfl
    try simp only [Act.put, List.setIfInBounds_toArray, List.set_cons_zero, List.set_cons_succ]
    refine' wpAnyH_take (i := 13) (oi := ({ dst := some 45, op := Op.load 24 (Operand.tmp 44), type := 24, pos := "l4_stm.go:227", after := #[{ on := 12, ground := Ground.data }], guard := none } : Oper)) (v := _) rfl (by kernel_rfl) (by kernel_rfl) (by kernel_rfl) (fun _ _ _ h => h) (Or.inl ⟨by rfl, fun x hSw => ?hyz3_13⟩) hHeld ?restz3_13
    case hyz3_13 =>
      obtain ⟨k0, k1, k2, k3, k4, k5, k6, k7⟩ := hQ1.later hSw
      go_simp
      try with_reducible rfl
    try simp only [Act.put, List.setIfInBounds_toArray, List.set_cons_zero, List.set_cons_succ]
    refine wpAnyH_ready (rs := [10]) (by kernel_rfl) (by simp) ?_
    refine AllReadyH.cons (o := ({ dst := some 42, op := Op.call { callee := Callee.value (Operand.func 51), args := #[Operand.tmp 41], argTypes := #[24] }, type := 9, pos := "l4_stm.go:227", after := #[{ on := 9, ground := Ground.data }], guard := none } : Oper)) rfl (fun K hK => ?_) AllReadyH.nil
    go_simp
    refine (hL _ (hP.later (bstep hB1 hHeld)) (bstep hB1 hHeld)).mono ?_
    rintro e w5 ⟨rfl, hb5⟩
    refine hK.out _ _ (bstep hHeld hb5) (fun hHeld => ?_)
    clear hK K
    try simp only [Act.put, List.setIfInBounds_toArray, List.set_cons_zero, List.set_cons_succ]
    refine wpAnyH_take (i := 11) (oi := ({ dst := some 43, op := Op.binOp BinOp.add 9 (Operand.tmp 39) (Operand.tmp 42) 9, type := 9, pos := "l4_stm.go:227", after := #[{ on := 7, ground := Ground.data }, { on := 10, ground := Ground.data }], guard := none } : Oper)) (v := .string (⟨#[117, 112, 100, 97, 116, 101, 32]⟩ ++ d.tb ++ ⟨#[32, 115, 101, 116, 32]⟩ ++ d.col ++ ⟨#[32, 61, 32]⟩ ++ X)) rfl (by kernel_rfl) (by kernel_rfl) (by kernel_rfl) (fun _ _ _ h => h) (Or.inl ⟨by rfl, fun x hSw => (by go_simp; try omega)⟩) hHeld ?_
    try simp only [Act.put, List.setIfInBounds_toArray, List.set_cons_zero, List.set_cons_succ]
    refine wpAnyH_ready (rs := [14]) (by kernel_rfl) (by simp) ?_
    refine AllReadyH.cons (o := ({ dst := some 46, op := Op.call { callee := Callee.value (Operand.func 52), args := #[Operand.tmp 45], argTypes := #[24] }, type := 9, pos := "l4_stm.go:227", after := #[{ on := 13, ground := Ground.data }, { on := 10, ground := Ground.chain }], guard := none } : Oper)) rfl (fun K hK => ?_) AllReadyH.nil
    go_simp
    refine (hY _ (hP.later (bstep hB1 hHeld)) (bstep hB1 hHeld)).mono ?_
    rintro e w6 ⟨rfl, hb6⟩
    refine hK.out _ _ (bstep hHeld hb6) (fun hHeld => ?_)
    clear hK K
    try simp only [Act.put, List.setIfInBounds_toArray, List.set_cons_zero, List.set_cons_succ]
    refine wpAnyH_take (i := 15) (oi := ({ dst := some 47, op := Op.binOp BinOp.add 9 (Operand.tmp 43) (Operand.tmp 46) 9, type := 9, pos := "l4_stm.go:227", after := #[{ on := 11, ground := Ground.data }, { on := 14, ground := Ground.data }], guard := none } : Oper)) (v := .string (⟨#[117, 112, 100, 97, 116, 101, 32]⟩ ++ d.tb ++ ⟨#[32, 115, 101, 116, 32]⟩ ++ d.col ++ ⟨#[32, 61, 32]⟩ ++ X ++ Y)) rfl (by kernel_rfl) (by kernel_rfl) (by kernel_rfl) (fun _ _ _ h => h) (Or.inl ⟨by rfl, fun x hSw => (by go_simp; try omega)⟩) hHeld ?_
    try simp only [Act.put, List.setIfInBounds_toArray, List.set_cons_zero, List.set_cons_succ]
    refine' wpAnyH_take (i := 16) (oi := ({ dst := some 2, op := Op.assign (Operand.tmp 47), type := 9, pos := "l4_stm.go:227", after := #[{ on := 15, ground := Ground.data }, { on := 14, ground := Ground.chain }, { on := 0, ground := Ground.phase }, { on := 1, ground := Ground.phase }, { on := 2, ground := Ground.phase }, { on := 3, ground := Ground.phase }, { on := 4, ground := Ground.phase }, { on := 5, ground := Ground.phase }, { on := 6, ground := Ground.phase }, { on := 7, ground := Ground.phase }, { on := 8, ground := Ground.phase }, { on := 9, ground := Ground.phase }, { on := 10, ground := Ground.phase }, { on := 11, ground := Ground.phase }, { on := 12, ground := Ground.phase }, { on := 13, ground := Ground.phase }, { on := 14, ground := Ground.phase }, { on := 15, ground := Ground.phase }], guard := none } : Oper)) (v := _) rfl (by kernel_rfl) (by kernel_rfl) (by kernel_rfl) (fun _ _ _ h => h) (Or.inl ⟨by rfl, fun x hSw => ?hyz3_16⟩) hHeld ?restz3_16
    case hyz3_16 =>
      obtain ⟨k0, k1, k2, k3, k4, k5, k6, k7⟩ := hQ1.later hSw
      go_simp
      try with_reducible rfl
    try simp only [Act.put, List.setIfInBounds_toArray, List.set_cons_zero, List.set_cons_succ]
    refine wpAnyH_done (by kernel_rfl) ?_ _
    go_wp2
    go_ret
    exact ⟨by rw [HSS.out]; rfl, bstep hB1 hHeld⟩
set_option maxRecDepth 20000 in
set_option maxHeartbeats 8000000 in
theorem iPrint4 (d : St) (p : Sa) (w : World) (hM : SM w d p) (hT : SpT w) (hP : PL w) (hR : RG d) (hok : okStm d = true) (hk : d.k = 4) : Calls Tryz.prog 13 #[.agg (cs8 d p)] w fun e w' => e = .returned (.string (sqlS d)) ∧ Below w.heap.size w w' := by
    have hb0 := bal w (.cells (cs8 d p) 27)
    have hQ0 := B8.new w d p 27
    have htb := (okS hok).1
    have HS : sqlS d = ⟨#[100, 101, 108, 101, 116, 101, 32, 102, 114, 111, 109, 32]⟩ ++ d.tb ++ whS d.W d.n6 := by unfold sqlS; rw [if_neg (by omega), if_neg (by omega), if_neg (by omega), if_pos hk]
    have l3 := m4 hok hk
    have ly := whS_size l3 hR.wh
    have hY := fun v hP hb => iWhere p.a6 d.n6 p.c6 d.W v hP (hM.wh.later hb) hM.l6 l3 hR.wh
    obtain ⟨Y, hY2⟩ : ∃ Y, whS d.W d.n6 = Y := ⟨_, rfl⟩
    rw [hY2] at hY ly HS
    clear hY2 l3
    have n1 : (d.k == 1) = false := by simp; omega
    have n2 : (d.k == 2) = false := by simp; omega
    have n3 : (d.k == 3) = false := by simp; omega
    have n4 : (d.k == 4) = true := by simp; omega
    have HSS : Hid (sqlS d = ⟨#[100, 101, 108, 101, 116, 101, 32, 102, 114, 111, 109, 32]⟩ ++ d.tb ++ Y) := HS
    have HOK : Hid (okStm d = true) := hok
    clear HS hk hok
    go_enter Tryz.func13, Tryz.ntmps13
    go_upto_region 3 with (go_at_call 46; refine (iStm d p _ (hM.later hb0) (hT.later hb0)).mono ?_; rw [HOK.out]; rintro e w1 ⟨rfl, hb1⟩; have hQ1 := hQ0.later hb1; have hB1 := bstep hb0 hb1; obtain ⟨x0, x1, x2, x3, x4, x5, x6, x7⟩ := id hQ1)
    go_wp2
    refine wp_region_held_drew (S := fun x => Below w1.heap.size w1 x) (by kernel_rfl) (bdrew _) (fun hHeld => ?_)
    refine' wpAnyH_take (i := 0) (oi := ({ dst := some 50, op := Op.fieldAddr 27 (Operand.tmp 1) 1, type := 0, pos := "l4_stm.go:229", after := #[], guard := none } : Oper)) (v := _) rfl (by kernel_rfl) (by kernel_rfl) (by kernel_rfl) (fun _ _ _ h => h) (Or.inl ⟨by rfl, fun x hSw => ?hyz4_0⟩) hHeld ?restz4_0
    case hyz4_0 =>
      obtain ⟨k0, k1, k2, k3, k4, k5, k6, k7⟩ := hQ1.later hSw
      go_simp
      try with_reducible rfl
    try simp only [Act.put, List.setIfInBounds_toArray, List.set_cons_zero, List.set_cons_succ]
    refine' wpAnyH_take (i := 1) (oi := ({ dst := some 51, op := Op.load 9 (Operand.tmp 50), type := 9, pos := "l4_stm.go:229", after := #[{ on := 0, ground := Ground.data }], guard := none } : Oper)) (v := _) rfl (by kernel_rfl) (by kernel_rfl) (by kernel_rfl) (fun _ _ _ h => h) (Or.inl ⟨by rfl, fun x hSw => ?hyz4_1⟩) hHeld ?restz4_1
    case hyz4_1 =>
      obtain ⟨k0, k1, k2, k3, k4, k5, k6, k7⟩ := hQ1.later hSw
      go_simp
      try with_reducible rfl
    try simp only [Act.put, List.setIfInBounds_toArray, List.set_cons_zero, List.set_cons_succ]
    refine wpAnyH_take (i := 2) (oi := ({ dst := some 52, op := Op.binOp BinOp.add 9 (Operand.const (Value.string { data := #[100, 101, 108, 101, 116, 101, 32, 102, 114, 111, 109, 32] })) (Operand.tmp 51) 9, type := 9, pos := "l4_stm.go:229", after := #[{ on := 1, ground := Ground.data }], guard := none } : Oper)) (v := .string (⟨#[100, 101, 108, 101, 116, 101, 32, 102, 114, 111, 109, 32]⟩ ++ d.tb)) rfl (by kernel_rfl) (by kernel_rfl) (by kernel_rfl) (fun _ _ _ h => h) (Or.inl ⟨by rfl, fun x hSw => (by go_simp; try omega)⟩) hHeld ?_
    try simp only [Act.put, List.setIfInBounds_toArray, List.set_cons_zero, List.set_cons_succ]
    refine' wpAnyH_take (i := 3) (oi := ({ dst := some 53, op := Op.fieldAddr 27 (Operand.tmp 1) 6, type := 0, pos := "l4_stm.go:229", after := #[], guard := none } : Oper)) (v := _) rfl (by kernel_rfl) (by kernel_rfl) (by kernel_rfl) (fun _ _ _ h => h) (Or.inl ⟨by rfl, fun x hSw => ?hyz4_3⟩) hHeld ?restz4_3
    case hyz4_3 =>
      obtain ⟨k0, k1, k2, k3, k4, k5, k6, k7⟩ := hQ1.later hSw
      go_simp
      try with_reducible rfl
    try simp only [Act.put, List.setIfInBounds_toArray, List.set_cons_zero, List.set_cons_succ]
    refine' wpAnyH_take (i := 4) (oi := ({ dst := some 54, op := Op.load 24 (Operand.tmp 53), type := 24, pos := "l4_stm.go:229", after := #[{ on := 3, ground := Ground.data }], guard := none } : Oper)) (v := _) rfl (by kernel_rfl) (by kernel_rfl) (by kernel_rfl) (fun _ _ _ h => h) (Or.inl ⟨by rfl, fun x hSw => ?hyz4_4⟩) hHeld ?restz4_4
    case hyz4_4 =>
      obtain ⟨k0, k1, k2, k3, k4, k5, k6, k7⟩ := hQ1.later hSw
      go_simp
      try with_reducible rfl
    try simp only [Act.put, List.setIfInBounds_toArray, List.set_cons_zero, List.set_cons_succ]
    refine wpAnyH_ready (rs := [5]) (by kernel_rfl) (by simp) ?_
    refine AllReadyH.cons (o := ({ dst := some 55, op := Op.call { callee := Callee.value (Operand.func 52), args := #[Operand.tmp 54], argTypes := #[24] }, type := 9, pos := "l4_stm.go:229", after := #[{ on := 4, ground := Ground.data }], guard := none } : Oper)) rfl (fun K hK => ?_) AllReadyH.nil
    go_simp
    refine (hY _ (hP.later (bstep hB1 hHeld)) (bstep hB1 hHeld)).mono ?_
    rintro e w6 ⟨rfl, hb6⟩
    refine hK.out _ _ (bstep hHeld hb6) (fun hHeld => ?_)
    clear hK K
    try simp only [Act.put, List.setIfInBounds_toArray, List.set_cons_zero, List.set_cons_succ]
    refine wpAnyH_take (i := 6) (oi := ({ dst := some 56, op := Op.binOp BinOp.add 9 (Operand.tmp 52) (Operand.tmp 55) 9, type := 9, pos := "l4_stm.go:229", after := #[{ on := 2, ground := Ground.data }, { on := 5, ground := Ground.data }], guard := none } : Oper)) (v := .string (⟨#[100, 101, 108, 101, 116, 101, 32, 102, 114, 111, 109, 32]⟩ ++ d.tb ++ Y)) rfl (by kernel_rfl) (by kernel_rfl) (by kernel_rfl) (fun _ _ _ h => h) (Or.inl ⟨by rfl, fun x hSw => (by go_simp; try omega)⟩) hHeld ?_
    try simp only [Act.put, List.setIfInBounds_toArray, List.set_cons_zero, List.set_cons_succ]
    refine' wpAnyH_take (i := 7) (oi := ({ dst := some 2, op := Op.assign (Operand.tmp 56), type := 9, pos := "l4_stm.go:229", after := #[{ on := 6, ground := Ground.data }, { on := 5, ground := Ground.chain }, { on := 0, ground := Ground.phase }, { on := 1, ground := Ground.phase }, { on := 2, ground := Ground.phase }, { on := 3, ground := Ground.phase }, { on := 4, ground := Ground.phase }, { on := 5, ground := Ground.phase }, { on := 6, ground := Ground.phase }], guard := none } : Oper)) (v := _) rfl (by kernel_rfl) (by kernel_rfl) (by kernel_rfl) (fun _ _ _ h => h) (Or.inl ⟨by rfl, fun x hSw => ?hyz4_7⟩) hHeld ?restz4_7
    case hyz4_7 =>
      obtain ⟨k0, k1, k2, k3, k4, k5, k6, k7⟩ := hQ1.later hSw
      go_simp
      try with_reducible rfl
    try simp only [Act.put, List.setIfInBounds_toArray, List.set_cons_zero, List.set_cons_succ]
    refine wpAnyH_done (by kernel_rfl) ?_ _
    go_wp2
    go_ret
    exact ⟨by rw [HSS.out]; rfl, bstep hB1 hHeld⟩
set_option maxRecDepth 20000 in
set_option maxHeartbeats 8000000 in
theorem iPrint5 (d : St) (p : Sa) (w : World) (hM : SM w d p) (hT : SpT w) (hP : PL w) (hR : RG d) (hok : okStm d = true) (hk : d.k = 5) : Calls Tryz.prog 13 #[.agg (cs8 d p)] w fun e w' => e = .returned (.string (sqlS d)) ∧ Below w.heap.size w w' := by
    have hb0 := bal w (.cells (cs8 d p) 27)
    have hQ0 := B8.new w d p 27
    have htb := (okS hok).1
    have HS : sqlS d = ⟨#[115, 101, 108, 101, 99, 116, 32]⟩ ++ cm (fun k => exS (d.O k) (d.m7 k)) d.n7 ++ ⟨#[32, 102, 114, 111, 109, 32]⟩ ++ d.tb ++ whS d.W d.n6 := by unfold sqlS; rw [if_neg (by omega), if_neg (by omega), if_neg (by omega), if_neg (by omega)]
    obtain ⟨l1, l2, l4, l3⟩ := m5 hok hR hk
    have lz := cm_le l1 l4
    have ly := whS_size l3 hR.wh
    have hL := fun v hP hb => iListO p.a7 d.n7 p.c7 d.m7 d.O v hP (hM.ou.later hb) l2 hR.ou (by omega) (fun k hk => Nat.le_trans (l4 k hk) (by omega))
    have hY := fun v hP hb => iWhere p.a6 d.n6 p.c6 d.W v hP (hM.wh.later hb) hM.l6 l3 hR.wh
    obtain ⟨X, hX⟩ : ∃ X, cm (fun k => exS (d.O k) (d.m7 k)) d.n7 = X := ⟨_, rfl⟩
    obtain ⟨Y, hY2⟩ : ∃ Y, whS d.W d.n6 = Y := ⟨_, rfl⟩
    rw [hX] at hL lz HS
    rw [hY2] at hY ly HS
    clear hX hY2 l2 l3 l4
    have n1 : (d.k == 1) = false := by simp; omega
    have n2 : (d.k == 2) = false := by simp; omega
    have n3 : (d.k == 3) = false := by simp; omega
    have n4 : (d.k == 4) = false := by simp; omega
    have HSS : Hid (sqlS d = ⟨#[115, 101, 108, 101, 99, 116, 32]⟩ ++ X ++ ⟨#[32, 102, 114, 111, 109, 32]⟩ ++ d.tb ++ Y) := HS
    have HOK : Hid (okStm d = true) := hok
    clear HS hk hok
    go_enter Tryz.func13, Tryz.ntmps13
    go_upto_region 3 with (go_at_call 46; refine (iStm d p _ (hM.later hb0) (hT.later hb0)).mono ?_; rw [HOK.out]; rintro e w1 ⟨rfl, hb1⟩; have hQ1 := hQ0.later hb1; have hB1 := bstep hb0 hb1; obtain ⟨x0, x1, x2, x3, x4, x5, x6, x7⟩ := id hQ1)
    go_wp2
    refine wp_region_held_drew (S := fun x => Below w1.heap.size w1 x) (by kernel_rfl) (bdrew _) (fun hHeld => ?_)
    refine' wpAnyH_take (i := 0) (oi := ({ dst := some 57, op := Op.fieldAddr 27 (Operand.tmp 1) 7, type := 0, pos := "l4_stm.go:231", after := #[], guard := none } : Oper)) (v := _) rfl (by kernel_rfl) (by kernel_rfl) (by kernel_rfl) (fun _ _ _ h => h) (Or.inl ⟨by rfl, fun x hSw => ?hyz5_0⟩) hHeld ?restz5_0
    case hyz5_0 =>
      obtain ⟨k0, k1, k2, k3, k4, k5, k6, k7⟩ := hQ1.later hSw
      go_simp
      try with_reducible rfl
    try simp only [Act.put, List.setIfInBounds_toArray, List.set_cons_zero, List.set_cons_succ]
    refine' wpAnyH_take (i := 1) (oi := ({ dst := some 58, op := Op.load 25 (Operand.tmp 57), type := 25, pos := "l4_stm.go:231", after := #[{ on := 0, ground := Ground.data }], guard := none } : Oper)) (v := _) rfl (by kernel_rfl) (by kernel_rfl) (by kernel_rfl) (fun _ _ _ h => h) (Or.inl ⟨by rfl, fun x hSw => ?hyz5_1⟩) hHeld ?restz5_1
    case hyz5_1 =>
      obtain ⟨k0, k1, k2, k3, k4, k5, k6, k7⟩ := hQ1.later hSw
      go_simp
      try with_reducible rfl
    try simp only [Act.put, List.setIfInBounds_toArray, List.set_cons_zero, List.set_cons_succ]
    refine' wpAnyH_take (i := 5) (oi := ({ dst := some 62, op := Op.fieldAddr 27 (Operand.tmp 1) 1, type := 0, pos := "l4_stm.go:231", after := #[], guard := none } : Oper)) (v := _) rfl (by kernel_rfl) (by kernel_rfl) (by kernel_rfl) (fun _ _ _ h => h) (Or.inl ⟨by rfl, fun x hSw => ?hyz5_5⟩) hHeld ?restz5_5
    case hyz5_5 =>
      obtain ⟨k0, k1, k2, k3, k4, k5, k6, k7⟩ := hQ1.later hSw
      go_simp
      try with_reducible rfl
    try simp only [Act.put, List.setIfInBounds_toArray, List.set_cons_zero, List.set_cons_succ]
    refine' wpAnyH_take (i := 6) (oi := ({ dst := some 63, op := Op.load 9 (Operand.tmp 62), type := 9, pos := "l4_stm.go:231", after := #[{ on := 5, ground := Ground.data }], guard := none } : Oper)) (v := _) rfl (by kernel_rfl) (by kernel_rfl) (by kernel_rfl) (fun _ _ _ h => h) (Or.inl ⟨by rfl, fun x hSw => ?hyz5_6⟩) hHeld ?restz5_6
    case hyz5_6 =>
      obtain ⟨k0, k1, k2, k3, k4, k5, k6, k7⟩ := hQ1.later hSw
      go_simp
      try with_reducible rfl
    try simp only [Act.put, List.setIfInBounds_toArray, List.set_cons_zero, List.set_cons_succ]
    refine' wpAnyH_take (i := 8) (oi := ({ dst := some 65, op := Op.fieldAddr 27 (Operand.tmp 1) 6, type := 0, pos := "l4_stm.go:231", after := #[], guard := none } : Oper)) (v := _) rfl (by kernel_rfl) (by kernel_rfl) (by kernel_rfl) (fun _ _ _ h => h) (Or.inl ⟨by rfl, fun x hSw => ?hyz5_8⟩) hHeld ?restz5_8
    case hyz5_8 =>
      obtain ⟨k0, k1, k2, k3, k4, k5, k6, k7⟩ := hQ1.later hSw
      go_simp
      try with_reducible rfl
    try simp only [Act.put, List.setIfInBounds_toArray, List.set_cons_zero, List.set_cons_succ]
    refine' wpAnyH_take (i := 9) (oi := ({ dst := some 66, op := Op.load 24 (Operand.tmp 65), type := 24, pos := "l4_stm.go:231", after := #[{ on := 8, ground := Ground.data }], guard := none } : Oper)) (v := _) rfl (by kernel_rfl) (by kernel_rfl) (by kernel_rfl) (fun _ _ _ h => h) (Or.inl ⟨by rfl, fun x hSw => ?hyz5_9⟩) hHeld ?restz5_9
    case hyz5_9 =>
      obtain ⟨k0, k1, k2, k3, k4, k5, k6, k7⟩ := hQ1.later hSw
      go_simp
      try with_reducible rfl
    try simp only [Act.put, List.setIfInBounds_toArray, List.set_cons_zero, List.set_cons_succ]
    refine wpAnyH_ready (rs := [2]) (by kernel_rfl) (by simp) ?_
    refine AllReadyH.cons (o := ({ dst := some 59, op := Op.call { callee := Callee.value (Operand.func 53), args := #[Operand.tmp 58, Operand.func 51], argTypes := #[25, 74] }, type := 9, pos := "l4_stm.go:231", after := #[{ on := 1, ground := Ground.data }], guard := none } : Oper)) rfl (fun K hK => ?_) AllReadyH.nil
    go_simp
    refine (hL _ (hP.later (bstep hB1 hHeld)) (bstep hB1 hHeld)).mono ?_
    rintro e w5 ⟨rfl, hb5⟩
    refine hK.out _ _ (bstep hHeld hb5) (fun hHeld => ?_)
    clear hK K
    try simp only [Act.put, List.setIfInBounds_toArray, List.set_cons_zero, List.set_cons_succ]
    refine wpAnyH_take (i := 3) (oi := ({ dst := some 60, op := Op.binOp BinOp.add 9 (Operand.const (Value.string { data := #[115, 101, 108, 101, 99, 116, 32] })) (Operand.tmp 59) 9, type := 9, pos := "l4_stm.go:231", after := #[{ on := 2, ground := Ground.data }], guard := none } : Oper)) (v := .string (⟨#[115, 101, 108, 101, 99, 116, 32]⟩ ++ X)) rfl (by kernel_rfl) (by kernel_rfl) (by kernel_rfl) (fun _ _ _ h => h) (Or.inl ⟨by rfl, fun x hSw => (by go_simp; try omega)⟩) hHeld ?_
    try simp only [Act.put, List.setIfInBounds_toArray, List.set_cons_zero, List.set_cons_succ]
    refine wpAnyH_take (i := 4) (oi := ({ dst := some 61, op := Op.binOp BinOp.add 9 (Operand.tmp 60) (Operand.const (Value.string { data := #[32, 102, 114, 111, 109, 32] })) 9, type := 9, pos := "l4_stm.go:231", after := #[{ on := 3, ground := Ground.data }], guard := none } : Oper)) (v := .string (⟨#[115, 101, 108, 101, 99, 116, 32]⟩ ++ X ++ ⟨#[32, 102, 114, 111, 109, 32]⟩)) rfl (by kernel_rfl) (by kernel_rfl) (by kernel_rfl) (fun _ _ _ h => h) (Or.inl ⟨by rfl, fun x hSw => (by go_simp; try omega)⟩) hHeld ?_
    try simp only [Act.put, List.setIfInBounds_toArray, List.set_cons_zero, List.set_cons_succ]
    refine wpAnyH_take (i := 7) (oi := ({ dst := some 64, op := Op.binOp BinOp.add 9 (Operand.tmp 61) (Operand.tmp 63) 9, type := 9, pos := "l4_stm.go:231", after := #[{ on := 4, ground := Ground.data }, { on := 6, ground := Ground.data }], guard := none } : Oper)) (v := .string (⟨#[115, 101, 108, 101, 99, 116, 32]⟩ ++ X ++ ⟨#[32, 102, 114, 111, 109, 32]⟩ ++ d.tb)) rfl (by kernel_rfl) (by kernel_rfl) (by kernel_rfl) (fun _ _ _ h => h) (Or.inl ⟨by rfl, fun x hSw => (by go_simp; try omega)⟩) hHeld ?_
    try simp only [Act.put, List.setIfInBounds_toArray, List.set_cons_zero, List.set_cons_succ]
    refine wpAnyH_ready (rs := [10]) (by kernel_rfl) (by simp) ?_
    refine AllReadyH.cons (o := ({ dst := some 67, op := Op.call { callee := Callee.value (Operand.func 52), args := #[Operand.tmp 66], argTypes := #[24] }, type := 9, pos := "l4_stm.go:231", after := #[{ on := 9, ground := Ground.data }, { on := 2, ground := Ground.chain }], guard := none } : Oper)) rfl (fun K hK => ?_) AllReadyH.nil
    go_simp
    refine (hY _ (hP.later (bstep hB1 hHeld)) (bstep hB1 hHeld)).mono ?_
    rintro e w6 ⟨rfl, hb6⟩
    refine hK.out _ _ (bstep hHeld hb6) (fun hHeld => ?_)
    clear hK K
    try simp only [Act.put, List.setIfInBounds_toArray, List.set_cons_zero, List.set_cons_succ]
    refine wpAnyH_take (i := 11) (oi := ({ dst := some 68, op := Op.binOp BinOp.add 9 (Operand.tmp 64) (Operand.tmp 67) 9, type := 9, pos := "l4_stm.go:231", after := #[{ on := 7, ground := Ground.data }, { on := 10, ground := Ground.data }], guard := none } : Oper)) (v := .string (⟨#[115, 101, 108, 101, 99, 116, 32]⟩ ++ X ++ ⟨#[32, 102, 114, 111, 109, 32]⟩ ++ d.tb ++ Y)) rfl (by kernel_rfl) (by kernel_rfl) (by kernel_rfl) (fun _ _ _ h => h) (Or.inl ⟨by rfl, fun x hSw => (by go_simp; try omega)⟩) hHeld ?_
    try simp only [Act.put, List.setIfInBounds_toArray, List.set_cons_zero, List.set_cons_succ]
    refine' wpAnyH_take (i := 12) (oi := ({ dst := some 2, op := Op.assign (Operand.tmp 68), type := 9, pos := "l4_stm.go:231", after := #[{ on := 11, ground := Ground.data }, { on := 10, ground := Ground.chain }, { on := 0, ground := Ground.phase }, { on := 1, ground := Ground.phase }, { on := 2, ground := Ground.phase }, { on := 3, ground := Ground.phase }, { on := 4, ground := Ground.phase }, { on := 5, ground := Ground.phase }, { on := 6, ground := Ground.phase }, { on := 7, ground := Ground.phase }, { on := 8, ground := Ground.phase }, { on := 9, ground := Ground.phase }, { on := 10, ground := Ground.phase }, { on := 11, ground := Ground.phase }], guard := none } : Oper)) (v := _) rfl (by kernel_rfl) (by kernel_rfl) (by kernel_rfl) (fun _ _ _ h => h) (Or.inl ⟨by rfl, fun x hSw => ?hyz5_12⟩) hHeld ?restz5_12
    case hyz5_12 =>
      obtain ⟨k0, k1, k2, k3, k4, k5, k6, k7⟩ := hQ1.later hSw
      go_simp
      try with_reducible rfl
    try simp only [Act.put, List.setIfInBounds_toArray, List.set_cons_zero, List.set_cons_succ]
    refine wpAnyH_done (by kernel_rfl) ?_ _
    go_wp2
    go_ret
    exact ⟨by rw [HSS.out]; rfl, bstep hB1 hHeld⟩
set_option maxRecDepth 20000 in
set_option maxHeartbeats 2000000 in
theorem iPrint0 (d : St) (p : Sa) (w : World) (hM : SM w d p) (hT : SpT w) (hok : okStm d = false) : Calls Tryz.prog 13 #[.agg (cs8 d p)] w fun e w' => e = .returned (.string ⟨#[]⟩) ∧ Below w.heap.size w w' := by
  have hb0 := bal w (.cells (cs8 d p) 27)
  go_enter Tryz.func13, Tryz.ntmps13
  go_wp2_with (go_at_call 46; refine (iStm d p _ (hM.later hb0) (hT.later hb0)).mono ?_; rw [hok]; rintro e w1 ⟨rfl, hb1⟩)
  go_ret
  exact ⟨rfl, bstep hb0 hb1⟩
theorem iPrint (d : St) (p : Sa) (w : World) (hM : SM w d p) (hT : SpT w) (hP : PL w) (hR : RG d) : Calls Tryz.prog 13 #[.agg (cs8 d p)] w fun e w' => e = .returned (.string (prS d)) ∧ Below w.heap.size w w' := by
  unfold prS
  rcases hok : okStm d
  · exact iPrint0 d p w hM hT hok
  rcases okK hok with e | e | e | e | e
  · exact iPrint1 d p w hM hT hP hR hok e
  · exact iPrint2 d p w hM hT hP hR hok e
  · exact iPrint3 d p w hM hT hP hR hok e
  · exact iPrint4 d p w hM hT hP hR hok e
  · exact iPrint5 d p w hM hT hP hR hok e
end Go.Proofs.YtnbgdfhfmbgbhaaGreatDoor
