/-
  Nodes as SQL, the program's way.
-/
import Derived.Test.YtnbgdfhfmbgbhaaGreatDoorQd
import Derived.Test.YtnbgdfhfmbgbhaaGreatDoorQf
namespace Go.Proofs.YtnbgdfhfmbgbhaaGreatDoor
open Go.RowKit Go.Maps Go.WideMaps
theorem sign8 {o : Int} (h : isSign o = true) : o = 4 ∨ o = 5 ∨ o = 6 ∨ o = 7 ∨ o = 8 ∨ o = 9 ∨ o = 10 ∨ o = 12 := by
  simp [isSign, btw] at h
  omega
set_option maxRecDepth 20000 in
set_option maxHeartbeats 2000000 in
theorem sSign3 (o : Int) (w : World) (h : isSign o = true) : Calls Tryz.prog 90 #[.int .i64 o] w fun e w' => e = .returned (.string (sgn3 o)) ∧ w' = w := by
  rcases sign8 h with rfl | rfl | rfl | rfl | rfl | rfl | rfl | rfl
  all_goals
    go_enter Tryz.func90, Tryz.ntmps90
    go_wp2
    go_ret
    exact ⟨rfl, rfl⟩
set_option maxRecDepth 20000 in
set_option maxHeartbeats 2000000 in
theorem iSgn (o : Int) (w : World) (h : isSign o = true) : Calls Tryz.prog 134 #[.int .i64 o] w fun e w' => e = .returned (.string (sgn o)) ∧ w' = w := by
  rcases sign8 h with rfl | rfl | rfl | rfl | rfl | rfl | rfl | rfl
  all_goals
    go_enter Tryz.func134, Tryz.ntmps134
    go_wp2
    go_ret
    exact ⟨rfl, rfl⟩
theorem ta00 (v : Value) (x : World) : (Instr.typeAssert (.iface 156 v) 123 156 true).run Tryz.prog x = .ok (.tuple #[v, .bool true]) x := by kernel_rfl
theorem ta10 (v : Value) (x : World) : (Instr.typeAssert (.iface 157 v) 123 156 true).run Tryz.prog x = .ok (.tuple #[.int .i64 0, .bool false]) x := by kernel_rfl
theorem ta11 (v : Value) (x : World) : (Instr.typeAssert (.iface 157 v) 123 157 true).run Tryz.prog x = .ok (.tuple #[v, .bool true]) x := by kernel_rfl
theorem ta20 (v : Value) (x : World) : (Instr.typeAssert (.iface 158 v) 123 156 true).run Tryz.prog x = .ok (.tuple #[.int .i64 0, .bool false]) x := by kernel_rfl
theorem ta21 (v : Value) (x : World) : (Instr.typeAssert (.iface 158 v) 123 157 true).run Tryz.prog x = .ok (.tuple #[.string ⟨#[]⟩, .bool false]) x := by kernel_rfl
theorem ta22 (v : Value) (x : World) : (Instr.typeAssert (.iface 158 v) 123 158 true).run Tryz.prog x = .ok (.tuple #[v, .bool true]) x := by kernel_rfl
theorem ta30 (v : Value) (x : World) : (Instr.typeAssert (.iface 160 v) 123 156 true).run Tryz.prog x = .ok (.tuple #[.int .i64 0, .bool false]) x := by kernel_rfl
theorem ta31 (v : Value) (x : World) : (Instr.typeAssert (.iface 160 v) 123 157 true).run Tryz.prog x = .ok (.tuple #[.string ⟨#[]⟩, .bool false]) x := by kernel_rfl
theorem ta32 (v : Value) (x : World) : (Instr.typeAssert (.iface 160 v) 123 158 true).run Tryz.prog x = .ok (.tuple #[.string ⟨#[]⟩, .bool false]) x := by kernel_rfl
theorem ta33 (v : Value) (x : World) : (Instr.typeAssert (.iface 160 v) 123 160 true).run Tryz.prog x = .ok (.tuple #[v, .bool true]) x := by kernel_rfl
theorem ta40 (v : Value) (x : World) : (Instr.typeAssert (.iface 162 v) 123 156 true).run Tryz.prog x = .ok (.tuple #[.int .i64 0, .bool false]) x := by kernel_rfl
theorem ta41 (v : Value) (x : World) : (Instr.typeAssert (.iface 162 v) 123 157 true).run Tryz.prog x = .ok (.tuple #[.string ⟨#[]⟩, .bool false]) x := by kernel_rfl
theorem ta42 (v : Value) (x : World) : (Instr.typeAssert (.iface 162 v) 123 158 true).run Tryz.prog x = .ok (.tuple #[.string ⟨#[]⟩, .bool false]) x := by kernel_rfl
theorem ta43 (v : Value) (x : World) : (Instr.typeAssert (.iface 162 v) 123 160 true).run Tryz.prog x = .ok (.tuple #[.agg #[.int .i64 0, .nilIface], .bool false]) x := by kernel_rfl
theorem ta44 (v : Value) (x : World) : (Instr.typeAssert (.iface 162 v) 123 162 true).run Tryz.prog x = .ok (.tuple #[v, .bool true]) x := by kernel_rfl
theorem sql_one (o : Int) (t : Tr) : (Tr.one o t).sql.size ≤ t.sql.size + 6 ∧ t.sql.size ≤ (Tr.one o t).sql.size := by
  have e1 : (⟨#[108, 101, 110, 40]⟩ : ByteArray).size = 4 := rfl
  have e2 : (⟨#[40, 110, 111, 116, 32]⟩ : ByteArray).size = 5 := rfl
  have e3 : (⟨#[41]⟩ : ByteArray).size = 1 := rfl
  simp only [sqlOne]
  split <;> (simp only [ByteArray.size_append]; omega)
theorem sql_two (o : Int) (a b : Tr) : a.sql.size ≤ (Tr.two o a b).sql.size ∧ b.sql.size ≤ (Tr.two o a b).sql.size := by
  simp only [sqlTwo, ByteArray.size_append]
  omega
set_option maxRecDepth 20000 in
set_option maxHeartbeats 4000000 in
theorem nodeOne (o : Int) (p : Tr) (w : World) (hP : PL w) (hz : p.sql.size ≤ 1000000)
    (hp : ∀ w, PL w → Calls Tryz.prog 108 #[.iface p.ty p.pay] w fun e w' => e = .returned (.string p.sql) ∧ Below w.heap.size w w') :
    Calls Tryz.prog 108 #[.iface 160 (.agg #[.int .i64 o, .iface p.ty p.pay])] w fun e w' => e = .returned (.string (Tr.one o p).sql) ∧ Below w.heap.size w w' := by
  have hb0 := bal w (.cells #[.int .i64 o, .iface p.ty p.pay] 160)
  have q0 := ta30
  have q1 := ta31
  have q2 := ta32
  have q3 := ta33
  by_cases h : o = 13
  · subst h
    have HS : Hid ((Tr.one 13 p).sql = ⟨#[108, 101, 110, 40]⟩ ++ p.sql ++ ⟨#[41]⟩) := by show _ = _; rw [sqlOne, if_pos rfl]
    go_enter Tryz.func108, Tryz.ntmps108
    go_wp2_with (go_at_call 108; refine (hp _ (hP.later hb0)).mono ?_; rintro e w1 ⟨rfl, hb1⟩)
    go_ret
    exact ⟨by rw [HS.out]; rfl, bstep hb0 hb1⟩
  · have HS : Hid ((Tr.one o p).sql = ⟨#[40, 110, 111, 116, 32]⟩ ++ p.sql ++ ⟨#[41]⟩) := by show _ = _; rw [sqlOne, if_neg h]
    have h' : (o == 13) = false := by simpa using h
    go_enter Tryz.func108, Tryz.ntmps108
    go_wp2_with (go_at_call 108; refine (hp _ (hP.later hb0)).mono ?_; rintro e w1 ⟨rfl, hb1⟩)
    go_ret
    exact ⟨by rw [HS.out]; rfl, bstep hb0 hb1⟩
set_option maxRecDepth 20000 in
set_option maxHeartbeats 4000000 in
theorem nodeTwo (o : Int) (p q : Tr) (w : World) (hP : PL w) (ho : isSign o = true) (hz : p.sql.size ≤ 1000000) (hz2 : q.sql.size ≤ 1000000)
    (hp : ∀ w, PL w → Calls Tryz.prog 108 #[.iface p.ty p.pay] w fun e w' => e = .returned (.string p.sql) ∧ Below w.heap.size w w')
    (hq : ∀ w, PL w → Calls Tryz.prog 108 #[.iface q.ty q.pay] w fun e w' => e = .returned (.string q.sql) ∧ Below w.heap.size w w') :
    Calls Tryz.prog 108 #[.iface 162 (.agg #[.int .i64 o, .iface p.ty p.pay, .iface q.ty q.pay])] w fun e w' => e = .returned (.string (Tr.two o p q).sql) ∧ Below w.heap.size w w' := by
  have hb0 := bal w (.cells #[.int .i64 o, .iface p.ty p.pay, .iface q.ty q.pay] 162)
  have q0 := ta40
  have q1 := ta41
  have q2 := ta42
  have q3 := ta43
  have q4 := ta44
  have hX := heap_alloc_new w (.cells #[.int .i64 o, .iface p.ty p.pay, .iface q.ty q.pay] 162)
  have c0 : (w.alloc (.cells #[.int .i64 o, .iface p.ty p.pay, .iface q.ty q.pay] 162)).cell? ⟨w.heap.size, 0, none⟩ = some (.int .i64 o) := (cell_of_row _ _ 0 _ _ _ hX).trans rfl
  have c1 : (w.alloc (.cells #[.int .i64 o, .iface p.ty p.pay, .iface q.ty q.pay] 162)).cell? ⟨w.heap.size, 1, none⟩ = some (.iface p.ty p.pay) := (cell_of_row _ _ 1 _ _ _ hX).trans rfl
  have c2 : (w.alloc (.cells #[.int .i64 o, .iface p.ty p.pay, .iface q.ty q.pay] 162)).cell? ⟨w.heap.size, 2, none⟩ = some (.iface q.ty q.pay) := (cell_of_row _ _ 2 _ _ _ hX).trans rfl
  clear hX
  have HS : Hid ((Tr.two o p q).sql = ⟨#[40]⟩ ++ p.sql ++ ⟨#[32]⟩ ++ sgn o ++ ⟨#[32]⟩ ++ q.sql ++ ⟨#[41]⟩) := by show _ = _; rw [sqlTwo]; simp only [sgn3, ByteArray.append_assoc]
  have hsg := sgn_size o
  obtain ⟨A, hA⟩ : ∃ A, p.sql = A := ⟨_, rfl⟩
  obtain ⟨B, hB⟩ : ∃ B, q.sql = B := ⟨_, rfl⟩
  obtain ⟨G, hG⟩ : ∃ G, sgn o = G := ⟨_, rfl⟩
  have hs := iSgn o
  rw [hA] at HS hz hp
  rw [hB] at HS hz2 hq
  rw [hG] at HS hs hsg
  clear hA hB hG
  go_enter Tryz.func108, Tryz.ntmps108
  go_wp2
  refine wp_region_held_drew (S := fun x => Below (w.alloc (.cells #[.int .i64 o, .iface p.ty p.pay, .iface q.ty q.pay] 162)).heap.size (w.alloc (.cells #[.int .i64 o, .iface p.ty p.pay, .iface q.ty q.pay] 162)) x) (by kernel_rfl) (bdrew _) (fun hHeld => ?_)
  refine' wpAnyH_take (i := 0) (oi := ({ dst := some 42, op := Op.fieldAddr 162 (Operand.tmp 7) 1, type := 0, pos := "l4_stm.go:911", after := #[], guard := none } : Oper)) (v := _) rfl (by kernel_rfl) (by kernel_rfl) (by kernel_rfl) (fun _ _ _ h => h) (Or.inl ⟨by rfl, fun x hSw => ?hyz1_0⟩) hHeld ?restz1_0
  case hyz1_0 =>
    have k0 := keepB hSw c0; have k1 := keepB hSw c1; have k2 := keepB hSw c2
    go_simp
    try with_reducible rfl
  try simp only [Act.put, List.setIfInBounds_toArray, List.set_cons_zero, List.set_cons_succ]
  refine' wpAnyH_take (i := 1) (oi := ({ dst := some 43, op := Op.load 123 (Operand.tmp 42), type := 123, pos := "l4_stm.go:911", after := #[{ on := 0, ground := Ground.data }], guard := none } : Oper)) (v := _) rfl (by kernel_rfl) (by kernel_rfl) (by kernel_rfl) (fun _ _ _ h => h) (Or.inl ⟨by rfl, fun x hSw => ?hyz1_1⟩) hHeld ?restz1_1
  case hyz1_1 =>
    have k0 := keepB hSw c0; have k1 := keepB hSw c1; have k2 := keepB hSw c2
    go_simp
    try with_reducible rfl
  try simp only [Act.put, List.setIfInBounds_toArray, List.set_cons_zero, List.set_cons_succ]
  refine' wpAnyH_take (i := 5) (oi := ({ dst := some 47, op := Op.fieldAddr 162 (Operand.tmp 7) 0, type := 0, pos := "l4_stm.go:911", after := #[], guard := none } : Oper)) (v := _) rfl (by kernel_rfl) (by kernel_rfl) (by kernel_rfl) (fun _ _ _ h => h) (Or.inl ⟨by rfl, fun x hSw => ?hyz1_5⟩) hHeld ?restz1_5
  case hyz1_5 =>
    have k0 := keepB hSw c0; have k1 := keepB hSw c1; have k2 := keepB hSw c2
    go_simp
    try with_reducible rfl
  try simp only [Act.put, List.setIfInBounds_toArray, List.set_cons_zero, List.set_cons_succ]
  refine' wpAnyH_take (i := 6) (oi := ({ dst := some 48, op := Op.load 3 (Operand.tmp 47), type := 3, pos := "l4_stm.go:911", after := #[{ on := 5, ground := Ground.data }], guard := none } : Oper)) (v := _) rfl (by kernel_rfl) (by kernel_rfl) (by kernel_rfl) (fun _ _ _ h => h) (Or.inl ⟨by rfl, fun x hSw => ?hyz1_6⟩) hHeld ?restz1_6
  case hyz1_6 =>
    have k0 := keepB hSw c0; have k1 := keepB hSw c1; have k2 := keepB hSw c2
    go_simp
    try with_reducible rfl
  try simp only [Act.put, List.setIfInBounds_toArray, List.set_cons_zero, List.set_cons_succ]
  refine' wpAnyH_take (i := 10) (oi := ({ dst := some 52, op := Op.fieldAddr 162 (Operand.tmp 7) 2, type := 0, pos := "l4_stm.go:911", after := #[], guard := none } : Oper)) (v := _) rfl (by kernel_rfl) (by kernel_rfl) (by kernel_rfl) (fun _ _ _ h => h) (Or.inl ⟨by rfl, fun x hSw => ?hyz1_10⟩) hHeld ?restz1_10
  case hyz1_10 =>
    have k0 := keepB hSw c0; have k1 := keepB hSw c1; have k2 := keepB hSw c2
    go_simp
    try with_reducible rfl
  try simp only [Act.put, List.setIfInBounds_toArray, List.set_cons_zero, List.set_cons_succ]
  refine' wpAnyH_take (i := 11) (oi := ({ dst := some 53, op := Op.load 123 (Operand.tmp 52), type := 123, pos := "l4_stm.go:911", after := #[{ on := 10, ground := Ground.data }], guard := none } : Oper)) (v := _) rfl (by kernel_rfl) (by kernel_rfl) (by kernel_rfl) (fun _ _ _ h => h) (Or.inl ⟨by rfl, fun x hSw => ?hyz1_11⟩) hHeld ?restz1_11
  case hyz1_11 =>
    have k0 := keepB hSw c0; have k1 := keepB hSw c1; have k2 := keepB hSw c2
    go_simp
    try with_reducible rfl
  try simp only [Act.put, List.setIfInBounds_toArray, List.set_cons_zero, List.set_cons_succ]
  refine wpAnyH_ready (rs := [2]) (by kernel_rfl) (by simp) ?_
  refine AllReadyH.cons (o := ({ dst := some 44, op := Op.call { callee := Callee.value (Operand.func 108), args := #[Operand.tmp 43], argTypes := #[123] }, type := 9, pos := "l4_stm.go:911", after := #[{ on := 1, ground := Ground.data }], guard := none } : Oper)) rfl (fun K hK => ?_) AllReadyH.nil
  go_simp
  refine (hp _ (hP.later (bstep hb0 hHeld))).mono ?_
  rintro e w1 ⟨rfl, hb1⟩
  refine hK.out _ _ (bstep hHeld hb1) (fun hHeld => ?_)
  clear hK K
  try simp only [Act.put, List.setIfInBounds_toArray, List.set_cons_zero, List.set_cons_succ]
  refine wpAnyH_take (i := 3) (oi := ({ dst := some 45, op := Op.binOp BinOp.add 9 (Operand.const (Value.string { data := #[40] })) (Operand.tmp 44) 9, type := 9, pos := "l4_stm.go:911", after := #[{ on := 2, ground := Ground.data }], guard := none } : Oper)) (v := .string (⟨#[40]⟩ ++ A)) rfl (by kernel_rfl) (by kernel_rfl) (by kernel_rfl) (fun _ _ _ h => h) (Or.inl ⟨by rfl, fun x hSw => (by go_simp; try omega)⟩) hHeld ?_
  try simp only [Act.put, List.setIfInBounds_toArray, List.set_cons_zero, List.set_cons_succ]
  refine wpAnyH_take (i := 4) (oi := ({ dst := some 46, op := Op.binOp BinOp.add 9 (Operand.tmp 45) (Operand.const (Value.string { data := #[32] })) 9, type := 9, pos := "l4_stm.go:911", after := #[{ on := 3, ground := Ground.data }], guard := none } : Oper)) (v := .string (⟨#[40]⟩ ++ A ++ ⟨#[32]⟩)) rfl (by kernel_rfl) (by kernel_rfl) (by kernel_rfl) (fun _ _ _ h => h) (Or.inl ⟨by rfl, fun x hSw => (by go_simp; try omega)⟩) hHeld ?_
  try simp only [Act.put, List.setIfInBounds_toArray, List.set_cons_zero, List.set_cons_succ]
  refine wpAnyH_ready (rs := [7]) (by kernel_rfl) (by simp) ?_
  refine AllReadyH.cons (o := ({ dst := some 49, op := Op.call { callee := Callee.value (Operand.func 134), args := #[Operand.tmp 48], argTypes := #[3] }, type := 9, pos := "l4_stm.go:911", after := #[{ on := 6, ground := Ground.data }, { on := 2, ground := Ground.chain }], guard := none } : Oper)) rfl (fun K hK => ?_) AllReadyH.nil
  go_simp
  refine (hs _ ho).mono ?_
  rintro e w2 ⟨rfl, rfl⟩
  refine hK.out _ _ (hHeld) (fun hHeld => ?_)
  clear hK K
  try simp only [Act.put, List.setIfInBounds_toArray, List.set_cons_zero, List.set_cons_succ]
  refine wpAnyH_take (i := 8) (oi := ({ dst := some 50, op := Op.binOp BinOp.add 9 (Operand.tmp 46) (Operand.tmp 49) 9, type := 9, pos := "l4_stm.go:911", after := #[{ on := 4, ground := Ground.data }, { on := 7, ground := Ground.data }], guard := none } : Oper)) (v := .string (⟨#[40]⟩ ++ A ++ ⟨#[32]⟩ ++ G)) rfl (by kernel_rfl) (by kernel_rfl) (by kernel_rfl) (fun _ _ _ h => h) (Or.inl ⟨by rfl, fun x hSw => (by go_simp; try omega)⟩) hHeld ?_
  try simp only [Act.put, List.setIfInBounds_toArray, List.set_cons_zero, List.set_cons_succ]
  refine wpAnyH_take (i := 9) (oi := ({ dst := some 51, op := Op.binOp BinOp.add 9 (Operand.tmp 50) (Operand.const (Value.string { data := #[32] })) 9, type := 9, pos := "l4_stm.go:911", after := #[{ on := 8, ground := Ground.data }], guard := none } : Oper)) (v := .string (⟨#[40]⟩ ++ A ++ ⟨#[32]⟩ ++ G ++ ⟨#[32]⟩)) rfl (by kernel_rfl) (by kernel_rfl) (by kernel_rfl) (fun _ _ _ h => h) (Or.inl ⟨by rfl, fun x hSw => (by go_simp; try omega)⟩) hHeld ?_
  try simp only [Act.put, List.setIfInBounds_toArray, List.set_cons_zero, List.set_cons_succ]
  refine wpAnyH_ready (rs := [12]) (by kernel_rfl) (by simp) ?_
  refine AllReadyH.cons (o := ({ dst := some 54, op := Op.call { callee := Callee.value (Operand.func 108), args := #[Operand.tmp 53], argTypes := #[123] }, type := 9, pos := "l4_stm.go:911", after := #[{ on := 11, ground := Ground.data }, { on := 7, ground := Ground.chain }], guard := none } : Oper)) rfl (fun K hK => ?_) AllReadyH.nil
  go_simp
  refine (hq _ (hP.later (bstep hb0 hHeld))).mono ?_
  rintro e w3 ⟨rfl, hb3⟩
  refine hK.out _ _ (bstep hHeld hb3) (fun hHeld => ?_)
  clear hK K
  try simp only [Act.put, List.setIfInBounds_toArray, List.set_cons_zero, List.set_cons_succ]
  refine wpAnyH_take (i := 13) (oi := ({ dst := some 55, op := Op.binOp BinOp.add 9 (Operand.tmp 51) (Operand.tmp 54) 9, type := 9, pos := "l4_stm.go:911", after := #[{ on := 9, ground := Ground.data }, { on := 12, ground := Ground.data }], guard := none } : Oper)) (v := .string (⟨#[40]⟩ ++ A ++ ⟨#[32]⟩ ++ G ++ ⟨#[32]⟩ ++ B)) rfl (by kernel_rfl) (by kernel_rfl) (by kernel_rfl) (fun _ _ _ h => h) (Or.inl ⟨by rfl, fun x hSw => (by go_simp; try omega)⟩) hHeld ?_
  try simp only [Act.put, List.setIfInBounds_toArray, List.set_cons_zero, List.set_cons_succ]
  refine wpAnyH_take (i := 14) (oi := ({ dst := some 56, op := Op.binOp BinOp.add 9 (Operand.tmp 55) (Operand.const (Value.string { data := #[41] })) 9, type := 9, pos := "l4_stm.go:911", after := #[{ on := 13, ground := Ground.data }], guard := none } : Oper)) (v := .string (⟨#[40]⟩ ++ A ++ ⟨#[32]⟩ ++ G ++ ⟨#[32]⟩ ++ B ++ ⟨#[41]⟩)) rfl (by kernel_rfl) (by kernel_rfl) (by kernel_rfl) (fun _ _ _ h => h) (Or.inl ⟨by rfl, fun x hSw => (by go_simp; try omega)⟩) hHeld ?_
  try simp only [Act.put, List.setIfInBounds_toArray, List.set_cons_zero, List.set_cons_succ]
  refine' wpAnyH_take (i := 15) (oi := ({ dst := some 2, op := Op.assign (Operand.tmp 56), type := 9, pos := "l4_stm.go:911", after := #[{ on := 14, ground := Ground.data }, { on := 12, ground := Ground.chain }, { on := 0, ground := Ground.phase }, { on := 1, ground := Ground.phase }, { on := 2, ground := Ground.phase }, { on := 3, ground := Ground.phase }, { on := 4, ground := Ground.phase }, { on := 5, ground := Ground.phase }, { on := 6, ground := Ground.phase }, { on := 7, ground := Ground.phase }, { on := 8, ground := Ground.phase }, { on := 9, ground := Ground.phase }, { on := 10, ground := Ground.phase }, { on := 11, ground := Ground.phase }, { on := 12, ground := Ground.phase }, { on := 13, ground := Ground.phase }, { on := 14, ground := Ground.phase }], guard := none } : Oper)) (v := _) rfl (by kernel_rfl) (by kernel_rfl) (by kernel_rfl) (fun _ _ _ h => h) (Or.inl ⟨by rfl, fun x hSw => ?hyz1_15⟩) hHeld ?restz1_15
  case hyz1_15 =>
    have k0 := keepB hSw c0; have k1 := keepB hSw c1; have k2 := keepB hSw c2
    go_simp
    try with_reducible rfl
  try simp only [Act.put, List.setIfInBounds_toArray, List.set_cons_zero, List.set_cons_succ]
  refine wpAnyH_done (by kernel_rfl) ?_ _
  go_wp2
  go_ret
  exact ⟨by rw [HS.out]; rfl, bstep hb0 hHeld⟩
set_option maxRecDepth 20000 in
set_option maxHeartbeats 2000000 in
theorem nodeNum (n : Int) (w : World) (hr : rng n) (hP : PL w) : Calls Tryz.prog 108 #[.iface 156 (.int .i64 n)] w fun e w' => e = .returned (.string (decB n)) ∧ Below w.heap.size w w' := by
  have q0 := ta00
  go_enter Tryz.func108, Tryz.ntmps108
  go_wp2_with (go_at_call 105; refine (iItoa n hr _ hP.t).mono ?_; rintro e w1 ⟨rfl, hb1⟩)
  go_ret
  exact ⟨rfl, hb1⟩
set_option maxRecDepth 20000 in
set_option maxHeartbeats 2000000 in
theorem nodeTxt (s : ByteArray) (w : World) (hf : s.size ≤ 1048576) (hP : PL w) : Calls Tryz.prog 108 #[.iface 157 (.string s)] w fun e w' => e = .returned (.string (quoB s)) ∧ Below w.heap.size w w' := by
  have q0 := ta10
  have q1 := ta11
  go_enter Tryz.func108, Tryz.ntmps108
  go_wp2_with (go_at_call 106; refine (iQuoted s _ hP.ml hf).mono ?_; rintro e w1 ⟨rfl, hb1⟩)
  go_ret
  exact ⟨rfl, hb1⟩
set_option maxRecDepth 20000 in
set_option maxHeartbeats 2000000 in
theorem nodeCol (s : ByteArray) (w : World) : Calls Tryz.prog 108 #[.iface 158 (.string s)] w fun e w' => e = .returned (.string s) ∧ Below w.heap.size w w' := by
  have q0 := ta20
  have q1 := ta21
  have q2 := ta22
  go_enter Tryz.func108, Tryz.ntmps108
  go_wp2
  go_ret
  exact ⟨rfl, Below.refl _ _⟩
/-- What nodeSql answers of a node. -/
def Tr.rg (t : Tr) : Prop := ∀ w, t.sql.size ≤ 1000000 → PL w → Calls Tryz.prog 108 #[.iface t.ty t.pay] w fun e w' => e = .returned (.string t.sql) ∧ Below w.heap.size w w'
theorem rg_num (n : Int) (hr : rng n) : (Tr.num n).rg := fun w _ hP => nodeNum n w hr hP
theorem rg_txt (s : ByteArray) (hs : s.size ≤ 1048576) : (Tr.txt s).rg := fun w _ hP => nodeTxt s w hs hP
theorem rg_col (s : ByteArray) : (Tr.col s).rg := fun w _ _ => nodeCol s w
theorem rg_one (o : Int) {t : Tr} (h : t.rg) : (Tr.one o t).rg := fun w hz hP => nodeOne o t w hP (by have := (sql_one o t).2; omega) fun w hP => h w (by have := (sql_one o t).2; omega) hP
theorem rg_two (o : Int) {a b : Tr} (ho : isSign o = true) (ha : a.rg) (hb : b.rg) : (Tr.two o a b).rg := fun w hz hP => nodeTwo o a b w hP ho (by have := (sql_two o a b).1; omega) (by have := (sql_two o a b).2; omega) (fun w hP => ha w (by have := (sql_two o a b).1; omega) hP) (fun w hP => hb w (by have := (sql_two o a b).2; omega) hP)
theorem mkN_rg {i : Itm} {S : Nat → Tr} {q : Nat} (hq : opn i.o i.m i.s = q) (hr : rng i.m) (hs : i.s.size ≤ 1048576) (h : ∀ j, j < q → (S j).rg) : (mkN i.o i.m i.s S).rg := by
  obtain ⟨o, m, s⟩ := i
  rcases opn_cases hq (by omega) with ⟨e, h1⟩ | ⟨e, h1⟩ | ⟨e, h1⟩
  · rcases h1 with h1 | h1 | h1 <;> (dsimp only at h1; subst h1)
    · exact (show mkN 1 m s S = .num m by simp [mkN]) ▸ rg_num m hr
    · exact (show mkN 2 m s S = .txt s by simp [mkN]) ▸ rg_txt s hs
    · exact (show mkN 3 m s S = .col s by simp [mkN]) ▸ rg_col s
  · obtain rfl : q = 1 := by omega
    rcases h1 with h1 | h1 <;> (dsimp only at h1; subst h1)
    · exact (show mkN 11 m s S = .one 11 (S 0) by simp [mkN]) ▸ rg_one 11 (h 0 (by omega))
    · exact (show mkN 13 m s S = .one 13 (S 0) by simp [mkN]) ▸ rg_one 13 (h 0 (by omega))
  · obtain rfl : q = 2 := by omega
    dsimp only at h1
    have h2 := sign_no h1
    exact (show mkN o m s S = .two o (S 0) (S 1) by simp [mkN, h2]) ▸ rg_two o h1 (h 0 (by omega)) (h 1 (by omega))
theorem stk_rg {I : Nat → Itm} {n : Nat} (h : sh I n ≠ none) (hr : ∀ k, k < n → rng (I k).m) (hs : ∀ k, k < n → (I k).s.size ≤ 1048576) : ∀ k, k ≤ n → ∀ t ∈ stk I k, t.rg
  | 0, _ => fun t ht => by cases ht
  | k + 1, hk => fun t ht => by
    have ih := stk_rg h hr hs k (by omega)
    obtain ⟨q, r, hq, hrq⟩ := at_item h (show k < n by omega)
    rw [← stk_step rfl hq hrq rfl] at ht
    rcases List.mem_append.1 ht with ht | ht
    · exact ih t (List.mem_of_mem_take ht)
    · obtain rfl := List.mem_singleton.1 ht
      refine mkN_rg hq (hr k (by omega)) (hs k (by omega)) fun j hj => ?_
      have hjl : r + j < (stk I k).length := by omega
      have e2 : (stk I k).getD (r + j) (.num 0) = (stk I k)[r + j] := by simp [hjl]
      rw [e2]
      exact ih _ (List.getElem_mem _)
end Go.Proofs.YtnbgdfhfmbgbhaaGreatDoor
