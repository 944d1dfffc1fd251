/-
  A row put at its place: the specification's way.
-/
import Derived.Test.YtgeiamgeclbiaaaGreatDoorUm
namespace Go.Proofs.YtgeiamgeclbiaaaGreatDoor
open Go.RowKit Go.Maps Go.WideMaps
abbrev qUn0 : Oper := { dst := some 8, op := Op.move (Operand.tmp 6), type := 3, pos := "l5_replay.go:250", after := #[], guard := none }
abbrev qUn1 : Oper := { dst := some 9, op := Op.move (Operand.tmp 0), type := 33, pos := "l5_replay.go:250", after := #[], guard := none }
abbrev qUn2 : Oper := { dst := some 10, op := Op.call { callee := Callee.builtin Builtin.len, args := #[Operand.tmp 9], argTypes := #[33] }, type := 3, pos := "l5_replay.go:250", after := #[{ on := 1, ground := Ground.data }], guard := none }
abbrev qUn3 : Oper := { dst := some 11, op := Op.binOp BinOp.lss 3 (Operand.tmp 8) (Operand.tmp 10) 3, type := 4, pos := "l5_replay.go:250", after := #[{ on := 0, ground := Ground.data }, { on := 2, ground := Ground.data }], guard := none }
abbrev qUn4 : Oper := { dst := some 12, op := Op.move (Operand.tmp 11), type := 4, pos := "l5_replay.go:250", after := #[{ on := 3, ground := Ground.data }], guard := none }
abbrev qUn5 : Oper := { dst := some 13, op := Op.move (Operand.tmp 0), type := 33, pos := "l5_replay.go:250", after := #[{ on := 4, ground := Ground.guard }], guard := some (4, true) }
abbrev qUn6 : Oper := { dst := some 14, op := Op.move (Operand.tmp 6), type := 3, pos := "l5_replay.go:250", after := #[{ on := 4, ground := Ground.guard }], guard := some (4, true) }
abbrev qUn7 : Oper := { dst := some 15, op := Op.indexAddr 33 (Operand.tmp 13) (Operand.tmp 14), type := 0, pos := "l5_replay.go:250", after := #[{ on := 5, ground := Ground.data }, { on := 6, ground := Ground.data }, { on := 4, ground := Ground.guard }], guard := some (4, true) }
abbrev qUn8 : Oper := { dst := some 16, op := Op.load 41 (Operand.tmp 15), type := 41, pos := "l5_replay.go:250", after := #[{ on := 7, ground := Ground.data }, { on := 4, ground := Ground.guard }], guard := some (4, true) }
abbrev qUn9 : Oper := { dst := some 17, op := Op.indexAddr 41 (Operand.tmp 16) (Operand.const (Value.int IntKind.i64 0)), type := 0, pos := "l5_replay.go:250", after := #[{ on := 8, ground := Ground.data }, { on := 4, ground := Ground.guard }], guard := some (4, true) }
abbrev qUn10 : Oper := { dst := some 18, op := Op.load 66 (Operand.tmp 17), type := 66, pos := "l5_replay.go:250", after := #[{ on := 9, ground := Ground.data }, { on := 4, ground := Ground.guard }], guard := some (4, true) }
abbrev qUn11 : Oper := { dst := some 19, op := Op.move (Operand.tmp 1), type := 41, pos := "l5_replay.go:250", after := #[{ on := 4, ground := Ground.guard }], guard := some (4, true) }
abbrev qUn12 : Oper := { dst := some 20, op := Op.indexAddr 41 (Operand.tmp 19) (Operand.const (Value.int IntKind.i64 0)), type := 0, pos := "l5_replay.go:250", after := #[{ on := 11, ground := Ground.data }, { on := 4, ground := Ground.guard }], guard := some (4, true) }
abbrev qUn13 : Oper := { dst := some 21, op := Op.load 66 (Operand.tmp 20), type := 66, pos := "l5_replay.go:250", after := #[{ on := 12, ground := Ground.data }, { on := 4, ground := Ground.guard }], guard := some (4, true) }
abbrev qUn14 : Oper := { dst := some 22, op := Op.call { callee := Callee.value (Operand.func 106), args := #[Operand.tmp 18, Operand.tmp 21], argTypes := #[66, 66] }, type := 3, pos := "l5_replay.go:250", after := #[{ on := 10, ground := Ground.data }, { on := 13, ground := Ground.data }, { on := 4, ground := Ground.chain }, { on := 4, ground := Ground.guard }], guard := some (4, true) }
abbrev qUn15 : Oper := { dst := some 23, op := Op.binOp BinOp.lss 3 (Operand.tmp 22) (Operand.const (Value.int IntKind.i64 0)) 3, type := 4, pos := "l5_replay.go:250", after := #[{ on := 14, ground := Ground.data }, { on := 4, ground := Ground.guard }], guard := some (4, true) }
abbrev qUn16 : Oper := { dst := some 24, op := Op.pick (Operand.tmp 12) (Operand.tmp 23) (Operand.const (Value.bool false)), type := 4, pos := "l5_replay.go:250", after := #[{ on := 4, ground := Ground.data }, { on := 15, ground := Ground.data }], guard := none }
abbrev qUn17 : Oper := { dst := some 27, op := Op.move (Operand.tmp 6), type := 3, pos := "l5_replay.go:253", after := #[], guard := none }
abbrev qUn18 : Oper := { dst := some 28, op := Op.move (Operand.tmp 0), type := 33, pos := "l5_replay.go:253", after := #[], guard := none }
abbrev qUn19 : Oper := { dst := some 29, op := Op.call { callee := Callee.builtin Builtin.len, args := #[Operand.tmp 28], argTypes := #[33] }, type := 3, pos := "l5_replay.go:253", after := #[{ on := 1, ground := Ground.data }], guard := none }
abbrev qUn20 : Oper := { dst := some 30, op := Op.binOp BinOp.lss 3 (Operand.tmp 27) (Operand.tmp 29) 3, type := 4, pos := "l5_replay.go:253", after := #[{ on := 0, ground := Ground.data }, { on := 2, ground := Ground.data }], guard := none }
abbrev qUn21 : Oper := { dst := some 31, op := Op.move (Operand.tmp 30), type := 4, pos := "l5_replay.go:253", after := #[{ on := 3, ground := Ground.data }], guard := none }
abbrev qUn22 : Oper := { dst := some 32, op := Op.move (Operand.tmp 0), type := 33, pos := "l5_replay.go:253", after := #[{ on := 4, ground := Ground.guard }], guard := some (4, true) }
abbrev qUn23 : Oper := { dst := some 33, op := Op.move (Operand.tmp 6), type := 3, pos := "l5_replay.go:253", after := #[{ on := 4, ground := Ground.guard }], guard := some (4, true) }
abbrev qUn24 : Oper := { dst := some 34, op := Op.indexAddr 33 (Operand.tmp 32) (Operand.tmp 33), type := 0, pos := "l5_replay.go:253", after := #[{ on := 5, ground := Ground.data }, { on := 6, ground := Ground.data }, { on := 4, ground := Ground.guard }], guard := some (4, true) }
abbrev qUn25 : Oper := { dst := some 35, op := Op.load 41 (Operand.tmp 34), type := 41, pos := "l5_replay.go:253", after := #[{ on := 7, ground := Ground.data }, { on := 4, ground := Ground.guard }], guard := some (4, true) }
abbrev qUn26 : Oper := { dst := some 36, op := Op.indexAddr 41 (Operand.tmp 35) (Operand.const (Value.int IntKind.i64 0)), type := 0, pos := "l5_replay.go:253", after := #[{ on := 8, ground := Ground.data }, { on := 4, ground := Ground.guard }], guard := some (4, true) }
abbrev qUn27 : Oper := { dst := some 37, op := Op.load 66 (Operand.tmp 36), type := 66, pos := "l5_replay.go:253", after := #[{ on := 9, ground := Ground.data }, { on := 4, ground := Ground.guard }], guard := some (4, true) }
abbrev qUn28 : Oper := { dst := some 38, op := Op.move (Operand.tmp 1), type := 41, pos := "l5_replay.go:253", after := #[{ on := 4, ground := Ground.guard }], guard := some (4, true) }
abbrev qUn29 : Oper := { dst := some 39, op := Op.indexAddr 41 (Operand.tmp 38) (Operand.const (Value.int IntKind.i64 0)), type := 0, pos := "l5_replay.go:253", after := #[{ on := 11, ground := Ground.data }, { on := 4, ground := Ground.guard }], guard := some (4, true) }
abbrev qUn30 : Oper := { dst := some 40, op := Op.load 66 (Operand.tmp 39), type := 66, pos := "l5_replay.go:253", after := #[{ on := 12, ground := Ground.data }, { on := 4, ground := Ground.guard }], guard := some (4, true) }
abbrev qUn31 : Oper := { dst := some 41, op := Op.call { callee := Callee.value (Operand.func 106), args := #[Operand.tmp 37, Operand.tmp 40], argTypes := #[66, 66] }, type := 3, pos := "l5_replay.go:253", after := #[{ on := 10, ground := Ground.data }, { on := 13, ground := Ground.data }, { on := 4, ground := Ground.chain }, { on := 4, ground := Ground.guard }], guard := some (4, true) }
abbrev qUn32 : Oper := { dst := some 42, op := Op.binOp BinOp.eql 3 (Operand.tmp 41) (Operand.const (Value.int IntKind.i64 0)) 3, type := 4, pos := "l5_replay.go:253", after := #[{ on := 14, ground := Ground.data }, { on := 4, ground := Ground.guard }], guard := some (4, true) }
abbrev qUn33 : Oper := { dst := some 43, op := Op.pick (Operand.tmp 31) (Operand.tmp 42) (Operand.const (Value.bool false)), type := 4, pos := "l5_replay.go:253", after := #[{ on := 4, ground := Ground.data }, { on := 15, ground := Ground.data }], guard := none }
theorem newsR {w : World} {b off n : Nat} {q : Nat → List Value} (h1 : ∀ k, k < n → (q k).length = 1) (h3 : ∀ k, k < n → ∀ u, (q k)[0]? = some u → w.cell? ⟨b, off + k, none⟩ = some u) : ∀ j u, (flt q n)[j]? = some u → w.cell? ((⟨b, off, none⟩ : Addr).add j) = some u := by
  refine flt_all (sz := 1) (by omega) h1 (P := fun j u => w.cell? ((⟨b, off, none⟩ : Addr).add j) = some u) (fun i hi j u hu => ?_)
  have hj : j = 0 := by
    obtain ⟨hl, -⟩ := List.getElem?_eq_some_iff.1 hu
    rw [h1 i hi] at hl
    omega
  subst hj
  rw [Nat.mul_one, Nat.add_zero, ← addr_add]
  exact h3 i hi u hu
theorem putL_lo {dm : Nat → Nat} {dR : Nat → Nat → Itm} {x : Rw} {k i : Nat} (h : i < k) : putL dm dR x k i = (dm i, dR i) := if_pos h
theorem putL_at {dm : Nat → Nat} {dR : Nat → Nat → Itm} {x : Rw} {k : Nat} : putL dm dR x k k = x := by simp [putL]
theorem putL_hi {dm : Nat → Nat} {dR : Nat → Nat → Itm} {x : Rw} {k i : Nat} : putL dm dR x k (k + 1 + i) = (dm (k + i), dR (k + i)) := by
  unfold putL
  rw [if_neg (by omega), if_neg (by omega), show k + 1 + i - 1 = k + i from by omega]
/-- What l5Put answers. -/
def PutA (bR offR dr cr : Nat) (dm : Nat → Nat) (dR : Nat → Nat → Itm) (n3 : Nat) (V : Nat → Itm) (w0 w : World) (p : Nat) (e : Ending) (w' : World) : Prop :=
  Below w.heap.size w w' ∧ ((p < dr ∧ cmpV (dR p 0).m (dR p 0).s (V 0).m (V 0).s = 0 ∧ e = .returned (.tuple #[.slice (some ⟨bR, offR, none⟩) dr cr, .bool false])) ∨ (¬ (p < dr ∧ cmpV (dR p 0).m (dR p 0).s (V 0).m (V 0).s = 0) ∧ ∃ g cap f, e = .returned (.tuple #[.slice (some ⟨g, 0, none⟩) (dr + 1) cap, .bool true]) ∧ RO w.heap.size (fun b => b < w0.heap.size) w' (.slice (some ⟨g, 0, none⟩) (dr + 1) cap) (dr + 1) (putL dm dR (n3, V) p) f))
set_option maxRecDepth 20000 in
set_option maxHeartbeats 16000000 in
theorem sPut (bR offR dr cr : Nat) (dm : Nat → Nat) (dR : Nat → Nat → Itm) (a3 : Option Addr) (n3 c3 : Nat) (V : Nat → Itm) (w0 w : World) (hR : OL w0 (some ⟨bR, offR, none⟩) dr dm dR) (hV : IL w0 a3 n3 V) (hb0 : Below w0.heap.size w0 w) (h3 : 0 < n3) (h3m : n3 ≤ 1048576) (hN : ∀ k, k < dr → 0 < dm k) (hr : dr ≤ 1000000) (hcr : dr ≤ cr) (p : Nat) (hp : putN dR (V 0).m (V 0).s dr = p) :
    Calls Tryz.prog 104 #[.slice (some ⟨bR, offR, none⟩) dr cr, .slice a3 n3 c3] w (PutA bR offR dr cr dm dR n3 V w0 w p) := by
  obtain ⟨jr, hir, hzr0, hzr1, hzr2⟩ := info_parts Tryz.infoRow
  have HIr : Hid (Tryz.prog.info? 41 = some jr) := hir
  clear hir
  have HP : Hid (putN dR (V 0).m (V 0).s dr = p) := hp
  have hpl : p ≤ dr := by rw [← hp]; exact putN_le
  clear hp
  have HNZ : Hid (∀ k, k < dr → 0 < dm k) := hN
  clear hN
  obtain ⟨b3, off3, rfl, v0, v1, v2, -⟩ := hV 0 h3
  rw [Nat.zero_mul, Nat.add_zero] at v0 v1 v2
  obtain ⟨vo, vm, vs, hV0⟩ : ∃ vo vm vs, V 0 = ⟨vo, vm, vs⟩ := ⟨_, _, _, rfl⟩
  rw [hV0] at v0 v1 v2 HP
  simp only at v0 v1 v2 HP
  have HV0 : Hid (V 0 = ⟨vo, vm, vs⟩) := hV0
  clear hV0
  have h3i : (0 : Int) < n3 := by omega
  have hBb := hb0.size
  go_enter Tryz.func104, Tryz.ntmps104
  go_wp2
  go_loopw [6] (fun v wr => ∃ k : Nat, k ≤ dr ∧ v = .int .i64 k ∧ putN dR vm vs k = k ∧ Below w.heap.size w wr) (fun v _ => dr - (intOf v).toNat)
  case atStart => exact ⟨0, Nat.zero_le _, rfl, rfl, Below.refl _ _⟩
  case round =>
    obtain ⟨k, hk, rfl, hpk, hb⟩ := hrel
    have HPK : Hid (putN dR vm vs k = k) := hpk
    clear hpk
    have hb00 := bstep hb0 hb
    have x0 := keepB hb00 v0
    have x1 := keepB hb00 v1
    have x2 := keepB hb00 v2
    have hk0 : (0 : Int) ≤ k := by omega
    by_cases hlt : k < dr
    · obtain ⟨b4, off4, ai, ci, e4, d0, hI, -⟩ := hR.later hb00 k hlt
      obtain ⟨rfl, rfl⟩ : bR = b4 ∧ offR = off4 := by simpa using e4
      clear e4
      obtain ⟨bq, offq, rfl, y0, y1, y2, -⟩ := hI 0 (HNZ.out k hlt)
      rw [Nat.zero_mul, Nat.add_zero] at y0 y1 y2
      have hmk : (0 : Int) < dm k := by have := HNZ.out k hlt; omega
      have hmk0 : 0 < dm k := HNZ.out k hlt
      have hkd : (k : Int) < dr := by omega
      obtain ⟨ko, km, ks, hK0⟩ : ∃ vo vm vs, dR k 0 = ⟨vo, vm, vs⟩ := ⟨_, _, _, rfl⟩
      rw [hK0] at y0 y1 y2
      simp only at y0 y1 y2
      obtain ⟨cz, hcz⟩ : ∃ cz, cmpV km ks vm vs = cz := ⟨_, rfl⟩
      have HCZ : Hid (cmpV (dR k 0).m (dR k 0).s vm vs = cz) := by show _ = _; rw [hK0]; exact hcz
      have hCmp := fun W => sCompare2 ko km ks vo vm vs W
      simp only [hcz] at hCmp
      clear hcz hK0
      go_upto_region 2 with (fail)
      refine wp_region_held_drew (S := fun x => Below wr.heap.size wr x) (by kernel_rfl) (bdrew _) (fun hHeld => ?_)
      refine' takeF (i := 0) (oi := qUn0) rfl ⟨by rfl, fun x hSw => ?h1⟩ hHeld ?r1
      case h1 =>
        go_simp
        try with_reducible rfl
      try simp only [Act.put, List.setIfInBounds_toArray, List.set_cons_zero, List.set_cons_succ]
      refine' takeF (i := 1) (oi := qUn1) rfl ⟨by rfl, fun x hSw => ?h2⟩ hHeld ?r2
      case h2 =>
        go_simp
        try with_reducible rfl
      try simp only [Act.put, List.setIfInBounds_toArray, List.set_cons_zero, List.set_cons_succ]
      refine' takeF (i := 2) (oi := qUn2) rfl ⟨by rfl, fun x hSw => ?h3⟩ hHeld ?r3
      case h3 =>
        go_simp
        try with_reducible rfl
      try simp only [Act.put, List.setIfInBounds_toArray, List.set_cons_zero, List.set_cons_succ]
      refine' takeF (i := 3) (oi := qUn3) rfl ⟨by rfl, fun x hSw => ?h4⟩ hHeld ?r4
      case h4 =>
        go_simp
        try with_reducible rfl
      try simp only [Act.put, List.setIfInBounds_toArray, List.set_cons_zero, List.set_cons_succ]
      refine' takeF (i := 4) (oi := qUn4) rfl ⟨by rfl, fun x hSw => ?h5⟩ hHeld ?r5
      case h5 =>
        go_simp
        try with_reducible rfl
      try simp only [Act.put, List.setIfInBounds_toArray, List.set_cons_zero, List.set_cons_succ]
      refine' takeF (i := 5) (oi := qUn5) rfl ⟨by rfl, fun x hSw => ?h6⟩ hHeld ?r6
      case h6 =>
        go_simp
        try with_reducible rfl
      try simp only [Act.put, List.setIfInBounds_toArray, List.set_cons_zero, List.set_cons_succ]
      refine' takeF (i := 6) (oi := qUn6) rfl ⟨by rfl, fun x hSw => ?h7⟩ hHeld ?r7
      case h7 =>
        go_simp
        try with_reducible rfl
      try simp only [Act.put, List.setIfInBounds_toArray, List.set_cons_zero, List.set_cons_succ]
      refine' takeF (i := 7) (oi := qUn7) rfl ⟨by rfl, fun x hSw => ?h8⟩ hHeld ?r8
      case h8 =>
        go_simp
        try with_reducible rfl
      try simp only [Act.put, List.setIfInBounds_toArray, List.set_cons_zero, List.set_cons_succ]
      refine' takeF (i := 8) (oi := qUn8) rfl ⟨by rfl, fun x hSw => ?h9⟩ hHeld ?r9
      case h9 =>
        have k0 := keepB hSw d0; have k1 := keepB hSw y0; have k2 := keepB hSw y1; have k3 := keepB hSw y2; have k4 := keepB hSw x0; have k5 := keepB hSw x1; have k6 := keepB hSw x2
        go_simp
        try with_reducible rfl
      try simp only [Act.put, List.setIfInBounds_toArray, List.set_cons_zero, List.set_cons_succ]
      refine' takeF (i := 9) (oi := qUn9) rfl ⟨by rfl, fun x hSw => ?h10⟩ hHeld ?r10
      case h10 =>
        go_simp
        try with_reducible rfl
      try simp only [Act.put, List.setIfInBounds_toArray, List.set_cons_zero, List.set_cons_succ]
      refine' takeF (i := 10) (oi := qUn10) rfl ⟨by rfl, fun x hSw => ?h11⟩ hHeld ?r11
      case h11 =>
        have k0 := keepB hSw d0; have k1 := keepB hSw y0; have k2 := keepB hSw y1; have k3 := keepB hSw y2; have k4 := keepB hSw x0; have k5 := keepB hSw x1; have k6 := keepB hSw x2
        go_simp
        try with_reducible rfl
      try simp only [Act.put, List.setIfInBounds_toArray, List.set_cons_zero, List.set_cons_succ]
      refine' takeF (i := 11) (oi := qUn11) rfl ⟨by rfl, fun x hSw => ?h12⟩ hHeld ?r12
      case h12 =>
        go_simp
        try with_reducible rfl
      try simp only [Act.put, List.setIfInBounds_toArray, List.set_cons_zero, List.set_cons_succ]
      refine' takeF (i := 12) (oi := qUn12) rfl ⟨by rfl, fun x hSw => ?h13⟩ hHeld ?r13
      case h13 =>
        go_simp
        try with_reducible rfl
      try simp only [Act.put, List.setIfInBounds_toArray, List.set_cons_zero, List.set_cons_succ]
      refine' takeF (i := 13) (oi := qUn13) rfl ⟨by rfl, fun x hSw => ?h14⟩ hHeld ?r14
      case h14 =>
        have k0 := keepB hSw d0; have k1 := keepB hSw y0; have k2 := keepB hSw y1; have k3 := keepB hSw y2; have k4 := keepB hSw x0; have k5 := keepB hSw x1; have k6 := keepB hSw x2
        go_simp
        try with_reducible rfl
      try simp only [Act.put, List.setIfInBounds_toArray, List.set_cons_zero, List.set_cons_succ]
      refine wpAnyH_ready (rs := [14]) (by kernel_rfl) (by simp) ?_
      refine AllReadyH.cons (o := qUn14) rfl (fun K hK => ?_) AllReadyH.nil
      go_simp
      refine (hCmp _).mono ?_
      rintro e w4 ⟨rfl, hb4⟩
      refine hK.out _ _ (bstep hHeld hb4) (fun hHeld => ?_)
      clear hK K
      try simp only [Act.put, List.setIfInBounds_toArray, List.set_cons_zero, List.set_cons_succ]
      refine' takeF (i := 15) (oi := qUn15) rfl ⟨by rfl, fun x hSw => ?h15⟩ hHeld ?r15
      case h15 =>
        go_simp
        try with_reducible rfl
      try simp only [Act.put, List.setIfInBounds_toArray, List.set_cons_zero, List.set_cons_succ]
      refine' takeF (i := 16) (oi := qUn16) rfl ⟨by rfl, fun x hSw => ?h16⟩ hHeld ?r16
      case h16 =>
        go_simp
        try with_reducible rfl
      try simp only [Act.put, List.setIfInBounds_toArray, List.set_cons_zero, List.set_cons_succ]
      refine wpAnyH_done (by kernel_rfl) ?_ _
      by_cases hc0 : cz < 0
      · go_wp2
        go_roundw
        case rel => exact ⟨k + 1, by omega, by go_num, by rw [putN, if_pos ⟨HPK.out, by rw [HCZ.out]; exact hc0⟩], bstep hb hHeld⟩
        case measure => simp [intOf]; omega
      · have hpk : p = k := by rw [← HP.out]; exact putN_stop HPK.out (by rw [HCZ.out]; exact hc0) dr hlt
        subst hpk
        have hHw : Below wr.heap.size wr w4 := hHeld
        clear hHeld
        go_upto_region 4 with (fail)
        refine wp_region_held_drew (S := fun x => Below wr.heap.size wr x) (by kernel_rfl) (bstep hHw (bdrew _)) (fun hHeld => ?_)
        refine' takeF (i := 0) (oi := qUn17) rfl ⟨by rfl, fun x hSw => ?h17⟩ hHeld ?r17
        case h17 =>
          go_simp
          try with_reducible rfl
        try simp only [Act.put, List.setIfInBounds_toArray, List.set_cons_zero, List.set_cons_succ]
        refine' takeF (i := 1) (oi := qUn18) rfl ⟨by rfl, fun x hSw => ?h18⟩ hHeld ?r18
        case h18 =>
          go_simp
          try with_reducible rfl
        try simp only [Act.put, List.setIfInBounds_toArray, List.set_cons_zero, List.set_cons_succ]
        refine' takeF (i := 2) (oi := qUn19) rfl ⟨by rfl, fun x hSw => ?h19⟩ hHeld ?r19
        case h19 =>
          go_simp
          try with_reducible rfl
        try simp only [Act.put, List.setIfInBounds_toArray, List.set_cons_zero, List.set_cons_succ]
        refine' takeF (i := 3) (oi := qUn20) rfl ⟨by rfl, fun x hSw => ?h20⟩ hHeld ?r20
        case h20 =>
          go_simp
          try with_reducible rfl
        try simp only [Act.put, List.setIfInBounds_toArray, List.set_cons_zero, List.set_cons_succ]
        refine' takeF (i := 4) (oi := qUn21) rfl ⟨by rfl, fun x hSw => ?h21⟩ hHeld ?r21
        case h21 =>
          go_simp
          try with_reducible rfl
        try simp only [Act.put, List.setIfInBounds_toArray, List.set_cons_zero, List.set_cons_succ]
        refine' takeF (i := 5) (oi := qUn22) rfl ⟨by rfl, fun x hSw => ?h22⟩ hHeld ?r22
        case h22 =>
          go_simp
          try with_reducible rfl
        try simp only [Act.put, List.setIfInBounds_toArray, List.set_cons_zero, List.set_cons_succ]
        refine' takeF (i := 6) (oi := qUn23) rfl ⟨by rfl, fun x hSw => ?h23⟩ hHeld ?r23
        case h23 =>
          go_simp
          try with_reducible rfl
        try simp only [Act.put, List.setIfInBounds_toArray, List.set_cons_zero, List.set_cons_succ]
        refine' takeF (i := 7) (oi := qUn24) rfl ⟨by rfl, fun x hSw => ?h24⟩ hHeld ?r24
        case h24 =>
          go_simp
          try with_reducible rfl
        try simp only [Act.put, List.setIfInBounds_toArray, List.set_cons_zero, List.set_cons_succ]
        refine' takeF (i := 8) (oi := qUn25) rfl ⟨by rfl, fun x hSw => ?h25⟩ hHeld ?r25
        case h25 =>
          have k0 := keepB hSw d0; have k1 := keepB hSw y0; have k2 := keepB hSw y1; have k3 := keepB hSw y2; have k4 := keepB hSw x0; have k5 := keepB hSw x1; have k6 := keepB hSw x2
          go_simp
          try with_reducible rfl
        try simp only [Act.put, List.setIfInBounds_toArray, List.set_cons_zero, List.set_cons_succ]
        refine' takeF (i := 9) (oi := qUn26) rfl ⟨by rfl, fun x hSw => ?h26⟩ hHeld ?r26
        case h26 =>
          go_simp
          try with_reducible rfl
        try simp only [Act.put, List.setIfInBounds_toArray, List.set_cons_zero, List.set_cons_succ]
        refine' takeF (i := 10) (oi := qUn27) rfl ⟨by rfl, fun x hSw => ?h27⟩ hHeld ?r27
        case h27 =>
          have k0 := keepB hSw d0; have k1 := keepB hSw y0; have k2 := keepB hSw y1; have k3 := keepB hSw y2; have k4 := keepB hSw x0; have k5 := keepB hSw x1; have k6 := keepB hSw x2
          go_simp
          try with_reducible rfl
        try simp only [Act.put, List.setIfInBounds_toArray, List.set_cons_zero, List.set_cons_succ]
        refine' takeF (i := 11) (oi := qUn28) rfl ⟨by rfl, fun x hSw => ?h28⟩ hHeld ?r28
        case h28 =>
          go_simp
          try with_reducible rfl
        try simp only [Act.put, List.setIfInBounds_toArray, List.set_cons_zero, List.set_cons_succ]
        refine' takeF (i := 12) (oi := qUn29) rfl ⟨by rfl, fun x hSw => ?h29⟩ hHeld ?r29
        case h29 =>
          go_simp
          try with_reducible rfl
        try simp only [Act.put, List.setIfInBounds_toArray, List.set_cons_zero, List.set_cons_succ]
        refine' takeF (i := 13) (oi := qUn30) rfl ⟨by rfl, fun x hSw => ?h30⟩ hHeld ?r30
        case h30 =>
          have k0 := keepB hSw d0; have k1 := keepB hSw y0; have k2 := keepB hSw y1; have k3 := keepB hSw y2; have k4 := keepB hSw x0; have k5 := keepB hSw x1; have k6 := keepB hSw x2
          go_simp
          try with_reducible rfl
        try simp only [Act.put, List.setIfInBounds_toArray, List.set_cons_zero, List.set_cons_succ]
        refine wpAnyH_ready (rs := [14]) (by kernel_rfl) (by simp) ?_
        refine AllReadyH.cons (o := qUn31) rfl (fun K hK => ?_) AllReadyH.nil
        go_simp
        refine (hCmp _).mono ?_
        rintro e w9 ⟨rfl, hb9⟩
        refine hK.out _ _ (bstep hHeld hb9) (fun hHeld => ?_)
        clear hK K
        try simp only [Act.put, List.setIfInBounds_toArray, List.set_cons_zero, List.set_cons_succ]
        refine' takeF (i := 15) (oi := qUn32) rfl ⟨by rfl, fun x hSw => ?h31⟩ hHeld ?r31
        case h31 =>
          go_simp
          try with_reducible rfl
        try simp only [Act.put, List.setIfInBounds_toArray, List.set_cons_zero, List.set_cons_succ]
        refine' takeF (i := 16) (oi := qUn33) rfl ⟨by rfl, fun x hSw => ?h32⟩ hHeld ?r32
        case h32 =>
          go_simp
          try with_reducible rfl
        try simp only [Act.put, List.setIfInBounds_toArray, List.set_cons_zero, List.set_cons_succ]
        refine wpAnyH_done (by kernel_rfl) ?_ _
        have hbt := bstep hb hHeld
        clear hHeld
        by_cases hc1 : cz = 0
        · subst hc1
          have HY : Hid (cmpV (dR p 0).m (dR p 0).s (V 0).m (V 0).s = 0) := by show _ = _; rw [HV0.out]; exact HCZ.out
          go_wp2
          exact bodyPost_ret (results_tmp2 rfl _ _ _) rfl ⟨hbt, Or.inl ⟨hlt, HY.out, rfl⟩⟩
        · have HNO : Hid (¬ (p < dr ∧ cmpV (dR p 0).m (dR p 0).s (V 0).m (V 0).s = 0)) := fun hh => hc1 (by rw [← HCZ.out]; have := hh.2; rw [HV0.out] at this; exact this)
          have hc2 : (cz == 0) = false := by simpa using hc1
          obtain ⟨q, hq1, hq2, hq3, hq4⟩ := hR.cells
          have hVL := hV.lb
          have hbt0 := bstep hb0 hbt
          have hst := hbt.size
          have hkc : (p : Int) ≤ cr := by omega
          have hkc2 : p ≤ cr := by omega
          have hkd2 : (p : Int) ≤ dr := by omega
          have hkd3 : p ≤ dr := by omega
          have HE : Hid ((w9.alloc (.cells #[] 41)).ownsRow w.heap.size 41 1 (.slice (some ⟨w9.heap.size, 0, none⟩) 0 0) 0 []) := World.ownsRow_made w9 #[] 0 hst (by unfold maxLen; omega) rfl
          · have hkk2 : p < cr := by omega
            have hkk3 : (p : Int) < cr := by omega
            have hkk4 : ¬ cr = p := by omega
            go_wp2_with (first | (at_builtin; have _h := hG6; refine wpList_append_own _ rfl _ _ 33 rfl w.heap.size 41 jr (.slice none 0 0) 1 24 Tryz.underlying33 HIr.out hzr0 hzr1 hzr2 rfl (by omega) (.slice (some ⟨g6, 0, none⟩) (p + 1) cap6) (p + 1) _ rfl hG6.own ⟨bR, offR + p, none⟩ (dr - p) (cr - p) (flt (fun i => q (p + i)) (dr - p)) rfl (by rw [flt_len (sz := 1) (fun i hi => hq1 (p + i) (by omega))]) (newsR (fun i hi => hq1 (p + i) (by omega)) (fun i hi u hu => by rw [Nat.add_assoc]; exact keepB (bstep hb0 hb6) (hq3 (p + i) (by omega) u hu))) (flt_one (fun i hi => hq2 (p + i) (by omega))) (by unfold maxLen; omega) (by omega) (by omega) ?_; intro v1 w7 hO7 hgr7 hnil7; obtain ⟨g7, cap7, rfl⟩ := own_some hO7 (fun e => by have := hnil7.1 e; simp at this); have hgl6 := (hG6.own.lt g6 rfl).1; have hG7 := GO.app hG6 (c := fun i => q (p + i)) (fun i hi => hq1 (p + i) (by omega)) (fun i hi => by rw [putL_hi]; exact ((hq4 (p + i) (by omega)).later (bstep hb0 hb6)).wide (fun b hx _ => ⟨hx, by show some b ≠ some g6; intro e; have e3 : b = g6 := Option.some.inj e; omega⟩)) hO7 hgr7 (fun b hx => by omega); have hb7 := gBr hb6 hgr7 (fun x hx => by show some x ≠ some g6; intro e; have e3 : x = g6 := Option.some.inj e; omega); clear hnil7 hO7) | (at_builtin; have _h := hG5; refine wpList_append_lies _ rfl _ _ _ rfl w.heap.size 41 jr (.slice none 0 0) 1 24 Tryz.underlying33 HIr.out hzr0 hzr1 hzr2 rfl (by omega) (.slice (some ⟨g5, 0, none⟩) p cap5) p _ rfl (hG5.later (bal _ _)).own ⟨w5.heap.size, 0, none⟩ 1 1 [.slice (some ⟨b3, off3, none⟩) n3 c3] rfl rfl (World.news_of_block (heap_alloc_new w5 _)) (ones _ rfl) (by omega) (by unfold maxLen; omega) (by omega) (by simp; omega) _ rfl ?_; intro g6 cap6 w6 hO6 hgr6 hat6 hlt6; have hgl5 := (hG5.own.lt g5 rfl).1; have hG6 := GO.push (hG5.later (bal _ _)) (c := [.slice (some ⟨b3, off3, none⟩) n3 c3]) rfl (by rw [putL_at]; exact ((hVL.later (bstep (bstep hb0 hb5) (bal _ _))).wide (fun b hx _ => ⟨hx, by show some b ≠ some g5; intro e; have e3 : b = g5 := Option.some.inj e; omega⟩)).imp (fun _ h => ⟨_, _, rfl, h, h3m⟩)) hO6 hgr6 hat6; have hb6 := gBr (bstep hb5 (bal _ _)) hgr6 (fun x hx => by show some x ≠ some g5; intro e; have e3 : x = g5 := Option.some.inj e; omega); have hs6 := hb6.size; clear hO6) | (at_builtin; refine wpList_append_own _ rfl _ _ 33 rfl w.heap.size 41 jr (.slice none 0 0) 1 24 Tryz.underlying33 HIr.out hzr0 hzr1 hzr2 rfl (by omega) (.slice (some ⟨w9.heap.size, 0, none⟩) 0 0) 0 [] rfl HE.out ⟨bR, offR, none⟩ p cr (flt q p) rfl (by rw [flt_len (sz := 1) (fun i hi => hq1 i (by omega))]) (newsR (fun i hi => hq1 i (by omega)) (fun i hi u hu => keepB (bstep hbt0 (bal _ _)) (hq3 i (by omega) u hu))) (flt_one (fun i hi => hq2 i (by omega))) (by unfold maxLen; omega) (by omega) (by have := hbt.size; simp; omega) ?_; intro v1 w5 hO5 hgr5 hnil5; obtain ⟨g5, cap5, rfl⟩ := own_some hO5 (fun e => by have := hnil5.1 e; simp at this); have hG5 := GO.app (x := (putL dm dR (n3, V) p)) (D := fun b => b < w0.heap.size) (E := ER) (GO.nil HE.out) (c := q) (fun i hi => hq1 i (by omega)) (fun i hi => by rw [Nat.zero_add, putL_lo hi]; exact ((hq4 i (by omega)).later (bstep hbt0 (bal _ _))).wide (fun b hx _ => ⟨hx, by show some b ≠ some w9.heap.size; intro e; have e3 : b = w9.heap.size := Option.some.inj e; omega⟩)) hO5 hgr5 (fun b hx => by omega); simp only [Nat.zero_add] at hG5; have hb5 := gBr (bstep hbt (bal _ _)) hgr5 (fun x hx => by show some x ≠ some w9.heap.size; intro e; have e3 : x = w9.heap.size := Option.some.inj e; omega); have hs5 := hb5.size; clear hnil5 hO5))
            rw [show p + 1 + (dr - p) = dr + 1 from by omega] at hG7
            refine bodyPost_ret (results_tmp2 rfl _ _ _) rfl ⟨hb7, Or.inr ⟨HNO.out, g7, cap7, _, ?_, hG7⟩⟩
            try rw [show p + 1 + (dr - p) = dr + 1 from by omega]
            try rfl
    · obtain rfl : k = dr := by omega
      have hkd : ¬ (k : Int) < k := by omega
      go_upto_region 2 with (fail)
      refine wp_region_held_drew (S := fun x => Below wr.heap.size wr x) (by kernel_rfl) (bdrew _) (fun hHeld => ?_)
      refine' takeF (i := 0) (oi := qUn0) rfl ⟨by rfl, fun x hSw => ?h33⟩ hHeld ?r33
      case h33 =>
        go_simp
        try with_reducible rfl
      try simp only [Act.put, List.setIfInBounds_toArray, List.set_cons_zero, List.set_cons_succ]
      refine' takeF (i := 1) (oi := qUn1) rfl ⟨by rfl, fun x hSw => ?h34⟩ hHeld ?r34
      case h34 =>
        go_simp
        try with_reducible rfl
      try simp only [Act.put, List.setIfInBounds_toArray, List.set_cons_zero, List.set_cons_succ]
      refine' takeF (i := 2) (oi := qUn2) rfl ⟨by rfl, fun x hSw => ?h35⟩ hHeld ?r35
      case h35 =>
        go_simp
        try with_reducible rfl
      try simp only [Act.put, List.setIfInBounds_toArray, List.set_cons_zero, List.set_cons_succ]
      refine' takeF (i := 3) (oi := qUn3) rfl ⟨by rfl, fun x hSw => ?h36⟩ hHeld ?r36
      case h36 =>
        go_simp
        try with_reducible rfl
      try simp only [Act.put, List.setIfInBounds_toArray, List.set_cons_zero, List.set_cons_succ]
      refine' takeF (i := 4) (oi := qUn4) rfl ⟨by rfl, fun x hSw => ?h37⟩ hHeld ?r37
      case h37 =>
        go_simp
        try with_reducible rfl
      try simp only [Act.put, List.setIfInBounds_toArray, List.set_cons_zero, List.set_cons_succ]
      refine wpAnyH_take (i := 5) (oi := qUn5) (v := undef) rfl (by kernel_rfl) (by kernel_rfl) (by kernel_rfl) (fun _ _ _ h => h) (Or.inr ⟨by rfl, rfl⟩) hHeld ?_
      try simp only [Act.put, List.setIfInBounds_toArray, List.set_cons_zero, List.set_cons_succ]
      refine wpAnyH_take (i := 6) (oi := qUn6) (v := undef) rfl (by kernel_rfl) (by kernel_rfl) (by kernel_rfl) (fun _ _ _ h => h) (Or.inr ⟨by rfl, rfl⟩) hHeld ?_
      try simp only [Act.put, List.setIfInBounds_toArray, List.set_cons_zero, List.set_cons_succ]
      refine wpAnyH_take (i := 7) (oi := qUn7) (v := undef) rfl (by kernel_rfl) (by kernel_rfl) (by kernel_rfl) (fun _ _ _ h => h) (Or.inr ⟨by rfl, rfl⟩) hHeld ?_
      try simp only [Act.put, List.setIfInBounds_toArray, List.set_cons_zero, List.set_cons_succ]
      refine wpAnyH_take (i := 8) (oi := qUn8) (v := undef) rfl (by kernel_rfl) (by kernel_rfl) (by kernel_rfl) (fun _ _ _ h => h) (Or.inr ⟨by rfl, rfl⟩) hHeld ?_
      try simp only [Act.put, List.setIfInBounds_toArray, List.set_cons_zero, List.set_cons_succ]
      refine wpAnyH_take (i := 9) (oi := qUn9) (v := undef) rfl (by kernel_rfl) (by kernel_rfl) (by kernel_rfl) (fun _ _ _ h => h) (Or.inr ⟨by rfl, rfl⟩) hHeld ?_
      try simp only [Act.put, List.setIfInBounds_toArray, List.set_cons_zero, List.set_cons_succ]
      refine wpAnyH_take (i := 10) (oi := qUn10) (v := undef) rfl (by kernel_rfl) (by kernel_rfl) (by kernel_rfl) (fun _ _ _ h => h) (Or.inr ⟨by rfl, rfl⟩) hHeld ?_
      try simp only [Act.put, List.setIfInBounds_toArray, List.set_cons_zero, List.set_cons_succ]
      refine wpAnyH_take (i := 11) (oi := qUn11) (v := undef) rfl (by kernel_rfl) (by kernel_rfl) (by kernel_rfl) (fun _ _ _ h => h) (Or.inr ⟨by rfl, rfl⟩) hHeld ?_
      try simp only [Act.put, List.setIfInBounds_toArray, List.set_cons_zero, List.set_cons_succ]
      refine wpAnyH_take (i := 12) (oi := qUn12) (v := undef) rfl (by kernel_rfl) (by kernel_rfl) (by kernel_rfl) (fun _ _ _ h => h) (Or.inr ⟨by rfl, rfl⟩) hHeld ?_
      try simp only [Act.put, List.setIfInBounds_toArray, List.set_cons_zero, List.set_cons_succ]
      refine wpAnyH_take (i := 13) (oi := qUn13) (v := undef) rfl (by kernel_rfl) (by kernel_rfl) (by kernel_rfl) (fun _ _ _ h => h) (Or.inr ⟨by rfl, rfl⟩) hHeld ?_
      try simp only [Act.put, List.setIfInBounds_toArray, List.set_cons_zero, List.set_cons_succ]
      refine wpAnyH_take (i := 14) (oi := qUn14) (v := undef) rfl (by kernel_rfl) (by kernel_rfl) (by kernel_rfl) (fun _ _ _ h => h) (Or.inr ⟨by rfl, rfl⟩) hHeld ?_
      try simp only [Act.put, List.setIfInBounds_toArray, List.set_cons_zero, List.set_cons_succ]
      refine wpAnyH_take (i := 15) (oi := qUn15) (v := undef) rfl (by kernel_rfl) (by kernel_rfl) (by kernel_rfl) (fun _ _ _ h => h) (Or.inr ⟨by rfl, rfl⟩) hHeld ?_
      try simp only [Act.put, List.setIfInBounds_toArray, List.set_cons_zero, List.set_cons_succ]
      refine' takeF (i := 16) (oi := qUn16) rfl ⟨by rfl, fun x hSw => ?h38⟩ hHeld ?r38
      case h38 =>
        go_simp
        try with_reducible rfl
      try simp only [Act.put, List.setIfInBounds_toArray, List.set_cons_zero, List.set_cons_succ]
      refine wpAnyH_done (by kernel_rfl) ?_ _
      have hpk : p = k := by rw [← HP.out, HPK.out]
      subst hpk
      have hHw : Below wr.heap.size wr wr.drew := hHeld
      clear hHeld
      go_upto_region 4 with (fail)
      refine wp_region_held_drew (S := fun x => Below wr.heap.size wr x) (by kernel_rfl) (bstep hHw (bdrew _)) (fun hHeld => ?_)
      refine' takeF (i := 0) (oi := qUn17) rfl ⟨by rfl, fun x hSw => ?h39⟩ hHeld ?r39
      case h39 =>
        go_simp
        try with_reducible rfl
      try simp only [Act.put, List.setIfInBounds_toArray, List.set_cons_zero, List.set_cons_succ]
      refine' takeF (i := 1) (oi := qUn18) rfl ⟨by rfl, fun x hSw => ?h40⟩ hHeld ?r40
      case h40 =>
        go_simp
        try with_reducible rfl
      try simp only [Act.put, List.setIfInBounds_toArray, List.set_cons_zero, List.set_cons_succ]
      refine' takeF (i := 2) (oi := qUn19) rfl ⟨by rfl, fun x hSw => ?h41⟩ hHeld ?r41
      case h41 =>
        go_simp
        try with_reducible rfl
      try simp only [Act.put, List.setIfInBounds_toArray, List.set_cons_zero, List.set_cons_succ]
      refine' takeF (i := 3) (oi := qUn20) rfl ⟨by rfl, fun x hSw => ?h42⟩ hHeld ?r42
      case h42 =>
        go_simp
        try with_reducible rfl
      try simp only [Act.put, List.setIfInBounds_toArray, List.set_cons_zero, List.set_cons_succ]
      refine' takeF (i := 4) (oi := qUn21) rfl ⟨by rfl, fun x hSw => ?h43⟩ hHeld ?r43
      case h43 =>
        go_simp
        try with_reducible rfl
      try simp only [Act.put, List.setIfInBounds_toArray, List.set_cons_zero, List.set_cons_succ]
      refine wpAnyH_take (i := 5) (oi := qUn22) (v := undef) rfl (by kernel_rfl) (by kernel_rfl) (by kernel_rfl) (fun _ _ _ h => h) (Or.inr ⟨by rfl, rfl⟩) hHeld ?_
      try simp only [Act.put, List.setIfInBounds_toArray, List.set_cons_zero, List.set_cons_succ]
      refine wpAnyH_take (i := 6) (oi := qUn23) (v := undef) rfl (by kernel_rfl) (by kernel_rfl) (by kernel_rfl) (fun _ _ _ h => h) (Or.inr ⟨by rfl, rfl⟩) hHeld ?_
      try simp only [Act.put, List.setIfInBounds_toArray, List.set_cons_zero, List.set_cons_succ]
      refine wpAnyH_take (i := 7) (oi := qUn24) (v := undef) rfl (by kernel_rfl) (by kernel_rfl) (by kernel_rfl) (fun _ _ _ h => h) (Or.inr ⟨by rfl, rfl⟩) hHeld ?_
      try simp only [Act.put, List.setIfInBounds_toArray, List.set_cons_zero, List.set_cons_succ]
      refine wpAnyH_take (i := 8) (oi := qUn25) (v := undef) rfl (by kernel_rfl) (by kernel_rfl) (by kernel_rfl) (fun _ _ _ h => h) (Or.inr ⟨by rfl, rfl⟩) hHeld ?_
      try simp only [Act.put, List.setIfInBounds_toArray, List.set_cons_zero, List.set_cons_succ]
      refine wpAnyH_take (i := 9) (oi := qUn26) (v := undef) rfl (by kernel_rfl) (by kernel_rfl) (by kernel_rfl) (fun _ _ _ h => h) (Or.inr ⟨by rfl, rfl⟩) hHeld ?_
      try simp only [Act.put, List.setIfInBounds_toArray, List.set_cons_zero, List.set_cons_succ]
      refine wpAnyH_take (i := 10) (oi := qUn27) (v := undef) rfl (by kernel_rfl) (by kernel_rfl) (by kernel_rfl) (fun _ _ _ h => h) (Or.inr ⟨by rfl, rfl⟩) hHeld ?_
      try simp only [Act.put, List.setIfInBounds_toArray, List.set_cons_zero, List.set_cons_succ]
      refine wpAnyH_take (i := 11) (oi := qUn28) (v := undef) rfl (by kernel_rfl) (by kernel_rfl) (by kernel_rfl) (fun _ _ _ h => h) (Or.inr ⟨by rfl, rfl⟩) hHeld ?_
      try simp only [Act.put, List.setIfInBounds_toArray, List.set_cons_zero, List.set_cons_succ]
      refine wpAnyH_take (i := 12) (oi := qUn29) (v := undef) rfl (by kernel_rfl) (by kernel_rfl) (by kernel_rfl) (fun _ _ _ h => h) (Or.inr ⟨by rfl, rfl⟩) hHeld ?_
      try simp only [Act.put, List.setIfInBounds_toArray, List.set_cons_zero, List.set_cons_succ]
      refine wpAnyH_take (i := 13) (oi := qUn30) (v := undef) rfl (by kernel_rfl) (by kernel_rfl) (by kernel_rfl) (fun _ _ _ h => h) (Or.inr ⟨by rfl, rfl⟩) hHeld ?_
      try simp only [Act.put, List.setIfInBounds_toArray, List.set_cons_zero, List.set_cons_succ]
      refine wpAnyH_take (i := 14) (oi := qUn31) (v := undef) rfl (by kernel_rfl) (by kernel_rfl) (by kernel_rfl) (fun _ _ _ h => h) (Or.inr ⟨by rfl, rfl⟩) hHeld ?_
      try simp only [Act.put, List.setIfInBounds_toArray, List.set_cons_zero, List.set_cons_succ]
      refine wpAnyH_take (i := 15) (oi := qUn32) (v := undef) rfl (by kernel_rfl) (by kernel_rfl) (by kernel_rfl) (fun _ _ _ h => h) (Or.inr ⟨by rfl, rfl⟩) hHeld ?_
      try simp only [Act.put, List.setIfInBounds_toArray, List.set_cons_zero, List.set_cons_succ]
      refine' takeF (i := 16) (oi := qUn33) rfl ⟨by rfl, fun x hSw => ?h44⟩ hHeld ?r44
      case h44 =>
        go_simp
        try with_reducible rfl
      try simp only [Act.put, List.setIfInBounds_toArray, List.set_cons_zero, List.set_cons_succ]
      refine wpAnyH_done (by kernel_rfl) ?_ _
      generalize wr.drew.drew = v at hHeld ⊢
      have hbt := bstep hb hHeld
      clear hHeld hHw
      have HNO : Hid (¬ (p < p ∧ cmpV (dR p 0).m (dR p 0).s (V 0).m (V 0).s = 0)) := fun hh => Nat.lt_irrefl _ hh.1
      obtain ⟨q, hq1, hq2, hq3, hq4⟩ := hR.cells
      have hVL := hV.lb
      have hbt0 := bstep hb0 hbt
      have hst := hbt.size
      have hkc : (p : Int) ≤ cr := by omega
      have hkc2 : p ≤ cr := by omega
      have hkd2 : (p : Int) ≤ p := by omega
      have hkd3 : p ≤ p := by omega
      have HE : Hid ((v.alloc (.cells #[] 41)).ownsRow w.heap.size 41 1 (.slice (some ⟨v.heap.size, 0, none⟩) 0 0) 0 []) := World.ownsRow_made v #[] 0 hst (by unfold maxLen; omega) rfl
      by_cases hkk : cr = p
      · obtain rfl : p = cr := hkk.symm
        go_wp2_with (first | (at_builtin; have _h := hG6; refine wpList_append_own _ rfl _ _ 33 rfl w.heap.size 41 jr (.slice none 0 0) 1 24 Tryz.underlying33 HIr.out hzr0 hzr1 hzr2 rfl (by omega) (.slice (some ⟨g6, 0, none⟩) (p + 1) cap6) (p + 1) _ rfl hG6.own ⟨bR, offR, none⟩ 0 0 (flt (fun i => q (p + i)) 0) rfl (by rw [flt_len (sz := 1) (fun i hi => hq1 (p + i) (by omega))]) (newsR (fun i hi => hq1 (p + i) (by omega)) (fun i hi u hu => absurd hi (by omega))) (flt_one (fun i hi => hq2 (p + i) (by omega))) (by unfold maxLen; omega) (by omega) (by omega) ?_; intro v1 w7 hO7 hgr7 hnil7; obtain ⟨g7, cap7, rfl⟩ := own_some hO7 (fun e => by have := hnil7.1 e; simp at this); have hgl6 := (hG6.own.lt g6 rfl).1; have hG7 := GO.app hG6 (c := fun i => q (p + i)) (fun i hi => hq1 (p + i) (by omega)) (fun i hi => by rw [putL_hi]; exact ((hq4 (p + i) (by omega)).later (bstep hb0 hb6)).wide (fun b hx _ => ⟨hx, by show some b ≠ some g6; intro e; have e3 : b = g6 := Option.some.inj e; omega⟩)) hO7 hgr7 (fun b hx => by omega); have hb7 := gBr hb6 hgr7 (fun x hx => by show some x ≠ some g6; intro e; have e3 : x = g6 := Option.some.inj e; omega); clear hnil7 hO7) | (at_builtin; have _h := hG5; refine wpList_append_lies _ rfl _ _ _ rfl w.heap.size 41 jr (.slice none 0 0) 1 24 Tryz.underlying33 HIr.out hzr0 hzr1 hzr2 rfl (by omega) (.slice (some ⟨g5, 0, none⟩) p cap5) p _ rfl (hG5.later (bal _ _)).own ⟨w5.heap.size, 0, none⟩ 1 1 [.slice (some ⟨b3, off3, none⟩) n3 c3] rfl rfl (World.news_of_block (heap_alloc_new w5 _)) (ones _ rfl) (by omega) (by unfold maxLen; omega) (by omega) (by simp; omega) _ rfl ?_; intro g6 cap6 w6 hO6 hgr6 hat6 hlt6; have hgl5 := (hG5.own.lt g5 rfl).1; have hG6 := GO.push (hG5.later (bal _ _)) (c := [.slice (some ⟨b3, off3, none⟩) n3 c3]) rfl (by rw [putL_at]; exact ((hVL.later (bstep (bstep hb0 hb5) (bal _ _))).wide (fun b hx _ => ⟨hx, by show some b ≠ some g5; intro e; have e3 : b = g5 := Option.some.inj e; omega⟩)).imp (fun _ h => ⟨_, _, rfl, h, h3m⟩)) hO6 hgr6 hat6; have hb6 := gBr (bstep hb5 (bal _ _)) hgr6 (fun x hx => by show some x ≠ some g5; intro e; have e3 : x = g5 := Option.some.inj e; omega); have hs6 := hb6.size; clear hO6) | (at_builtin; refine wpList_append_own _ rfl _ _ 33 rfl w.heap.size 41 jr (.slice none 0 0) 1 24 Tryz.underlying33 HIr.out hzr0 hzr1 hzr2 rfl (by omega) (.slice (some ⟨v.heap.size, 0, none⟩) 0 0) 0 [] rfl HE.out ⟨bR, offR, none⟩ p p (flt q p) rfl (by rw [flt_len (sz := 1) (fun i hi => hq1 i (by omega))]) (newsR (fun i hi => hq1 i (by omega)) (fun i hi u hu => keepB (bstep hbt0 (bal _ _)) (hq3 i (by omega) u hu))) (flt_one (fun i hi => hq2 i (by omega))) (by unfold maxLen; omega) (by omega) (by have := hbt.size; simp; omega) ?_; intro v1 w5 hO5 hgr5 hnil5; obtain ⟨g5, cap5, rfl⟩ := own_some hO5 (fun e => by have := hnil5.1 e; simp at this); have hG5 := GO.app (x := (putL dm dR (n3, V) p)) (D := fun b => b < w0.heap.size) (E := ER) (GO.nil HE.out) (c := q) (fun i hi => hq1 i (by omega)) (fun i hi => by rw [Nat.zero_add, putL_lo hi]; exact ((hq4 i (by omega)).later (bstep hbt0 (bal _ _))).wide (fun b hx _ => ⟨hx, by show some b ≠ some v.heap.size; intro e; have e3 : b = v.heap.size := Option.some.inj e; omega⟩)) hO5 hgr5 (fun b hx => by omega); simp only [Nat.zero_add] at hG5; have hb5 := gBr (bstep hbt (bal _ _)) hgr5 (fun x hx => by show some x ≠ some v.heap.size; intro e; have e3 : x = v.heap.size := Option.some.inj e; omega); have hs5 := hb5.size; clear hnil5 hO5))
        rw [show p + 1 + 0 = p + 1 from by omega] at hG7
        refine bodyPost_ret (results_tmp2 rfl _ _ _) rfl ⟨hb7, Or.inr ⟨HNO.out, g7, cap7, _, ?_, hG7⟩⟩
        try rw [show p + 1 + 0 = p + 1 from by omega]
        try rfl
      · have hkk2 : p < cr := by omega
        have hkk3 : (p : Int) < cr := by omega
        have hkk4 : ¬ cr = p := by omega
        go_wp2_with (first | (at_builtin; have _h := hG6; refine wpList_append_own _ rfl _ _ 33 rfl w.heap.size 41 jr (.slice none 0 0) 1 24 Tryz.underlying33 HIr.out hzr0 hzr1 hzr2 rfl (by omega) (.slice (some ⟨g6, 0, none⟩) (p + 1) cap6) (p + 1) _ rfl hG6.own ⟨bR, offR + p, none⟩ 0 (cr - p) (flt (fun i => q (p + i)) 0) rfl (by rw [flt_len (sz := 1) (fun i hi => hq1 (p + i) (by omega))]) (newsR (fun i hi => hq1 (p + i) (by omega)) (fun i hi u hu => absurd hi (by omega))) (flt_one (fun i hi => hq2 (p + i) (by omega))) (by unfold maxLen; omega) (by omega) (by omega) ?_; intro v1 w7 hO7 hgr7 hnil7; obtain ⟨g7, cap7, rfl⟩ := own_some hO7 (fun e => by have := hnil7.1 e; simp at this); have hgl6 := (hG6.own.lt g6 rfl).1; have hG7 := GO.app hG6 (c := fun i => q (p + i)) (fun i hi => hq1 (p + i) (by omega)) (fun i hi => by rw [putL_hi]; exact ((hq4 (p + i) (by omega)).later (bstep hb0 hb6)).wide (fun b hx _ => ⟨hx, by show some b ≠ some g6; intro e; have e3 : b = g6 := Option.some.inj e; omega⟩)) hO7 hgr7 (fun b hx => by omega); have hb7 := gBr hb6 hgr7 (fun x hx => by show some x ≠ some g6; intro e; have e3 : x = g6 := Option.some.inj e; omega); clear hnil7 hO7) | (at_builtin; have _h := hG5; refine wpList_append_lies _ rfl _ _ _ rfl w.heap.size 41 jr (.slice none 0 0) 1 24 Tryz.underlying33 HIr.out hzr0 hzr1 hzr2 rfl (by omega) (.slice (some ⟨g5, 0, none⟩) p cap5) p _ rfl (hG5.later (bal _ _)).own ⟨w5.heap.size, 0, none⟩ 1 1 [.slice (some ⟨b3, off3, none⟩) n3 c3] rfl rfl (World.news_of_block (heap_alloc_new w5 _)) (ones _ rfl) (by omega) (by unfold maxLen; omega) (by omega) (by simp; omega) _ rfl ?_; intro g6 cap6 w6 hO6 hgr6 hat6 hlt6; have hgl5 := (hG5.own.lt g5 rfl).1; have hG6 := GO.push (hG5.later (bal _ _)) (c := [.slice (some ⟨b3, off3, none⟩) n3 c3]) rfl (by rw [putL_at]; exact ((hVL.later (bstep (bstep hb0 hb5) (bal _ _))).wide (fun b hx _ => ⟨hx, by show some b ≠ some g5; intro e; have e3 : b = g5 := Option.some.inj e; omega⟩)).imp (fun _ h => ⟨_, _, rfl, h, h3m⟩)) hO6 hgr6 hat6; have hb6 := gBr (bstep hb5 (bal _ _)) hgr6 (fun x hx => by show some x ≠ some g5; intro e; have e3 : x = g5 := Option.some.inj e; omega); have hs6 := hb6.size; clear hO6) | (at_builtin; refine wpList_append_own _ rfl _ _ 33 rfl w.heap.size 41 jr (.slice none 0 0) 1 24 Tryz.underlying33 HIr.out hzr0 hzr1 hzr2 rfl (by omega) (.slice (some ⟨v.heap.size, 0, none⟩) 0 0) 0 [] rfl HE.out ⟨bR, offR, none⟩ p cr (flt q p) rfl (by rw [flt_len (sz := 1) (fun i hi => hq1 i (by omega))]) (newsR (fun i hi => hq1 i (by omega)) (fun i hi u hu => keepB (bstep hbt0 (bal _ _)) (hq3 i (by omega) u hu))) (flt_one (fun i hi => hq2 i (by omega))) (by unfold maxLen; omega) (by omega) (by have := hbt.size; simp; omega) ?_; intro v1 w5 hO5 hgr5 hnil5; obtain ⟨g5, cap5, rfl⟩ := own_some hO5 (fun e => by have := hnil5.1 e; simp at this); have hG5 := GO.app (x := (putL dm dR (n3, V) p)) (D := fun b => b < w0.heap.size) (E := ER) (GO.nil HE.out) (c := q) (fun i hi => hq1 i (by omega)) (fun i hi => by rw [Nat.zero_add, putL_lo hi]; exact ((hq4 i (by omega)).later (bstep hbt0 (bal _ _))).wide (fun b hx _ => ⟨hx, by show some b ≠ some v.heap.size; intro e; have e3 : b = v.heap.size := Option.some.inj e; omega⟩)) hO5 hgr5 (fun b hx => by omega); simp only [Nat.zero_add] at hG5; have hb5 := gBr (bstep hbt (bal _ _)) hgr5 (fun x hx => by show some x ≠ some v.heap.size; intro e; have e3 : x = v.heap.size := Option.some.inj e; omega); have hs5 := hb5.size; clear hnil5 hO5))
        rw [show p + 1 + 0 = p + 1 from by omega] at hG7
        refine bodyPost_ret (results_tmp2 rfl _ _ _) rfl ⟨hb7, Or.inr ⟨HNO.out, g7, cap7, _, ?_, hG7⟩⟩
        try rw [show p + 1 + 0 = p + 1 from by omega]
        try rfl
end Go.Proofs.YtgeiamgeclbiaaaGreatDoor
