/-
  CollideProof: the program's answer.
-/
import Derived.Test.YtlbackkjjhpljaaGreatDoorDj
import Derived.Test.YtlbackkjjhpljaaGreatDoorIj
namespace Go.Proofs.YtlbackkjjhpljaaGreatDoor
open Go.RowKit
theorem bdrew1 (w : World) : Below w.heap.size w w.drew := bdrew (Below.refl _ _) 1
theorem eqB_at {A B : Nat → ByteArray} {n j : Nat} (hj : j < n) (h : ¬ A j = B j) : eqB A B n = false := dF fun g => h (g j hj)
set_option maxRecDepth 20000 in
set_option maxHeartbeats 4000000 in
theorem slEqual_any (a b : Option Addr) (n c d : Nat) (A B : Nat → ByteArray) (w : World) (h : Sl w a n A) (h' : Sl w b n B) (r : Bool) (hr : eqB A B n = r) :
    Calls Tryz.prog 89 #[.slice a n c, .slice b n d] w fun e w' => e = .returned (.bool r) ∧ Below w.heap.size w w' := by
  have hn := h.1
  have HE : Hid (eqB A B n = r) := hr
  clear hr
  go_enter Tryz.func89, Tryz.ntmps89
  go_wp2
  go_loopw [13] (fun i wr => ∃ j q : Nat, j ≤ n ∧ i = .int .i64 j ∧ eqB A B j = true ∧ wr = w.drewN q) (fun i _ => n - (intOf i).toNat)
  case atStart => exact ⟨0, 0, by omega, rfl, eqB_zero A B, rfl⟩
  case round =>
    obtain ⟨j, q, hj, rfl, hall, hwr⟩ := hrel
    have HR : Hid (wr = w.drewN q) := hwr
    have HA : Hid (eqB A B j = true) := hall
    clear hall
    by_cases hlt : j < n
    · have hkk : (j : Int) < n := by omega
      obtain ⟨P, off, rfl, hc1⟩ := (h.drew q).at j hlt
      obtain ⟨P', off', rfl, hc2⟩ := (h'.drew q).at j hlt
      rw [← hwr] at hc1 hc2
      clear hwr
      by_cases e : A j = B j
      · have HX : Hid (eqB A B (j + 1) = true) := by show eqB A B (j + 1) = true; rw [eqB_succ, HA.out, dT e]; rfl
        rw [e] at hc1
        clear e
        go_wp2
        go_quiet (fail)
        go_wp2
        go_roundw
        case rel => exact ⟨j + 1, q + nq, by omega, by go_num, HX.out, by rw [HR.out]; simp⟩
        case measure => simp [intOf]; omega
      · have te : ((A j).toList == (B j).toList) = false := by rw [bytes_eq]; exact dF e
        have HX : Hid (r = false) := HE.out.symm.trans (eqB_at hlt e)
        clear e
        go_wp2
        go_quiet (fail)
        go_wp2
        go_ret
        exact ⟨ret_bool HX.out.symm, by rw [HR.out]; exact bdrew (bdrew (Below.refl _ _) q) _⟩
    · clear hwr
      obtain rfl : j = n := by omega
      go_wp2
      go_ret
      exact ⟨ret_bool (HA.out.symm.trans HE.out), by rw [HR.out]; exact bdrew (Below.refl _ _) q⟩
set_option maxRecDepth 20000 in
set_option maxHeartbeats 4000000 in
theorem compare_one (k : Int) (A B : Nat → ByteArray) (a b : Option Addr) (c d : Nat) (w : World) (ev : Value) (h : Sl w a 1 A) (hsz : (A 0).size ≤ 1048576) (h' : Sl w b 1 B) (hsz' : (B 0).size ≤ 1048576) (hev : erV (if eqB A B 1 = true then none else some (zero1 (A 0), zero1 (B 0))) = ev) :
    Calls Tryz.prog 68 #[.int .i64 k, .slice a 1 c, .slice b 1 d] w fun e w' => e = .returned ev ∧ Below w.heap.size w w' := by
  obtain ⟨s0, hs0⟩ : ∃ s, eqB A B 1 = s := ⟨_, rfl⟩
  have HS : Hid (eqB A B 1 = s0) := hs0
  cases s0
  · rw [if_neg (by rw [hs0]; simp)] at hev
    obtain ⟨x, hx⟩ : ∃ x, A 0 = x := ⟨_, rfl⟩
    obtain ⟨y, hy⟩ : ∃ y, B 0 = y := ⟨_, rfl⟩
    rw [hx, hy] at hev
    rw [hx] at hsz
    rw [hy] at hsz'
    obtain ⟨X, hX⟩ : ∃ X, (⟨#[0]⟩ : ByteArray) ++ x = X := ⟨_, rfl⟩
    obtain ⟨Y, hY⟩ : ∃ Y, (⟨#[0]⟩ : ByteArray) ++ y = Y := ⟨_, rfl⟩
    have HX : Hid ((⟨#[0]⟩ : ByteArray) ++ x = X) := hX
    have HY : Hid ((⟨#[0]⟩ : ByteArray) ++ y = Y) := hY
    have HE : Hid ((if X = Y then Value.nilIface else .iface 87 (.agg #[.string X, .string Y])) = ev) := by
      show _ = _
      rw [if_neg fun e => eqB_no hs0 fun j hj => ?_]
      · rw [← hev, ← hX, ← hY]; rfl
      · obtain rfl : j = 0 := by omega
        rw [hx, hy]
        rw [← hX, ← hY] at e
        exact app_one e
    have HA : Hid (A 0 = x) := hx
    have HB : Hid (B 0 = y) := hy
    clear hX hY hev hs0 hx hy
    go_enter Tryz.func68, Tryz.ntmps68
    go_wp2_with (go_at_call 89; refine (slEqual_any a b 1 c d A B _ h h' _ HS.out).mono ?_; rintro e w1 ⟨rfl, hb1⟩)
    obtain ⟨P, off, rfl, hc1⟩ := (h.later hb1).at 0 (by omega)
    obtain ⟨P', off', rfl, hc2⟩ := (h'.later hb1).at 0 (by omega)
    rw [Nat.add_zero, HA.out] at hc1
    rw [Nat.add_zero, HB.out] at hc2
    go_quiet (first | (go_at_call 62; exact Calls.quiet_of_same (leafText_any x X _ (by omega) HX.out)) | (go_at_call 62; exact Calls.quiet_of_same (leafText_any y Y _ (by omega) HY.out)) | (go_at_call 61; exact Calls.quiet_of_same (differ_any X Y _ ev HE.out)))
    go_wp2
    go_ret
    exact ⟨rfl, bdrew hb1 _⟩
  · rw [if_pos hs0] at hev
    have HE : Hid (Value.nilIface = ev) := hev
    clear hev
    go_enter Tryz.func68, Tryz.ntmps68
    go_wp2_with (go_at_call 89; refine (slEqual_any a b 1 c d A B _ h h' _ HS.out).mono ?_; rintro e w1 ⟨rfl, hb1⟩)
    go_ret
    exact ⟨congrArg Ending.returned HE.out, hb1⟩
set_option maxRecDepth 20000 in
set_option maxHeartbeats 4000000 in
theorem compare_as (k : Int) (f : Nat) : ∀ (A B : Nat → ByteArray) (n : Nat) (a b : Option Addr) (c d : Nat) (w : World) (ev : Value), f ≤ 31 → 1 ≤ n → n ≤ 2 ^ f → n ≤ 64 → Sl w a n A → n ≤ c → (∀ j, j < n → (A j).size ≤ 1048576) → Sl w b n B → n ≤ d → (∀ j, j < n → (B j).size ≤ 1048576) → KeysAt w → erV (cmq k f A B n) = ev →
    Calls Tryz.prog 68 #[.int .i64 k, .slice a n c, .slice b n d] w fun e w' => e = .returned ev ∧ Below w.heap.size w w' := by
  induction f with
  | zero =>
    intro A B n a b c d w ev _ h1 hf hn64 h hc hsz h' hd hsz' hK hev
    obtain rfl : n = 1 := by simp at hf; omega
    rw [cmq, ite_eqB] at hev
    exact compare_one k A B a b c d w ev h (hsz 0 (by omega)) h' (hsz' 0 (by omega)) hev
  | succ f ih =>
    intro A B n a b c d w ev h31 h1 hf hn64 h hc hsz h' hd hsz' hK hev
    have hcap := cap40 (by omega) hf
    rw [cmq, ite_eqB] at hev
    by_cases hn : n = 1
    · subst hn
      rw [if_pos rfl] at hev
      exact compare_one k A B a b c d w ev h (hsz 0 (by omega)) h' (hsz' 0 (by omega)) hev
    obtain ⟨s0, hs0⟩ : ∃ s, eqB A B n = s := ⟨_, rfl⟩
    have HS : Hid (eqB A B n = s0) := hs0
    cases s0
    · rw [if_neg (by rw [hs0]; simp), if_neg hn] at hev
      have hs := spl_in n (by omega) hcap
      have hh := spl_half f n (by omega) hcap hf
      obtain ⟨s, hsn⟩ : ∃ s, spl n = s := ⟨_, rfl⟩
      have HSP : Hid (spl n = s) := hsn
      rw [hsn] at hev hs hh
      obtain ⟨hs1, hs2, hs3⟩ := hs
      have HF : Hid (s ≤ 2 ^ f) := hh
      have m1 : ¬ (n : Int) = 1 := by omega
      have hsz4 : ∀ j, j < n → (A j).size ≤ 4194304 := fun j hj => by have := hsz j hj; omega
      have hsz4' : ∀ j, j < n → (B j).size ≤ 4194304 := fun j hj => by have := hsz' j hj; omega
      obtain ⟨X, hX⟩ : ∃ X, ins k A n s = X := ⟨_, rfl⟩
      obtain ⟨Y, hY⟩ : ∃ Y, ins k B n s = Y := ⟨_, rfl⟩
      have HX : Hid (one1 (RT k A s) (RT k (fun j => A (s + j)) (n - s)) = X) := hX
      have HY : Hid (one1 (RT k B s) (RT k (fun j => B (s + j)) (n - s)) = Y) := hY
      rw [hX, hY] at hev
      clear hf hh hsn hX hY hs0
      by_cases e : X = Y
      · rw [if_pos e] at hev
        have HD : Hid ((if X = Y then Value.nilIface else .iface 87 (.agg #[.string X, .string Y])) = .nilIface) := if_pos e
        clear e
        have i0 : (0 : Int) ≤ (s : Int) := by omega
        have i1 : (s : Int) ≤ (n : Int) := by omega
        have i2 : (s : Int) ≤ (c : Int) := by omega
        have i2' : (s : Int) ≤ (d : Int) := by omega
        have i3 : (n : Int) ≤ (c : Int) := by omega
        have i3' : (n : Int) ≤ (d : Int) := by omega
        have i6 : ¬ c = s := by omega
        have i6' : ¬ d = s := by omega
        have i7 : ¬ n = s := by omega
        obtain ⟨P, off, rfl, hc00⟩ := h.at 0 (by omega)
        obtain ⟨P', off', rfl, hc00'⟩ := h'.at 0 (by omega)
        clear hc00 hc00'
        cases hl : cmq k f A B s with
        | some v =>
          obtain ⟨x1, y1⟩ := v
          rw [hl] at hev
          have HE : Hid (.iface 87 (.agg #[.string x1, .string y1]) = ev) := hev
          have HL : Hid (erV (cmq k f A B s) = .iface 87 (.agg #[.string x1, .string y1])) := by show _ = _; rw [hl]; rfl
          clear hl hev
          go_enter Tryz.func68, Tryz.ntmps68
          go_wp2_with (first | (go_at_call 89; refine (slEqual_any _ _ n c d A B _ h h' _ HS.out).mono ?_; rintro e w1 ⟨rfl, hb1⟩; have hA1 := h.later hb1; have hB1 := h'.later hb1; have hK1 := keys_later hK hb1) | (go_at_call 64; have _h := hb2; refine (topText_any k n s B _ d _ (by omega) hn64 HSP.out hB2 hd hsz4' hK2 Y HY.out).mono ?_; rintro e w3 ⟨rfl, hb3⟩; have hA3 := hA2.later hb3; have hB3 := hB2.later hb3; have hK3 := keys_later hK2 hb3) | (go_at_call 64; refine (topText_any k n s A _ c _ (by omega) hn64 HSP.out hA1 hc hsz4 hK1 X HX.out).mono ?_; rintro e w2 ⟨rfl, hb2⟩; have hA2 := hA1.later hb2; have hB2 := hB1.later hb2; have hK2 := keys_later hK1 hb2) | (go_at_call 61; refine (differ_any X Y _ _ HD.out).mono ?_; rintro e w' ⟨rfl, rfl⟩) | (go_at_call 57; refine (splitOf_as n _ _ (by rfl) (by omega) (by omega) s HSP.out).mono ?_; rintro e w' ⟨rfl, rfl⟩))
          refine wp_region_held_drew (S := fun _ => True) (by kernel_rfl) trivial (fun _ => ?_)
          refine wpAnyH_take (i := 0) (oi := ({ dst := some 38, op := Op.move (Operand.tmp 0), type := 3, pos := "l3_verify.go:190", after := #[], guard := none } : Oper)) (v := .int .i64 k) rfl (by kernel_rfl) (by kernel_rfl) (by kernel_rfl) (fun _ _ _ h => h) (Or.inl ⟨by rfl, fun w hSw => by go_simp⟩) trivial ?_
          simp only [Act.put, List.setIfInBounds_toArray, List.set_cons_zero, List.set_cons_succ]
          refine wpAnyH_take (i := 1) (oi := ({ dst := some 39, op := Op.move (Operand.tmp 1), type := 22, pos := "l3_verify.go:190", after := #[], guard := none } : Oper)) (v := .slice (some ⟨P, off, none⟩) n c) rfl (by kernel_rfl) (by kernel_rfl) (by kernel_rfl) (fun _ _ _ h => h) (Or.inl ⟨by rfl, fun w hSw => by go_simp⟩) trivial ?_
          simp only [Act.put, List.setIfInBounds_toArray, List.set_cons_zero, List.set_cons_succ]
          refine wpAnyH_take (i := 2) (oi := ({ dst := some 40, op := Op.move (Operand.tmp 8), type := 3, pos := "l3_verify.go:190", after := #[], guard := none } : Oper)) (v := .int .i64 (s : Int)) rfl (by kernel_rfl) (by kernel_rfl) (by kernel_rfl) (fun _ _ _ h => h) (Or.inl ⟨by rfl, fun w hSw => by go_simp⟩) trivial ?_
          simp only [Act.put, List.setIfInBounds_toArray, List.set_cons_zero, List.set_cons_succ]
          refine wpAnyH_take (i := 3) (oi := ({ dst := some 41, op := Op.slice 22 (Operand.tmp 39) none (some (Operand.tmp 40)) none, type := 22, pos := "l3_verify.go:190", after := #[{ on := 1, ground := Ground.data }, { on := 2, ground := Ground.data }], guard := none } : Oper)) (v := .slice (some ⟨P, off, none⟩) s c) rfl (by kernel_rfl) (by kernel_rfl) (by kernel_rfl) (fun _ _ _ h => h) (Or.inl ⟨by rfl, fun w hSw => by go_simp⟩) trivial ?_
          simp only [Act.put, List.setIfInBounds_toArray, List.set_cons_zero, List.set_cons_succ]
          refine wpAnyH_take (i := 4) (oi := ({ dst := some 42, op := Op.move (Operand.tmp 2), type := 22, pos := "l3_verify.go:190", after := #[], guard := none } : Oper)) (v := .slice (some ⟨P', off', none⟩) n d) rfl (by kernel_rfl) (by kernel_rfl) (by kernel_rfl) (fun _ _ _ h => h) (Or.inl ⟨by rfl, fun w hSw => by go_simp⟩) trivial ?_
          simp only [Act.put, List.setIfInBounds_toArray, List.set_cons_zero, List.set_cons_succ]
          refine wpAnyH_take (i := 5) (oi := ({ dst := some 43, op := Op.move (Operand.tmp 8), type := 3, pos := "l3_verify.go:190", after := #[], guard := none } : Oper)) (v := .int .i64 (s : Int)) rfl (by kernel_rfl) (by kernel_rfl) (by kernel_rfl) (fun _ _ _ h => h) (Or.inl ⟨by rfl, fun w hSw => by go_simp⟩) trivial ?_
          simp only [Act.put, List.setIfInBounds_toArray, List.set_cons_zero, List.set_cons_succ]
          refine wpAnyH_take (i := 6) (oi := ({ dst := some 44, op := Op.slice 22 (Operand.tmp 42) none (some (Operand.tmp 43)) none, type := 22, pos := "l3_verify.go:190", after := #[{ on := 4, ground := Ground.data }, { on := 5, ground := Ground.data }], guard := none } : Oper)) (v := .slice (some ⟨P', off', none⟩) s d) rfl (by kernel_rfl) (by kernel_rfl) (by kernel_rfl) (fun _ _ _ h => h) (Or.inl ⟨by rfl, fun w hSw => by go_simp⟩) trivial ?_
          simp only [Act.put, List.setIfInBounds_toArray, List.set_cons_zero, List.set_cons_succ]
          refine wpAnyH_ready (rs := [7]) (by kernel_rfl) (by simp) ?_
          refine AllReadyH.cons (o := ({ dst := some 45, op := Op.call { callee := Callee.value (Operand.func 68), args := #[Operand.tmp 38, Operand.tmp 41, Operand.tmp 44], argTypes := #[3, 22, 22] }, type := 51, pos := "l3_verify.go:190", after := #[{ on := 0, ground := Ground.data }, { on := 3, ground := Ground.data }, { on := 6, ground := Ground.data }], guard := none } : Oper)) rfl (fun K hK => ?_) AllReadyH.nil
          go_simp
          refine (ih A B s (some ⟨P, off, none⟩) (some ⟨P', off', none⟩) c d _ _ (by omega) (by omega) HF.out (by omega) (hA3.drew1.left s (by omega)) (by omega) (fun j hj => hsz j (by omega)) (hB3.drew1.left s (by omega)) (by omega) (fun j hj => hsz' j (by omega)) hK3.drew1 HL.out).mono ?_
          rintro e w4 ⟨rfl, hb4⟩
          refine hK.out _ _ trivial (fun _ => ?_)
          clear hK K
          refine wpAnyH_ready (rs := [8]) (by kernel_rfl) (by simp) ?_
          refine AllReadyH.cons (o := ({ dst := some 9, op := Op.assign (Operand.tmp 45), type := 51, pos := "l3_verify.go:190", after := #[{ on := 7, ground := Ground.data }, { on := 7, ground := Ground.chain }, { on := 0, ground := Ground.phase }, { on := 1, ground := Ground.phase }, { on := 2, ground := Ground.phase }, { on := 3, ground := Ground.phase }, { on := 4, ground := Ground.phase }, { on := 5, ground := Ground.phase }, { on := 6, ground := Ground.phase }, { on := 7, ground := Ground.phase }], guard := none } : Oper)) rfl (fun K hK => ?_) AllReadyH.nil
          go_simp
          refine hK.out _ _ trivial (fun _ => ?_)
          clear hK K
          refine wpAnyH_done (by kernel_rfl) ?_ _
          go_wp2
          go_ret
          exact ⟨congrArg Ending.returned HE.out, (((hb1.trans (hb2.mono hb1.size)).trans (hb3.mono (Nat.le_trans hb1.size hb2.size))).trans ((bdrew1 _).mono (Nat.le_trans hb1.size (Nat.le_trans hb2.size hb3.size)))).trans (hb4.mono (Nat.le_trans hb1.size (Nat.le_trans hb2.size hb3.size)))⟩
        | none =>
          rw [hl, if_neg (by simp)] at hev
          have HE : Hid (erV (cmq k f (fun j => A (s + j)) (fun j => B (s + j)) (n - s)) = ev) := hev
          have HL : Hid (erV (cmq k f A B s) = .nilIface) := by show _ = _; rw [hl]; rfl
          clear hl hev
          go_enter Tryz.func68, Tryz.ntmps68
          go_wp2_with (first | (go_at_call 89; refine (slEqual_any _ _ n c d A B _ h h' _ HS.out).mono ?_; rintro e w1 ⟨rfl, hb1⟩; have hA1 := h.later hb1; have hB1 := h'.later hb1; have hK1 := keys_later hK hb1) | (go_at_call 64; have _h := hb2; refine (topText_any k n s B _ d _ (by omega) hn64 HSP.out hB2 hd hsz4' hK2 Y HY.out).mono ?_; rintro e w3 ⟨rfl, hb3⟩; have hA3 := hA2.later hb3; have hB3 := hB2.later hb3; have hK3 := keys_later hK2 hb3) | (go_at_call 64; refine (topText_any k n s A _ c _ (by omega) hn64 HSP.out hA1 hc hsz4 hK1 X HX.out).mono ?_; rintro e w2 ⟨rfl, hb2⟩; have hA2 := hA1.later hb2; have hB2 := hB1.later hb2; have hK2 := keys_later hK1 hb2) | (go_at_call 61; refine (differ_any X Y _ _ HD.out).mono ?_; rintro e w' ⟨rfl, rfl⟩) | (go_at_call 57; refine (splitOf_as n _ _ (by rfl) (by omega) (by omega) s HSP.out).mono ?_; rintro e w' ⟨rfl, rfl⟩))
          refine wp_region_held_drew (S := fun _ => True) (by kernel_rfl) trivial (fun _ => ?_)
          refine wpAnyH_take (i := 0) (oi := ({ dst := some 38, op := Op.move (Operand.tmp 0), type := 3, pos := "l3_verify.go:190", after := #[], guard := none } : Oper)) (v := .int .i64 k) rfl (by kernel_rfl) (by kernel_rfl) (by kernel_rfl) (fun _ _ _ h => h) (Or.inl ⟨by rfl, fun w hSw => by go_simp⟩) trivial ?_
          simp only [Act.put, List.setIfInBounds_toArray, List.set_cons_zero, List.set_cons_succ]
          refine wpAnyH_take (i := 1) (oi := ({ dst := some 39, op := Op.move (Operand.tmp 1), type := 22, pos := "l3_verify.go:190", after := #[], guard := none } : Oper)) (v := .slice (some ⟨P, off, none⟩) n c) rfl (by kernel_rfl) (by kernel_rfl) (by kernel_rfl) (fun _ _ _ h => h) (Or.inl ⟨by rfl, fun w hSw => by go_simp⟩) trivial ?_
          simp only [Act.put, List.setIfInBounds_toArray, List.set_cons_zero, List.set_cons_succ]
          refine wpAnyH_take (i := 2) (oi := ({ dst := some 40, op := Op.move (Operand.tmp 8), type := 3, pos := "l3_verify.go:190", after := #[], guard := none } : Oper)) (v := .int .i64 (s : Int)) rfl (by kernel_rfl) (by kernel_rfl) (by kernel_rfl) (fun _ _ _ h => h) (Or.inl ⟨by rfl, fun w hSw => by go_simp⟩) trivial ?_
          simp only [Act.put, List.setIfInBounds_toArray, List.set_cons_zero, List.set_cons_succ]
          refine wpAnyH_take (i := 3) (oi := ({ dst := some 41, op := Op.slice 22 (Operand.tmp 39) none (some (Operand.tmp 40)) none, type := 22, pos := "l3_verify.go:190", after := #[{ on := 1, ground := Ground.data }, { on := 2, ground := Ground.data }], guard := none } : Oper)) (v := .slice (some ⟨P, off, none⟩) s c) rfl (by kernel_rfl) (by kernel_rfl) (by kernel_rfl) (fun _ _ _ h => h) (Or.inl ⟨by rfl, fun w hSw => by go_simp⟩) trivial ?_
          simp only [Act.put, List.setIfInBounds_toArray, List.set_cons_zero, List.set_cons_succ]
          refine wpAnyH_take (i := 4) (oi := ({ dst := some 42, op := Op.move (Operand.tmp 2), type := 22, pos := "l3_verify.go:190", after := #[], guard := none } : Oper)) (v := .slice (some ⟨P', off', none⟩) n d) rfl (by kernel_rfl) (by kernel_rfl) (by kernel_rfl) (fun _ _ _ h => h) (Or.inl ⟨by rfl, fun w hSw => by go_simp⟩) trivial ?_
          simp only [Act.put, List.setIfInBounds_toArray, List.set_cons_zero, List.set_cons_succ]
          refine wpAnyH_take (i := 5) (oi := ({ dst := some 43, op := Op.move (Operand.tmp 8), type := 3, pos := "l3_verify.go:190", after := #[], guard := none } : Oper)) (v := .int .i64 (s : Int)) rfl (by kernel_rfl) (by kernel_rfl) (by kernel_rfl) (fun _ _ _ h => h) (Or.inl ⟨by rfl, fun w hSw => by go_simp⟩) trivial ?_
          simp only [Act.put, List.setIfInBounds_toArray, List.set_cons_zero, List.set_cons_succ]
          refine wpAnyH_take (i := 6) (oi := ({ dst := some 44, op := Op.slice 22 (Operand.tmp 42) none (some (Operand.tmp 43)) none, type := 22, pos := "l3_verify.go:190", after := #[{ on := 4, ground := Ground.data }, { on := 5, ground := Ground.data }], guard := none } : Oper)) (v := .slice (some ⟨P', off', none⟩) s d) rfl (by kernel_rfl) (by kernel_rfl) (by kernel_rfl) (fun _ _ _ h => h) (Or.inl ⟨by rfl, fun w hSw => by go_simp⟩) trivial ?_
          simp only [Act.put, List.setIfInBounds_toArray, List.set_cons_zero, List.set_cons_succ]
          refine wpAnyH_ready (rs := [7]) (by kernel_rfl) (by simp) ?_
          refine AllReadyH.cons (o := ({ dst := some 45, op := Op.call { callee := Callee.value (Operand.func 68), args := #[Operand.tmp 38, Operand.tmp 41, Operand.tmp 44], argTypes := #[3, 22, 22] }, type := 51, pos := "l3_verify.go:190", after := #[{ on := 0, ground := Ground.data }, { on := 3, ground := Ground.data }, { on := 6, ground := Ground.data }], guard := none } : Oper)) rfl (fun K hK => ?_) AllReadyH.nil
          go_simp
          refine (ih A B s (some ⟨P, off, none⟩) (some ⟨P', off', none⟩) c d _ _ (by omega) (by omega) HF.out (by omega) (hA3.drew1.left s (by omega)) (by omega) (fun j hj => hsz j (by omega)) (hB3.drew1.left s (by omega)) (by omega) (fun j hj => hsz' j (by omega)) hK3.drew1 HL.out).mono ?_
          rintro e w4 ⟨rfl, hb4⟩
          refine hK.out _ _ trivial (fun _ => ?_)
          clear hK K
          refine wpAnyH_ready (rs := [8]) (by kernel_rfl) (by simp) ?_
          refine AllReadyH.cons (o := ({ dst := some 9, op := Op.assign (Operand.tmp 45), type := 51, pos := "l3_verify.go:190", after := #[{ on := 7, ground := Ground.data }, { on := 7, ground := Ground.chain }, { on := 0, ground := Ground.phase }, { on := 1, ground := Ground.phase }, { on := 2, ground := Ground.phase }, { on := 3, ground := Ground.phase }, { on := 4, ground := Ground.phase }, { on := 5, ground := Ground.phase }, { on := 6, ground := Ground.phase }, { on := 7, ground := Ground.phase }], guard := none } : Oper)) rfl (fun K hK => ?_) AllReadyH.nil
          go_simp
          refine hK.out _ _ trivial (fun _ => ?_)
          clear hK K
          refine wpAnyH_done (by kernel_rfl) ?_ _
          have hbx : Below w.heap.size w w4 := (((hb1.trans (hb2.mono hb1.size)).trans (hb3.mono (Nat.le_trans hb1.size hb2.size))).trans ((bdrew1 _).mono (Nat.le_trans hb1.size (Nat.le_trans hb2.size hb3.size)))).trans (hb4.mono (Nat.le_trans hb1.size (Nat.le_trans hb2.size hb3.size)))
          have hA4 : Sl w4.drew (some ⟨P, off + s, none⟩) (n - s) (fun j => A (s + j)) := (h.later (bdrew hbx 1)).right s (by omega)
          have hB4 : Sl w4.drew (some ⟨P', off' + s, none⟩) (n - s) (fun j => B (s + j)) := (h'.later (bdrew hbx 1)).right s (by omega)
          have hK4 : KeysAt w4.drew := keys_later hK (bdrew hbx 1)
          go_wp2
          refine wp_region_held_drew (S := fun _ => True) (by kernel_rfl) trivial (fun _ => ?_)
          refine wpAnyH_take (i := 0) (oi := ({ dst := some 49, op := Op.move (Operand.tmp 0), type := 3, pos := "l3_verify.go:193", after := #[], guard := none } : Oper)) (v := .int .i64 k) rfl (by kernel_rfl) (by kernel_rfl) (by kernel_rfl) (fun _ _ _ h => h) (Or.inl ⟨by rfl, fun w hSw => by go_simp⟩) trivial ?_
          simp only [Act.put, List.setIfInBounds_toArray, List.set_cons_zero, List.set_cons_succ]
          refine wpAnyH_take (i := 1) (oi := ({ dst := some 50, op := Op.move (Operand.tmp 1), type := 22, pos := "l3_verify.go:193", after := #[], guard := none } : Oper)) (v := .slice (some ⟨P, off, none⟩) n c) rfl (by kernel_rfl) (by kernel_rfl) (by kernel_rfl) (fun _ _ _ h => h) (Or.inl ⟨by rfl, fun w hSw => by go_simp⟩) trivial ?_
          simp only [Act.put, List.setIfInBounds_toArray, List.set_cons_zero, List.set_cons_succ]
          refine wpAnyH_take (i := 2) (oi := ({ dst := some 51, op := Op.move (Operand.tmp 8), type := 3, pos := "l3_verify.go:193", after := #[], guard := none } : Oper)) (v := .int .i64 (s : Int)) rfl (by kernel_rfl) (by kernel_rfl) (by kernel_rfl) (fun _ _ _ h => h) (Or.inl ⟨by rfl, fun w hSw => by go_simp⟩) trivial ?_
          simp only [Act.put, List.setIfInBounds_toArray, List.set_cons_zero, List.set_cons_succ]
          refine wpAnyH_take (i := 3) (oi := ({ dst := some 52, op := Op.slice 22 (Operand.tmp 50) (some (Operand.tmp 51)) none none, type := 22, pos := "l3_verify.go:193", after := #[{ on := 1, ground := Ground.data }, { on := 2, ground := Ground.data }], guard := none } : Oper)) (v := .slice (some ⟨P, off + s, none⟩) (n - s) (c - s)) rfl (by kernel_rfl) (by kernel_rfl) (by kernel_rfl) (fun _ _ _ h => h) (Or.inl ⟨by rfl, fun w hSw => by go_simp⟩) trivial ?_
          simp only [Act.put, List.setIfInBounds_toArray, List.set_cons_zero, List.set_cons_succ]
          refine wpAnyH_take (i := 4) (oi := ({ dst := some 53, op := Op.move (Operand.tmp 2), type := 22, pos := "l3_verify.go:193", after := #[], guard := none } : Oper)) (v := .slice (some ⟨P', off', none⟩) n d) rfl (by kernel_rfl) (by kernel_rfl) (by kernel_rfl) (fun _ _ _ h => h) (Or.inl ⟨by rfl, fun w hSw => by go_simp⟩) trivial ?_
          simp only [Act.put, List.setIfInBounds_toArray, List.set_cons_zero, List.set_cons_succ]
          refine wpAnyH_take (i := 5) (oi := ({ dst := some 54, op := Op.move (Operand.tmp 8), type := 3, pos := "l3_verify.go:193", after := #[], guard := none } : Oper)) (v := .int .i64 (s : Int)) rfl (by kernel_rfl) (by kernel_rfl) (by kernel_rfl) (fun _ _ _ h => h) (Or.inl ⟨by rfl, fun w hSw => by go_simp⟩) trivial ?_
          simp only [Act.put, List.setIfInBounds_toArray, List.set_cons_zero, List.set_cons_succ]
          refine wpAnyH_take (i := 6) (oi := ({ dst := some 55, op := Op.slice 22 (Operand.tmp 53) (some (Operand.tmp 54)) none none, type := 22, pos := "l3_verify.go:193", after := #[{ on := 4, ground := Ground.data }, { on := 5, ground := Ground.data }], guard := none } : Oper)) (v := .slice (some ⟨P', off' + s, none⟩) (n - s) (d - s)) rfl (by kernel_rfl) (by kernel_rfl) (by kernel_rfl) (fun _ _ _ h => h) (Or.inl ⟨by rfl, fun w hSw => by go_simp⟩) trivial ?_
          simp only [Act.put, List.setIfInBounds_toArray, List.set_cons_zero, List.set_cons_succ]
          refine wpAnyH_ready (rs := [7]) (by kernel_rfl) (by simp) ?_
          refine AllReadyH.cons (o := ({ dst := some 56, op := Op.call { callee := Callee.value (Operand.func 68), args := #[Operand.tmp 49, Operand.tmp 52, Operand.tmp 55], argTypes := #[3, 22, 22] }, type := 51, pos := "l3_verify.go:193", after := #[{ on := 0, ground := Ground.data }, { on := 3, ground := Ground.data }, { on := 6, ground := Ground.data }], guard := none } : Oper)) rfl (fun K hK => ?_) AllReadyH.nil
          go_simp
          refine (ih (fun j => A (s + j)) (fun j => B (s + j)) (n - s) (some ⟨P, off + s, none⟩) (some ⟨P', off' + s, none⟩) (c - s) (d - s) _ ev (by omega) (by omega) (by have := HF.out; omega) (by omega) hA4 (by omega) (fun j hj => hsz (s + j) (by omega)) hB4 (by omega) (fun j hj => hsz' (s + j) (by omega)) hK4 HE.out).mono ?_
          rintro e w5 ⟨rfl, hb5⟩
          refine hK.out _ _ trivial (fun _ => ?_)
          clear hK K
          refine wpAnyH_ready (rs := [8]) (by kernel_rfl) (by simp) ?_
          refine AllReadyH.cons (o := ({ dst := some 6, op := Op.assign (Operand.tmp 56), type := 51, pos := "l3_verify.go:193", after := #[{ on := 7, ground := Ground.data }, { on := 7, ground := Ground.chain }, { on := 0, ground := Ground.phase }, { on := 1, ground := Ground.phase }, { on := 2, ground := Ground.phase }, { on := 3, ground := Ground.phase }, { on := 4, ground := Ground.phase }, { on := 5, ground := Ground.phase }, { on := 6, ground := Ground.phase }, { on := 7, ground := Ground.phase }], guard := none } : Oper)) rfl (fun K hK => ?_) AllReadyH.nil
          go_simp
          refine hK.out _ _ trivial (fun _ => ?_)
          clear hK K
          refine wpAnyH_done (by kernel_rfl) ?_ _
          go_wp2
          go_ret
          exact ⟨rfl, (bdrew hbx 1).trans (hb5.mono (bdrew hbx 1).size)⟩
      · rw [if_neg e] at hev
        have HE : Hid (.iface 87 (.agg #[.string X, .string Y]) = ev) := hev
        have HD : Hid ((if X = Y then Value.nilIface else .iface 87 (.agg #[.string X, .string Y])) = .iface 87 (.agg #[.string X, .string Y])) := if_neg e
        clear e hev ih
        go_enter Tryz.func68, Tryz.ntmps68
        go_wp2_with (first | (go_at_call 89; refine (slEqual_any _ _ n c d A B _ h h' _ HS.out).mono ?_; rintro e w1 ⟨rfl, hb1⟩; have hA1 := h.later hb1; have hB1 := h'.later hb1; have hK1 := keys_later hK hb1) | (go_at_call 64; have _h := hb2; refine (topText_any k n s B _ d _ (by omega) hn64 HSP.out hB2 hd hsz4' hK2 Y HY.out).mono ?_; rintro e w3 ⟨rfl, hb3⟩; have hA3 := hA2.later hb3; have hB3 := hB2.later hb3; have hK3 := keys_later hK2 hb3) | (go_at_call 64; refine (topText_any k n s A _ c _ (by omega) hn64 HSP.out hA1 hc hsz4 hK1 X HX.out).mono ?_; rintro e w2 ⟨rfl, hb2⟩; have hA2 := hA1.later hb2; have hB2 := hB1.later hb2; have hK2 := keys_later hK1 hb2) | (go_at_call 61; refine (differ_any X Y _ _ HD.out).mono ?_; rintro e w' ⟨rfl, rfl⟩))
        go_ret
        exact ⟨congrArg Ending.returned HE.out, (hb1.trans (hb2.mono hb1.size)).trans (hb3.mono (Nat.le_trans hb1.size hb2.size))⟩
    · rw [if_pos hs0] at hev
      have HE : Hid (Value.nilIface = ev) := hev
      clear hev hs0 ih
      go_enter Tryz.func68, Tryz.ntmps68
      go_wp2_with ((go_at_call 89; refine (slEqual_any _ _ n c d A B _ h h' _ HS.out).mono ?_; rintro e w1 ⟨rfl, hb1⟩; have hA1 := h.later hb1; have hB1 := h'.later hb1; have hK1 := keys_later hK hb1))
      go_ret
      exact ⟨congrArg Ending.returned HE.out, hb1⟩
end Go.Proofs.YtlbackkjjhpljaaGreatDoor
namespace Go.Proofs.YtlbackkjjhpljaaGreatDoor
open Go.RowKit
theorem PQ.drew1 {w : World} {O C K : Nat} {k : Int} {x : ByteArray} (h : PQ w O C K k x) : PQ w.drew O C K k x := ⟨h.old, h.self, h.kind⟩
set_option maxRecDepth 20000 in
set_option maxHeartbeats 4000000 in
theorem searchProof_same (k : Int) (Oo Cc Kk : Nat) (g : Bool) (f : Nat) (A B : Nat → ByteArray) (n q : Nat) (a b z : Option Addr) (c d l : Nat) (w : World) (ev : Value) (h31 : f ≤ 31) (h1 : 1 ≤ n) (hf : n ≤ 2 ^ f) (hn64 : n ≤ 64) (hA : Sl w a n A) (hc : n ≤ c) (hsa : ∀ j, j < n → (A j).size ≤ 1048576) (hB : Sl w b n B) (hd : n ≤ d) (hsb : ∀ j, j < n → (B j).size ≤ 1048576) (hK : KeysAt w) (hev : erV (cmq k f A B n) = ev) :
    Calls Tryz.prog 34 #[.int .i64 k, .func (.func 67) #[] #[.pointer (some ⟨Oo, 0, none⟩), .pointer (some ⟨Cc, 0, none⟩), .pointer (some ⟨Kk, 0, none⟩)], .slice a n c, .slice b n d, .slice z q l, .bool g] w fun e w' => e = .returned ev ∧ Below w.heap.size w w' := by
  have HE : Hid (erV (cmq k f A B n) = ev) := hev
  have HF : Hid (n ≤ 2 ^ f) := hf
  clear hev hf
  go_enter Tryz.func34, Tryz.ntmps34
  go_wp2_with (go_at_call 68; refine (compare_as k f A B n _ _ c d _ ev h31 h1 HF.out hn64 hA hc hsa hB hd hsb hK HE.out).mono ?_; rintro e w1 ⟨rfl, hb1⟩)
  go_ret
  exact ⟨rfl, hb1⟩
set_option maxRecDepth 20000 in
set_option maxHeartbeats 4000000 in
theorem searchProof_as (k : Int) (X0 : ByteArray) (S : Nat → ByteArray) (hX0 : X0.size ≤ 2097152) (Oo Cc Kk : Nat) (f : Nat) : ∀ (A B : Nat → ByteArray) (m n q : Nat) (g : Bool) (a b z : Option Addr) (c d l : Nat) (w : World) (ev : Value), f ≤ 31 → 1 ≤ m → m ≤ n → n ≤ 2 ^ f → n ≤ 64 → q = ql f m n g → Sl w a m A → m ≤ c → (∀ j, j < m → (A j).size ≤ 1048576) → Sl w b n B → n ≤ d → (∀ j, j < n → (B j).size ≤ 1048576) → Sl w z q S → q ≤ l → (∀ j, j < q → (S j).size ≤ 2097152) → KeysAt w → PQ w Oo Cc Kk k X0 → erV (stq k X0 S f A B m n q g) = ev →
    Calls Tryz.prog 34 #[.int .i64 k, .func (.func 67) #[] #[.pointer (some ⟨Oo, 0, none⟩), .pointer (some ⟨Cc, 0, none⟩), .pointer (some ⟨Kk, 0, none⟩)], .slice a m c, .slice b n d, .slice z q l, .bool g] w fun e w' => e = .returned ev ∧ Below w.heap.size w w' := by
  induction f with
  | zero =>
    intro A B m n q g a b z c d l w ev h31 h1 hmn hf hn64 hq hA hc hsa hB hd hsb hS hl hss hK hPQ hev
    obtain rfl : n = 1 := by simp at hf; omega
    obtain rfl : m = 1 := by omega
    rw [stq] at hev
    exact searchProof_same k Oo Cc Kk g 0 A B 1 q a b z c d l w ev h31 h1 hf hn64 hA hc hsa hB hd hsb hK hev
  | succ f ih =>
    intro A B m n q g a b z c d l w ev h31 h1 hmn hf hn64 hq hA hc hsa hB hd hsb hS hl hss hK hPQ hev
    have hcap := cap40 (by omega) hf
    rw [stq] at hev
    by_cases hn : m = n
    · subst hn
      rw [if_pos rfl] at hev
      exact searchProof_same k Oo Cc Kk g (f + 1) A B m q a b z c d l w ev h31 h1 hf hn64 hA hc hsa hB hd hsb hK hev
    rw [if_neg hn] at hev
    rw [ql, if_neg hn] at hq
    have hs := spl_in n (by omega) hcap
    have hh := spl_half f n (by omega) hcap hf
    obtain ⟨s, hsn⟩ : ∃ s, spl n = s := ⟨_, rfl⟩
    have HSP : Hid (spl n = s) := hsn
    have hmid : s < m → Hid (spl m = s) := fun hm => by
      have := spl_mid m n (by omega) hcap (by omega) hmn
      exact this.trans hsn
    rw [hsn] at hq hev hs hh
    obtain ⟨hs1, hs2, hs3⟩ := hs
    have HF : Hid (s ≤ 2 ^ f) := hh
    have m1 : ¬ (m : Int) = n := by omega
    have ms : (s : Int) ≤ n := by omega
    have mc : (s : Int) ≤ d := by omega
    have mn : (n : Int) ≤ d := by omega
    have mcs : ¬ d = s := by omega
    have mns : ¬ n = s := by omega
    have hsa4 : ∀ j, j < m → (A j).size ≤ 4194304 := fun j hj => by have := hsa j hj; omega
    have hsb4 : ∀ j, j < n → (B j).size ≤ 4194304 := fun j hj => by have := hsb j hj; omega
    obtain ⟨Y, hY⟩ : ∃ Y, ins k B n s = Y := ⟨_, rfl⟩
    have HY : Hid (one1 (RT k B s) (RT k (fun j => B (s + j)) (n - s)) = Y) := hY
    rw [hY] at hev
    clear hf hh hsn hY
    obtain ⟨P, off, rfl, hc00⟩ := hA.at 0 (by omega)
    obtain ⟨P', off', rfl, hc00'⟩ := hB.at 0 (by omega)
    clear hc00 hc00'
    by_cases hlt : m ≤ s
    · rw [if_pos hlt] at hq hev
      have hle := ql_le f m s g
      obtain ⟨r, hr⟩ : ∃ r, ql f m s g = r := ⟨_, rfl⟩
      have HQ : Hid (r = ql f m s g) := hr.symm
      rw [hr] at hq hle
      obtain rfl : q = r + 1 := by omega
      rw [Nat.add_sub_cancel] at hev
      have hB2 := cq_le k X0 S hX0 f m s r g (by omega) (by omega) (by have := HF.out; omega) (by omega) hr.symm (fun j hj => hss j (by omega))
      obtain ⟨⟨o1, v1⟩, hu⟩ : ∃ u, cq k X0 S f m s r g = u := ⟨_, rfl⟩
      have HU : Hid (cq k X0 S f m s r g = (o1, v1)) := hu
      rw [hu] at hev hB2
      have ho1 : o1.size ≤ 2097152 := hB2.1
      have hv1 : v1.size ≤ 2097152 := hB2.2
      have hzq := hss r (by omega)
      have hZ := hS.left r (by omega)
      clear hB2 hr hq hu
      obtain ⟨X, hX⟩ : ∃ X, (⟨#[1]⟩ : ByteArray) ++ v1 ++ S r = X := ⟨_, rfl⟩
      have HX : Hid ((⟨#[1]⟩ : ByteArray) ++ v1 ++ S r = X) := hX
      rw [show one1 v1 (S r) = X from hX] at hev
      have mlt : (m : Int) ≤ s := by omega
      clear hX
      by_cases e : X = Y
      · rw [if_pos e] at hev
        have HE : Hid (erV (stq k X0 S f A B m s r g) = ev) := hev
        have HD : Hid ((if X = Y then Value.nilIface else .iface 87 (.agg #[.string X, .string Y])) = .nilIface) := if_pos e
        clear e hev hmid
        go_enter Tryz.func34, Tryz.ntmps34
        go_wp2_with (first | (go_at_call 57; refine (splitOf_as n _ _ (by rfl) (by omega) (by omega) s HSP.out).mono ?_; rintro e w' ⟨rfl, rfl⟩) | (go_at_call 58; refine (cutLast_any z r l S _ hS hl).mono ?_; rintro e w' ⟨rfl, rfl⟩; have hZ0 := hZ.drew1; have hK0 := hK.drew1; have hP0 := hPQ.drew1; have hA0 := Sl.drew1 hA; have hB0 := Sl.drew1 hB) | (go_at_call 67; refine (claimProof_yes k X0 S hX0 Oo Cc Kk f m s r g _ _ _ _ _ o1 v1 (by omega) (by omega) (by omega) (by have := HF.out; omega) (by omega) (by omega) (by omega) HQ.out hZ0 (by omega) (fun j hj => hss j (by omega)) hK0 hP0 HU.out).mono ?_; rintro e w1 ⟨rfl, hb1⟩; have hbv := below1 w1 (.cells #[.string o1, .string v1] 58); have hA1 := (hA0.later hb1).later hbv; have hB1 := (hB0.later hb1).later hbv; have hZ1 := (hZ0.later hb1).later hbv; have hK1 := keys_later (keys_later hK0 hb1) hbv; have hP1 := (hP0.later hb1).later hbv; have b0 := (boxes2 w1 (.string o1) (.string v1) 58).1; have b1 := (boxes2 w1 (.string o1) (.string v1) 58).2) | (go_at_call 63; refine (nodeText_any v1 (S r) X _ hv1 hzq HX.out).mono ?_; rintro e w' ⟨rfl, rfl⟩) | (go_at_call 64; refine (topText_any k n s B _ d _ (by omega) (by omega) HSP.out hB1 (by omega) hsb4 hK1 Y HY.out).mono ?_; rintro e w2 ⟨rfl, hb2⟩; have hA2 := hA1.later hb2; have hB2 := hB1.later hb2; have hZ2 := hZ1.later hb2; have hK2 := keys_later hK1 hb2; have hP2 := hP1.later hb2) | (go_at_call 61; refine (differ_any X Y _ _ HD.out).mono ?_; rintro e w' ⟨rfl, rfl⟩) | (go_at_call 34; refine (ih A B m s r g _ _ _ c d _ _ ev (by omega) h1 hlt HF.out (by omega) HQ.out hA2 hc hsa (hB2.left s (by omega)) (by omega) (fun j hj => hsb j (by omega)) hZ2 (by omega) (fun j hj => hss j (by omega)) hK2 hP2 HE.out).mono ?_; rintro e w3 ⟨rfl, hb3⟩))
        go_ret
        exact ⟨rfl, undrew ((((hb1).trans (hbv.mono hb1.size)).trans (hb2.mono (Nat.le_trans hb1.size hbv.size))).trans (hb3.mono (Nat.le_trans hb1.size (Nat.le_trans hbv.size hb2.size))))⟩
      · rw [if_neg e] at hev
        have HE : Hid (.iface 87 (.agg #[.string X, .string Y]) = ev) := hev
        have HD : Hid ((if X = Y then Value.nilIface else .iface 87 (.agg #[.string X, .string Y])) = .iface 87 (.agg #[.string X, .string Y])) := if_neg e
        clear e hev ih hmid
        go_enter Tryz.func34, Tryz.ntmps34
        go_wp2_with (first | (go_at_call 57; refine (splitOf_as n _ _ (by rfl) (by omega) (by omega) s HSP.out).mono ?_; rintro e w' ⟨rfl, rfl⟩) | (go_at_call 58; refine (cutLast_any z r l S _ hS hl).mono ?_; rintro e w' ⟨rfl, rfl⟩; have hZ0 := hZ.drew1; have hK0 := hK.drew1; have hP0 := hPQ.drew1; have hA0 := Sl.drew1 hA; have hB0 := Sl.drew1 hB) | (go_at_call 67; refine (claimProof_yes k X0 S hX0 Oo Cc Kk f m s r g _ _ _ _ _ o1 v1 (by omega) (by omega) (by omega) (by have := HF.out; omega) (by omega) (by omega) (by omega) HQ.out hZ0 (by omega) (fun j hj => hss j (by omega)) hK0 hP0 HU.out).mono ?_; rintro e w1 ⟨rfl, hb1⟩; have hbv := below1 w1 (.cells #[.string o1, .string v1] 58); have hA1 := (hA0.later hb1).later hbv; have hB1 := (hB0.later hb1).later hbv; have hZ1 := (hZ0.later hb1).later hbv; have hK1 := keys_later (keys_later hK0 hb1) hbv; have hP1 := (hP0.later hb1).later hbv; have b0 := (boxes2 w1 (.string o1) (.string v1) 58).1; have b1 := (boxes2 w1 (.string o1) (.string v1) 58).2) | (go_at_call 63; refine (nodeText_any v1 (S r) X _ hv1 hzq HX.out).mono ?_; rintro e w' ⟨rfl, rfl⟩) | (go_at_call 64; refine (topText_any k n s B _ d _ (by omega) (by omega) HSP.out hB1 (by omega) hsb4 hK1 Y HY.out).mono ?_; rintro e w2 ⟨rfl, hb2⟩; have hA2 := hA1.later hb2; have hB2 := hB1.later hb2; have hZ2 := hZ1.later hb2; have hK2 := keys_later hK1 hb2; have hP2 := hP1.later hb2) | (go_at_call 61; refine (differ_any X Y _ _ HD.out).mono ?_; rintro e w' ⟨rfl, rfl⟩))
        go_ret
        exact ⟨congrArg Ending.returned HE.out, undrew ((hb1.trans (hbv.mono hb1.size)).trans (hb2.mono (Nat.le_trans hb1.size hbv.size)))⟩
    · rw [if_neg hlt] at hq hev
      have hle := ql_le f (m - s) (n - s) false
      obtain ⟨r, hr⟩ : ∃ r, ql f (m - s) (n - s) false = r := ⟨_, rfl⟩
      have HQ : Hid (r = ql f (m - s) (n - s) false) := hr.symm
      rw [hr] at hq hle
      obtain rfl : q = r + 1 := by omega
      rw [Nat.add_sub_cancel] at hev
      have hB2 := cq_le k X0 S hX0 f (m - s) (n - s) r false (by omega) (by omega) (by have := HF.out; omega) (by omega) hr.symm (fun j hj => hss j (by omega))
      obtain ⟨⟨o1, v1⟩, hu⟩ : ∃ u, cq k X0 S f (m - s) (n - s) r false = u := ⟨_, rfl⟩
      have HU : Hid (cq k X0 S f (m - s) (n - s) r false = (o1, v1)) := hu
      rw [hu] at hev hB2
      have ho1 : o1.size ≤ 2097152 := hB2.1
      have hv1 : v1.size ≤ 2097152 := hB2.2
      have hzq := hss r (by omega)
      have hZ := hS.left r (by omega)
      clear hB2 hr hq hu
      obtain ⟨X, hX⟩ : ∃ X, (⟨#[1]⟩ : ByteArray) ++ S r ++ o1 = X := ⟨_, rfl⟩
      obtain ⟨V, hV⟩ : ∃ X, (⟨#[1]⟩ : ByteArray) ++ S r ++ v1 = X := ⟨_, rfl⟩
      have HX : Hid ((⟨#[1]⟩ : ByteArray) ++ S r ++ o1 = X) := hX
      have HV : Hid ((⟨#[1]⟩ : ByteArray) ++ S r ++ v1 = V) := hV
      obtain ⟨U, hU⟩ : ∃ Y, ins k A m s = Y := ⟨_, rfl⟩
      have HUU : Hid (one1 (RT k A s) (RT k (fun j => A (s + j)) (m - s)) = U) := hU
      rw [show one1 (S r) o1 = X from hX, show one1 (S r) v1 = V from hV, hU] at hev
      have HSM : Hid (spl m = s) := hmid (by omega)
      have mlt : ¬ (m : Int) ≤ s := by omega
      have mm : (s : Int) ≤ m := by omega
      have mm2 : (s : Int) ≤ c := by omega
      have mm3 : (m : Int) ≤ c := by omega
      have mm4 : ¬ c = s := by omega
      have mm5 : ¬ m = s := by omega
      clear hX hV hU hmid
      by_cases e : X = U
      · rw [if_pos e] at hev
        have HD : Hid ((if X = U then Value.nilIface else .iface 87 (.agg #[.string X, .string U])) = .nilIface) := if_pos e
        clear e
        by_cases e' : V = Y
        · rw [if_pos e'] at hev
          have HD2 : Hid ((if V = Y then Value.nilIface else .iface 87 (.agg #[.string V, .string Y])) = .nilIface) := if_pos e'
          clear e'
          cases hl2 : cmq k f A B s with
          | some v =>
            obtain ⟨x1, y1⟩ := v
            rw [hl2] at hev
            have HE : Hid (.iface 87 (.agg #[.string x1, .string y1]) = ev) := hev
            have HL : Hid (erV (cmq k f A B s) = .iface 87 (.agg #[.string x1, .string y1])) := by show _ = _; rw [hl2]; rfl
            clear hl2 hev ih
            go_enter Tryz.func34, Tryz.ntmps34
            go_wp2_with (first | (go_at_call 57; refine (splitOf_as n _ _ (by rfl) (by omega) (by omega) s HSP.out).mono ?_; rintro e w' ⟨rfl, rfl⟩) | (go_at_call 58; refine (cutLast_any z r l S _ hS hl).mono ?_; rintro e w' ⟨rfl, rfl⟩; have hZ0 := hZ.drew1; have hK0 := hK.drew1; have hP0 := hPQ.drew1; have hA0 := Sl.drew1 hA; have hB0 := Sl.drew1 hB) | (go_at_call 67; refine (claimProof_yes k X0 S hX0 Oo Cc Kk f (m - s) (n - s) r false _ _ _ _ _ o1 v1 (by omega) (by omega) (by omega) (by have := HF.out; omega) (by omega) (by omega) (by omega) HQ.out hZ0 (by omega) (fun j hj => hss j (by omega)) hK0 hP0 HU.out).mono ?_; rintro e w1 ⟨rfl, hb1⟩; have hbv := below1 w1 (.cells #[.string o1, .string v1] 58); have hA1 := (hA0.later hb1).later hbv; have hB1 := (hB0.later hb1).later hbv; have hZ1 := (hZ0.later hb1).later hbv; have hK1 := keys_later (keys_later hK0 hb1) hbv; have hP1 := (hP0.later hb1).later hbv; have b0 := (boxes2 w1 (.string o1) (.string v1) 58).1; have b1 := (boxes2 w1 (.string o1) (.string v1) 58).2) | (go_at_call 63; have _h := hb2; refine (nodeText_any (S r) v1 V _ hzq hv1 HV.out).mono ?_; rintro e w' ⟨rfl, rfl⟩) | (go_at_call 63; refine (nodeText_any (S r) o1 X _ hzq ho1 HX.out).mono ?_; rintro e w' ⟨rfl, rfl⟩) | (go_at_call 64; have _h := hb2; refine (topText_any k n s B _ d _ (by omega) (by omega) HSP.out hB2 (by omega) hsb4 hK2 Y HY.out).mono ?_; rintro e w3 ⟨rfl, hb3⟩; have hA3 := hA2.later hb3; have hB3 := hB2.later hb3; have hZ3 := hZ2.later hb3; have hK3 := keys_later hK2 hb3; have hP3 := hP2.later hb3) | (go_at_call 64; refine (topText_any k m s A _ c _ (by omega) (by omega) HSM.out hA1 (by omega) hsa4 hK1 U HUU.out).mono ?_; rintro e w2 ⟨rfl, hb2⟩; have hA2 := hA1.later hb2; have hB2 := hB1.later hb2; have hZ2 := hZ1.later hb2; have hK2 := keys_later hK1 hb2; have hP2 := hP1.later hb2; have d0 := keep hb2 b0; have d1 := keep hb2 b1) | (go_at_call 61; have _h := hb3; refine (differ_any V Y _ _ HD2.out).mono ?_; rintro e w' ⟨rfl, rfl⟩) | (go_at_call 61; refine (differ_any X U _ _ HD.out).mono ?_; rintro e w' ⟨rfl, rfl⟩))
            have hbx := undrew (((hb1.trans (hbv.mono hb1.size)).trans (hb2.mono (Nat.le_trans hb1.size hbv.size))).trans (hb3.mono (Nat.le_trans hb1.size (Nat.le_trans hbv.size hb2.size))))
            refine wp_region_held_drew (S := fun _ => True) (by kernel_rfl) trivial (fun _ => ?_)
            refine wpAnyH_take (i := 0) (oi := ({ dst := some 111, op := Op.move (Operand.tmp 0), type := 3, pos := "l3_verify.go:172", after := #[], guard := none } : Oper)) (v := .int .i64 k) rfl (by kernel_rfl) (by kernel_rfl) (by kernel_rfl) (fun _ _ _ h => h) (Or.inl ⟨by rfl, fun w hSw => by go_simp⟩) trivial ?_
            simp only [Act.put, List.setIfInBounds_toArray, List.set_cons_zero, List.set_cons_succ]
            refine wpAnyH_take (i := 1) (oi := ({ dst := some 112, op := Op.move (Operand.tmp 2), type := 22, pos := "l3_verify.go:172", after := #[], guard := none } : Oper)) (v := .slice (some ⟨P, off, none⟩) m c) rfl (by kernel_rfl) (by kernel_rfl) (by kernel_rfl) (fun _ _ _ h => h) (Or.inl ⟨by rfl, fun w hSw => by go_simp⟩) trivial ?_
            simp only [Act.put, List.setIfInBounds_toArray, List.set_cons_zero, List.set_cons_succ]
            refine wpAnyH_take (i := 2) (oi := ({ dst := some 113, op := Op.move (Operand.tmp 13), type := 3, pos := "l3_verify.go:172", after := #[], guard := none } : Oper)) (v := .int .i64 (s : Int)) rfl (by kernel_rfl) (by kernel_rfl) (by kernel_rfl) (fun _ _ _ h => h) (Or.inl ⟨by rfl, fun w hSw => by go_simp⟩) trivial ?_
            simp only [Act.put, List.setIfInBounds_toArray, List.set_cons_zero, List.set_cons_succ]
            refine wpAnyH_take (i := 3) (oi := ({ dst := some 114, op := Op.slice 22 (Operand.tmp 112) none (some (Operand.tmp 113)) none, type := 22, pos := "l3_verify.go:172", after := #[{ on := 1, ground := Ground.data }, { on := 2, ground := Ground.data }], guard := none } : Oper)) (v := .slice (some ⟨P, off, none⟩) s c) rfl (by kernel_rfl) (by kernel_rfl) (by kernel_rfl) (fun _ _ _ h => h) (Or.inl ⟨by rfl, fun w hSw => by go_simp⟩) trivial ?_
            simp only [Act.put, List.setIfInBounds_toArray, List.set_cons_zero, List.set_cons_succ]
            refine wpAnyH_take (i := 4) (oi := ({ dst := some 115, op := Op.move (Operand.tmp 3), type := 22, pos := "l3_verify.go:172", after := #[], guard := none } : Oper)) (v := .slice (some ⟨P', off', none⟩) n d) rfl (by kernel_rfl) (by kernel_rfl) (by kernel_rfl) (fun _ _ _ h => h) (Or.inl ⟨by rfl, fun w hSw => by go_simp⟩) trivial ?_
            simp only [Act.put, List.setIfInBounds_toArray, List.set_cons_zero, List.set_cons_succ]
            refine wpAnyH_take (i := 5) (oi := ({ dst := some 116, op := Op.move (Operand.tmp 13), type := 3, pos := "l3_verify.go:172", after := #[], guard := none } : Oper)) (v := .int .i64 (s : Int)) rfl (by kernel_rfl) (by kernel_rfl) (by kernel_rfl) (fun _ _ _ h => h) (Or.inl ⟨by rfl, fun w hSw => by go_simp⟩) trivial ?_
            simp only [Act.put, List.setIfInBounds_toArray, List.set_cons_zero, List.set_cons_succ]
            refine wpAnyH_take (i := 6) (oi := ({ dst := some 117, op := Op.slice 22 (Operand.tmp 115) none (some (Operand.tmp 116)) none, type := 22, pos := "l3_verify.go:172", after := #[{ on := 4, ground := Ground.data }, { on := 5, ground := Ground.data }], guard := none } : Oper)) (v := .slice (some ⟨P', off', none⟩) s d) rfl (by kernel_rfl) (by kernel_rfl) (by kernel_rfl) (fun _ _ _ h => h) (Or.inl ⟨by rfl, fun w hSw => by go_simp⟩) trivial ?_
            simp only [Act.put, List.setIfInBounds_toArray, List.set_cons_zero, List.set_cons_succ]
            refine wpAnyH_ready (rs := [7]) (by kernel_rfl) (by simp) ?_
            refine AllReadyH.cons (o := ({ dst := some 118, op := Op.call { callee := Callee.value (Operand.func 68), args := #[Operand.tmp 111, Operand.tmp 114, Operand.tmp 117], argTypes := #[3, 22, 22] }, type := 51, pos := "l3_verify.go:172", after := #[{ on := 0, ground := Ground.data }, { on := 3, ground := Ground.data }, { on := 6, ground := Ground.data }], guard := none } : Oper)) rfl (fun K hK => ?_) AllReadyH.nil
            go_simp
            refine (compare_as k f A B s (some ⟨P, off, none⟩) (some ⟨P', off', none⟩) c d _ _ (by omega) (by omega) HF.out (by omega) (hA3.drew1.left s (by omega)) (by omega) (fun j hj => hsa j (by omega)) (hB3.drew1.left s (by omega)) (by omega) (fun j hj => hsb j (by omega)) hK3.drew1 HL.out).mono ?_
            rintro e w4 ⟨rfl, hb4⟩
            refine hK.out _ _ trivial (fun _ => ?_)
            clear hK K
            refine wpAnyH_ready (rs := [8]) (by kernel_rfl) (by simp) ?_
            refine AllReadyH.cons (o := ({ dst := some 23, op := Op.assign (Operand.tmp 118), type := 51, pos := "l3_verify.go:172", after := #[{ on := 7, ground := Ground.data }, { on := 7, ground := Ground.chain }, { on := 0, ground := Ground.phase }, { on := 1, ground := Ground.phase }, { on := 2, ground := Ground.phase }, { on := 3, ground := Ground.phase }, { on := 4, ground := Ground.phase }, { on := 5, ground := Ground.phase }, { on := 6, ground := Ground.phase }, { on := 7, ground := Ground.phase }], guard := none } : Oper)) rfl (fun K hK => ?_) AllReadyH.nil
            go_simp
            refine hK.out _ _ trivial (fun _ => ?_)
            clear hK K
            refine wpAnyH_done (by kernel_rfl) ?_ _
            go_wp2
            go_ret
            exact ⟨congrArg Ending.returned HE.out, (hbx.trans ((bdrew1 _).mono hbx.size)).trans (hb4.mono hbx.size)⟩
          | none =>
            rw [hl2, if_neg (by simp)] at hev
            have HE : Hid (erV (stq k X0 S f (fun j => A (s + j)) (fun j => B (s + j)) (m - s) (n - s) r false) = ev) := hev
            have HL : Hid (erV (cmq k f A B s) = .nilIface) := by show _ = _; rw [hl2]; rfl
            clear hl2 hev
            go_enter Tryz.func34, Tryz.ntmps34
            go_wp2_with (first | (go_at_call 57; refine (splitOf_as n _ _ (by rfl) (by omega) (by omega) s HSP.out).mono ?_; rintro e w' ⟨rfl, rfl⟩) | (go_at_call 58; refine (cutLast_any z r l S _ hS hl).mono ?_; rintro e w' ⟨rfl, rfl⟩; have hZ0 := hZ.drew1; have hK0 := hK.drew1; have hP0 := hPQ.drew1; have hA0 := Sl.drew1 hA; have hB0 := Sl.drew1 hB) | (go_at_call 67; refine (claimProof_yes k X0 S hX0 Oo Cc Kk f (m - s) (n - s) r false _ _ _ _ _ o1 v1 (by omega) (by omega) (by omega) (by have := HF.out; omega) (by omega) (by omega) (by omega) HQ.out hZ0 (by omega) (fun j hj => hss j (by omega)) hK0 hP0 HU.out).mono ?_; rintro e w1 ⟨rfl, hb1⟩; have hbv := below1 w1 (.cells #[.string o1, .string v1] 58); have hA1 := (hA0.later hb1).later hbv; have hB1 := (hB0.later hb1).later hbv; have hZ1 := (hZ0.later hb1).later hbv; have hK1 := keys_later (keys_later hK0 hb1) hbv; have hP1 := (hP0.later hb1).later hbv; have b0 := (boxes2 w1 (.string o1) (.string v1) 58).1; have b1 := (boxes2 w1 (.string o1) (.string v1) 58).2) | (go_at_call 63; have _h := hb2; refine (nodeText_any (S r) v1 V _ hzq hv1 HV.out).mono ?_; rintro e w' ⟨rfl, rfl⟩) | (go_at_call 63; refine (nodeText_any (S r) o1 X _ hzq ho1 HX.out).mono ?_; rintro e w' ⟨rfl, rfl⟩) | (go_at_call 64; have _h := hb2; refine (topText_any k n s B _ d _ (by omega) (by omega) HSP.out hB2 (by omega) hsb4 hK2 Y HY.out).mono ?_; rintro e w3 ⟨rfl, hb3⟩; have hA3 := hA2.later hb3; have hB3 := hB2.later hb3; have hZ3 := hZ2.later hb3; have hK3 := keys_later hK2 hb3; have hP3 := hP2.later hb3) | (go_at_call 64; refine (topText_any k m s A _ c _ (by omega) (by omega) HSM.out hA1 (by omega) hsa4 hK1 U HUU.out).mono ?_; rintro e w2 ⟨rfl, hb2⟩; have hA2 := hA1.later hb2; have hB2 := hB1.later hb2; have hZ2 := hZ1.later hb2; have hK2 := keys_later hK1 hb2; have hP2 := hP1.later hb2; have d0 := keep hb2 b0; have d1 := keep hb2 b1) | (go_at_call 61; have _h := hb3; refine (differ_any V Y _ _ HD2.out).mono ?_; rintro e w' ⟨rfl, rfl⟩) | (go_at_call 61; refine (differ_any X U _ _ HD.out).mono ?_; rintro e w' ⟨rfl, rfl⟩))
            have hbx := undrew (((hb1.trans (hbv.mono hb1.size)).trans (hb2.mono (Nat.le_trans hb1.size hbv.size))).trans (hb3.mono (Nat.le_trans hb1.size (Nat.le_trans hbv.size hb2.size))))
            refine wp_region_held_drew (S := fun _ => True) (by kernel_rfl) trivial (fun _ => ?_)
            refine wpAnyH_take (i := 0) (oi := ({ dst := some 111, op := Op.move (Operand.tmp 0), type := 3, pos := "l3_verify.go:172", after := #[], guard := none } : Oper)) (v := .int .i64 k) rfl (by kernel_rfl) (by kernel_rfl) (by kernel_rfl) (fun _ _ _ h => h) (Or.inl ⟨by rfl, fun w hSw => by go_simp⟩) trivial ?_
            simp only [Act.put, List.setIfInBounds_toArray, List.set_cons_zero, List.set_cons_succ]
            refine wpAnyH_take (i := 1) (oi := ({ dst := some 112, op := Op.move (Operand.tmp 2), type := 22, pos := "l3_verify.go:172", after := #[], guard := none } : Oper)) (v := .slice (some ⟨P, off, none⟩) m c) rfl (by kernel_rfl) (by kernel_rfl) (by kernel_rfl) (fun _ _ _ h => h) (Or.inl ⟨by rfl, fun w hSw => by go_simp⟩) trivial ?_
            simp only [Act.put, List.setIfInBounds_toArray, List.set_cons_zero, List.set_cons_succ]
            refine wpAnyH_take (i := 2) (oi := ({ dst := some 113, op := Op.move (Operand.tmp 13), type := 3, pos := "l3_verify.go:172", after := #[], guard := none } : Oper)) (v := .int .i64 (s : Int)) rfl (by kernel_rfl) (by kernel_rfl) (by kernel_rfl) (fun _ _ _ h => h) (Or.inl ⟨by rfl, fun w hSw => by go_simp⟩) trivial ?_
            simp only [Act.put, List.setIfInBounds_toArray, List.set_cons_zero, List.set_cons_succ]
            refine wpAnyH_take (i := 3) (oi := ({ dst := some 114, op := Op.slice 22 (Operand.tmp 112) none (some (Operand.tmp 113)) none, type := 22, pos := "l3_verify.go:172", after := #[{ on := 1, ground := Ground.data }, { on := 2, ground := Ground.data }], guard := none } : Oper)) (v := .slice (some ⟨P, off, none⟩) s c) rfl (by kernel_rfl) (by kernel_rfl) (by kernel_rfl) (fun _ _ _ h => h) (Or.inl ⟨by rfl, fun w hSw => by go_simp⟩) trivial ?_
            simp only [Act.put, List.setIfInBounds_toArray, List.set_cons_zero, List.set_cons_succ]
            refine wpAnyH_take (i := 4) (oi := ({ dst := some 115, op := Op.move (Operand.tmp 3), type := 22, pos := "l3_verify.go:172", after := #[], guard := none } : Oper)) (v := .slice (some ⟨P', off', none⟩) n d) rfl (by kernel_rfl) (by kernel_rfl) (by kernel_rfl) (fun _ _ _ h => h) (Or.inl ⟨by rfl, fun w hSw => by go_simp⟩) trivial ?_
            simp only [Act.put, List.setIfInBounds_toArray, List.set_cons_zero, List.set_cons_succ]
            refine wpAnyH_take (i := 5) (oi := ({ dst := some 116, op := Op.move (Operand.tmp 13), type := 3, pos := "l3_verify.go:172", after := #[], guard := none } : Oper)) (v := .int .i64 (s : Int)) rfl (by kernel_rfl) (by kernel_rfl) (by kernel_rfl) (fun _ _ _ h => h) (Or.inl ⟨by rfl, fun w hSw => by go_simp⟩) trivial ?_
            simp only [Act.put, List.setIfInBounds_toArray, List.set_cons_zero, List.set_cons_succ]
            refine wpAnyH_take (i := 6) (oi := ({ dst := some 117, op := Op.slice 22 (Operand.tmp 115) none (some (Operand.tmp 116)) none, type := 22, pos := "l3_verify.go:172", after := #[{ on := 4, ground := Ground.data }, { on := 5, ground := Ground.data }], guard := none } : Oper)) (v := .slice (some ⟨P', off', none⟩) s d) rfl (by kernel_rfl) (by kernel_rfl) (by kernel_rfl) (fun _ _ _ h => h) (Or.inl ⟨by rfl, fun w hSw => by go_simp⟩) trivial ?_
            simp only [Act.put, List.setIfInBounds_toArray, List.set_cons_zero, List.set_cons_succ]
            refine wpAnyH_ready (rs := [7]) (by kernel_rfl) (by simp) ?_
            refine AllReadyH.cons (o := ({ dst := some 118, op := Op.call { callee := Callee.value (Operand.func 68), args := #[Operand.tmp 111, Operand.tmp 114, Operand.tmp 117], argTypes := #[3, 22, 22] }, type := 51, pos := "l3_verify.go:172", after := #[{ on := 0, ground := Ground.data }, { on := 3, ground := Ground.data }, { on := 6, ground := Ground.data }], guard := none } : Oper)) rfl (fun K hK => ?_) AllReadyH.nil
            go_simp
            refine (compare_as k f A B s (some ⟨P, off, none⟩) (some ⟨P', off', none⟩) c d _ _ (by omega) (by omega) HF.out (by omega) (hA3.drew1.left s (by omega)) (by omega) (fun j hj => hsa j (by omega)) (hB3.drew1.left s (by omega)) (by omega) (fun j hj => hsb j (by omega)) hK3.drew1 HL.out).mono ?_
            rintro e w4 ⟨rfl, hb4⟩
            refine hK.out _ _ trivial (fun _ => ?_)
            clear hK K
            refine wpAnyH_ready (rs := [8]) (by kernel_rfl) (by simp) ?_
            refine AllReadyH.cons (o := ({ dst := some 23, op := Op.assign (Operand.tmp 118), type := 51, pos := "l3_verify.go:172", after := #[{ on := 7, ground := Ground.data }, { on := 7, ground := Ground.chain }, { on := 0, ground := Ground.phase }, { on := 1, ground := Ground.phase }, { on := 2, ground := Ground.phase }, { on := 3, ground := Ground.phase }, { on := 4, ground := Ground.phase }, { on := 5, ground := Ground.phase }, { on := 6, ground := Ground.phase }, { on := 7, ground := Ground.phase }], guard := none } : Oper)) rfl (fun K hK => ?_) AllReadyH.nil
            go_simp
            refine hK.out _ _ trivial (fun _ => ?_)
            clear hK K
            refine wpAnyH_done (by kernel_rfl) ?_ _
            have hby := (hbx.trans ((bdrew1 _).mono hbx.size)).trans (hb4.mono hbx.size)
            have hA4 := (hA.later hby).drew1.right s (by omega)
            have hB4 := (hB.later hby).drew1.right s (by omega)
            have hZ4 := (hZ.later hby).drew1
            have hK4 := (keys_later hK hby).drew1
            have hP4 := (hPQ.later hby).drew1
            go_wp2
            refine wp_region_held_drew (S := fun _ => True) (by kernel_rfl) trivial (fun _ => ?_)
            refine wpAnyH_take (i := 0) (oi := ({ dst := some 122, op := Op.move (Operand.tmp 0), type := 3, pos := "l3_verify.go:175", after := #[], guard := none } : Oper)) (v := .int .i64 k) rfl (by kernel_rfl) (by kernel_rfl) (by kernel_rfl) (fun _ _ _ h => h) (Or.inl ⟨by rfl, fun w hSw => by go_simp⟩) trivial ?_
            simp only [Act.put, List.setIfInBounds_toArray, List.set_cons_zero, List.set_cons_succ]
            refine wpAnyH_take (i := 1) (oi := ({ dst := some 123, op := Op.move (Operand.tmp 1), type := 55, pos := "l3_verify.go:175", after := #[], guard := none } : Oper)) (v := .func (.func 67) #[] #[.pointer (some ⟨Oo, 0, none⟩), .pointer (some ⟨Cc, 0, none⟩), .pointer (some ⟨Kk, 0, none⟩)]) rfl (by kernel_rfl) (by kernel_rfl) (by kernel_rfl) (fun _ _ _ h => h) (Or.inl ⟨by rfl, fun w hSw => by go_simp⟩) trivial ?_
            simp only [Act.put, List.setIfInBounds_toArray, List.set_cons_zero, List.set_cons_succ]
            refine wpAnyH_take (i := 2) (oi := ({ dst := some 124, op := Op.move (Operand.tmp 2), type := 22, pos := "l3_verify.go:175", after := #[], guard := none } : Oper)) (v := .slice (some ⟨P, off, none⟩) m c) rfl (by kernel_rfl) (by kernel_rfl) (by kernel_rfl) (fun _ _ _ h => h) (Or.inl ⟨by rfl, fun w hSw => by go_simp⟩) trivial ?_
            simp only [Act.put, List.setIfInBounds_toArray, List.set_cons_zero, List.set_cons_succ]
            refine wpAnyH_take (i := 3) (oi := ({ dst := some 125, op := Op.move (Operand.tmp 13), type := 3, pos := "l3_verify.go:175", after := #[], guard := none } : Oper)) (v := .int .i64 (s : Int)) rfl (by kernel_rfl) (by kernel_rfl) (by kernel_rfl) (fun _ _ _ h => h) (Or.inl ⟨by rfl, fun w hSw => by go_simp⟩) trivial ?_
            simp only [Act.put, List.setIfInBounds_toArray, List.set_cons_zero, List.set_cons_succ]
            refine wpAnyH_take (i := 4) (oi := ({ dst := some 126, op := Op.slice 22 (Operand.tmp 124) (some (Operand.tmp 125)) none none, type := 22, pos := "l3_verify.go:175", after := #[{ on := 2, ground := Ground.data }, { on := 3, ground := Ground.data }], guard := none } : Oper)) (v := .slice (some ⟨P, off + s, none⟩) (m - s) (c - s)) rfl (by kernel_rfl) (by kernel_rfl) (by kernel_rfl) (fun _ _ _ h => h) (Or.inl ⟨by rfl, fun w hSw => by go_simp⟩) trivial ?_
            simp only [Act.put, List.setIfInBounds_toArray, List.set_cons_zero, List.set_cons_succ]
            refine wpAnyH_take (i := 5) (oi := ({ dst := some 127, op := Op.move (Operand.tmp 3), type := 22, pos := "l3_verify.go:175", after := #[], guard := none } : Oper)) (v := .slice (some ⟨P', off', none⟩) n d) rfl (by kernel_rfl) (by kernel_rfl) (by kernel_rfl) (fun _ _ _ h => h) (Or.inl ⟨by rfl, fun w hSw => by go_simp⟩) trivial ?_
            simp only [Act.put, List.setIfInBounds_toArray, List.set_cons_zero, List.set_cons_succ]
            refine wpAnyH_take (i := 6) (oi := ({ dst := some 128, op := Op.move (Operand.tmp 13), type := 3, pos := "l3_verify.go:175", after := #[], guard := none } : Oper)) (v := .int .i64 (s : Int)) rfl (by kernel_rfl) (by kernel_rfl) (by kernel_rfl) (fun _ _ _ h => h) (Or.inl ⟨by rfl, fun w hSw => by go_simp⟩) trivial ?_
            simp only [Act.put, List.setIfInBounds_toArray, List.set_cons_zero, List.set_cons_succ]
            refine wpAnyH_take (i := 7) (oi := ({ dst := some 129, op := Op.slice 22 (Operand.tmp 127) (some (Operand.tmp 128)) none none, type := 22, pos := "l3_verify.go:175", after := #[{ on := 5, ground := Ground.data }, { on := 6, ground := Ground.data }], guard := none } : Oper)) (v := .slice (some ⟨P', off' + s, none⟩) (n - s) (d - s)) rfl (by kernel_rfl) (by kernel_rfl) (by kernel_rfl) (fun _ _ _ h => h) (Or.inl ⟨by rfl, fun w hSw => by go_simp⟩) trivial ?_
            simp only [Act.put, List.setIfInBounds_toArray, List.set_cons_zero, List.set_cons_succ]
            refine wpAnyH_take (i := 8) (oi := ({ dst := some 130, op := Op.move (Operand.tmp 14), type := 22, pos := "l3_verify.go:175", after := #[], guard := none } : Oper)) (v := .slice z r l) rfl (by kernel_rfl) (by kernel_rfl) (by kernel_rfl) (fun _ _ _ h => h) (Or.inl ⟨by rfl, fun w hSw => by go_simp⟩) trivial ?_
            simp only [Act.put, List.setIfInBounds_toArray, List.set_cons_zero, List.set_cons_succ]
            refine wpAnyH_ready (rs := [9]) (by kernel_rfl) (by simp) ?_
            refine AllReadyH.cons (o := ({ dst := some 131, op := Op.call { callee := Callee.value (Operand.func 34), args := #[Operand.tmp 122, Operand.tmp 123, Operand.tmp 126, Operand.tmp 129, Operand.tmp 130, Operand.const (Value.bool false)], argTypes := #[3, 55, 22, 22, 22, 4] }, type := 51, pos := "l3_verify.go:175", after := #[{ on := 0, ground := Ground.data }, { on := 1, ground := Ground.data }, { on := 4, ground := Ground.data }, { on := 7, ground := Ground.data }, { on := 8, ground := Ground.data }], guard := none } : Oper)) rfl (fun K hK => ?_) AllReadyH.nil
            go_simp
            refine (ih (fun j => A (s + j)) (fun j => B (s + j)) (m - s) (n - s) r false (some ⟨P, off + s, none⟩) (some ⟨P', off' + s, none⟩) z (c - s) (d - s) l _ ev (by omega) (by omega) (by omega) (by have := HF.out; omega) (by omega) HQ.out hA4 (by omega) (fun j hj => hsa (s + j) (by omega)) hB4 (by omega) (fun j hj => hsb (s + j) (by omega)) hZ4 (by omega) (fun j hj => hss j (by omega)) hK4 hP4 HE.out).mono ?_
            rintro e w5 ⟨rfl, hb5⟩
            refine hK.out _ _ trivial (fun _ => ?_)
            clear hK K
            refine wpAnyH_ready (rs := [10]) (by kernel_rfl) (by simp) ?_
            refine AllReadyH.cons (o := ({ dst := some 12, op := Op.assign (Operand.tmp 131), type := 51, pos := "l3_verify.go:175", after := #[{ on := 9, ground := Ground.data }, { on := 9, ground := Ground.chain }, { on := 0, ground := Ground.phase }, { on := 1, ground := Ground.phase }, { on := 2, ground := Ground.phase }, { on := 3, ground := Ground.phase }, { on := 4, ground := Ground.phase }, { on := 5, ground := Ground.phase }, { on := 6, ground := Ground.phase }, { on := 7, ground := Ground.phase }, { on := 8, ground := Ground.phase }, { on := 9, ground := Ground.phase }], guard := none } : Oper)) rfl (fun K hK => ?_) AllReadyH.nil
            go_simp
            refine hK.out _ _ trivial (fun _ => ?_)
            clear hK K
            refine wpAnyH_done (by kernel_rfl) ?_ _
            go_wp2
            go_ret
            exact ⟨rfl, (hby.trans ((bdrew1 _).mono hby.size)).trans (hb5.mono hby.size)⟩
        · rw [if_neg e'] at hev
          have HE : Hid (.iface 87 (.agg #[.string V, .string Y]) = ev) := hev
          have HD2 : Hid ((if V = Y then Value.nilIface else .iface 87 (.agg #[.string V, .string Y])) = .iface 87 (.agg #[.string V, .string Y])) := if_neg e'
          clear e' hev ih
          go_enter Tryz.func34, Tryz.ntmps34
          go_wp2_with (first | (go_at_call 57; refine (splitOf_as n _ _ (by rfl) (by omega) (by omega) s HSP.out).mono ?_; rintro e w' ⟨rfl, rfl⟩) | (go_at_call 58; refine (cutLast_any z r l S _ hS hl).mono ?_; rintro e w' ⟨rfl, rfl⟩; have hZ0 := hZ.drew1; have hK0 := hK.drew1; have hP0 := hPQ.drew1; have hA0 := Sl.drew1 hA; have hB0 := Sl.drew1 hB) | (go_at_call 67; refine (claimProof_yes k X0 S hX0 Oo Cc Kk f (m - s) (n - s) r false _ _ _ _ _ o1 v1 (by omega) (by omega) (by omega) (by have := HF.out; omega) (by omega) (by omega) (by omega) HQ.out hZ0 (by omega) (fun j hj => hss j (by omega)) hK0 hP0 HU.out).mono ?_; rintro e w1 ⟨rfl, hb1⟩; have hbv := below1 w1 (.cells #[.string o1, .string v1] 58); have hA1 := (hA0.later hb1).later hbv; have hB1 := (hB0.later hb1).later hbv; have hZ1 := (hZ0.later hb1).later hbv; have hK1 := keys_later (keys_later hK0 hb1) hbv; have hP1 := (hP0.later hb1).later hbv; have b0 := (boxes2 w1 (.string o1) (.string v1) 58).1; have b1 := (boxes2 w1 (.string o1) (.string v1) 58).2) | (go_at_call 63; have _h := hb2; refine (nodeText_any (S r) v1 V _ hzq hv1 HV.out).mono ?_; rintro e w' ⟨rfl, rfl⟩) | (go_at_call 63; refine (nodeText_any (S r) o1 X _ hzq ho1 HX.out).mono ?_; rintro e w' ⟨rfl, rfl⟩) | (go_at_call 64; have _h := hb2; refine (topText_any k n s B _ d _ (by omega) (by omega) HSP.out hB2 (by omega) hsb4 hK2 Y HY.out).mono ?_; rintro e w3 ⟨rfl, hb3⟩; have hA3 := hA2.later hb3; have hB3 := hB2.later hb3; have hZ3 := hZ2.later hb3; have hK3 := keys_later hK2 hb3; have hP3 := hP2.later hb3) | (go_at_call 64; refine (topText_any k m s A _ c _ (by omega) (by omega) HSM.out hA1 (by omega) hsa4 hK1 U HUU.out).mono ?_; rintro e w2 ⟨rfl, hb2⟩; have hA2 := hA1.later hb2; have hB2 := hB1.later hb2; have hZ2 := hZ1.later hb2; have hK2 := keys_later hK1 hb2; have hP2 := hP1.later hb2; have d0 := keep hb2 b0; have d1 := keep hb2 b1) | (go_at_call 61; have _h := hb3; refine (differ_any V Y _ _ HD2.out).mono ?_; rintro e w' ⟨rfl, rfl⟩) | (go_at_call 61; refine (differ_any X U _ _ HD.out).mono ?_; rintro e w' ⟨rfl, rfl⟩))
          go_ret
          exact ⟨congrArg Ending.returned HE.out, undrew (((hb1.trans (hbv.mono hb1.size)).trans (hb2.mono (Nat.le_trans hb1.size hbv.size))).trans (hb3.mono (Nat.le_trans hb1.size (Nat.le_trans hbv.size hb2.size))))⟩
      · rw [if_neg e] at hev
        have HE : Hid (.iface 87 (.agg #[.string X, .string U]) = ev) := hev
        have HD : Hid ((if X = U then Value.nilIface else .iface 87 (.agg #[.string X, .string U])) = .iface 87 (.agg #[.string X, .string U])) := if_neg e
        clear e hev ih
        go_enter Tryz.func34, Tryz.ntmps34
        go_wp2_with (first | (go_at_call 57; refine (splitOf_as n _ _ (by rfl) (by omega) (by omega) s HSP.out).mono ?_; rintro e w' ⟨rfl, rfl⟩) | (go_at_call 58; refine (cutLast_any z r l S _ hS hl).mono ?_; rintro e w' ⟨rfl, rfl⟩; have hZ0 := hZ.drew1; have hK0 := hK.drew1; have hP0 := hPQ.drew1; have hA0 := Sl.drew1 hA; have hB0 := Sl.drew1 hB) | (go_at_call 67; refine (claimProof_yes k X0 S hX0 Oo Cc Kk f (m - s) (n - s) r false _ _ _ _ _ o1 v1 (by omega) (by omega) (by omega) (by have := HF.out; omega) (by omega) (by omega) (by omega) HQ.out hZ0 (by omega) (fun j hj => hss j (by omega)) hK0 hP0 HU.out).mono ?_; rintro e w1 ⟨rfl, hb1⟩; have hbv := below1 w1 (.cells #[.string o1, .string v1] 58); have hA1 := (hA0.later hb1).later hbv; have hB1 := (hB0.later hb1).later hbv; have hZ1 := (hZ0.later hb1).later hbv; have hK1 := keys_later (keys_later hK0 hb1) hbv; have hP1 := (hP0.later hb1).later hbv; have b0 := (boxes2 w1 (.string o1) (.string v1) 58).1; have b1 := (boxes2 w1 (.string o1) (.string v1) 58).2) | (go_at_call 63; refine (nodeText_any (S r) o1 X _ hzq ho1 HX.out).mono ?_; rintro e w' ⟨rfl, rfl⟩) | (go_at_call 64; refine (topText_any k m s A _ c _ (by omega) (by omega) HSM.out hA1 (by omega) hsa4 hK1 U HUU.out).mono ?_; rintro e w2 ⟨rfl, hb2⟩; have hA2 := hA1.later hb2; have hB2 := hB1.later hb2; have hZ2 := hZ1.later hb2; have hK2 := keys_later hK1 hb2; have hP2 := hP1.later hb2; have d0 := keep hb2 b0; have d1 := keep hb2 b1) | (go_at_call 61; refine (differ_any X U _ _ HD.out).mono ?_; rintro e w' ⟨rfl, rfl⟩))
        go_ret
        exact ⟨congrArg Ending.returned HE.out, undrew ((hb1.trans (hbv.mono hb1.size)).trans (hb2.mono (Nat.le_trans hb1.size hbv.size)))⟩
end Go.Proofs.YtlbackkjjhpljaaGreatDoor
namespace Go.Proofs.YtlbackkjjhpljaaGreatDoor
open Go.RowKit
set_option maxRecDepth 20000 in
set_option maxHeartbeats 4000000 in
theorem implCollideProof_any (k : Int) (A B : Nat → ByteArray) (m n q : Nat) (S : Nat → ByteArray) (a b z : Option Addr) (c d l : Nat) (w : World) (p : Pr) (hA : Sl w a m A) (hc : m ≤ c) (hsa : ∀ j, j < m → (A j).size ≤ 1048576) (hB : Sl w b n B) (hd : n ≤ d) (hn : n ≤ 64) (hsb : ∀ j, j < n → (B j).size ≤ 1048576) (hS : Sl w z q S) (hl : q ≤ l) (hq20 : q ≤ 1048576) (hss : ∀ j, j < q → (S j).size ≤ 2097152) (hK : KeysAt w) (hErr : ErrAt w) (hp : cqD k A B m n q S = p) :
    Calls Tryz.prog 14 #[.int .i64 k, .slice a m c, .slice b n d, .slice z q l] w fun e w' => e = .returned (.agg #[.bool p.f, .string p.x, .string p.y]) ∧ Below w.heap.size w w' := by
  have hb0 := below1 w (.cells #[.bool false, .string (⟨#[]⟩ : ByteArray), .string ⟨#[]⟩] 25)
  have q0 := B3.new w (.bool false) (.string (⟨#[]⟩ : ByteArray)) (.string ⟨#[]⟩) 25
  have hA0 := hA.later hb0
  have hB0 := hB.later hb0
  have hS0 := hS.later hb0
  have hK0 := keys_later hK hb0
  have hE0 := hErr.later hb0
  have hsa4 : ∀ j, j < m → (A j).size ≤ 4194304 := fun j hj => by have := hsa j hj; omega
  clear hA hB hS hK hErr
  unfold cqD at hp
  by_cases hr : 1 ≤ m ∧ m ≤ n ∧ digB k q S = true
  · obtain ⟨h1, hmn, hdg⟩ := hr
    have HD : Hid (digB k q S = true) := hdg
    obtain ⟨hk, hw⟩ := digB_out hdg
    have d1 : ¬ (m : Int) = 0 := by omega
    have d2 : ¬ (n : Int) < m := by omega
    obtain ⟨O, hO⟩ : ∃ O, RT k A m = O := ⟨_, rfl⟩
    have HO : Hid (RT k A m = O) := hO
    have hOs : O.size ≤ 2097152 := by have := rt_size k m A m; rw [← hO]; unfold RT; omega
    rw [hO] at hp
    by_cases e : q = ql 31 m n true
    · rw [if_pos ⟨h1, hk, hw, by omega, by omega, by omega, by omega, by rw [Int.toNat_natCast, Int.toNat_natCast]; exact e⟩, stp_stq] at hp
      obtain ⟨⟨o1, v1⟩, hu⟩ : ∃ u, cq k O S 31 m n q true = u := ⟨_, rfl⟩
      have HU : Hid (cq k O S 31 m n q true = (o1, v1)) := hu
      have HQ : Hid (q = ql 31 m n true) := e
      have hzz := stq_size k O S hOs 31 A B m n q true (by omega) h1 hmn (by omega) e hsa hsb hss
      clear hu hdg hw hO
      cases hq : stq k O S 31 A B m n q true with
      | none =>
        rw [hq] at hp
        have HV : Hid (erV (stq k O S 31 A B m n q true) = .nilIface) := by show _ = _; rw [hq]; rfl
        subst hp
        clear hq e hzz
        go_enter Tryz.func14, Tryz.ntmps14
        go_wp2_with (first | (go_at_call 27; refine (areDig_any k z q l S _ hS0 true HD.out).mono ?_; rintro e w0 ⟨rfl, hw0⟩; subst hw0) | (go_at_call 19; refine (implRoot_any k m A _ c _ O (by omega) hA0 hK0 hsa4 HO.out).mono ?_; rintro e w1 ⟨rfl, hb1⟩; have hA1 := hA0.later hb1; have hB1 := hB0.later hb1; have hS1 := hS0.later hb1; have hK1 := keys_later hK0 hb1; have q1 := q0.later hb1; have hE1 := hE0.later hb1) | (go_at_call 33; refine (claimOfProof_any k O _).mono ?_; rintro e w2 ⟨rfl, hP2, hb2⟩; have hA2 := hA1.later hb2; have hB2 := hB1.later hb2; have hS2 := hS1.later hb2; have hK2 := keys_later hK1 hb2; have q2 := q1.later hb2; have hE2 := hE1.later hb2) | (go_at_call 67; refine (claimProof_yes k O S hOs _ _ _ 31 m n q true _ _ _ _ _ o1 v1 (by omega) h1 hmn (by omega) (by omega) (by omega) hq20 HQ.out hS2 hl hss hK2 hP2 HU.out).mono ?_; rintro e w3 ⟨rfl, hb3⟩; have hbv := below1 w3 (.cells #[.string o1, .string v1] 58); have hb3v := hb3.trans (hbv.mono hb3.size); have hA3 := hA2.later hb3v; have hB3 := hB2.later hb3v; have hS3 := hS2.later hb3v; have hK3 := keys_later hK2 hb3v; have q3 := q2.later hb3v; have hE3 := hE2.later hb3v; have hP3 := hP2.later hb3v) | (go_at_call 34; refine (searchProof_as k O S hOs _ _ _ 31 A B m n q true _ _ _ _ _ _ _ _ (by omega) h1 hmn (by omega) hn HQ.out hA3 hc hsa hB3 hd hsb hS3 hl hss hK3 hP3 HV.out).mono ?_; rintro e w4 ⟨rfl, hb4⟩; have hK4 := keys_later hK3 hb4; have q4 := q3.later hb4; have hE4 := hE3.later hb4) | (go_at_call 29; refine (collision_nil k _).mono ?_; rintro e w5 ⟨rfl, hb5⟩; have q5 := q4.later hb5; obtain ⟨c0, c1, c2, f0, f1, f2⟩ := id q5))
        obtain ⟨r0, r1, r2⟩ := triple_set w5 _ _ _ _ (.bool false) (.string ⟨#[]⟩) (.string ⟨#[]⟩) q5
        exact bodyPost_ret (v := .agg #[.bool false, .string ⟨#[]⟩, .string ⟨#[]⟩]) (by simp [results, Tryz.results14, go_sem, r0, r1, r2]) rfl ⟨rfl, below3s ((((((hb0.trans (hb1.mono (hb0.size))).trans (hb2.mono (Nat.le_trans (hb0.size) hb1.size))).trans (hb3v.mono (Nat.le_trans (Nat.le_trans (hb0.size) hb1.size) hb2.size))).trans (hb4.mono (Nat.le_trans (Nat.le_trans (Nat.le_trans (hb0.size) hb1.size) hb2.size) hb3v.size))).trans (hb5.mono (Nat.le_trans (Nat.le_trans (Nat.le_trans (Nat.le_trans (hb0.size) hb1.size) hb2.size) hb3v.size) hb4.size)))) (Nat.le_refl _) _ _ _⟩
      | some v =>
        obtain ⟨X, Y⟩ := v
        rw [hq] at hp
        obtain ⟨hX, hY⟩ := hzz X Y hq
        have HP : Hid (cand k X Y = p) := hp
        have HV : Hid (erV (stq k O S 31 A B m n q true) = .iface 87 (.agg #[.string X, .string Y])) := by show _ = _; rw [hq]; rfl
        clear hq e hzz hp
        go_enter Tryz.func14, Tryz.ntmps14
        go_wp2_with (first | (go_at_call 27; refine (areDig_any k z q l S _ hS0 true HD.out).mono ?_; rintro e w0 ⟨rfl, hw0⟩; subst hw0) | (go_at_call 19; refine (implRoot_any k m A _ c _ O (by omega) hA0 hK0 hsa4 HO.out).mono ?_; rintro e w1 ⟨rfl, hb1⟩; have hA1 := hA0.later hb1; have hB1 := hB0.later hb1; have hS1 := hS0.later hb1; have hK1 := keys_later hK0 hb1; have q1 := q0.later hb1; have hE1 := hE0.later hb1) | (go_at_call 33; refine (claimOfProof_any k O _).mono ?_; rintro e w2 ⟨rfl, hP2, hb2⟩; have hA2 := hA1.later hb2; have hB2 := hB1.later hb2; have hS2 := hS1.later hb2; have hK2 := keys_later hK1 hb2; have q2 := q1.later hb2; have hE2 := hE1.later hb2) | (go_at_call 67; refine (claimProof_yes k O S hOs _ _ _ 31 m n q true _ _ _ _ _ o1 v1 (by omega) h1 hmn (by omega) (by omega) (by omega) hq20 HQ.out hS2 hl hss hK2 hP2 HU.out).mono ?_; rintro e w3 ⟨rfl, hb3⟩; have hbv := below1 w3 (.cells #[.string o1, .string v1] 58); have hb3v := hb3.trans (hbv.mono hb3.size); have hA3 := hA2.later hb3v; have hB3 := hB2.later hb3v; have hS3 := hS2.later hb3v; have hK3 := keys_later hK2 hb3v; have q3 := q2.later hb3v; have hE3 := hE2.later hb3v; have hP3 := hP2.later hb3v) | (go_at_call 34; refine (searchProof_as k O S hOs _ _ _ 31 A B m n q true _ _ _ _ _ _ _ _ (by omega) h1 hmn (by omega) hn HQ.out hA3 hc hsa hB3 hd hsb hS3 hl hss hK3 hP3 HV.out).mono ?_; rintro e w4 ⟨rfl, hb4⟩; have hK4 := keys_later hK3 hb4; have q4 := q3.later hb4; have hE4 := hE3.later hb4) | (go_at_call 29; refine (collision_some k X Y _ hX hY hK4 hE4 p HP.out).mono ?_; rintro e w5 ⟨rfl, hb5⟩; have q5 := q4.later hb5; obtain ⟨c0, c1, c2, f0, f1, f2⟩ := id q5))
        obtain ⟨r0, r1, r2⟩ := triple_set w5 _ _ _ _ (.bool p.f) (.string p.x) (.string p.y) q5
        exact bodyPost_ret (v := .agg #[.bool p.f, .string p.x, .string p.y]) (by simp [results, Tryz.results14, go_sem, r0, r1, r2]) rfl ⟨rfl, below3s ((((((hb0.trans (hb1.mono (hb0.size))).trans (hb2.mono (Nat.le_trans (hb0.size) hb1.size))).trans (hb3v.mono (Nat.le_trans (Nat.le_trans (hb0.size) hb1.size) hb2.size))).trans (hb4.mono (Nat.le_trans (Nat.le_trans (Nat.le_trans (hb0.size) hb1.size) hb2.size) hb3v.size))).trans (hb5.mono (Nat.le_trans (Nat.le_trans (Nat.le_trans (Nat.le_trans (hb0.size) hb1.size) hb2.size) hb3v.size) hb4.size)))) (Nat.le_refl _) _ _ _⟩
    · rw [if_neg fun hf => e (by have := hf.2.2.2.2.2.2.2; rw [Int.toNat_natCast, Int.toNat_natCast] at this; exact this)] at hp
      have HQ : Hid (¬ q = ql 31 m n true) := e
      subst hp
      clear e hdg hw hO
      go_enter Tryz.func14, Tryz.ntmps14
      go_wp2_with (first | (go_at_call 27; refine (areDig_any k z q l S _ hS0 true HD.out).mono ?_; rintro e w0 ⟨rfl, hw0⟩; subst hw0) | (go_at_call 19; refine (implRoot_any k m A _ c _ O (by omega) hA0 hK0 hsa4 HO.out).mono ?_; rintro e w1 ⟨rfl, hb1⟩; have hA1 := hA0.later hb1; have hB1 := hB0.later hb1; have hS1 := hS0.later hb1; have hK1 := keys_later hK0 hb1; have q1 := q0.later hb1; have hE1 := hE0.later hb1) | (go_at_call 33; refine (claimOfProof_any k O _).mono ?_; rintro e w2 ⟨rfl, hP2, hb2⟩; have hA2 := hA1.later hb2; have hB2 := hB1.later hb2; have hS2 := hS1.later hb2; have hK2 := keys_later hK1 hb2; have q2 := q1.later hb2; have hE2 := hE1.later hb2) | (go_at_call 67; refine (claimProof_no k O S _ _ _ 31 m n q true _ _ _ _ _ (by omega) h1 hmn (by omega) (by omega) (by omega) hq20 HQ.out hS2 hl hss hK2 hP2).mono ?_; rintro e w3 ⟨⟨o1, v1, rfl⟩, hb3⟩; have q3 := q2.later hb3; obtain ⟨c0, c1, c2, f0, f1, f2⟩ := id q3; have hl1 : w.heap.size < w3.heap.size := World.block_lt_of_cell? _ _ c0))
      have q4 := q3.set (.bool false) (.string ⟨#[]⟩) (.string ⟨#[]⟩)
      have q5 := q4.later (below1 _ (.cells #[.string o1, .string v1] 58))
      obtain ⟨r0, r1, r2, _, _, _⟩ := id q5
      have hb4 := below3s (((hb0.trans (hb1.mono (hb0.size))).trans (hb2.mono (Nat.le_trans (hb0.size) hb1.size))).trans (hb3.mono (Nat.le_trans (Nat.le_trans (hb0.size) hb1.size) hb2.size))) (Nat.le_refl _) (.bool false) (.string ⟨#[]⟩) (.string ⟨#[]⟩)
      exact bodyPost_ret (v := .agg #[.bool false, .string ⟨#[]⟩, .string ⟨#[]⟩]) (by simp [results, Tryz.results14, go_sem, r0, r1, r2]) rfl ⟨rfl, hb4.trans ((below1 _ _).mono hb4.size)⟩
  · have hnf : ¬ (1 ≤ m ∧ FitsP k m n q S) := fun hf => hr ⟨hf.1, by have := hf.2.2.2.2.2.2.1; omega, digB_yes hf.2.1 hf.2.2.1⟩
    rw [if_neg hnf] at hp
    subst hp
    clear hnf
    obtain ⟨c0, c1, c2, f0, f1, f2⟩ := id q0
    by_cases h2 : m = 0
    · have d1 : (m : Int) = 0 := by omega
      subst h2
      go_enter Tryz.func14, Tryz.ntmps14
      go_wp2
      exact bodyPost_ret (v := .agg #[.bool false, .string ⟨#[]⟩, .string ⟨#[]⟩]) (by simp [results, Tryz.results14, go_sem]) rfl ⟨rfl, hb0⟩
    have d1 : ¬ (m : Int) = 0 := by omega
    by_cases h3 : n < m
    · have d2 : (n : Int) < m := by omega
      go_enter Tryz.func14, Tryz.ntmps14
      go_wp2
      exact bodyPost_ret (v := .agg #[.bool false, .string ⟨#[]⟩, .string ⟨#[]⟩]) (by simp [results, Tryz.results14, go_sem]) rfl ⟨rfl, hb0⟩
    have d2 : ¬ (n : Int) < m := by omega
    have hdg : digB k q S = false := by
      cases e : digB k q S with
      | false => rfl
      | true => exact absurd ⟨by omega, by omega, e⟩ hr
    have HD : Hid (digB k q S = false) := hdg
    clear hdg hr
    go_enter Tryz.func14, Tryz.ntmps14
    go_wp2_with ((go_at_call 27; refine (areDig_any k z q l S _ hS0 false HD.out).mono ?_; rintro e w0 ⟨rfl, hw0⟩; subst hw0))
    exact bodyPost_ret (v := .agg #[.bool false, .string ⟨#[]⟩, .string ⟨#[]⟩]) (by simp [results, Tryz.results14, go_sem]) rfl ⟨rfl, hb0⟩
end Go.Proofs.YtlbackkjjhpljaaGreatDoor
