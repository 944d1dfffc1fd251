/-
  The extractor for a path: the program's way down.
-/
import Derived.Test.YtlbackkjjhpljaaGreatDoorDc
import Derived.Test.YtlbackkjjhpljaaGreatDoorRp
import Derived.Test.YtlbackkjjhpljaaGreatDoorIi
namespace Go.Proofs.YtlbackkjjhpljaaGreatDoor
open Go.RowKit
/-- An error as the program holds it: none, or a candidate. -/
def erV : Option (ByteArray × ByteArray) → Value
  | none => .nilIface
  | some (x, y) => .iface 87 (.agg #[.string x, .string y])
set_option maxRecDepth 20000 in
set_option maxHeartbeats 4000000 in
theorem differ_any (x y : ByteArray) (w : World) (ev : Value) (hev : (if x = y then Value.nilIface else .iface 87 (.agg #[.string x, .string y])) = ev) :
    Calls Tryz.prog 61 #[.string x, .string y] w fun e w' => e = .returned ev ∧ w' = w := by
  by_cases e : x = y
  · have t : (x.toList == y.toList) = true := by rw [bytes_eq]; exact decide_eq_true e
    rw [if_pos e] at hev
    subst hev
    clear e
    go_enter Tryz.func61, Tryz.ntmps61
    go_wp2
    go_ret
    exact ⟨rfl, rfl⟩
  · have t : (x.toList == y.toList) = false := by rw [bytes_eq]; exact decide_eq_false e
    rw [if_neg e] at hev
    subst hev
    clear e
    go_enter Tryz.func61, Tryz.ntmps61
    go_wp2
    go_ret
    exact ⟨rfl, rfl⟩
set_option maxRecDepth 20000 in
set_option maxHeartbeats 4000000 in
theorem topText_any (k : Int) (n s : Nat) (L : Nat → ByteArray) (a : Option Addr) (c : Nat) (w : World) (h2 : 2 ≤ n) (hn : n ≤ 64) (hsp : spl n = s) (h : Sl w a n L) (hc : n ≤ c) (hsz : ∀ j, j < n → (L j).size ≤ 4194304) (hK : KeysAt w) (r : ByteArray) (hr : one1 (RT k L s) (RT k (fun j => L (s + j)) (n - s)) = r) :
    Calls Tryz.prog 64 #[.int .i64 k, .slice a n c] w fun e w' => e = .returned (.string r) ∧ Below w.heap.size w w' := by
  have hs := spl_in n h2 (by omega)
  rw [hsp] at hs
  obtain ⟨hs1, hs2, hs3⟩ := hs
  have HSP : Hid (spl n = s) := hsp
  obtain ⟨P, off, rfl, hc0⟩ := h.at 0 (by omega)
  have hA : Sl w.drew (some ⟨P, off, none⟩) s L := h.left s (by omega)
  have hB : Sl w.drew (some ⟨P, off + s, none⟩) (n - s) (fun j => L (s + j)) := h.right s (by omega)
  have hKd : KeysAt w.drew := hK.drew1
  obtain ⟨u, hu⟩ : ∃ u, RT k L s = u := ⟨_, rfl⟩
  obtain ⟨v, hv⟩ : ∃ v, RT k (fun j => L (s + j)) (n - s) = v := ⟨_, rfl⟩
  have HU : Hid (RT k L s = u) := hu
  have HV : Hid (RT k (fun j => L (s + j)) (n - s) = v) := hv
  have hul : u.size ≤ 32 := by rw [← hu]; exact rt_size _ _ _ _
  have hvl : v.size ≤ 32 := by rw [← hv]; exact rt_size _ _ _ _
  rw [hu, hv] at hr
  have HR : Hid ((⟨#[1]⟩ : ByteArray) ++ u ++ v = r) := hr
  clear hu hv hr hc0 hsp
  have i0 : (0 : Int) ≤ (s : Int) := by omega
  have i1 : (s : Int) ≤ (n : Int) := by omega
  have i2 : (s : Int) ≤ (c : Int) := by omega
  have i3 : (n : Int) ≤ (c : Int) := by omega
  have i4 : s ≤ c := by omega
  have i5 : s ≤ n := by omega
  have i6 : ¬ c = s := by omega
  have i7 : ¬ n = s := by omega
  go_enter Tryz.func64, Tryz.ntmps64
  go_wp2_with (go_at_call 57; refine (splitOf_as n _ _ (by rfl) h2 (by omega) s HSP.out).mono ?_; rintro e w' ⟨rfl, rfl⟩)
  refine wp_region_held_drew (S := fun _ => True) (by kernel_rfl) trivial (fun _ => ?_)
  refine wpAnyH_take (i := 0) (oi := ({ dst := some 9, op := Op.move (Operand.tmp 0), type := 3, pos := "l3_verify.go:214", after := #[], guard := none } : Oper)) (v := .int .i64 k) rfl (by kernel_rfl) (by kernel_rfl) (by kernel_rfl) (fun _ _ _ h => h) (Or.inl ⟨by rfl, fun w hSw => by go_simp⟩) trivial ?_
  simp only [Act.put, List.setIfInBounds_toArray, List.set_cons_zero, List.set_cons_succ]
  refine wpAnyH_take (i := 1) (oi := ({ dst := some 10, op := Op.move (Operand.tmp 1), type := 22, pos := "l3_verify.go:214", after := #[], guard := none } : Oper)) (v := .slice (some ⟨P, off, none⟩) n c) rfl (by kernel_rfl) (by kernel_rfl) (by kernel_rfl) (fun _ _ _ h => h) (Or.inl ⟨by rfl, fun w hSw => by go_simp⟩) trivial ?_
  simp only [Act.put, List.setIfInBounds_toArray, List.set_cons_zero, List.set_cons_succ]
  refine wpAnyH_take (i := 2) (oi := ({ dst := some 11, op := Op.move (Operand.tmp 5), type := 3, pos := "l3_verify.go:214", after := #[], guard := none } : Oper)) (v := .int .i64 (s : Int)) rfl (by kernel_rfl) (by kernel_rfl) (by kernel_rfl) (fun _ _ _ h => h) (Or.inl ⟨by rfl, fun w hSw => by go_simp⟩) trivial ?_
  simp only [Act.put, List.setIfInBounds_toArray, List.set_cons_zero, List.set_cons_succ]
  refine wpAnyH_take (i := 3) (oi := ({ dst := some 12, op := Op.slice 22 (Operand.tmp 10) none (some (Operand.tmp 11)) none, type := 22, pos := "l3_verify.go:214", after := #[{ on := 1, ground := Ground.data }, { on := 2, ground := Ground.data }], guard := none } : Oper)) (v := .slice (some ⟨P, off, none⟩) s c) rfl (by kernel_rfl) (by kernel_rfl) (by kernel_rfl) (fun _ _ _ h => h) (Or.inl ⟨by rfl, fun w hSw => by go_simp⟩) trivial ?_
  simp only [Act.put, List.setIfInBounds_toArray, List.set_cons_zero, List.set_cons_succ]
  refine wpAnyH_take (i := 5) (oi := ({ dst := some 14, op := Op.move (Operand.tmp 0), type := 3, pos := "l3_verify.go:214", after := #[], guard := none } : Oper)) (v := .int .i64 k) rfl (by kernel_rfl) (by kernel_rfl) (by kernel_rfl) (fun _ _ _ h => h) (Or.inl ⟨by rfl, fun w hSw => by go_simp⟩) trivial ?_
  simp only [Act.put, List.setIfInBounds_toArray, List.set_cons_zero, List.set_cons_succ]
  refine wpAnyH_take (i := 6) (oi := ({ dst := some 15, op := Op.move (Operand.tmp 1), type := 22, pos := "l3_verify.go:214", after := #[], guard := none } : Oper)) (v := .slice (some ⟨P, off, none⟩) n c) rfl (by kernel_rfl) (by kernel_rfl) (by kernel_rfl) (fun _ _ _ h => h) (Or.inl ⟨by rfl, fun w hSw => by go_simp⟩) trivial ?_
  simp only [Act.put, List.setIfInBounds_toArray, List.set_cons_zero, List.set_cons_succ]
  refine wpAnyH_take (i := 7) (oi := ({ dst := some 16, op := Op.move (Operand.tmp 5), type := 3, pos := "l3_verify.go:214", after := #[], guard := none } : Oper)) (v := .int .i64 (s : Int)) rfl (by kernel_rfl) (by kernel_rfl) (by kernel_rfl) (fun _ _ _ h => h) (Or.inl ⟨by rfl, fun w hSw => by go_simp⟩) trivial ?_
  simp only [Act.put, List.setIfInBounds_toArray, List.set_cons_zero, List.set_cons_succ]
  refine wpAnyH_take (i := 8) (oi := ({ dst := some 17, op := Op.slice 22 (Operand.tmp 15) (some (Operand.tmp 16)) none none, type := 22, pos := "l3_verify.go:214", after := #[{ on := 6, ground := Ground.data }, { on := 7, ground := Ground.data }], guard := none } : Oper)) (v := .slice (some ⟨P, off + s, none⟩) (n - s) (c - s)) rfl (by kernel_rfl) (by kernel_rfl) (by kernel_rfl) (fun _ _ _ h => h) (Or.inl ⟨by rfl, fun w hSw => by go_simp⟩) trivial ?_
  simp only [Act.put, List.setIfInBounds_toArray, List.set_cons_zero, List.set_cons_succ]
  refine wpAnyH_ready (rs := [4]) (by kernel_rfl) (by simp) ?_
  refine AllReadyH.cons (o := ({ dst := some 13, op := Op.call { callee := Callee.value (Operand.func 19), args := #[Operand.tmp 9, Operand.tmp 12], argTypes := #[3, 22] }, type := 9, pos := "l3_verify.go:214", after := #[{ on := 0, ground := Ground.data }, { on := 3, ground := Ground.data }], guard := none } : Oper)) rfl (fun K hK => ?_) AllReadyH.nil
  go_simp
  refine (implRoot_any k s L (some ⟨P, off, none⟩) c _ u (by omega) hA hKd (fun j hj => hsz j (by omega)) HU.out).mono ?_
  rintro e w1 ⟨rfl, hb1⟩
  refine hK.out _ _ trivial (fun _ => ?_)
  clear hK K
  refine wpAnyH_ready (rs := [9]) (by kernel_rfl) (by simp) ?_
  refine AllReadyH.cons (o := ({ dst := some 18, op := Op.call { callee := Callee.value (Operand.func 19), args := #[Operand.tmp 14, Operand.tmp 17], argTypes := #[3, 22] }, type := 9, pos := "l3_verify.go:214", after := #[{ on := 5, ground := Ground.data }, { on := 8, ground := Ground.data }, { on := 4, ground := Ground.chain }], guard := none } : Oper)) rfl (fun K hK => ?_) AllReadyH.nil
  go_simp
  refine (implRoot_any k (n - s) (fun j => L (s + j)) (some ⟨P, off + s, none⟩) (c - s) _ v (by omega) (hB.later hb1) (keys_later hKd hb1) (fun j hj => hsz (s + j) (by omega)) HV.out).mono ?_
  rintro e w2 ⟨rfl, hb2⟩
  refine hK.out _ _ trivial (fun _ => ?_)
  clear hK K
  refine wpAnyH_ready (rs := [10]) (by kernel_rfl) (by simp) ?_
  refine AllReadyH.cons (o := ({ dst := some 19, op := Op.call { callee := Callee.value (Operand.func 63), args := #[Operand.tmp 13, Operand.tmp 18], argTypes := #[9, 9] }, type := 9, pos := "l3_verify.go:214", after := #[{ on := 4, ground := Ground.data }, { on := 9, ground := Ground.data }, { on := 9, ground := Ground.chain }], guard := none } : Oper)) rfl (fun K hK => ?_) AllReadyH.nil
  go_simp
  refine (nodeText_any u v r _ (by omega) (by omega) HR.out).mono ?_
  rintro e w3 ⟨rfl, rfl⟩
  refine hK.out _ _ trivial (fun _ => ?_)
  clear hK K
  refine wpAnyH_ready (rs := [11]) (by kernel_rfl) (by simp) ?_
  refine AllReadyH.cons (o := ({ dst := some 4, op := Op.assign (Operand.tmp 19), type := 9, pos := "l3_verify.go:214", after := #[{ on := 10, ground := Ground.data }, { on := 10, ground := Ground.chain }, { on := 0, ground := Ground.phase }, { on := 1, ground := Ground.phase }, { on := 2, ground := Ground.phase }, { on := 3, ground := Ground.phase }, { on := 4, ground := Ground.phase }, { on := 5, ground := Ground.phase }, { on := 6, ground := Ground.phase }, { on := 7, ground := Ground.phase }, { on := 8, ground := Ground.phase }, { on := 9, ground := Ground.phase }, { on := 10, ground := Ground.phase }], guard := none } : Oper)) rfl (fun K hK => ?_) AllReadyH.nil
  go_simp
  refine hK.out _ _ trivial (fun _ => ?_)
  clear hK K
  refine wpAnyH_done (by kernel_rfl) ?_ _
  go_wp2
  go_ret
  exact ⟨rfl, undrew (hb1.trans (hb2.mono hb1.size))⟩
set_option maxRecDepth 20000 in
set_option maxHeartbeats 4000000 in
theorem searchPath_one (k : Int) (E : ByteArray) (hE : E.size ≤ 1048576) (K Ee Cc : Nat) (L : Nat → ByteArray) (m : Nat) (x : Int) (a b : Option Addr) (c d : Nat) (w : World) (ev : Value) (h : Sl w a 1 L) (hsz : (L 0).size ≤ 1048576) (hev : erV (if E = L 0 then none else some (zero1 E, zero1 (L 0))) = ev) :
    Calls Tryz.prog 30 #[.int .i64 k, .func (.func 55) #[] #[.pointer (some ⟨K, 0, none⟩), .pointer (some ⟨Ee, 0, none⟩), .pointer (some ⟨Cc, 0, none⟩)], .slice a 1 c, .string E, .int .i64 x, .slice b m d] w fun e w' => e = .returned ev ∧ Below w.heap.size w w' := by
  obtain ⟨P, off, rfl, hc0⟩ := h.at 0 (by omega)
  rw [Nat.add_zero] at hc0
  obtain ⟨V, hV⟩ : ∃ V, L 0 = V := ⟨_, rfl⟩
  rw [hV] at hc0 hsz hev
  obtain ⟨X, hX⟩ : ∃ X, (⟨#[0]⟩ : ByteArray) ++ E = X := ⟨_, rfl⟩
  obtain ⟨Y, hY⟩ : ∃ Y, (⟨#[0]⟩ : ByteArray) ++ V = Y := ⟨_, rfl⟩
  have HX : Hid ((⟨#[0]⟩ : ByteArray) ++ E = X) := hX
  have HY : Hid ((⟨#[0]⟩ : ByteArray) ++ V = Y) := hY
  have HE : Hid ((if X = Y then Value.nilIface else .iface 87 (.agg #[.string X, .string Y])) = ev) := by
    show _ = _
    rw [← hev, ← hX, ← hY]
    by_cases e : E = V
    · rw [if_pos e, if_pos (by rw [e])]; rfl
    · rw [if_neg e, if_neg fun e' => e (app_one e')]; rfl
  clear hX hY hev hV
  go_enter Tryz.func30, Tryz.ntmps30
  go_wp2
  go_quiet (first | (go_at_call 62; exact Calls.quiet_of_same (leafText_any E X _ (by omega) HX.out)) | (go_at_call 62; exact Calls.quiet_of_same (leafText_any V Y _ (by omega) HY.out)) | (go_at_call 61; exact Calls.quiet_of_same (differ_any X Y _ ev HE.out)))
  go_wp2
  go_ret
  exact ⟨rfl, bdrew (Below.refl _ _) _⟩
set_option maxRecDepth 20000 in
set_option maxHeartbeats 4000000 in
theorem searchPath_as (k : Int) (E : ByteArray) (S : Nat → ByteArray) (hE : E.size ≤ 1048576) (K Ee Cc : Nat) (f : Nat) : ∀ (L : Nat → ByteArray) (i n m : Nat) (x : Int) (a b : Option Addr) (c d : Nat) (w : World) (ev : Value), f ≤ 31 → 1 ≤ n → n ≤ 2 ^ f → n ≤ 64 → i < n → x = i → m = pl f i n → Sl w a n L → n ≤ c → (∀ j, j < n → (L j).size ≤ 1048576) → Sl w b m S → m ≤ d → (∀ j, j < m → (S j).size ≤ 2097152) → KeysAt w → PC w K Ee Cc k E → erV (dq k E S f L i n m) = ev →
    Calls Tryz.prog 30 #[.int .i64 k, .func (.func 55) #[] #[.pointer (some ⟨K, 0, none⟩), .pointer (some ⟨Ee, 0, none⟩), .pointer (some ⟨Cc, 0, none⟩)], .slice a n c, .string E, .int .i64 x, .slice b m d] w fun e w' => e = .returned ev ∧ Below w.heap.size w w' := by
  induction f with
  | zero =>
    intro L i n m x a b c d w ev _ h1 hf hn64 hi hx hm h hc hsz hS hd hss hK hP hev
    obtain rfl : n = 1 := by simp at hf; omega
    exact searchPath_one k E hE K Ee Cc L m x a b c d w ev h (hsz 0 (by omega)) hev
  | succ f ih =>
    intro L i n m x a b c d w ev h31 h1 hf hn64 hi hx hm h hc hsz hS hd hss hK hP hev
    have hcap := cap40 (by omega) hf
    by_cases hn : n = 1
    · subst hn
      rw [dq, if_pos rfl] at hev
      exact searchPath_one k E hE K Ee Cc L m x a b c d w ev h (hsz 0 (by omega)) hev
    · rw [pl, if_neg hn] at hm
      rw [dq, if_neg hn] at hev
      have hs := spl_in n (by omega) hcap
      have hh := spl_half f n (by omega) hcap hf
      obtain ⟨s, hsn⟩ : ∃ s, spl n = s := ⟨_, rfl⟩
      have HSP : Hid (spl n = s) := hsn
      rw [hsn] at hm hev hs hh
      obtain ⟨hs1, hs2, hs3⟩ := hs
      have HF : Hid (s ≤ 2 ^ f) := hh
      have m1 : ¬ (n : Int) = 1 := by omega
      have ms : (s : Int) ≤ n := by omega
      have mc : (s : Int) ≤ c := by omega
      have mn : (n : Int) ≤ c := by omega
      have mcs : ¬ c = s := by omega
      have mns : ¬ n = s := by omega
      subst hx
      obtain ⟨P, off, rfl, hc00⟩ := h.at 0 (by omega)
      obtain ⟨Y, hY⟩ : ∃ Y, one1 (RT k L s) (RT k (fun j => L (s + j)) (n - s)) = Y := ⟨_, rfl⟩
      have HY : Hid (one1 (RT k L s) (RT k (fun j => L (s + j)) (n - s)) = Y) := hY
      rw [hY] at hev
      have hsz4 : ∀ j, j < n → (L j).size ≤ 4194304 := fun j hj => by have := hsz j hj; omega
      clear hf hh hsn hc00 hY
      by_cases hlt : i < s
      · rw [if_pos hlt] at hm hev
        have hle := pl_le f i s
        obtain ⟨q, hq⟩ : ∃ q, pl f i s = q := ⟨_, rfl⟩
        have HQ : Hid (q = pl f i s) := hq.symm
        rw [hq] at hm hle
        obtain rfl : m = q + 1 := by omega
        rw [Nat.add_sub_cancel] at hev
        obtain ⟨u, hu⟩ : ∃ u, cl k E S f i s q = u := ⟨_, rfl⟩
        have HU : Hid (cp k E S f i s q = (u, true)) := by show cp k E S f i s q = (u, true); rw [cp, if_pos hq.symm, hu]
        have hul : u.size ≤ 32 := by rw [← hu]; exact cl_le _ _ _ _ _ _ _
        rw [hu] at hev
        have hzq := hss q (by omega)
        have hA := hS.left q (by omega)
        obtain ⟨X, hX⟩ : ∃ X, (⟨#[1]⟩ : ByteArray) ++ u ++ S q = X := ⟨_, rfl⟩
        have HX : Hid ((⟨#[1]⟩ : ByteArray) ++ u ++ S q = X) := hX
        rw [show one1 u (S q) = X from hX] at hev
        have mlt : (i : Int) < s := by omega
        clear hq hm hu hX
        by_cases e : X = Y
        · rw [if_pos e] at hev
          have HE : Hid (erV (dq k E S f L i s q) = ev) := hev
          have HD : Hid ((if X = Y then Value.nilIface else .iface 87 (.agg #[.string X, .string Y])) = .nilIface) := if_pos e
          clear e hev
          go_enter Tryz.func30, Tryz.ntmps30
          go_wp2_with (first | (go_at_call 57; refine (splitOf_as n _ _ (by rfl) (by omega) (by omega) s HSP.out).mono ?_; rintro e w' ⟨rfl, rfl⟩) | (go_at_call 58; refine (cutLast_any b q d S _ hS hd).mono ?_; rintro e w' ⟨rfl, rfl⟩; have hA1 := hA.drew1; have hK1 := hK.drew1; have hP1 := hP.drew1; have hL1 := Sl.drew1 h) | (go_at_call 55; refine (claimPath_as k E S (by omega) K Ee Cc f i s q _ _ _ _ _ u true (by omega) (by omega) (by have := HF.out; omega) (by omega) (by omega) (by omega) (by omega) hA1 (by omega) (fun j hj => hss j (by omega)) hK1 hP1 HU.out).mono ?_; rintro e w1 ⟨rfl, hb1⟩; have hL2 := hL1.later hb1; have hA2 := hA1.later hb1; have hK2 := keys_later hK1 hb1; have hP2 := hP1.later hb1) | (go_at_call 63; refine (nodeText_any u (S q) X _ (by omega) hzq HX.out).mono ?_; rintro e w' ⟨rfl, rfl⟩) | (go_at_call 64; refine (topText_any k n s L _ c _ (by omega) hn64 HSP.out hL2 hc hsz4 hK2 Y HY.out).mono ?_; rintro e w2 ⟨rfl, hb2⟩; have hL3 := hL2.later hb2; have hA3 := hA2.later hb2; have hK3 := keys_later hK2 hb2; have hP3 := hP2.later hb2) | (go_at_call 61; refine (differ_any X Y _ _ HD.out).mono ?_; rintro e w' ⟨rfl, rfl⟩) | (go_at_call 30; refine (ih L i s q _ _ _ c _ _ ev (by omega) (by omega) HF.out (by omega) hlt (by rfl) HQ.out (hL3.left s (by omega)) (by omega) (fun j hj => hsz j (by omega)) hA3 (by omega) (fun j hj => hss j (by omega)) hK3 hP3 HE.out).mono ?_; rintro e w3 ⟨rfl, hb3⟩))
          go_ret
          exact ⟨rfl, undrew ((hb1.trans (hb2.mono hb1.size)).trans (hb3.mono (Nat.le_trans hb1.size hb2.size)))⟩
        · rw [if_neg e] at hev
          have HE : Hid (.iface 87 (.agg #[.string X, .string Y]) = ev) := hev
          have HD : Hid ((if X = Y then Value.nilIface else .iface 87 (.agg #[.string X, .string Y])) = .iface 87 (.agg #[.string X, .string Y])) := if_neg e
          clear e hev ih
          go_enter Tryz.func30, Tryz.ntmps30
          go_wp2_with (first | (go_at_call 57; refine (splitOf_as n _ _ (by rfl) (by omega) (by omega) s HSP.out).mono ?_; rintro e w' ⟨rfl, rfl⟩) | (go_at_call 58; refine (cutLast_any b q d S _ hS hd).mono ?_; rintro e w' ⟨rfl, rfl⟩; have hA1 := hA.drew1; have hK1 := hK.drew1; have hP1 := hP.drew1; have hL1 := Sl.drew1 h) | (go_at_call 55; refine (claimPath_as k E S (by omega) K Ee Cc f i s q _ _ _ _ _ u true (by omega) (by omega) (by have := HF.out; omega) (by omega) (by omega) (by omega) (by omega) hA1 (by omega) (fun j hj => hss j (by omega)) hK1 hP1 HU.out).mono ?_; rintro e w1 ⟨rfl, hb1⟩; have hL2 := hL1.later hb1; have hA2 := hA1.later hb1; have hK2 := keys_later hK1 hb1; have hP2 := hP1.later hb1) | (go_at_call 63; refine (nodeText_any u (S q) X _ (by omega) hzq HX.out).mono ?_; rintro e w' ⟨rfl, rfl⟩) | (go_at_call 64; refine (topText_any k n s L _ c _ (by omega) hn64 HSP.out hL2 hc hsz4 hK2 Y HY.out).mono ?_; rintro e w2 ⟨rfl, hb2⟩; have hL3 := hL2.later hb2; have hA3 := hA2.later hb2; have hK3 := keys_later hK2 hb2; have hP3 := hP2.later hb2) | (go_at_call 61; refine (differ_any X Y _ _ HD.out).mono ?_; rintro e w' ⟨rfl, rfl⟩))
          go_ret
          exact ⟨congrArg Ending.returned HE.out, undrew (hb1.trans (hb2.mono hb1.size))⟩
      · rw [if_neg hlt] at hm hev
        have hle := pl_le f (i - s) (n - s)
        obtain ⟨q, hq⟩ : ∃ q, pl f (i - s) (n - s) = q := ⟨_, rfl⟩
        have HQ : Hid (q = pl f (i - s) (n - s)) := hq.symm
        rw [hq] at hm hle
        obtain rfl : m = q + 1 := by omega
        rw [Nat.add_sub_cancel] at hev
        obtain ⟨u, hu⟩ : ∃ u, cl k E S f (i - s) (n - s) q = u := ⟨_, rfl⟩
        have HU : Hid (cp k E S f (i - s) (n - s) q = (u, true)) := by show cp k E S f (i - s) (n - s) q = (u, true); rw [cp, if_pos hq.symm, hu]
        have hul : u.size ≤ 32 := by rw [← hu]; exact cl_le _ _ _ _ _ _ _
        rw [hu] at hev
        have hzq := hss q (by omega)
        have hA := hS.left q (by omega)
        obtain ⟨X, hX⟩ : ∃ X, (⟨#[1]⟩ : ByteArray) ++ S q ++ u = X := ⟨_, rfl⟩
        have HX : Hid ((⟨#[1]⟩ : ByteArray) ++ S q ++ u = X) := hX
        rw [show one1 (S q) u = X from hX] at hev
        have mlt : ¬ (i : Int) < s := by omega
        clear hq hm hu hX
        by_cases e : X = Y
        · rw [if_pos e] at hev
          have HE : Hid (erV (dq k E S f (fun j => L (s + j)) (i - s) (n - s) q) = ev) := hev
          have HD : Hid ((if X = Y then Value.nilIface else .iface 87 (.agg #[.string X, .string Y])) = .nilIface) := if_pos e
          clear e hev
          go_enter Tryz.func30, Tryz.ntmps30
          go_wp2_with (first | (go_at_call 57; refine (splitOf_as n _ _ (by rfl) (by omega) (by omega) s HSP.out).mono ?_; rintro e w' ⟨rfl, rfl⟩) | (go_at_call 58; refine (cutLast_any b q d S _ hS hd).mono ?_; rintro e w' ⟨rfl, rfl⟩; have hA1 := hA.drew1; have hK1 := hK.drew1; have hP1 := hP.drew1; have hL1 := Sl.drew1 h) | (go_at_call 55; refine (claimPath_as k E S (by omega) K Ee Cc f (i - s) (n - s) q _ _ _ _ _ u true (by omega) (by omega) (by have := HF.out; omega) (by omega) (by omega) (by omega) (by omega) hA1 (by omega) (fun j hj => hss j (by omega)) hK1 hP1 HU.out).mono ?_; rintro e w1 ⟨rfl, hb1⟩; have hL2 := hL1.later hb1; have hA2 := hA1.later hb1; have hK2 := keys_later hK1 hb1; have hP2 := hP1.later hb1) | (go_at_call 63; refine (nodeText_any (S q) u X _ hzq (by omega) HX.out).mono ?_; rintro e w' ⟨rfl, rfl⟩) | (go_at_call 64; refine (topText_any k n s L _ c _ (by omega) hn64 HSP.out hL2 hc hsz4 hK2 Y HY.out).mono ?_; rintro e w2 ⟨rfl, hb2⟩; have hL3 := hL2.later hb2; have hA3 := hA2.later hb2; have hK3 := keys_later hK2 hb2; have hP3 := hP2.later hb2) | (go_at_call 61; refine (differ_any X Y _ _ HD.out).mono ?_; rintro e w' ⟨rfl, rfl⟩) | (go_at_call 30; refine (ih (fun j => L (s + j)) (i - s) (n - s) q _ _ _ (c - s) _ _ ev (by omega) (by omega) (by have := HF.out; omega) (by omega) (by omega) (by omega) HQ.out (hL3.right s (by omega)) (by omega) (fun j hj => hsz (s + j) (by omega)) hA3 (by omega) (fun j hj => hss j (by omega)) hK3 hP3 HE.out).mono ?_; rintro e w3 ⟨rfl, hb3⟩))
          go_ret
          exact ⟨rfl, undrew ((hb1.trans (hb2.mono hb1.size)).trans (hb3.mono (Nat.le_trans hb1.size hb2.size)))⟩
        · rw [if_neg e] at hev
          have HE : Hid (.iface 87 (.agg #[.string X, .string Y]) = ev) := hev
          have HD : Hid ((if X = Y then Value.nilIface else .iface 87 (.agg #[.string X, .string Y])) = .iface 87 (.agg #[.string X, .string Y])) := if_neg e
          clear e hev ih
          go_enter Tryz.func30, Tryz.ntmps30
          go_wp2_with (first | (go_at_call 57; refine (splitOf_as n _ _ (by rfl) (by omega) (by omega) s HSP.out).mono ?_; rintro e w' ⟨rfl, rfl⟩) | (go_at_call 58; refine (cutLast_any b q d S _ hS hd).mono ?_; rintro e w' ⟨rfl, rfl⟩; have hA1 := hA.drew1; have hK1 := hK.drew1; have hP1 := hP.drew1; have hL1 := Sl.drew1 h) | (go_at_call 55; refine (claimPath_as k E S (by omega) K Ee Cc f (i - s) (n - s) q _ _ _ _ _ u true (by omega) (by omega) (by have := HF.out; omega) (by omega) (by omega) (by omega) (by omega) hA1 (by omega) (fun j hj => hss j (by omega)) hK1 hP1 HU.out).mono ?_; rintro e w1 ⟨rfl, hb1⟩; have hL2 := hL1.later hb1; have hA2 := hA1.later hb1; have hK2 := keys_later hK1 hb1; have hP2 := hP1.later hb1) | (go_at_call 63; refine (nodeText_any (S q) u X _ hzq (by omega) HX.out).mono ?_; rintro e w' ⟨rfl, rfl⟩) | (go_at_call 64; refine (topText_any k n s L _ c _ (by omega) hn64 HSP.out hL2 hc hsz4 hK2 Y HY.out).mono ?_; rintro e w2 ⟨rfl, hb2⟩; have hL3 := hL2.later hb2; have hA3 := hA2.later hb2; have hK3 := keys_later hK2 hb2; have hP3 := hP2.later hb2) | (go_at_call 61; refine (differ_any X Y _ _ HD.out).mono ?_; rintro e w' ⟨rfl, rfl⟩))
          go_ret
          exact ⟨congrArg Ending.returned HE.out, undrew (hb1.trans (hb2.mono hb1.size))⟩
end Go.Proofs.YtlbackkjjhpljaaGreatDoor
