/-
  The law on accepted paths, walked.
-/
import Derived.Test.YtlbackkjjhpljaaGreatDoorCg
import Derived.Test.YtlbackkjjhpljaaGreatDoorSc
import Derived.Test.YtlbackkjjhpljaaGreatDoorIi
namespace Go.Proofs.YtlbackkjjhpljaaGreatDoor
open Go.RowKit
theorem Sl.cell {w : World} {g n : Nat} {S : Nat → ByteArray} (h : Sl w (some ⟨g, 0, none⟩) n S) (i : Nat) (hi : i < n) : w.cell? ⟨g, i, none⟩ = some (.string (S i)) := by
  obtain ⟨b, o, e, hc⟩ := h.at i hi
  cases e
  rw [Nat.zero_add] at hc
  exact hc
theorem liePath_ways (k x : Int) (E R : ByteArray) (S T : Nat → ByteArray) (n m : Nat) (pf : Bool) (px py : ByteArray) (hn1 : 1 ≤ n) (hn : n ≤ 10) (hE : E.size ≤ 1048576) (hzS : ∀ j, j < n → (S j).size ≤ 1048576) (hzT : ∀ j, j < m → (T j).size ≤ 2097152) (hR : RT k S n = R) (hp : cpD k x E S n m T = ⟨pf, px, py⟩) :
    chkB k x n E R m T = false ∨ (chkB k x n E R m T = true ∧ ∃ i : Nat, x = i ∧ i < n ∧ E = S i) ∨ (chkB k x n E R m T = true ∧ ∃ i : Nat, x = i ∧ i < n ∧ ¬ E = S i ∧ pf = true ∧ px ≠ py ∧ dg k px = dg k py ∧ px.size ≤ 8388608 ∧ py.size ≤ 8388608) := by
  cases hb : chkB k x n E R m T with
  | false => exact Or.inl rfl
  | true =>
    obtain ⟨hf, hcl⟩ := oT hb
    have hf' := hf
    obtain ⟨hk, hw, hy1, hy2, hx1, hx2, hm⟩ := hf
    rw [Int.toNat_natCast] at hm hcl
    unfold cpD at hp
    rw [if_pos hf'] at hp
    obtain ⟨i, rfl⟩ : ∃ i : Nat, x = i := ⟨x.toNat, by omega⟩
    rw [Int.toNat_natCast] at hm hcl hp
    have hin : i < n := by omega
    rcases dn_found k hk E T 31 S i n m (by omega) hn1 (by omega) hin hm hw (by rw [hR]; exact hcl) with e | hc
    · exact Or.inr (Or.inl ⟨rfl, i, rfl, hin, e⟩)
    · by_cases e : E = S i
      · exact Or.inr (Or.inl ⟨rfl, i, rfl, hin, e⟩)
      · refine Or.inr (Or.inr ⟨rfl, i, rfl, hin, e, ?_⟩)
        have hz := dq_size k E T hE 31 S i n m hn1 hin (by omega) (by omega) hm hzS hzT
        rw [hp] at hc
        obtain ⟨h1, h2, h3⟩ := hc
        refine ⟨h1, h2, h3, ?_⟩
        rw [dn_dq] at hp
        cases hq : dq k E T 31 S i n m with
        | none =>
          rw [hq] at hp
          cases hp
          cases h1
        | some v =>
          obtain ⟨X, Y⟩ := v
          rw [hq] at hp
          have hp2 : cand k X Y = ⟨pf, px, py⟩ := hp
          unfold cand at hp2
          split at hp2
          · cases hp2
            exact hz _ _ hq
          · cases hp2
            cases h1
set_option maxRecDepth 20000 in
set_option maxHeartbeats 4000000 in
theorem lawLiePath_any (ca : Option Addr) (cn cc : Nat) (w : World) (h : CodeAt w ca cn) (hcn : cn ≤ 9223372036854775807) (hK : KeysAt w) (hErr : ErrAt w) :
    Calls Tryz.prog 5 #[.slice ca cn cc] w fun e w' => e = .returned (.bool true) ∧ Below w.heap.size w w' := by
  by_cases hn : cn ≤ 1048576
  · go_enter Tryz.func5, Tryz.ntmps5
    go_wp2_with (first | (go_at_call 15; refine (drawCollide_any ca cn cc _ h hn).mono ?_; rintro e w1 ⟨k, x, E, L, M, vL, vM, rfl, hE, hL1, hL2, hLs, hM2, hMs, ⟨gL, cL, rfl, hOL⟩, ⟨gM, cM, rfl, hOM⟩, hb1⟩; obtain ⟨hSL1, hcL, hzL⟩ := sl_own hOL (by omega) (fun U hU => Nat.le_trans (hLs U hU) (by omega)); obtain ⟨hSM1, hcM, hzM⟩ := sl_own hOM (by omega) (fun U hU => Nat.le_trans (hMs U hU) (by omega)); obtain ⟨S, hS⟩ : ∃ S, (fun j => L.getD j (⟨#[]⟩ : ByteArray)) = S := ⟨_, rfl⟩; obtain ⟨T, hT⟩ : ∃ T, (fun j => M.getD j (⟨#[]⟩ : ByteArray)) = T := ⟨_, rfl⟩; replace hzL : ∀ j, j < L.length → (S j).size ≤ 1048576 := (by rw [← hS]; exact hzL); replace hzM : ∀ j, j < M.length → (T j).size ≤ 1048576 := (by rw [← hT]; exact hzM); rw [hS] at hSL1; rw [hT] at hSM1; obtain ⟨n, hn'⟩ : ∃ n, L.length = n := ⟨_, rfl⟩; obtain ⟨m, hm'⟩ : ∃ m, M.length = m := ⟨_, rfl⟩; rw [hn'] at hL1 hL2 hSL1 hcL hzL; rw [hm'] at hM2 hSM1 hcM hzM; rw [hn', hm']; clear hS hT hn' hm' hLs hMs hOL hOM; have hK1 := keys_later hK hb1; have hE1 := hErr.later hb1; have hzM2 : ∀ j, j < m → (T j).size ≤ 2097152 := (fun j hj => Nat.le_trans (hzM j hj) (by omega)); have hzL4 : ∀ j, j < n → (S j).size ≤ 4194304 := (fun j hj => Nat.le_trans (hzL j hj) (by omega)); obtain ⟨R, hR⟩ : ∃ R, RT k S n = R := ⟨_, rfl⟩; have HR : Hid (RT k S n = R) := hR; have hRs : R.size ≤ 1048576 := (by rw [← hR]; exact Nat.le_trans (rt_size _ _ _ _) (by omega)); obtain ⟨⟨pf, px, py⟩, hp⟩ : ∃ p, cpD k x E S n m T = p := ⟨_, rfl⟩; have HP : Hid (cpD k x E S n m T = ⟨pf, px, py⟩) := hp; have hw3 := liePath_ways k x E R S T n m pf px py hL1 hL2 (by omega) hzL hzM2 hR hp; clear hR hp; rcases hw3 with HCB | ⟨HCB, i, rfl, hin, rfl⟩ | ⟨HCB, i, rfl, hin, hne, rfl, hpne, hpd, hpx, hpy⟩) | (go_at_call 16; refine (specRoot_as k n S _ cL _ R hSL1 hcL (by omega) hzL4 HR.out).mono ?_; rintro e w2 ⟨rfl, hb2⟩; have hSL2 := hSL1.later hb2; have hSM2 := hSM1.later hb2; have hK2 := keys_later hK1 hb2; have hE2 := hE1.later hb2) | (go_at_call 17; refine (specCheckPath_any k _ _ _ R _ m cM T _ (by omega) hSM2 hcM).mono ?_; rw [HCB]; rintro e w3 ⟨rfl, hb3⟩; have hSL3 := hSL2.later hb3; have hSM3 := hSM2.later hb3; have hK3 := keys_later hK2 hb3; have hE3 := hE2.later hb3) | (go_at_call 18; refine (implCheckPath k _ _ _ R _ m cM T _ hK3 (by omega) hRs hSM3 hcM (by omega) hzM).mono ?_; rw [HCB]; rintro e w4 ⟨rfl, hb4⟩; have hSL4 := hSL3.later hb4; have hSM4 := hSM3.later hb4; have hK4 := keys_later hK3 hb4; have hE4 := hE3.later hb4) | (go_at_call 19; refine (implRoot_any k n S _ cL _ R (by omega) hSL4 hK4 hzL4 HR.out).mono ?_; rintro e w5 ⟨rfl, hb5⟩; have hSL5 := hSL4.later hb5; have hSM5 := hSM4.later hb5; have hK5 := keys_later hK4 hb5; have hE5 := hE4.later hb5) | (go_at_call 10; refine (implCollidePath_any k _ _ S n m T _ _ cL cM _ ⟨_, px, py⟩ (by omega) hSL5 hcL (by omega) hzL hSM5 hcM (by omega) hzM2 hK5 hE5 HP.out).mono ?_; rintro e w6 ⟨rfl, hb6⟩; have hSL6 := hSL5.later hb6; have hSM6 := hSM5.later hb6; have bA : Below w.heap.size w w6 := ((((hb1.trans (hb2.mono hb1.size)).trans (hb3.mono (Nat.le_trans hb1.size hb2.size))).trans (hb4.mono (Nat.le_trans hb1.size (Nat.le_trans hb2.size hb3.size)))).trans (hb5.mono (Nat.le_trans hb1.size (Nat.le_trans hb2.size (Nat.le_trans hb3.size hb4.size))))).trans (hb6.mono (Nat.le_trans hb1.size (Nat.le_trans hb2.size (Nat.le_trans hb3.size (Nat.le_trans hb4.size hb5.size))))); first | (have hc6 := (hSL6.later (below1 w6 (.cells #[.bool true, .string px, .string py] 25))).cell i hin; have t6 : (E.toList == (S i).toList) = false := (by rw [bytes_eq]; exact dF hne)) | (have hc6 := (hSL6.later (below1 w6 (.cells #[.bool pf, .string px, .string py] 25))).cell i hin) | skip) | (go_at_call 20; refine (hColl_yes k px py _ hpx hpy hpne hpd).mono ?_; rintro e w7 ⟨rfl, hb7⟩))
    · have hbq : Below w6.heap.size w6 (World.drew (w6.alloc (.cells #[.bool pf, .string px, .string py] 25))) := bdrew (below1 w6 _) 1
      have q6 : B3 (World.drew (w6.alloc (.cells #[.bool pf, .string px, .string py] 25))) w6.heap.size (.bool pf) (.string px) (.string py) := (B3.new w6 (.bool pf) (.string px) (.string py) 25).later (bdrew (Below.refl _ _) 1)
      refine wp_region_held_drew (S := fun w' => w'.cell? ⟨w6.heap.size, 0, none⟩ = some (.bool pf) ∧ w'.cell? ⟨w6.heap.size, 1, none⟩ = some (.string px) ∧ w'.cell? ⟨w6.heap.size, 2, none⟩ = some (.string py)) (by kernel_rfl) ⟨q6.c0, q6.c1, q6.c2⟩ (fun _ => ?_)
      refine wpAnyH_take (i := 0) (oi := ({ dst := some 58, op := Op.load 25 (Operand.tmp 10), type := 25, pos := "laws.go:408", after := #[], guard := none } : Oper)) (v := .agg #[.bool pf, .string px, .string py]) rfl (by kernel_rfl) (by kernel_rfl) (by kernel_rfl) (fun _ _ _ h => h) (Or.inl ⟨by rfl, fun w hSw => by obtain ⟨hs0, hs1, hs2⟩ := hSw; go_simp⟩) ⟨q6.c0, q6.c1, q6.c2⟩ ?_
      simp only [Act.put, List.setIfInBounds_toArray, List.set_cons_zero, List.set_cons_succ]
      refine wpAnyH_take (i := 1) (oi := ({ dst := some 59, op := Op.move (Operand.tmp 3), type := 3, pos := "laws.go:408", after := #[], guard := none } : Oper)) (v := .int .i64 k) rfl (by kernel_rfl) (by kernel_rfl) (by kernel_rfl) (fun _ _ _ h => h) (Or.inl ⟨by rfl, fun w hSw => by go_simp⟩) ⟨q6.c0, q6.c1, q6.c2⟩ ?_
      simp only [Act.put, List.setIfInBounds_toArray, List.set_cons_zero, List.set_cons_succ]
      refine wpAnyH_take (i := 2) (oi := ({ dst := some 60, op := Op.move (Operand.tmp 4), type := 22, pos := "laws.go:408", after := #[], guard := none } : Oper)) (v := .slice (some ⟨gL, 0, none⟩) n cL) rfl (by kernel_rfl) (by kernel_rfl) (by kernel_rfl) (fun _ _ _ h => h) (Or.inl ⟨by rfl, fun w hSw => by go_simp⟩) ⟨q6.c0, q6.c1, q6.c2⟩ ?_
      simp only [Act.put, List.setIfInBounds_toArray, List.set_cons_zero, List.set_cons_succ]
      refine wpAnyH_take (i := 3) (oi := ({ dst := some 61, op := Op.move (Operand.tmp 5), type := 9, pos := "laws.go:408", after := #[], guard := none } : Oper)) (v := .string E) rfl (by kernel_rfl) (by kernel_rfl) (by kernel_rfl) (fun _ _ _ h => h) (Or.inl ⟨by rfl, fun w hSw => by go_simp⟩) ⟨q6.c0, q6.c1, q6.c2⟩ ?_
      simp only [Act.put, List.setIfInBounds_toArray, List.set_cons_zero, List.set_cons_succ]
      refine wpAnyH_take (i := 4) (oi := ({ dst := some 62, op := Op.move (Operand.tmp 6), type := 3, pos := "laws.go:408", after := #[], guard := none } : Oper)) (v := .int .i64 x) rfl (by kernel_rfl) (by kernel_rfl) (by kernel_rfl) (fun _ _ _ h => h) (Or.inl ⟨by rfl, fun w hSw => by go_simp⟩) ⟨q6.c0, q6.c1, q6.c2⟩ ?_
      simp only [Act.put, List.setIfInBounds_toArray, List.set_cons_zero, List.set_cons_succ]
      refine wpAnyH_take (i := 5) (oi := ({ dst := some 63, op := Op.move (Operand.tmp 7), type := 22, pos := "laws.go:408", after := #[], guard := none } : Oper)) (v := .slice (some ⟨gM, 0, none⟩) m cM) rfl (by kernel_rfl) (by kernel_rfl) (by kernel_rfl) (fun _ _ _ h => h) (Or.inl ⟨by rfl, fun w hSw => by go_simp⟩) ⟨q6.c0, q6.c1, q6.c2⟩ ?_
      simp only [Act.put, List.setIfInBounds_toArray, List.set_cons_zero, List.set_cons_succ]
      refine wpAnyH_ready (rs := [6]) (by kernel_rfl) (by simp) ?_
      refine AllReadyH.cons (o := ({ dst := some 64, op := Op.call { callee := Callee.value (Operand.func 8), args := #[Operand.tmp 59, Operand.tmp 60, Operand.tmp 61, Operand.tmp 62, Operand.tmp 63], argTypes := #[3, 22, 9, 3, 22] }, type := 25, pos := "laws.go:408", after := #[{ on := 1, ground := Ground.data }, { on := 2, ground := Ground.data }, { on := 3, ground := Ground.data }, { on := 4, ground := Ground.data }, { on := 5, ground := Ground.data }], guard := none } : Oper)) rfl (fun K hK => ?_) AllReadyH.nil
      go_simp
      refine (specCollidePath_any k x E S n m T _ _ cL cM _ ⟨pf, px, py⟩ (by omega) (hSL6.later hbq) hcL (by omega) hzL (hSM6.later hbq) hcM HP.out).mono ?_
      rintro e w7 ⟨rfl, hb7⟩
      refine hK.out _ _ ⟨keep hb7 q6.c0, keep hb7 q6.c1, keep hb7 q6.c2⟩ (fun _ => ?_)
      clear hK K
      have q7 := q6.later hb7
      refine wpAnyH_take (i := 7) (oi := ({ dst := some 65, op := Op.binOp BinOp.eql 25 (Operand.tmp 58) (Operand.tmp 64) 25, type := 4, pos := "laws.go:408", after := #[{ on := 0, ground := Ground.data }, { on := 6, ground := Ground.data }], guard := none } : Oper)) (v := .bool true) rfl (by kernel_rfl) (by kernel_rfl) (by kernel_rfl) (fun _ _ _ h => h) (Or.inl ⟨by rfl, fun w hSw => by go_simp⟩) ⟨q7.c0, q7.c1, q7.c2⟩ ?_
      simp only [Act.put, List.setIfInBounds_toArray, List.set_cons_zero, List.set_cons_succ]
      refine wpAnyH_ready (rs := [8]) (by kernel_rfl) (by simp) ?_
      refine AllReadyH.cons (o := ({ dst := some 2, op := Op.assign (Operand.tmp 65), type := 4, pos := "laws.go:408", after := #[{ on := 7, ground := Ground.data }, { on := 6, ground := Ground.chain }, { on := 0, ground := Ground.phase }, { on := 1, ground := Ground.phase }, { on := 2, ground := Ground.phase }, { on := 3, ground := Ground.phase }, { on := 4, ground := Ground.phase }, { on := 5, ground := Ground.phase }, { on := 6, ground := Ground.phase }, { on := 7, ground := Ground.phase }], guard := none } : Oper)) rfl (fun K hK => ?_) AllReadyH.nil
      go_simp
      refine hK.out _ _ ⟨q7.c0, q7.c1, q7.c2⟩ (fun _ => ?_)
      clear hK K
      refine wpAnyH_done (by kernel_rfl) ?_ _
      go_wp2
      go_ret
      exact ⟨rfl, (bA.trans (hbq.mono bA.size)).trans (hb7.mono (Nat.le_trans bA.size hbq.size))⟩
    · go_ret
      exact ⟨rfl, bA.trans ((below1 w6 _).mono bA.size)⟩
    · go_ret
      have hbq := below1 w6 (.cells #[.bool true, .string px, .string py] 25)
      exact ⟨rfl, (bA.trans (hbq.mono bA.size)).trans (hb7.mono (Nat.le_trans bA.size hbq.size))⟩
  · have hn' : (1048576 : Int) < (cn : Int) := by omega
    go_enter Tryz.func5, Tryz.ntmps5
    go_wp2
    go_ret
    exact ⟨rfl, Below.refl _ _⟩
end Go.Proofs.YtlbackkjjhpljaaGreatDoor
