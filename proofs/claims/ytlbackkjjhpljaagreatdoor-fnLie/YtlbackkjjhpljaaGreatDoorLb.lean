/-
  The law on accepted consistency proofs, walked.
-/
import Derived.Test.YtlbackkjjhpljaaGreatDoorDm
import Derived.Test.YtlbackkjjhpljaaGreatDoorCg
import Derived.Test.YtlbackkjjhpljaaGreatDoorSf
namespace Go.Proofs.YtlbackkjjhpljaaGreatDoor
open Go.RowKit
set_option maxRecDepth 20000 in
set_option maxHeartbeats 4000000 in
theorem drawCollideProof_any (ca : Option Addr) (cn cc : Nat) (w : World) (h : CodeAt w ca cn) (hn : cn ≤ 1048576) :
    Calls Tryz.prog 21 #[.slice ca cn cc] w fun e w' => ∃ (k : Int) (A B M : List ByteArray) (vA vB vM : Value), e = .returned (.tuple #[.int .i64 k, vA, vB, vM]) ∧ 1 ≤ A.length ∧ A.length ≤ 11 ∧ (∀ T ∈ A, T.size ≤ 3) ∧ 1 ≤ B.length ∧ B.length ≤ 11 ∧ (∀ T ∈ B, T.size ≤ 3) ∧ M.length ≤ 32 ∧ (∀ T ∈ M, T.size ≤ 32) ∧ LsAt w' w.heap.size vA A ∧ LsAt w' w.heap.size vB B ∧ LsAt w' w.heap.size vM M ∧ Below w.heap.size w w' := by
  have hC := cu_new w ca cn cc h hn
  have hz : (w.alloc (.cells #[.slice ca cn cc, .int .i64 0, .int .i64 0] 64)).heap.size = w.heap.size + 1 := by simp
  have hb := below1 w (.cells #[.slice ca cn cc, .int .i64 0, .int .i64 0] 64)
  go_enter Tryz.func21, Tryz.ntmps21
  go_wp2_with (first | (go_at_call 46; refine (drawProof_any w.heap.size (w.heap.size + 1) ca cn cc 0 0 _ hC (by omega) (by simp)).mono ?_; rintro e w1 ⟨k, A, L, M, vA, vL, vM, z1, s1, rfl, hz1, hC1, hF⟩) | (go_at_call 47; refine (pick_any w.heap.size (w.heap.size + 1) ca cn cc z1 s1 _ hC1 (by omega) _ (by omega)).mono ?_; rintro e w2 ⟨r, z2, s2, rfl, hr0, hr1, hr2, hz2, hC2, hG2⟩; have hF2 := hF.more hG2; obtain rfl | hne : r = 11 ∨ r ≠ 11 := (by omega)))
  all_goals
    refine bodyPost_ret (by simp [results, Tryz.results21, go_sem]; rfl) rfl ?_
    have hg := hF2.gr
    have hb2 := hb.trans (c := w2) ⟨hg.os, hg.tape, hg.output, hg.size, fun j hj => hg.block j (by omega) (fun e => by have := Option.some.inj e; omega)⟩
    first
      | exact ⟨k, A, L, M, vA, vL, vM, rfl, hF2.a1, hF2.a2, hF2.a3, hF2.b1, hF2.b2, hF2.b3, hF2.m2, hF2.m3, hF2.la.mono (by omega), hF2.lb.mono (by omega), hF2.ma.mono (by omega), hb2⟩
      | exact ⟨k, L, A, M, vL, vA, vM, rfl, hF2.b1, hF2.b2, hF2.b3, hF2.a1, hF2.a2, hF2.a3, hF2.m2, hF2.m3, hF2.lb.mono (by omega), hF2.la.mono (by omega), hF2.ma.mono (by omega), hb2⟩
set_option maxRecDepth 20000 in
set_option maxHeartbeats 4000000 in
theorem hStr_any (a b : Option Addr) (n c d : Nat) (A B : Nat → ByteArray) (w : World) (h : Sl w a n A) (h' : Sl w b n B) (r : Bool) (hr : eqB A B n = r) :
    Calls Tryz.prog 24 #[.slice a n c, .slice b n d] w fun e w' => e = .returned (.bool r) ∧ Below w.heap.size w w' := by
  have hn := h.1
  have HE : Hid (eqB A B n = r) := hr
  clear hr
  go_enter Tryz.func24, Tryz.ntmps24
  go_wp2
  go_loopw [13] (fun i wr => ∃ j q : Nat, j ≤ n ∧ i = .int .i64 j ∧ eqB A B j = true ∧ wr = w.drewN q) (fun i _ => n - (intOf i).toNat)
  case atStart => exact ⟨0, 0, by omega, rfl, eqB_zero A B, rfl⟩
  case round =>
    obtain ⟨j, q, hj, rfl, hall, hwr⟩ := hrel
    have HR : Hid (wr = w.drewN q) := hwr
    have HA : Hid (eqB A B j = true) := hall
    clear hall
    by_cases hlt : j < n
    · have hkk : (j : Int) < n := by omega
      obtain ⟨P, off, rfl, hc1⟩ := (h.drew q).at j hlt
      obtain ⟨P', off', rfl, hc2⟩ := (h'.drew q).at j hlt
      rw [← hwr] at hc1 hc2
      clear hwr
      by_cases e : A j = B j
      · have HX : Hid (eqB A B (j + 1) = true) := by show eqB A B (j + 1) = true; rw [eqB_succ, HA.out, dT e]; rfl
        rw [e] at hc1
        clear e
        go_wp2
        go_quiet (fail)
        go_wp2
        go_roundw
        case rel => exact ⟨j + 1, q + nq, by omega, by go_num, HX.out, by rw [HR.out]; simp⟩
        case measure => simp [intOf]; omega
      · have te : ((A j).toList == (B j).toList) = false := by rw [bytes_eq]; exact dF e
        have HX : Hid (r = false) := HE.out.symm.trans (eqB_at hlt e)
        clear e
        go_wp2
        go_quiet (fail)
        go_wp2
        go_ret
        exact ⟨ret_bool HX.out.symm, by rw [HR.out]; exact bdrew (bdrew (Below.refl _ _) q) _⟩
    · clear hwr
      obtain rfl : j = n := by omega
      go_wp2
      go_ret
      exact ⟨ret_bool (HA.out.symm.trans HE.out), by rw [HR.out]; exact bdrew (Below.refl _ _) q⟩
theorem lie_ways (k : Int) (O R : ByteArray) (A B T : Nat → ByteArray) (m n q : Nat) (pf : Bool) (px py : ByteArray) (h1 : 1 ≤ m) (hmn : m ≤ n) (hn : n ≤ 11) (hzA : ∀ j, j < m → (A j).size ≤ 1048576) (hzB : ∀ j, j < n → (B j).size ≤ 1048576) (hzT : ∀ j, j < q → (T j).size ≤ 2097152) (hO : RT k A m = O) (hR : RT k B n = R) (hp : cqD k A B m n q T = ⟨pf, px, py⟩) :
    chqB k m n O R q T = false ∨ (chqB k m n O R q T = true ∧ eqB A B m = true) ∨ (chqB k m n O R q T = true ∧ eqB A B m = false ∧ pf = true ∧ px ≠ py ∧ dg k px = dg k py ∧ px.size ≤ 8388608 ∧ py.size ≤ 8388608) := by
  cases hb : chqB k m n O R q T with
  | false => exact Or.inl rfl
  | true =>
    cases he : eqB A B m with
    | true => exact Or.inr (Or.inl ⟨rfl, rfl⟩)
    | false =>
      refine Or.inr (Or.inr ⟨rfl, rfl, ?_⟩)
      obtain ⟨hf, hOs, hc1, hc2⟩ := oT hb
      have hf' := hf
      obtain ⟨hk, hw, hy1, hy2, hx1, hx2, hq⟩ := hf
      rw [Int.toNat_natCast, Int.toNat_natCast] at hq hc1 hc2
      unfold cqD at hp
      rw [if_pos ⟨h1, hf'⟩, hO] at hp
      have hO2 : O.size ≤ 2097152 := by have := wid_le k; omega
      rcases stp_found k hk O T hOs 31 A B m n q true (by omega) h1 hmn (by omega) hq hw (hc1.trans hO.symm) (hc2.trans hR.symm) with e | hc
      · exact absurd e (eqB_no he)
      · have hz := stq_size k O T hO2 31 A B m n q true (by omega) h1 hmn (by omega) hq hzA hzB hzT
        rw [hp] at hc
        obtain ⟨g1, g2, g3⟩ := hc
        refine ⟨g1, g2, g3, ?_⟩
        rw [stp_stq] at hp
        cases hs : stq k O T 31 A B m n q true with
        | none =>
          rw [hs] at hp
          cases hp
          cases g1
        | some v =>
          obtain ⟨X, Y⟩ := v
          rw [hs] at hp
          have hp2 : cand k X Y = ⟨pf, px, py⟩ := hp
          unfold cand at hp2
          split at hp2
          · cases hp2
            exact hz _ _ hs
          · cases hp2
            cases g1
theorem lie_none (k : Int) (A B T : Nat → ByteArray) (m n q : Nat) (h : n < m) : cqD k A B m n q T = noPr := by
  unfold cqD
  rw [if_neg fun g => ?_]
  have := g.2.2.2.2.2.2.1
  omega
end Go.Proofs.YtlbackkjjhpljaaGreatDoor
namespace Go.Proofs.YtlbackkjjhpljaaGreatDoor
open Go.RowKit
theorem root_full (A : Nat → ByteArray) (m : Nat) : (RT 0 A m).size = 32 := (RT_wid 0 (Or.inl rfl) A m).trans rfl
set_option maxRecDepth 20000 in
set_option maxHeartbeats 4000000 in
theorem lawLie_any (ca : Option Addr) (cn cc : Nat) (w : World) (h : CodeAt w ca cn) (hcn : cn ≤ 9223372036854775807) (hK : KeysAt w) (hErr : ErrAt w) :
    Calls Tryz.prog 6 #[.slice ca cn cc] w fun e w' => e = .returned (.bool true) ∧ Below w.heap.size w w' := by
  by_cases hn : cn ≤ 1048576
  · go_enter Tryz.func6, Tryz.ntmps6
    go_wp2_with (first | (go_at_call 21; refine (drawCollideProof_any ca cn cc _ h hn).mono ?_; rintro e w1 ⟨k, LA, LB, M, vA, vB, vM, rfl, hA1, hA2, hAs, hB1, hB2, hBs, hM2, hMs, ⟨gA, cA, rfl, hOA⟩, ⟨gB, cB, rfl, hOB⟩, ⟨gM, cM, rfl, hOM⟩, hb1⟩; obtain ⟨hSA1, hcA, hzA⟩ := sl_own hOA (by omega) (fun U hU => Nat.le_trans (hAs U hU) (by omega)); obtain ⟨hSB1, hcB, hzB⟩ := sl_own hOB (by omega) (fun U hU => Nat.le_trans (hBs U hU) (by omega)); obtain ⟨hSM1, hcM, hzM⟩ := sl_own hOM (by omega) (fun U hU => Nat.le_trans (hMs U hU) (by omega)); obtain ⟨A, hA⟩ : ∃ S, (fun j => LA.getD j (⟨#[]⟩ : ByteArray)) = S := ⟨_, rfl⟩; obtain ⟨B, hB⟩ : ∃ S, (fun j => LB.getD j (⟨#[]⟩ : ByteArray)) = S := ⟨_, rfl⟩; obtain ⟨T, hT⟩ : ∃ T, (fun j => M.getD j (⟨#[]⟩ : ByteArray)) = T := ⟨_, rfl⟩; replace hzA : ∀ j, j < LA.length → (A j).size ≤ 1048576 := (by rw [← hA]; exact hzA); replace hzB : ∀ j, j < LB.length → (B j).size ≤ 1048576 := (by rw [← hB]; exact hzB); replace hzM : ∀ j, j < M.length → (T j).size ≤ 1048576 := (by rw [← hT]; exact hzM); rw [hA] at hSA1; rw [hB] at hSB1; rw [hT] at hSM1; obtain ⟨m, hm'⟩ : ∃ m, LA.length = m := ⟨_, rfl⟩; obtain ⟨n, hn'⟩ : ∃ n, LB.length = n := ⟨_, rfl⟩; obtain ⟨q, hq'⟩ : ∃ q, M.length = q := ⟨_, rfl⟩; rw [hm'] at hA1 hA2 hSA1 hcA hzA; rw [hn'] at hB1 hB2 hSB1 hcB hzB; rw [hq'] at hM2 hSM1 hcM hzM; rw [hm', hn', hq']; clear hA hB hT hm' hn' hq' hAs hBs hMs hOA hOB hOM; have hK1 := keys_later hK hb1; have hE1 := hErr.later hb1; have hzM2 : ∀ j, j < q → (T j).size ≤ 2097152 := (fun j hj => Nat.le_trans (hzM j hj) (by omega)); have hzA4 : ∀ j, j < m → (A j).size ≤ 4194304 := (fun j hj => Nat.le_trans (hzA j hj) (by omega)); have hzB4 : ∀ j, j < n → (B j).size ≤ 4194304 := (fun j hj => Nat.le_trans (hzB j hj) (by omega)); have e1 : ¬ (m : Int) < 1 := (by omega); rcases Nat.lt_or_ge n m with hgt | hmn; rotate_left; (have e2 : ¬ (n : Int) < m := (by omega); have e3 : (m : Int) ≤ n := (by omega); have e4 : (m : Int) ≤ cB := (by omega); obtain ⟨O, hO⟩ : ∃ R, RT k A m = R := ⟨_, rfl⟩; obtain ⟨R, hR⟩ : ∃ R, RT k B n = R := ⟨_, rfl⟩; have HO : Hid (RT k A m = O) := hO; have HR : Hid (RT k B n = R) := hR; have hOs : O.size ≤ 1048576 := (by rw [← hO]; exact Nat.le_trans (rt_size _ _ _ _) (by omega)); have hRs : R.size ≤ 1048576 := (by rw [← hR]; exact Nat.le_trans (rt_size _ _ _ _) (by omega)); obtain ⟨⟨pf, px, py⟩, hp⟩ : ∃ p, cqD k A B m n q T = p := ⟨_, rfl⟩; have HP : Hid (cqD k A B m n q T = ⟨pf, px, py⟩) := hp; have hw3 := lie_ways k O R A B T m n q pf px py hA1 hmn hB2 hzA hzB hzM2 hO hR hp; clear hO hR hp; rcases hw3 with HCB | ⟨HCB, HEQ⟩ | ⟨HCB, HEQ, rfl, hpne, hpd, hpx, hpy⟩); rotate_right; (have e2 : (n : Int) < m := (by omega); have HP : Hid (cqD k A B m n q T = ⟨false, ⟨#[]⟩, ⟨#[]⟩⟩) := lie_none k A B T m n q hgt; have t0 : ((⟨#[]⟩ : ByteArray).toList.isEmpty) = true := (by rw [ByteArray.toList_eq]; rfl); obtain ⟨Rz, hRz⟩ : ∃ R, RT 0 A m = R := ⟨_, rfl⟩; have HRz : Hid (RT 0 A m = Rz) := hRz; have hRzs : (Rz.size : Int) = 32 := (by rw [← hRz, root_full]; rfl); clear hRz)) | (go_at_call 16; have _h := hb2; refine (specRoot_as k n B _ cB _ R hSB2 hcB (by omega) hzB4 HR.out).mono ?_; rintro e w3 ⟨rfl, hb3⟩; have hSA3 := hSA2.later hb3; have hSB3 := hSB2.later hb3; have hSM3 := hSM2.later hb3; have hK3 := keys_later hK2 hb3; have hE3 := hE2.later hb3) | (go_at_call 16; refine (specRoot_as k m A _ cA _ O hSA1 hcA (by omega) hzA4 HO.out).mono ?_; rintro e w2 ⟨rfl, hb2⟩; have hSA2 := hSA1.later hb2; have hSB2 := hSB1.later hb2; have hSM2 := hSM1.later hb2; have hK2 := keys_later hK1 hb2; have hE2 := hE1.later hb2) | (go_at_call 22; refine (specCheckProof_any k _ _ O R _ q cM T _ (by omega) hSM3 hcM).mono ?_; rw [HCB]; rintro e w4 ⟨rfl, hb4⟩; have hSA4 := hSA3.later hb4; have hSB4 := hSB3.later hb4; have hSM4 := hSM3.later hb4; have hK4 := keys_later hK3 hb4; have hE4 := hE3.later hb4) | (go_at_call 23; refine (implCheckProof k _ _ O R _ q cM T _ hK4 hOs hRs hSM4 hcM (by omega) hzM).mono ?_; rw [HCB]; rintro e w5 ⟨rfl, hb5⟩; have hSA5 := hSA4.later hb5; have hSB5 := hSB4.later hb5; have hSM5 := hSM4.later hb5; have hK5 := keys_later hK4 hb5; have hE5 := hE4.later hb5) | (go_at_call 14; have _h := hgt; refine (implCollideProof_any k A B m n q T _ _ _ cA cB cM _ ⟨false, ⟨#[]⟩, ⟨#[]⟩⟩ hSA1 hcA hzA hSB1 hcB (by omega) hzB hSM1 hcM (by omega) hzM2 hK1 hE1 HP.out).mono ?_; rintro e w2 ⟨rfl, hb2⟩; have hbq := below1 w2 (.cells #[.bool false, .string (⟨#[]⟩ : ByteArray), .string ⟨#[]⟩] 25); have hSA2 := (hSA1.later hb2).later hbq; have hK2 := keys_later (keys_later hK1 hb2) hbq; obtain ⟨c0, c1, c2, _, _, _⟩ := B3.new w2 (.bool false) (.string (⟨#[]⟩ : ByteArray)) (.string ⟨#[]⟩) 25) | (go_at_call 19; have _h := hgt; refine (implRoot_any 0 m A _ cA _ Rz (by omega) hSA2 hK2 hzA4 HRz.out).mono ?_; rintro e w3 ⟨rfl, hb3⟩) | (go_at_call 19; refine (implRoot_any k n B _ cB _ R (by omega) hSB5 hK5 hzB4 HR.out).mono ?_; rintro e w6 ⟨rfl, hb6⟩; have hSA6 := hSA5.later hb6; have hSB6 := hSB5.later hb6; have hSM6 := hSM5.later hb6; have hK6 := keys_later hK5 hb6; have hE6 := hE5.later hb6) | (go_at_call 14; have _h := hb6; refine (implCollideProof_any k A B m n q T _ _ _ cA cB cM _ ⟨_, px, py⟩ hSA6 hcA hzA hSB6 hcB (by omega) hzB hSM6 hcM (by omega) hzM2 hK6 hE6 HP.out).mono ?_; rintro e w7 ⟨rfl, hb7⟩; have hSA7 := hSA6.later hb7; have hSB7 := hSB6.later hb7; have hSM7 := hSM6.later hb7; have bA : Below w.heap.size w w7 := ((((((hb1.trans (hb2.mono (hb1.size))).trans (hb3.mono (Nat.le_trans (hb1.size) hb2.size))).trans (hb4.mono (Nat.le_trans (Nat.le_trans (hb1.size) hb2.size) hb3.size))).trans (hb5.mono (Nat.le_trans (Nat.le_trans (Nat.le_trans (hb1.size) hb2.size) hb3.size) hb4.size))).trans (hb6.mono (Nat.le_trans (Nat.le_trans (Nat.le_trans (Nat.le_trans (hb1.size) hb2.size) hb3.size) hb4.size) hb5.size))).trans (hb7.mono (Nat.le_trans (Nat.le_trans (Nat.le_trans (Nat.le_trans (Nat.le_trans (hb1.size) hb2.size) hb3.size) hb4.size) hb5.size) hb6.size))); first | (have _g := hpne; have hbq := below1 w7 (.cells #[.bool true, .string px, .string py] 25); have q7 := B3.new w7 (.bool true) (.string px) (.string py) 25; have hSA8 := hSA7.later hbq; have hSB8 := (hSB7.later hbq).left m hmn) | (have hbq := below1 w7 (.cells #[.bool pf, .string px, .string py] 25); have q7 := B3.new w7 (.bool pf) (.string px) (.string py) 25; have hSA8 := hSA7.later hbq; have hSB8 := (hSB7.later hbq).left m hmn)) | (go_at_call 24; refine (hStr_any _ _ m cA cB A B _ hSA8 hSB8 _ HEQ).mono ?_; rintro e w8 ⟨rfl, hb8⟩; have q8 := q7.later hb8; obtain ⟨c0, c1, c2, _, _, _⟩ := id q8) | (go_at_call 20; refine (hColl_yes k px py _ hpx hpy hpne hpd).mono ?_; rintro e w9 ⟨rfl, hb9⟩))
    · go_ret
      exact ⟨rfl, ((hb1.trans (hb2.mono hb1.size)).trans (hbq.mono (Nat.le_trans hb1.size hb2.size))).trans (hb3.mono (Nat.le_trans hb1.size (Nat.le_trans hb2.size hbq.size)))⟩
    · have hbd : Below w7.heap.size w7 (World.drew (w7.alloc (.cells #[.bool pf, .string px, .string py] 25))) := bdrew (below1 w7 _) 1
      have p7 : B3 (World.drew (w7.alloc (.cells #[.bool pf, .string px, .string py] 25))) w7.heap.size (.bool pf) (.string px) (.string py) := q7.later (bdrew (Below.refl _ _) 1)
      refine wp_region_held_drew (S := fun w' => w'.cell? ⟨w7.heap.size, 0, none⟩ = some (.bool pf) ∧ w'.cell? ⟨w7.heap.size, 1, none⟩ = some (.string px) ∧ w'.cell? ⟨w7.heap.size, 2, none⟩ = some (.string py)) (by kernel_rfl) ⟨p7.c0, p7.c1, p7.c2⟩ (fun _ => ?_)
      refine wpAnyH_take (i := 0) (oi := ({ dst := some 96, op := Op.load 25 (Operand.tmp 11), type := 25, pos := "laws.go:390", after := #[], guard := none } : Oper)) (v := .agg #[.bool pf, .string px, .string py]) rfl (by kernel_rfl) (by kernel_rfl) (by kernel_rfl) (fun _ _ _ h => h) (Or.inl ⟨by rfl, fun w hSw => by obtain ⟨hs0, hs1, hs2⟩ := hSw; go_simp⟩) ⟨p7.c0, p7.c1, p7.c2⟩ ?_
      simp only [Act.put, List.setIfInBounds_toArray, List.set_cons_zero, List.set_cons_succ]
      refine wpAnyH_take (i := 1) (oi := ({ dst := some 97, op := Op.move (Operand.tmp 3), type := 3, pos := "laws.go:390", after := #[], guard := none } : Oper)) (v := .int .i64 k) rfl (by kernel_rfl) (by kernel_rfl) (by kernel_rfl) (fun _ _ _ h => h) (Or.inl ⟨by rfl, fun w hSw => by go_simp⟩) ⟨p7.c0, p7.c1, p7.c2⟩ ?_
      simp only [Act.put, List.setIfInBounds_toArray, List.set_cons_zero, List.set_cons_succ]
      refine wpAnyH_take (i := 2) (oi := ({ dst := some 98, op := Op.move (Operand.tmp 4), type := 22, pos := "laws.go:390", after := #[], guard := none } : Oper)) (v := .slice (some ⟨gA, 0, none⟩) m cA) rfl (by kernel_rfl) (by kernel_rfl) (by kernel_rfl) (fun _ _ _ h => h) (Or.inl ⟨by rfl, fun w hSw => by go_simp⟩) ⟨p7.c0, p7.c1, p7.c2⟩ ?_
      simp only [Act.put, List.setIfInBounds_toArray, List.set_cons_zero, List.set_cons_succ]
      refine wpAnyH_take (i := 3) (oi := ({ dst := some 99, op := Op.move (Operand.tmp 5), type := 22, pos := "laws.go:390", after := #[], guard := none } : Oper)) (v := .slice (some ⟨gB, 0, none⟩) n cB) rfl (by kernel_rfl) (by kernel_rfl) (by kernel_rfl) (fun _ _ _ h => h) (Or.inl ⟨by rfl, fun w hSw => by go_simp⟩) ⟨p7.c0, p7.c1, p7.c2⟩ ?_
      simp only [Act.put, List.setIfInBounds_toArray, List.set_cons_zero, List.set_cons_succ]
      refine wpAnyH_take (i := 4) (oi := ({ dst := some 100, op := Op.move (Operand.tmp 6), type := 22, pos := "laws.go:390", after := #[], guard := none } : Oper)) (v := .slice (some ⟨gM, 0, none⟩) q cM) rfl (by kernel_rfl) (by kernel_rfl) (by kernel_rfl) (fun _ _ _ h => h) (Or.inl ⟨by rfl, fun w hSw => by go_simp⟩) ⟨p7.c0, p7.c1, p7.c2⟩ ?_
      simp only [Act.put, List.setIfInBounds_toArray, List.set_cons_zero, List.set_cons_succ]
      refine wpAnyH_ready (rs := [5]) (by kernel_rfl) (by simp) ?_
      refine AllReadyH.cons (o := ({ dst := some 101, op := Op.call { callee := Callee.value (Operand.func 13), args := #[Operand.tmp 97, Operand.tmp 98, Operand.tmp 99, Operand.tmp 100], argTypes := #[3, 22, 22, 22] }, type := 25, pos := "laws.go:390", after := #[{ on := 1, ground := Ground.data }, { on := 2, ground := Ground.data }, { on := 3, ground := Ground.data }, { on := 4, ground := Ground.data }], guard := none } : Oper)) rfl (fun K hK => ?_) AllReadyH.nil
      go_simp
      refine (specCollideProof_any k A B m n q T _ _ _ cA cB cM _ ⟨pf, px, py⟩ (hSA7.later hbd) hcA (by omega) hzA (hSB7.later hbd) hcB (by omega) hzB (hSM7.later hbd) hcM HP.out).mono ?_
      rintro e w8 ⟨rfl, hb8⟩
      refine hK.out _ _ ⟨keep hb8 p7.c0, keep hb8 p7.c1, keep hb8 p7.c2⟩ (fun _ => ?_)
      clear hK K
      have p8 := p7.later hb8
      refine wpAnyH_take (i := 6) (oi := ({ dst := some 102, op := Op.binOp BinOp.eql 25 (Operand.tmp 96) (Operand.tmp 101) 25, type := 4, pos := "laws.go:390", after := #[{ on := 0, ground := Ground.data }, { on := 5, ground := Ground.data }], guard := none } : Oper)) (v := .bool true) rfl (by kernel_rfl) (by kernel_rfl) (by kernel_rfl) (fun _ _ _ h => h) (Or.inl ⟨by rfl, fun w hSw => by go_simp⟩) ⟨p8.c0, p8.c1, p8.c2⟩ ?_
      simp only [Act.put, List.setIfInBounds_toArray, List.set_cons_zero, List.set_cons_succ]
      refine wpAnyH_ready (rs := [7]) (by kernel_rfl) (by simp) ?_
      refine AllReadyH.cons (o := ({ dst := some 2, op := Op.assign (Operand.tmp 102), type := 4, pos := "laws.go:390", after := #[{ on := 6, ground := Ground.data }, { on := 5, ground := Ground.chain }, { on := 0, ground := Ground.phase }, { on := 1, ground := Ground.phase }, { on := 2, ground := Ground.phase }, { on := 3, ground := Ground.phase }, { on := 4, ground := Ground.phase }, { on := 5, ground := Ground.phase }, { on := 6, ground := Ground.phase }], guard := none } : Oper)) rfl (fun K hK => ?_) AllReadyH.nil
      go_simp
      refine hK.out _ _ ⟨p8.c0, p8.c1, p8.c2⟩ (fun _ => ?_)
      clear hK K
      refine wpAnyH_done (by kernel_rfl) ?_ _
      go_wp2
      go_ret
      exact ⟨rfl, (bA.trans (hbd.mono bA.size)).trans (hb8.mono (Nat.le_trans bA.size hbd.size))⟩
    · go_ret
      exact ⟨rfl, (bA.trans (hbq.mono bA.size)).trans (hb8.mono (Nat.le_trans bA.size hbq.size))⟩
    · go_ret
      exact ⟨rfl, ((bA.trans (hbq.mono bA.size)).trans (hb8.mono (Nat.le_trans bA.size hbq.size))).trans (hb9.mono (Nat.le_trans bA.size (Nat.le_trans hbq.size hb8.size)))⟩

  · have hn' : (1048576 : Int) < (cn : Int) := by omega
    go_enter Tryz.func6, Tryz.ntmps6
    go_wp2
    go_ret
    exact ⟨rfl, Below.refl _ _⟩
end Go.Proofs.YtlbackkjjhpljaaGreatDoor
