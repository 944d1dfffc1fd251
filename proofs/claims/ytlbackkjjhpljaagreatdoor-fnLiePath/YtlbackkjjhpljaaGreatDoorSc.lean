/-
  CollidePath: the program's answer.
-/
import Derived.Test.YtlbackkjjhpljaaGreatDoorSb
namespace Go.Proofs.YtlbackkjjhpljaaGreatDoor
open Go.RowKit
set_option maxRecDepth 20000 in
set_option maxHeartbeats 4000000 in
theorem implCollidePath_any (k x : Int) (E : ByteArray) (L : Nat → ByteArray) (n m : Nat) (S : Nat → ByteArray) (a b : Option Addr) (c d : Nat) (w : World) (p : Pr) (hE : E.size ≤ 1048576) (h : Sl w a n L) (hc : n ≤ c) (hn : n ≤ 64) (hsz : ∀ j, j < n → (L j).size ≤ 1048576) (hS : Sl w b m S) (hd : m ≤ d) (hm20 : m ≤ 1048576) (hs2 : ∀ j, j < m → (S j).size ≤ 2097152) (hK : KeysAt w) (hErr : ErrAt w) (hp : cpD k x E L n m S = p) :
    Calls Tryz.prog 10 #[.int .i64 k, .slice a n c, .string E, .int .i64 x, .slice b m d] w fun e w' => e = .returned (.agg #[.bool p.f, .string p.x, .string p.y]) ∧ Below w.heap.size w w' := by
  have hb0 := below1 w (.cells #[.bool false, .string (⟨#[]⟩ : ByteArray), .string ⟨#[]⟩] 25)
  have q0 := B3.new w (.bool false) (.string (⟨#[]⟩ : ByteArray)) (.string ⟨#[]⟩) 25
  have hL0 := h.later hb0
  have hS0 := hS.later hb0
  have hK0 := keys_later hK hb0
  have hE0 := hErr.later hb0
  clear h hS hK hErr
  unfold cpD at hp
  by_cases hr : 0 ≤ x ∧ x < n ∧ digB k m S = true
  · obtain ⟨hx0, hxn, hdg⟩ := hr
    have HD : Hid (digB k m S = true) := hdg
    obtain ⟨hk, hw⟩ := digB_out hdg
    have d1 : decide (x < 0) = false := by simpa using hx0
    have d2 : decide ((n : Int) ≤ x) = false := by simpa using hxn
    by_cases e : m = pl 31 x.toNat n
    · rw [if_pos ⟨hk, hw, by omega, by omega, hx0, by omega, by rw [Int.toNat_natCast]; exact e⟩, dn_dq] at hp
      obtain ⟨u, hu⟩ : ∃ u, cl k E S 31 x.toNat n m = u := ⟨_, rfl⟩
      have HU : Hid (cp k E S 31 x.toNat n m = (u, true)) := by show cp k E S 31 x.toNat n m = (u, true); rw [cp, if_pos e, hu]
      have HM : Hid (m = pl 31 x.toNat n) := e
      have hzz := dq_size k E S hE 31 L x.toNat n m (by omega) (by omega) (by omega) (by omega) e hsz hs2
      clear hu hdg hw
      cases hq : dq k E S 31 L x.toNat n m with
      | none =>
        rw [hq] at hp
        have HV : Hid (erV (dq k E S 31 L x.toNat n m) = .nilIface) := by show _ = _; rw [hq]; rfl
        subst hp
        clear hq e hzz
        go_enter Tryz.func10, Tryz.ntmps10
        go_wp2_with (first | (go_at_call 27; refine (areDig_any k b m d S _ hS0 true HD.out).mono ?_; rintro e w0 ⟨rfl, hw0⟩; subst hw0) | (go_at_call 28; refine (claimOfPath_any k E _).mono ?_; rintro e w1 ⟨rfl, hP1, hb1⟩; simp only [World.size_alloc] at hP1; have hL1 := hL0.later hb1; have hS1 := hS0.later hb1; have hK1 := keys_later hK0 hb1; have q1 := q0.later hb1; have hE1 := hE0.later hb1) | (go_at_call 55; refine (claimPath_as k E S (by omega) _ _ _ 31 x.toNat n m _ _ _ _ _ u true (by omega) (by omega) (by omega) (by omega) (by omega) (by omega) hm20 hS1 hd hs2 hK1 hP1 HU.out).mono ?_; rintro e w2 ⟨rfl, hb2⟩; have hL2 := hL1.later hb2; have hS2 := hS1.later hb2; have hK2 := keys_later hK1 hb2; have hP2 := hP1.later hb2; have q2 := q1.later hb2; have hE2 := hE1.later hb2) | (go_at_call 30; refine (searchPath_as k E S hE _ _ _ 31 L x.toNat n m _ _ _ _ _ _ _ (by omega) (by omega) (by omega) hn (by omega) (by omega) HM.out hL2 hc hsz hS2 hd hs2 hK2 hP2 HV.out).mono ?_; rintro e w3 ⟨rfl, hb3⟩; have hK3 := keys_later hK2 hb3; have q3 := q2.later hb3; have hE3 := hE2.later hb3) | (go_at_call 29; refine (collision_nil k _).mono ?_; rintro e w4 ⟨rfl, hb4⟩; have q4 := q3.later hb4; obtain ⟨c0, c1, c2, f0, f1, f2⟩ := id q4))
        obtain ⟨r0, r1, r2⟩ := triple_set w4 _ _ _ _ (.bool false) (.string ⟨#[]⟩) (.string ⟨#[]⟩) q4
        exact bodyPost_ret (v := .agg #[.bool false, .string ⟨#[]⟩, .string ⟨#[]⟩]) (by simp [results, Tryz.results10, go_sem, r0, r1, r2]) rfl ⟨rfl, below3s ((((hb0.trans (hb1.mono hb0.size)).trans (hb2.mono (Nat.le_trans hb0.size hb1.size))).trans (hb3.mono (Nat.le_trans hb0.size (Nat.le_trans hb1.size hb2.size)))).trans (hb4.mono (Nat.le_trans hb0.size (Nat.le_trans hb1.size (Nat.le_trans hb2.size hb3.size))))) (Nat.le_refl _) _ _ _⟩
      | some v =>
        obtain ⟨X, Y⟩ := v
        rw [hq] at hp
        obtain ⟨hX, hY⟩ := hzz X Y hq
        have HP : Hid (cand k X Y = p) := hp
        have HV : Hid (erV (dq k E S 31 L x.toNat n m) = .iface 87 (.agg #[.string X, .string Y])) := by show _ = _; rw [hq]; rfl
        clear hq e hzz hp
        go_enter Tryz.func10, Tryz.ntmps10
        go_wp2_with (first | (go_at_call 27; refine (areDig_any k b m d S _ hS0 true HD.out).mono ?_; rintro e w0 ⟨rfl, hw0⟩; subst hw0) | (go_at_call 28; refine (claimOfPath_any k E _).mono ?_; rintro e w1 ⟨rfl, hP1, hb1⟩; simp only [World.size_alloc] at hP1; have hL1 := hL0.later hb1; have hS1 := hS0.later hb1; have hK1 := keys_later hK0 hb1; have q1 := q0.later hb1; have hE1 := hE0.later hb1) | (go_at_call 55; refine (claimPath_as k E S (by omega) _ _ _ 31 x.toNat n m _ _ _ _ _ u true (by omega) (by omega) (by omega) (by omega) (by omega) (by omega) hm20 hS1 hd hs2 hK1 hP1 HU.out).mono ?_; rintro e w2 ⟨rfl, hb2⟩; have hL2 := hL1.later hb2; have hS2 := hS1.later hb2; have hK2 := keys_later hK1 hb2; have hP2 := hP1.later hb2; have q2 := q1.later hb2; have hE2 := hE1.later hb2) | (go_at_call 30; refine (searchPath_as k E S hE _ _ _ 31 L x.toNat n m _ _ _ _ _ _ _ (by omega) (by omega) (by omega) hn (by omega) (by omega) HM.out hL2 hc hsz hS2 hd hs2 hK2 hP2 HV.out).mono ?_; rintro e w3 ⟨rfl, hb3⟩; have hK3 := keys_later hK2 hb3; have q3 := q2.later hb3; have hE3 := hE2.later hb3) | (go_at_call 29; refine (collision_some k X Y _ hX hY hK3 hE3 p HP.out).mono ?_; rintro e w4 ⟨rfl, hb4⟩; have q4 := q3.later hb4; obtain ⟨c0, c1, c2, f0, f1, f2⟩ := id q4))
        obtain ⟨r0, r1, r2⟩ := triple_set w4 _ _ _ _ (.bool p.f) (.string p.x) (.string p.y) q4
        exact bodyPost_ret (v := .agg #[.bool p.f, .string p.x, .string p.y]) (by simp [results, Tryz.results10, go_sem, r0, r1, r2]) rfl ⟨rfl, below3s ((((hb0.trans (hb1.mono hb0.size)).trans (hb2.mono (Nat.le_trans hb0.size hb1.size))).trans (hb3.mono (Nat.le_trans hb0.size (Nat.le_trans hb1.size hb2.size)))).trans (hb4.mono (Nat.le_trans hb0.size (Nat.le_trans hb1.size (Nat.le_trans hb2.size hb3.size))))) (Nat.le_refl _) _ _ _⟩
    · rw [if_neg fun hf => e (by have := hf.2.2.2.2.2.2; rw [Int.toNat_natCast] at this; exact this)] at hp
      obtain ⟨u, hu⟩ : ∃ u : ByteArray, ⟨#[]⟩ = u := ⟨_, rfl⟩
      have HU : Hid (cp k E S 31 x.toNat n m = (u, false)) := by show cp k E S 31 x.toNat n m = (u, false); rw [cp, if_neg e, hu]
      subst hp
      clear e hu hdg hw
      go_enter Tryz.func10, Tryz.ntmps10
      go_wp2_with (first | (go_at_call 27; refine (areDig_any k b m d S _ hS0 true HD.out).mono ?_; rintro e w0 ⟨rfl, hw0⟩; subst hw0) | (go_at_call 28; refine (claimOfPath_any k E _).mono ?_; rintro e w1 ⟨rfl, hP1, hb1⟩; simp only [World.size_alloc] at hP1; have hL1 := hL0.later hb1; have hS1 := hS0.later hb1; have hK1 := keys_later hK0 hb1; have q1 := q0.later hb1; have hE1 := hE0.later hb1) | (go_at_call 55; refine (claimPath_as k E S (by omega) _ _ _ 31 x.toNat n m _ _ _ _ _ u false (by omega) (by omega) (by omega) (by omega) (by omega) (by omega) hm20 hS1 hd hs2 hK1 hP1 HU.out).mono ?_; rintro e w2 ⟨rfl, hb2⟩; have hL2 := hL1.later hb2; have hS2 := hS1.later hb2; have hK2 := keys_later hK1 hb2; have hP2 := hP1.later hb2; have q2 := q1.later hb2; have hE2 := hE1.later hb2; obtain ⟨c0, c1, c2, f0, f1, f2⟩ := id q2))
      obtain ⟨r0, r1, r2⟩ := triple_set w2 _ _ _ _ (.bool false) (.string ⟨#[]⟩) (.string ⟨#[]⟩) q2
      exact bodyPost_ret (v := .agg #[.bool false, .string ⟨#[]⟩, .string ⟨#[]⟩]) (by simp [results, Tryz.results10, go_sem, r0, r1, r2]) rfl ⟨rfl, below3s ((hb0.trans (hb1.mono hb0.size)).trans (hb2.mono (Nat.le_trans hb0.size hb1.size))) (Nat.le_refl _) _ _ _⟩
  · have hnf : ¬ Fits k x n m S := fun hf => hr ⟨hf.2.2.2.2.1, by have := hf.2.2.2.2.2.1; omega, digB_yes hf.1 hf.2.1⟩
    rw [if_neg hnf] at hp
    subst hp
    clear hnf
    obtain ⟨c0, c1, c2, f0, f1, f2⟩ := id q0
    by_cases h2 : x < 0
    · have d1 : decide (x < 0) = true := by simpa using h2
      go_enter Tryz.func10, Tryz.ntmps10
      go_wp2
      exact bodyPost_ret (v := .agg #[.bool false, .string ⟨#[]⟩, .string ⟨#[]⟩]) (by simp [results, Tryz.results10, go_sem]) rfl ⟨rfl, hb0⟩
    have d1 : decide (x < 0) = false := by simpa using h2
    by_cases h3 : (n : Int) ≤ x
    · have d2 : decide ((n : Int) ≤ x) = true := by simpa using h3
      go_enter Tryz.func10, Tryz.ntmps10
      go_wp2
      exact bodyPost_ret (v := .agg #[.bool false, .string ⟨#[]⟩, .string ⟨#[]⟩]) (by simp [results, Tryz.results10, go_sem]) rfl ⟨rfl, hb0⟩
    have d2 : decide ((n : Int) ≤ x) = false := by simpa using h3
    have hdg : digB k m S = false := by
      cases e : digB k m S with
      | false => rfl
      | true => exact absurd ⟨by omega, by omega, e⟩ hr
    have HD : Hid (digB k m S = false) := hdg
    clear hdg hr
    go_enter Tryz.func10, Tryz.ntmps10
    go_wp2_with ((go_at_call 27; refine (areDig_any k b m d S _ hS0 false HD.out).mono ?_; rintro e w0 ⟨rfl, hw0⟩; subst hw0))
    exact bodyPost_ret (v := .agg #[.bool false, .string ⟨#[]⟩, .string ⟨#[]⟩]) (by simp [results, Tryz.results10, go_sem]) rfl ⟨rfl, hb0⟩
end Go.Proofs.YtlbackkjjhpljaaGreatDoor
