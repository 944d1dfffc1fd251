/-
  CollidePath: the specification's answer; the first pair of texts that differ.
-/
import Derived.Test.YtlbackkjjhpljaaGreatDoorDa
namespace Go.Proofs.YtlbackkjjhpljaaGreatDoor
open Go.RowKit
theorem one1_size (a b : ByteArray) : (one1 a b).size = a.size + b.size + 1 := size2 1 a b
theorem zero1_size (a : ByteArray) : (zero1 a).size = a.size + 1 := size1 0 a
set_option maxRecDepth 20000 in
set_option maxHeartbeats 4000000 in
theorem specDown_one (k : Int) (E : ByteArray) (hE : E.size ≤ 1048576) (L : Nat → ByteArray) (m : Nat) (x : Int) (a b : Option Addr) (c d : Nat) (w : World) (p : Pr) (h : Sl w a 1 L) (hsz : (L 0).size ≤ 1048576) (hp : (if E = L 0 then noPr else cand k (zero1 E) (zero1 (L 0))) = p) :
    Calls Tryz.prog 26 #[.int .i64 k, .slice a 1 c, .string E, .int .i64 x, .slice b m d] w fun e w' => e = .returned (.agg #[.bool p.f, .string p.x, .string p.y]) ∧ Below w.heap.size w w' := by
  have hb0 := below1 w (.cells #[.bool false, .string (⟨#[]⟩ : ByteArray), .string ⟨#[]⟩] 25)
  have q0 := B3.new w (.bool false) (.string (⟨#[]⟩ : ByteArray)) (.string ⟨#[]⟩) 25
  obtain ⟨P, off, rfl, hc0⟩ := (h.later hb0).at 0 (by omega)
  rw [Nat.add_zero] at hc0
  obtain ⟨V, hV⟩ : ∃ V, L 0 = V := ⟨_, rfl⟩
  rw [hV] at hc0 hsz hp
  by_cases e : E = V
  · have t : (E.toList == V.toList) = true := by rw [bytes_eq]; exact dT e
    rw [if_pos e] at hp
    subst hp
    clear e
    obtain ⟨c0, c1, c2, f0, f1, f2⟩ := id q0
    go_enter Tryz.func26, Tryz.ntmps26
    go_wp2
    exact bodyPost_ret (v := .agg #[.bool false, .string ⟨#[]⟩, .string ⟨#[]⟩]) (by simp [results, Tryz.results26, go_sem]) rfl ⟨rfl, hb0⟩
  · have t : (E.toList == V.toList) = false := by rw [bytes_eq]; exact dF e
    rw [if_neg e] at hp
    have HP : Hid (cand k (zero1 E) (zero1 V) = p) := hp
    clear e hp
    obtain ⟨X, hX⟩ : ∃ X, (⟨#[0]⟩ : ByteArray) ++ E = X := ⟨_, rfl⟩
    obtain ⟨Y, hY⟩ : ∃ Y, (⟨#[0]⟩ : ByteArray) ++ V = Y := ⟨_, rfl⟩
    have hXs : X.size ≤ 8388608 := by rw [← hX, size1]; omega
    have hYs : Y.size ≤ 8388608 := by rw [← hY, size1]; omega
    have HC : Hid (cand k X Y = p) := by show cand k X Y = p; rw [← hX, ← hY]; exact HP.out
    go_enter Tryz.func26, Tryz.ntmps26
    go_wp2_with (go_at_call 53; refine (specCand_any k X Y _ hXs hYs p HC.out).mono ?_; rintro e w1 ⟨rfl, hb1⟩; have q1 := q0.later hb1; obtain ⟨c0, c1, c2, f0, f1, f2⟩ := id q1)
    obtain ⟨r0, r1, r2⟩ := triple_set w1 _ _ _ _ (.bool p.f) (.string p.x) (.string p.y) q1
    exact bodyPost_ret (v := .agg #[.bool p.f, .string p.x, .string p.y]) (by simp [results, Tryz.results26, go_sem, r0, r1, r2]) rfl ⟨rfl, below3s (hb0.trans (hb1.mono hb0.size)) (Nat.le_refl _) _ _ _⟩
set_option maxRecDepth 20000 in
set_option maxHeartbeats 4000000 in
theorem specDown_as (k : Int) (E : ByteArray) (S : Nat → ByteArray) (hE : E.size ≤ 1048576) (f : Nat) : ∀ (L : Nat → ByteArray) (i n m : Nat) (x : Int) (a b : Option Addr) (c d : Nat) (w : World) (p : Pr), f ≤ 31 → 1 ≤ n → n ≤ 2 ^ f → n ≤ 1048576 → i < n → x = i → m = pl f i n → Sl w a n L → n ≤ c → (∀ j, j < n → (L j).size ≤ 1048576) → Sl w b m S → m ≤ d → (∀ j, j < m → (S j).size ≤ 2097152) → dn k E S f L i n m = p →
    Calls Tryz.prog 26 #[.int .i64 k, .slice a n c, .string E, .int .i64 x, .slice b m d] w fun e w' => e = .returned (.agg #[.bool p.f, .string p.x, .string p.y]) ∧ Below w.heap.size w w' := by
  induction f with
  | zero =>
    intro L i n m x a b c d w p _ h1 hf hn20 hi hx hm h hc hsz hS hd hss hp
    obtain rfl : n = 1 := by simp at hf; omega
    exact specDown_one k E hE L m x a b c d w p h (hsz 0 (by omega)) hp
  | succ f ih =>
    intro L i n m x a b c d w p h31 h1 hf hn20 hi hx hm h hc hsz hS hd hss hp
    have hcap := cap40 (by omega) hf
    by_cases hn : n = 1
    · subst hn
      rw [dn, if_pos rfl] at hp
      exact specDown_one k E hE L m x a b c d w p h (hsz 0 (by omega)) hp
    · rw [pl, if_neg hn] at hm
      rw [dn, if_neg hn] at hp
      have hs := spl_in n (by omega) hcap
      have hh := spl_half f n (by omega) hcap hf
      obtain ⟨s, hsn⟩ : ∃ s, spl n = s := ⟨_, rfl⟩
      have HSP : Hid (spl n = s) := hsn
      rw [hsn] at hm hp hs hh
      obtain ⟨hs1, hs2, hs3⟩ := hs
      have HF : Hid (s ≤ 2 ^ f) := hh
      have m1 : ¬ (n : Int) = 1 := by omega
      have ms : (s : Int) ≤ n := by omega
      have mc : (s : Int) ≤ c := by omega
      have mn : (n : Int) ≤ c := by omega
      have mcs : ¬ c = s := by omega
      have mns : ¬ n = s := by omega
      subst hx
      have hb0 := below1 w (.cells #[.bool false, .string (⟨#[]⟩ : ByteArray), .string ⟨#[]⟩] 25)
      have q0 := B3.new w (.bool false) (.string (⟨#[]⟩ : ByteArray)) (.string ⟨#[]⟩) 25
      have hL0 := h.later hb0
      have hS0 := hS.later hb0
      obtain ⟨P, off, rfl, hc00⟩ := hL0.at 0 (by omega)
      obtain ⟨Y, hY⟩ : ∃ Y, one1 (RT k L s) (RT k (fun j => L (s + j)) (n - s)) = Y := ⟨_, rfl⟩
      have HY : Hid (one1 (RT k L s) (RT k (fun j => L (s + j)) (n - s)) = Y) := hY
      have hYs : Y.size ≤ 8388608 := by
        rw [← hY, one1_size]
        have h1 := rt_size k s L s
        have h2 := rt_size k (n - s) (fun j => L (s + j)) (n - s)
        unfold RT
        omega
      rw [hY] at hp
      have hsz4 : ∀ j, j < n → (L j).size ≤ 4194304 := fun j hj => by have := hsz j hj; omega
      clear hf hh hsn hc00 h hS hY
      by_cases hlt : i < s
      · rw [if_pos hlt] at hm hp
        have hle := pl_le f i s
        obtain ⟨q, hq⟩ : ∃ q, pl f i s = q := ⟨_, rfl⟩
        have HQ : Hid (q = pl f i s) := hq.symm
        rw [hq] at hm hle
        obtain rfl : m = q + 1 := by omega
        rw [Nat.add_sub_cancel] at hp
        obtain ⟨u, hu⟩ : ∃ u, cl k E S f i s q = u := ⟨_, rfl⟩
        have HU : Hid (cl k E S f i s q = u) := hu
        have hul : u.size ≤ 32 := by rw [← hu]; exact cl_le _ _ _ _ _ _ _
        rw [hu] at hp
        have hzq := hss q (by omega)
        obtain ⟨pb, po, rfl, hcb⟩ := hS0.at q (by omega)
        have hA := hS0.left q (by omega)
        obtain ⟨X, hX⟩ : ∃ X, (⟨#[1]⟩ : ByteArray) ++ u ++ S q = X := ⟨_, rfl⟩
        have hXs : X.size ≤ 8388608 := by rw [← hX, size2]; omega
        rw [show one1 u (S q) = X from hX] at hp
        have mlt : (i : Int) < s := by omega
        clear hq hm hu
        by_cases e : X = Y
        · have t : (X.toList == Y.toList) = true := by rw [bytes_eq]; exact dT e
          rw [if_pos e] at hp
          have HP : Hid (dn k E S f L i s q = p) := hp
          clear e hp
          go_enter Tryz.func26, Tryz.ntmps26
          go_wp2_with (first | (go_at_call 38; refine (l2Split_as n _ _ (by rfl) hcap s HSP.out).mono ?_; rintro e w' ⟨rfl, rfl⟩) | (go_at_call 40; refine (specClaim_as k E S (by omega) f i s q _ _ _ _ _ u (by omega) (by omega) (by have := HF.out; omega) (by omega) (by omega) (by omega) HQ.out hA (by omega) (fun j hj => hss j (by omega)) HU.out).mono ?_; rintro e w1 ⟨rfl, hb1⟩; have q1 := q0.later hb1; have hL1 := hL0.later hb1; have hS1 := hA.later hb1) | (go_at_call 54; refine (specInside_any k n s L _ c _ _ (by rfl) hs2 hL1 hc hn20 hsz4 Y HY.out).mono ?_; rintro e w2 ⟨rfl, hb2⟩; have q2 := q1.later hb2; have hL2 := hL1.later hb2; have hS2 := hS1.later hb2) | (go_at_call 26; refine (ih L i s q _ _ _ c _ _ p (by omega) (by omega) HF.out (by omega) hlt (by rfl) HQ.out (hL2.left s (by omega)) (by omega) (fun j hj => hsz j (by omega)) hS2 (by omega) (fun j hj => hss j (by omega)) HP.out).mono ?_; rintro e w3 ⟨rfl, hb3⟩; have q3 := q2.later hb3; obtain ⟨c0, c1, c2, f0, f1, f2⟩ := id q3))
          obtain ⟨r0, r1, r2⟩ := triple_set w3 _ _ _ _ (.bool p.f) (.string p.x) (.string p.y) q3
          exact bodyPost_ret (v := .agg #[.bool p.f, .string p.x, .string p.y]) (by simp [results, Tryz.results26, go_sem, r0, r1, r2]) rfl ⟨rfl, below3s (((hb0.trans (hb1.mono hb0.size)).trans (hb2.mono (Nat.le_trans hb0.size hb1.size))).trans (hb3.mono (Nat.le_trans hb0.size (Nat.le_trans hb1.size hb2.size)))) (Nat.le_refl _) _ _ _⟩
        · have t : (X.toList == Y.toList) = false := by rw [bytes_eq]; exact dF e
          rw [if_neg e] at hp
          have HP : Hid (cand k X Y = p) := hp
          clear e hp
          go_enter Tryz.func26, Tryz.ntmps26
          go_wp2_with (first | (go_at_call 38; refine (l2Split_as n _ _ (by rfl) hcap s HSP.out).mono ?_; rintro e w' ⟨rfl, rfl⟩) | (go_at_call 40; refine (specClaim_as k E S (by omega) f i s q _ _ _ _ _ u (by omega) (by omega) (by have := HF.out; omega) (by omega) (by omega) (by omega) HQ.out hA (by omega) (fun j hj => hss j (by omega)) HU.out).mono ?_; rintro e w1 ⟨rfl, hb1⟩; have q1 := q0.later hb1; have hL1 := hL0.later hb1; have hS1 := hA.later hb1) | (go_at_call 54; refine (specInside_any k n s L _ c _ _ (by rfl) hs2 hL1 hc hn20 hsz4 Y HY.out).mono ?_; rintro e w2 ⟨rfl, hb2⟩; have q2 := q1.later hb2; have hL2 := hL1.later hb2; have hS2 := hS1.later hb2) | (go_at_call 53; refine (specCand_any k X Y _ hXs hYs p HP.out).mono ?_; rintro e w3 ⟨rfl, hb3⟩; have q3 := q2.later hb3; obtain ⟨c0, c1, c2, f0, f1, f2⟩ := id q3))
          obtain ⟨r0, r1, r2⟩ := triple_set w3 _ _ _ _ (.bool p.f) (.string p.x) (.string p.y) q3
          exact bodyPost_ret (v := .agg #[.bool p.f, .string p.x, .string p.y]) (by simp [results, Tryz.results26, go_sem, r0, r1, r2]) rfl ⟨rfl, below3s (((hb0.trans (hb1.mono hb0.size)).trans (hb2.mono (Nat.le_trans hb0.size hb1.size))).trans (hb3.mono (Nat.le_trans hb0.size (Nat.le_trans hb1.size hb2.size)))) (Nat.le_refl _) _ _ _⟩
      · rw [if_neg hlt] at hm hp
        have hle := pl_le f (i - s) (n - s)
        obtain ⟨q, hq⟩ : ∃ q, pl f (i - s) (n - s) = q := ⟨_, rfl⟩
        have HQ : Hid (q = pl f (i - s) (n - s)) := hq.symm
        rw [hq] at hm hle
        obtain rfl : m = q + 1 := by omega
        rw [Nat.add_sub_cancel] at hp
        obtain ⟨u, hu⟩ : ∃ u, cl k E S f (i - s) (n - s) q = u := ⟨_, rfl⟩
        have HU : Hid (cl k E S f (i - s) (n - s) q = u) := hu
        have hul : u.size ≤ 32 := by rw [← hu]; exact cl_le _ _ _ _ _ _ _
        rw [hu] at hp
        have hzq := hss q (by omega)
        obtain ⟨pb, po, rfl, hcb⟩ := hS0.at q (by omega)
        have hA := hS0.left q (by omega)
        obtain ⟨X, hX⟩ : ∃ X, (⟨#[1]⟩ : ByteArray) ++ S q ++ u = X := ⟨_, rfl⟩
        have hXs : X.size ≤ 8388608 := by rw [← hX, size2]; omega
        rw [show one1 (S q) u = X from hX] at hp
        have mlt : ¬ (i : Int) < s := by omega
        clear hq hm hu
        by_cases e : X = Y
        · have t : (X.toList == Y.toList) = true := by rw [bytes_eq]; exact dT e
          rw [if_pos e] at hp
          have HP : Hid (dn k E S f (fun j => L (s + j)) (i - s) (n - s) q = p) := hp
          clear e hp
          go_enter Tryz.func26, Tryz.ntmps26
          go_wp2_with (first | (go_at_call 38; refine (l2Split_as n _ _ (by rfl) hcap s HSP.out).mono ?_; rintro e w' ⟨rfl, rfl⟩) | (go_at_call 40; refine (specClaim_as k E S (by omega) f (i - s) (n - s) q _ _ _ _ _ u (by omega) (by omega) (by have := HF.out; omega) (by omega) (by omega) (by omega) HQ.out hA (by omega) (fun j hj => hss j (by omega)) HU.out).mono ?_; rintro e w1 ⟨rfl, hb1⟩; have q1 := q0.later hb1; have hL1 := hL0.later hb1; have hS1 := hA.later hb1) | (go_at_call 54; refine (specInside_any k n s L _ c _ _ (by rfl) hs2 hL1 hc hn20 hsz4 Y HY.out).mono ?_; rintro e w2 ⟨rfl, hb2⟩; have q2 := q1.later hb2; have hL2 := hL1.later hb2; have hS2 := hS1.later hb2) | (go_at_call 26; refine (ih (fun j => L (s + j)) (i - s) (n - s) q _ _ _ (c - s) _ _ p (by omega) (by omega) (by have := HF.out; omega) (by omega) (by omega) (by omega) HQ.out (hL2.right s (by omega)) (by omega) (fun j hj => hsz (s + j) (by omega)) hS2 (by omega) (fun j hj => hss j (by omega)) HP.out).mono ?_; rintro e w3 ⟨rfl, hb3⟩; have q3 := q2.later hb3; obtain ⟨c0, c1, c2, f0, f1, f2⟩ := id q3))
          obtain ⟨r0, r1, r2⟩ := triple_set w3 _ _ _ _ (.bool p.f) (.string p.x) (.string p.y) q3
          exact bodyPost_ret (v := .agg #[.bool p.f, .string p.x, .string p.y]) (by simp [results, Tryz.results26, go_sem, r0, r1, r2]) rfl ⟨rfl, below3s (((hb0.trans (hb1.mono hb0.size)).trans (hb2.mono (Nat.le_trans hb0.size hb1.size))).trans (hb3.mono (Nat.le_trans hb0.size (Nat.le_trans hb1.size hb2.size)))) (Nat.le_refl _) _ _ _⟩
        · have t : (X.toList == Y.toList) = false := by rw [bytes_eq]; exact dF e
          rw [if_neg e] at hp
          have HP : Hid (cand k X Y = p) := hp
          clear e hp
          go_enter Tryz.func26, Tryz.ntmps26
          go_wp2_with (first | (go_at_call 38; refine (l2Split_as n _ _ (by rfl) hcap s HSP.out).mono ?_; rintro e w' ⟨rfl, rfl⟩) | (go_at_call 40; refine (specClaim_as k E S (by omega) f (i - s) (n - s) q _ _ _ _ _ u (by omega) (by omega) (by have := HF.out; omega) (by omega) (by omega) (by omega) HQ.out hA (by omega) (fun j hj => hss j (by omega)) HU.out).mono ?_; rintro e w1 ⟨rfl, hb1⟩; have q1 := q0.later hb1; have hL1 := hL0.later hb1; have hS1 := hA.later hb1) | (go_at_call 54; refine (specInside_any k n s L _ c _ _ (by rfl) hs2 hL1 hc hn20 hsz4 Y HY.out).mono ?_; rintro e w2 ⟨rfl, hb2⟩; have q2 := q1.later hb2; have hL2 := hL1.later hb2; have hS2 := hS1.later hb2) | (go_at_call 53; refine (specCand_any k X Y _ hXs hYs p HP.out).mono ?_; rintro e w3 ⟨rfl, hb3⟩; have q3 := q2.later hb3; obtain ⟨c0, c1, c2, f0, f1, f2⟩ := id q3))
          obtain ⟨r0, r1, r2⟩ := triple_set w3 _ _ _ _ (.bool p.f) (.string p.x) (.string p.y) q3
          exact bodyPost_ret (v := .agg #[.bool p.f, .string p.x, .string p.y]) (by simp [results, Tryz.results26, go_sem, r0, r1, r2]) rfl ⟨rfl, below3s (((hb0.trans (hb1.mono hb0.size)).trans (hb2.mono (Nat.le_trans hb0.size hb1.size))).trans (hb3.mono (Nat.le_trans hb0.size (Nat.le_trans hb1.size hb2.size)))) (Nat.le_refl _) _ _ _⟩
end Go.Proofs.YtlbackkjjhpljaaGreatDoor
namespace Go.Proofs.YtlbackkjjhpljaaGreatDoor
open Go.RowKit
/-- What CollidePath answers. -/
def cpD (k x : Int) (E : ByteArray) (L : Nat → ByteArray) (n m : Nat) (S : Nat → ByteArray) : Pr := haveI := Fits.dec k x n m S; if Fits k x n m S then dn k E S 31 L x.toNat n m else noPr
theorem wid_le (k : Int) : wid k ≤ 32 := by unfold wid; split <;> omega
set_option maxRecDepth 20000 in
set_option maxHeartbeats 4000000 in
theorem specCollidePath_any (k x : Int) (E : ByteArray) (L : Nat → ByteArray) (n m : Nat) (S : Nat → ByteArray) (a b : Option Addr) (c d : Nat) (w : World) (p : Pr) (hE : E.size ≤ 1048576) (h : Sl w a n L) (hc : n ≤ c) (hn : n ≤ 1048576) (hsz : ∀ j, j < n → (L j).size ≤ 1048576) (hS : Sl w b m S) (hd : m ≤ d) (hp : cpD k x E L n m S = p) :
    Calls Tryz.prog 8 #[.int .i64 k, .slice a n c, .string E, .int .i64 x, .slice b m d] w fun e w' => e = .returned (.agg #[.bool p.f, .string p.x, .string p.y]) ∧ Below w.heap.size w w' := by
  have hb0 := below1 w (.cells #[.bool false, .string (⟨#[]⟩ : ByteArray), .string ⟨#[]⟩] 25)
  have q0 := B3.new w (.bool false) (.string (⟨#[]⟩ : ByteArray)) (.string ⟨#[]⟩) 25
  have h0 := h.later hb0
  have hS0 := hS.later hb0
  unfold cpD at hp
  by_cases hf : Fits k x n m S
  · rw [if_pos hf] at hp
    have HP : Hid (dn k E S 31 L x.toNat n m = p) := hp
    have HF : Hid (Fits k x n m S) := hf
    obtain ⟨hk, hw, hy1, hy2, hx1, hx2, hm⟩ := hf
    have hss : ∀ j, j < m → (S j).size ≤ 2097152 := fun j hj => by have := hw j hj; have := wid_le k; omega
    have HM : Hid (m = pl 31 x.toNat n) := by have := hm; rw [Int.toNat_natCast] at this; exact this
    clear hp hw hm
    go_enter Tryz.func8, Tryz.ntmps8
    go_wp2_with (first | (go_at_call 25; refine (fits_yes k x _ _ _ _ S _ hS0 HF.out).mono ?_; rintro e w0 ⟨rfl, rfl⟩) | (go_at_call 26; refine (specDown_as k E S hE 31 L x.toNat n m _ _ _ _ _ _ p (by omega) (by omega) (by omega) hn (by omega) (by omega) HM.out h0 hc hsz hS0 hd hss HP.out).mono ?_; rintro e w1 ⟨rfl, hb1⟩; have q1 := q0.later hb1; obtain ⟨c0, c1, c2, f0, f1, f2⟩ := id q1))
    obtain ⟨r0, r1, r2⟩ := triple_set w1 _ _ _ _ (.bool p.f) (.string p.x) (.string p.y) q1
    exact bodyPost_ret (v := .agg #[.bool p.f, .string p.x, .string p.y]) (by simp [results, Tryz.results8, go_sem, r0, r1, r2]) rfl ⟨rfl, below3s (hb0.trans (hb1.mono hb0.size)) (Nat.le_refl _) _ _ _⟩
  · rw [if_neg hf] at hp
    subst hp
    obtain ⟨c0, c1, c2, f0, f1, f2⟩ := id q0
    go_enter Tryz.func8, Tryz.ntmps8
    go_wp2_with (go_at_call 25; refine (fits_no k x _ _ _ _ S _ hS0 hf).mono ?_; rintro e w0 ⟨rfl, hw0⟩; subst hw0)
    exact bodyPost_ret (v := .agg #[.bool false, .string ⟨#[]⟩, .string ⟨#[]⟩]) (by simp [results, Tryz.results8, go_sem]) rfl ⟨rfl, hb0⟩
/-- The first two texts that differ, from the top down. -/
def dq (k : Int) (E : ByteArray) (S : Nat → ByteArray) : Nat → (Nat → ByteArray) → Nat → Nat → Nat → Option (ByteArray × ByteArray)
  | 0, L, _, _, _ => if E = L 0 then none else some (zero1 E, zero1 (L 0))
  | f + 1, L, i, n, m =>
    if n = 1 then (if E = L 0 then none else some (zero1 E, zero1 (L 0)))
    else if i < spl n then
      (if one1 (cl k E S f i (spl n) (m - 1)) (S (m - 1)) = one1 (RT k L (spl n)) (RT k (fun j => L (spl n + j)) (n - spl n)) then dq k E S f L i (spl n) (m - 1)
      else some (one1 (cl k E S f i (spl n) (m - 1)) (S (m - 1)), one1 (RT k L (spl n)) (RT k (fun j => L (spl n + j)) (n - spl n))))
    else
      (if one1 (S (m - 1)) (cl k E S f (i - spl n) (n - spl n) (m - 1)) = one1 (RT k L (spl n)) (RT k (fun j => L (spl n + j)) (n - spl n)) then dq k E S f (fun j => L (spl n + j)) (i - spl n) (n - spl n) (m - 1)
      else some (one1 (S (m - 1)) (cl k E S f (i - spl n) (n - spl n) (m - 1)), one1 (RT k L (spl n)) (RT k (fun j => L (spl n + j)) (n - spl n))))
def ofq (k : Int) : Option (ByteArray × ByteArray) → Pr
  | none => noPr
  | some (x, y) => cand k x y
theorem dn_dq (k : Int) (E : ByteArray) (S : Nat → ByteArray) (f : Nat) : ∀ (L : Nat → ByteArray) (i n m : Nat), dn k E S f L i n m = ofq k (dq k E S f L i n m) := by
  induction f with
  | zero =>
    intro L i n m
    rw [dn, dq]
    split <;> rfl
  | succ f ih =>
    intro L i n m
    rw [dn, dq]
    split
    · split <;> rfl
    · split
      · split
        · exact ih _ _ _ _
        · rfl
      · split
        · exact ih _ _ _ _
        · rfl
theorem dq_size (k : Int) (E : ByteArray) (S : Nat → ByteArray) (hE : E.size ≤ 1048576) (f : Nat) : ∀ (L : Nat → ByteArray) (i n m : Nat), 1 ≤ n → i < n → n ≤ 2 ^ f → f ≤ 40 → m = pl f i n → (∀ j, j < n → (L j).size ≤ 1048576) → (∀ j, j < m → (S j).size ≤ 2097152) → ∀ x y, dq k E S f L i n m = some (x, y) → x.size ≤ 8388608 ∧ y.size ≤ 8388608 := by
  have leaf : ∀ (L : Nat → ByteArray), (L 0).size ≤ 1048576 → ∀ x y, (if E = L 0 then none else some (zero1 E, zero1 (L 0))) = some (x, y) → x.size ≤ 8388608 ∧ y.size ≤ 8388608 := by
    intro L hL x y h
    split at h
    · cases h
    · obtain ⟨rfl, rfl⟩ : zero1 E = x ∧ zero1 (L 0) = y := by simpa using h
      rw [zero1_size, zero1_size]
      omega
  induction f with
  | zero =>
    intro L i n m h1 hi hn _ hm hL hS x y h
    exact leaf L (hL 0 (by omega)) x y h
  | succ f ih =>
    intro L i n m h1 hi hf h40 hm hL hS x y h
    have hcap := cap40 h40 hf
    rw [dq] at h
    split at h
    · exact leaf L (hL 0 (by omega)) x y h
    · rename_i hn
      have hs := spl_in n (by omega) hcap
      have hh := spl_half f n (by omega) hcap hf
      rw [pl, if_neg hn] at hm
      have e1 := rt_size k (spl n) L (spl n)
      have e2 := rt_size k (n - spl n) (fun j => L (spl n + j)) (n - spl n)
      split at h
      · rename_i hlt
        rw [if_pos hlt] at hm
        split at h
        · exact ih L i (spl n) (m - 1) (by omega) hlt hh (by omega) (by omega) (fun j hj => hL j (by omega)) (fun j hj => hS j (by omega)) x y h
        · obtain ⟨rfl, rfl⟩ := Prod.mk.inj (Option.some.inj h)
          have := hS (m - 1) (by omega)
          have := cl_le k E S f i (spl n) (m - 1)
          rw [one1_size, one1_size]
          unfold RT
          omega
      · rename_i hlt
        rw [if_neg hlt] at hm
        split at h
        · exact ih (fun j => L (spl n + j)) (i - spl n) (n - spl n) (m - 1) (by omega) (by omega) (by omega) (by omega) (by omega) (fun j hj => hL (spl n + j) (by omega)) (fun j hj => hS j (by omega)) x y h
        · obtain ⟨rfl, rfl⟩ := Prod.mk.inj (Option.some.inj h)
          have := hS (m - 1) (by omega)
          have := cl_le k E S f (i - spl n) (n - spl n) (m - 1)
          rw [one1_size, one1_size]
          unfold RT
          omega
end Go.Proofs.YtlbackkjjhpljaaGreatDoor
