/-
  A path's claim, and whether it is accepted: the specification's way.
-/
import Derived.Test.YtlbackkjjhpljaaGreatDoorKd
namespace Go.Proofs.YtlbackkjjhpljaaGreatDoor
open Go.RowKit
theorem sp_is (f : Nat) : ∀ n k, ∃ b, b ≤ f ∧ sp f n k = k * 2 ^ b := by
  induction f with
  | zero => intro n k; exact ⟨0, by omega, by simp [sp]⟩
  | succ f ih =>
    intro n k
    rw [sp]
    split
    · obtain ⟨b, hb, e⟩ := ih n (2 * k)
      refine ⟨b + 1, by omega, ?_⟩
      rw [e, Nat.pow_succ, Nat.mul_comm 2 k, Nat.mul_assoc, Nat.mul_comm 2]
    · exact ⟨0, by omega, by simp⟩
theorem spl_half (f n : Nat) (h : 2 ≤ n) (h2 : n ≤ 1099511627776) (hf : n ≤ 2 ^ (f + 1)) : spl n ≤ 2 ^ f := by
  obtain ⟨b, -, e⟩ := sp_is 40 n 1
  have hs := spl_in n h h2
  rw [Nat.one_mul] at e
  have e' : spl n = 2 ^ b := e
  rw [e'] at hs ⊢
  have : 2 ^ b < 2 ^ (f + 1) := by omega
  have := (Nat.pow_lt_pow_iff_right (by decide : 1 < 2)).1 this
  exact Nat.pow_le_pow_right (by decide) (by omega)
/-- How many elements a path of i among n has. -/
def pl : Nat → Nat → Nat → Nat
  | 0, _, _ => 0
  | f + 1, i, n => if n = 1 then 0 else if i < spl n then 1 + pl f i (spl n) else 1 + pl f (i - spl n) (n - spl n)
theorem pl_le (f : Nat) : ∀ i n, pl f i n ≤ f := by
  induction f with
  | zero => intro i n; exact Nat.le_refl 0
  | succ f ih =>
    intro i n
    have h1 := ih i (spl n)
    have h2 := ih (i - spl n) (n - spl n)
    rw [pl]
    split
    · omega
    · split <;> omega
theorem cap40 {f n : Nat} (h40 : f ≤ 40) (h : n ≤ 2 ^ f) : n ≤ 1099511627776 := Nat.le_trans h (Nat.pow_le_pow_right (by decide) h40)
set_option maxRecDepth 20000 in
set_option maxHeartbeats 1000000 in
theorem specPathLen_as (f : Nat) : ∀ (i n : Nat) (x y : Int) (p : Nat) (w : World), f ≤ 40 → 1 ≤ n → n ≤ 2 ^ f → i < n → x = i → y = n → pl f i n = p →
    Calls Tryz.prog 52 #[.int .i64 x, .int .i64 y] w fun e w' => e = .returned (.int .i64 (p : Int)) ∧ w' = w := by
  induction f with
  | zero =>
    intro i n x y p w _ h1 hf hi hx hy hp
    obtain rfl : n = 1 := by simp at hf; omega
    subst hx hy hp
    go_enter Tryz.func52, Tryz.ntmps52
    go_wp2
    go_ret
    exact ⟨rfl, rfl⟩
  | succ f ih =>
    intro i n x y p w h40 h1 hf hi hx hy hp
    have hcap := cap40 h40 hf
    by_cases hn : n = 1
    · subst hn
      rw [pl, if_pos rfl] at hp
      subst hx hy hp
      clear hf
      go_enter Tryz.func52, Tryz.ntmps52
      go_wp2
      go_ret
      exact ⟨rfl, rfl⟩
    · rw [pl, if_neg hn] at hp
      have hs := spl_in n (by omega) hcap
      have hh := spl_half f n (by omega) hcap hf
      obtain ⟨s, hsn⟩ : ∃ s, spl n = s := ⟨_, rfl⟩
      have HSP : Hid (spl n = s) := hsn
      rw [hsn] at hp hs hh
      obtain ⟨hs1, hs2, hs3⟩ := hs
      have HF : Hid (s ≤ 2 ^ f) := hh
      have m1 : ¬ (n : Int) = 1 := by omega
      subst hx hy
      clear hf hh hsn
      by_cases hlt : i < s
      · rw [if_pos hlt] at hp
        have hle := pl_le f i s
        obtain ⟨q, hq⟩ : ∃ q, pl f i s = q := ⟨_, rfl⟩
        have HQ : Hid (pl f i s = q) := hq
        rw [hq] at hp hle
        subst hp
        clear hq
        have mlt : (i : Int) < s := by omega
        go_enter Tryz.func52, Tryz.ntmps52
        go_wp2_with (first | (go_at_call 38; refine (l2Split_as n _ _ (by rfl) hcap s HSP.out).mono ?_; rintro e w' ⟨rfl, rfl⟩) | (go_at_call 52; refine (ih i s _ _ q _ (by omega) hs1 HF.out hlt rfl rfl HQ.out).mono ?_; rintro e w' ⟨rfl, rfl⟩))
        go_ret
        exact ⟨ret_int (by omega), rfl⟩
      · rw [if_neg hlt] at hp
        have hle := pl_le f (i - s) (n - s)
        obtain ⟨q, hq⟩ : ∃ q, pl f (i - s) (n - s) = q := ⟨_, rfl⟩
        have HQ : Hid (pl f (i - s) (n - s) = q) := hq
        rw [hq] at hp hle
        subst hp
        clear hq
        have mlt : ¬ (i : Int) < s := by omega
        go_enter Tryz.func52, Tryz.ntmps52
        go_wp2_with (first | (go_at_call 38; refine (l2Split_as n _ _ (by rfl) hcap s HSP.out).mono ?_; rintro e w' ⟨rfl, rfl⟩) | (go_at_call 52; refine (ih (i - s) (n - s) _ _ q _ (by omega) (by omega) (by have := HF.out; omega) (by omega) (by omega) (by omega) HQ.out).mono ?_; rintro e w' ⟨rfl, rfl⟩))
        go_ret
        exact ⟨ret_int (by omega), rfl⟩
/-- The claim of a path S of m elements. -/
def cl (k : Int) (e : ByteArray) (S : Nat → ByteArray) : Nat → Nat → Nat → Nat → ByteArray
  | 0, _, _, _ => leafD k e
  | f + 1, i, n, m => if n = 1 then leafD k e else if i < spl n then nodeD k (cl k e S f i (spl n) (m - 1)) (S (m - 1)) else nodeD k (S (m - 1)) (cl k e S f (i - spl n) (n - spl n) (m - 1))
theorem cl_le (k : Int) (e : ByteArray) (S : Nat → ByteArray) (f i n m : Nat) : (cl k e S f i n m).size ≤ 32 := by
  cases f with
  | zero => exact dg_le _ _
  | succ f =>
    rw [cl]
    split
    · exact dg_le _ _
    · split
      · exact dg_le _ _
      · exact dg_le _ _
set_option maxRecDepth 20000 in
set_option maxHeartbeats 1000000 in
theorem specClaim_as (k : Int) (E : ByteArray) (S : Nat → ByteArray) (hE : E.size ≤ 4194304) (f : Nat) : ∀ (i n m : Nat) (x y : Int) (a : Option Addr) (c : Nat) (w : World) (r : ByteArray), f ≤ 40 → 1 ≤ n → n ≤ 2 ^ f → i < n → x = i → y = n → m = pl f i n → Sl w a m S → m ≤ c → (∀ j, j < m → (S j).size ≤ 2097152) → cl k E S f i n m = r →
    Calls Tryz.prog 40 #[.int .i64 k, .string E, .int .i64 x, .int .i64 y, .slice a m c] w fun e w' => e = .returned (.string r) ∧ Below w.heap.size w w' := by
  have one : ∀ (m : Nat) (x : Int) (a : Option Addr) (c : Nat) (w : World) (r : ByteArray), leafD k E = r → Calls Tryz.prog 40 #[.int .i64 k, .string E, .int .i64 x, .int .i64 1, .slice a m c] w fun e w' => e = .returned (.string r) ∧ Below w.heap.size w w' := by
    intro m x a c w r hr
    have HR : Hid (leafD k E = r) := hr
    clear hr
    go_enter Tryz.func40, Tryz.ntmps40
    go_wp2_with (go_at_call 37; refine (specLeaf_as k E _ hE r HR.out).mono ?_; rintro e w2 ⟨rfl, hb2⟩)
    go_ret
    exact ⟨rfl, hb2⟩
  induction f with
  | zero =>
    intro i n m x y a c w r _ h1 hf hi hx hy hm h hc hsz hr
    obtain rfl : n = 1 := by simp at hf; omega
    subst hy
    exact one m x a c w r hr
  | succ f ih =>
    intro i n m x y a c w r h40 h1 hf hi hx hy hm h hc hsz hr
    have hcap := cap40 h40 hf
    by_cases hn : n = 1
    · subst hn hy
      rw [cl, if_pos rfl] at hr
      exact one m x a c w r hr
    · rw [pl, if_neg hn] at hm
      rw [cl, if_neg hn] at hr
      have hs := spl_in n (by omega) hcap
      have hh := spl_half f n (by omega) hcap hf
      obtain ⟨s, hsn⟩ : ∃ s, spl n = s := ⟨_, rfl⟩
      have HSP : Hid (spl n = s) := hsn
      rw [hsn] at hm hr hs hh
      obtain ⟨hs1, hs2, hs3⟩ := hs
      have HF : Hid (s ≤ 2 ^ f) := hh
      have m1 : ¬ (n : Int) = 1 := by omega
      subst hx hy
      clear hf hh hsn one
      by_cases hlt : i < s
      · rw [if_pos hlt] at hm hr
        have hle := pl_le f i s
        obtain ⟨q, hq⟩ : ∃ q, pl f i s = q := ⟨_, rfl⟩
        have HQ : Hid (q = pl f i s) := hq.symm
        rw [hq] at hm hle
        obtain rfl : m = q + 1 := by omega
        rw [Nat.add_sub_cancel] at hr
        obtain ⟨u, hu⟩ : ∃ u, cl k E S f i s q = u := ⟨_, rfl⟩
        have HU : Hid (cl k E S f i s q = u) := hu
        have hul : u.size ≤ 32 := by rw [← hu]; exact cl_le _ _ _ _ _ _ _
        rw [hu] at hr
        have HR : Hid (nodeD k u (S q) = r) := hr
        have hzq := hsz q (by omega)
        obtain ⟨b, off, rfl, hc1⟩ := h.at q (by omega)
        have hA := h.left q (by omega)
        clear hq hm hu hr
        have mlt : (i : Int) < s := by omega
        go_enter Tryz.func40, Tryz.ntmps40
        go_wp2_with (first | (go_at_call 38; refine (l2Split_as n _ _ (by rfl) hcap s HSP.out).mono ?_; rintro e w' ⟨rfl, rfl⟩) | (go_at_call 40; refine (ih i s q _ _ _ _ _ u (by omega) hs1 HF.out hlt rfl rfl HQ.out hA (by omega) (fun j hj => hsz j (by omega)) HU.out).mono ?_; rintro e w1 ⟨rfl, hb1⟩) | (go_at_call 39; refine (specNode_as k u (S q) _ (by omega) hzq r HR.out).mono ?_; rintro e w2 ⟨rfl, hb2⟩))
        go_ret
        exact ⟨rfl, hb1.trans (hb2.mono hb1.size)⟩
      · rw [if_neg hlt] at hm hr
        have hle := pl_le f (i - s) (n - s)
        obtain ⟨q, hq⟩ : ∃ q, pl f (i - s) (n - s) = q := ⟨_, rfl⟩
        have HQ : Hid (q = pl f (i - s) (n - s)) := hq.symm
        rw [hq] at hm hle
        obtain rfl : m = q + 1 := by omega
        rw [Nat.add_sub_cancel] at hr
        obtain ⟨u, hu⟩ : ∃ u, cl k E S f (i - s) (n - s) q = u := ⟨_, rfl⟩
        have HU : Hid (cl k E S f (i - s) (n - s) q = u) := hu
        have hul : u.size ≤ 32 := by rw [← hu]; exact cl_le _ _ _ _ _ _ _
        rw [hu] at hr
        have HR : Hid (nodeD k (S q) u = r) := hr
        have hzq := hsz q (by omega)
        obtain ⟨b, off, rfl, hc1⟩ := h.at q (by omega)
        have hA := h.left q (by omega)
        clear hq hm hu hr
        have mlt : ¬ (i : Int) < s := by omega
        go_enter Tryz.func40, Tryz.ntmps40
        go_wp2_with (first | (go_at_call 38; refine (l2Split_as n _ _ (by rfl) hcap s HSP.out).mono ?_; rintro e w' ⟨rfl, rfl⟩) | (go_at_call 40; refine (ih (i - s) (n - s) q _ _ _ _ _ u (by omega) (by omega) (by have := HF.out; omega) (by omega) (by omega) (by omega) HQ.out hA (by omega) (fun j hj => hsz j (by omega)) HU.out).mono ?_; rintro e w1 ⟨rfl, hb1⟩) | (go_at_call 39; refine (specNode_as k (S q) u _ hzq (by omega) r HR.out).mono ?_; rintro e w2 ⟨rfl, hb2⟩))
        go_ret
        exact ⟨rfl, hb1.trans (hb2.mono hb1.size)⟩
end Go.Proofs.YtlbackkjjhpljaaGreatDoor
