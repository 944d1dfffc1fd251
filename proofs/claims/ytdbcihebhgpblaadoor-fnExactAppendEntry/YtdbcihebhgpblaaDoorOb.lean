/-
  FsStep, the program's side: a file's place.
-/
import Derived.Test.YtdbcihebhgpblaaDoorOa
namespace Go.Proofs.YtdbcihebhgpblaaDoor
open Go.RowKit
theorem less_irr (x : List UInt8) : Op.bytesLess x x = false := by
  induction x with
  | nil => rfl
  | cons a x ih => simp [Op.bytesLess, ih]
theorem less_trans (x y z : List UInt8) (h1 : Op.bytesLess x y = true) (h2 : Op.bytesLess y z = true) : Op.bytesLess x z = true := by
  induction x generalizing y z with
  | nil =>
    cases z with
    | nil => cases y <;> simp [Op.bytesLess] at h2
    | cons c z => rfl
  | cons a x ih =>
    cases y with
    | nil => simp [Op.bytesLess] at h1
    | cons b y =>
      cases z with
      | nil => simp [Op.bytesLess] at h2
      | cons c z =>
        simp only [Op.bytesLess, Bool.or_eq_true, decide_eq_true_eq, Bool.and_eq_true, beq_iff_eq] at h1 h2 ⊢
        rcases h1 with h1 | ⟨rfl, h1⟩
        · rcases h2 with h2 | ⟨rfl, h2⟩
          · exact Or.inl (UInt8.lt_trans h1 h2)
          · exact Or.inl h1
        · rcases h2 with h2 | ⟨rfl, h2⟩
          · exact Or.inl h2
          · exact Or.inr ⟨rfl, ih y z h1 h2⟩
/-- How two names compare. -/
def cmpS (a b : ByteArray) : Int := if Op.bytesLess a.toList b.toList then -1 else if a = b then 0 else 1
set_option maxRecDepth 20000 in
set_option maxHeartbeats 2000000 in
theorem iCompare (a b : ByteArray) (w : World) : Calls Tryd.prog 103 #[.string a, .string b] w fun e w' => e = .returned (.int .i64 (cmpS a b)) ∧ w' = w := by
  have hq := eqS a b
  rcases hl : Op.bytesLess a.toList b.toList
  · by_cases he : a = b
    · have hq1 : (a.toList == b.toList) = true := by rw [hq]; simp [he]
      have hc : Hid (cmpS a b = 0) := by show _ = _; unfold cmpS; rw [hl, if_neg (by simp), if_pos he]
      clear hq he
      go_enter Tryd.func103, Tryd.ntmps103
      go_wp2_with (go_at_call 121; refine (isNaN _ _).mono ?_; rintro e w1 ⟨rfl, rfl⟩)
      go_ret
      exact ⟨by rw [hc.out]; rfl, rfl⟩
    · have hq1 : (a.toList == b.toList) = false := by rw [hq]; simp [he]
      have hc : Hid (cmpS a b = 1) := by show _ = _; unfold cmpS; rw [hl, if_neg (by simp), if_neg he]
      clear hq he
      go_enter Tryd.func103, Tryd.ntmps103
      go_wp2_with (go_at_call 121; refine (isNaN _ _).mono ?_; rintro e w1 ⟨rfl, rfl⟩)
      go_ret
      exact ⟨by rw [hc.out]; rfl, rfl⟩
  · have hc : Hid (cmpS a b = -1) := by show _ = _; unfold cmpS; rw [hl, if_pos rfl]
    clear hq
    go_enter Tryd.func103, Tryd.ntmps103
    go_wp2_with (go_at_call 121; refine (isNaN _ _).mono ?_; rintro e w1 ⟨rfl, rfl⟩)
    go_ret
    exact ⟨by rw [hc.out]; rfl, rfl⟩
set_option maxRecDepth 20000 in
set_option maxHeartbeats 2000000 in
theorem iPlace1 (s d : ByteArray) (y : Int) (nm : ByteArray) (w : World) : Calls Tryd.prog 102 #[.agg #[.string s, .string d, .int .i64 y], .string nm] w fun e w' => e = .returned (.int .i64 (cmpS s nm)) ∧ Below w.heap.size w w' := by
  go_enter Tryd.func102, Tryd.ntmps102
  go_wp2_with (go_at_call 103; refine (iCompare _ _ _).mono ?_; rintro e w1 ⟨rfl, rfl⟩)
  go_ret
  exact ⟨rfl, bal _ _⟩
/-- Where a name belongs. -/
def LoB (F : Nat → Fil) (n : Nat) (nm : ByteArray) (i : Nat) : Prop := i ≤ n ∧ (∀ k, k < i → Op.bytesLess (F k).s.toList nm.toList = true) ∧ (∀ k, i ≤ k → k < n → Op.bytesLess (F k).s.toList nm.toList = false)
def hitB (F : Nat → Fil) (n : Nat) (nm : ByteArray) (i : Nat) : Bool := decide (i < n) && decide ((F i).s = nm)
set_option maxRecDepth 20000 in
set_option maxHeartbeats 4000000 in
theorem iBsearch (a : Option Addr) (n c : Nat) (F : Nat → Fil) (nm : ByteArray) (w : World) (h : FL w a n F) (hn : n ≤ 2097152) (hm : ∀ j k, j < k → k < n → Op.bytesLess (F k).s.toList nm.toList = true → Op.bytesLess (F j).s.toList nm.toList = true) :
    Calls Tryd.prog 101 #[.slice a n c, .string nm, .func (.func 102) #[] #[]] w fun e w' => ∃ i : Nat, e = .returned (.tuple #[.int .i64 i, .bool (hitB F n nm i)]) ∧ LoB F n nm i ∧ Below w.heap.size w w' := by
  have hb0 := Below.refl w.heap.size w
  go_enter Tryd.func101, Tryd.ntmps101
  go_wp2
  go_loopw [9, 10, 11] (fun i j _ wr => ∃ p q : Nat, p ≤ q ∧ q ≤ n ∧ i = .int .i64 p ∧ j = .int .i64 q ∧ (∀ k, k < p → Op.bytesLess (F k).s.toList nm.toList = true) ∧ (∀ k, q ≤ k → k < n → Op.bytesLess (F k).s.toList nm.toList = false) ∧ Below w.heap.size w wr) (fun i j _ _ => (intOf j - intOf i).toNat)
  case atStart => exact ⟨0, n, by omega, by omega, rfl, rfl, fun k hk => by omega, fun k h1 h2 => by omega, hb0⟩
  case round =>
    obtain ⟨p, q, hpq, hqn, rfl, rfl, hlo, hhi, hb⟩ := hrel
    by_cases hlt : p < q
    · have hlt' : (p : Int) < q := by omega
      obtain ⟨m, hmm⟩ : ∃ m : Nat, m = (p + q) / 2 := ⟨_, rfl⟩
      have m1 : ((p : Int) + q) / 2 = (m : Int) := by omega
      have m2 : p ≤ m := by omega
      have m3 : m < q := by omega
      have m4 : (m : Int) < n := by omega
      have m5 : (0 : Int) ≤ (m : Int) := by omega
      obtain ⟨b, off, rfl, c0, c1, c2⟩ := h.later hb m (by omega)
      clear hmm
      rcases hl : Op.bytesLess (F m).s.toList nm.toList
      · have hc : ¬ cmpS (F m).s nm < 0 := by unfold cmpS; rw [hl, if_neg (by simp)]; split <;> omega
        obtain ⟨cr, hcr⟩ : ∃ cr, cmpS (F m).s nm = cr := ⟨_, rfl⟩
        rw [hcr] at hc
        go_wp2_with (go_at_call 102; refine (iPlace1 _ _ _ _ _).mono ?_; rw [hcr]; rintro e w1 ⟨rfl, hb1⟩)
        refine ⟨⟨p, m, m2, by omega, rfl, rfl, hlo, fun k h1 h2 => ?_, hb.trans (hb1.mono hb.size)⟩, by simp only [intOf]; omega⟩
        rcases hk : Op.bytesLess (F k).s.toList nm.toList
        · rfl
        · rcases Nat.lt_or_ge m k with h3 | h3
          · have := hm m k h3 h2 hk; rw [hl] at this; exact this.symm
          · obtain rfl : k = m := by omega
            rw [hl] at hk; exact hk.symm
      · have hc : cmpS (F m).s nm < 0 := by unfold cmpS; rw [hl, if_pos rfl]; omega
        obtain ⟨cr, hcr⟩ : ∃ cr, cmpS (F m).s nm = cr := ⟨_, rfl⟩
        rw [hcr] at hc
        go_wp2_with (go_at_call 102; refine (iPlace1 _ _ _ _ _).mono ?_; rw [hcr]; rintro e w1 ⟨rfl, hb1⟩)
        refine ⟨⟨m + 1, q, by omega, by omega, by rw [Int.natCast_add]; rfl, rfl, fun k hk => ?_, hhi, hb.trans (hb1.mono hb.size)⟩, by simp only [intOf]; omega⟩
        rcases Nat.lt_or_ge k m with h3 | h3
        · exact hm k m h3 (by omega) hl
        · obtain rfl : k = m := by omega
          exact hl
    · obtain rfl : p = q := by omega
      by_cases hpn : p < n
      · have hpn' : (p : Int) < n := by omega
        obtain ⟨b, off, rfl, c0, c1, c2⟩ := h.later hb p (by omega)
        obtain ⟨cr, hcr⟩ : ∃ cr, cmpS (F p).s nm = cr := ⟨_, rfl⟩
        go_wp2_with (go_at_call 102; refine (iPlace1 _ _ _ _ _).mono ?_; rw [hcr]; rintro e w1 ⟨rfl, hb1⟩)
        go_ret2
        refine ⟨p, ?_, ⟨by omega, hlo, hhi⟩, hb.trans (hb1.mono hb.size)⟩
        have hh : hitB F n nm p = (cr == 0) := by
          rw [← hcr]; unfold hitB cmpS; rw [hhi p (Nat.le_refl _) hpn, if_neg (by simp)]
          by_cases he : (F p).s = nm
          · rw [if_pos he]; simp [hpn, he]
          · rw [if_neg he]; simp [he]
        rw [hh]; rfl
      · have hpn' : ¬ (p : Int) < n := by omega
        go_wp2
        go_ret2
        refine ⟨p, ?_, ⟨by omega, hlo, hhi⟩, hb⟩
        have hh : hitB F n nm p = false := by unfold hitB; simp [hpn]
        rw [hh]; rfl
end Go.Proofs.YtdbcihebhgpblaaDoor
