/-
  When a tree is OK: the specification's way and the program's.
-/
import Derived.Test.YtjbbbfplephkpaaGreatDoorSl
import Derived.Laws.BitsAllLaws
import Derived.Test.YtjbbbfplephkpaaGreatDoorTs
import Derived.Deep.OwnRows
import Derived.Test.YtjbbbfplephkpaaGreatDoorKw
namespace Go.Proofs.YtjbbbfplephkpaaGreatDoor
open Go.RowKit
def pc : Nat → Nat → Nat
  | 0, _ => 0
  | f + 1, n => n % 2 + pc f (n / 2)
theorem pc_more (f n : Nat) (h : n < 2 ^ f) : pc (f + 1) n = pc f n := by
  induction f generalizing n with
  | zero => have : n = 0 := by simpa using h
            subst this; rfl
  | succ f ih =>
    have h' : n / 2 < 2 ^ f := by rw [Nat.pow_succ] at h; omega
    have := ih (n / 2) h'
    show n % 2 + pc (f + 1) (n / 2) = n % 2 + pc f (n / 2)
    rw [this]
/-- The bits of n that are 1, for n below 2048. -/
def on (n : Nat) : Nat := pc 12 n
theorem on_step (n : Nat) (h : n < 2048) : on n = n % 2 + on (n / 2) := by
  unfold on
  rw [pc_more 11 (n / 2) (by omega)]
  rfl
theorem on_zero : on 0 = 0 := by decide
theorem on_le (n : Nat) : on n ≤ 12 := by
  unfold on
  simp only [pc]
  omega
def oc (z : Nat) : Nat :=
  let a := (z / 2 &&& 6148914691236517205) + (z &&& 6148914691236517205)
  let b := (a / 4 &&& 3689348814741910323) + (a &&& 3689348814741910323)
  let c := (b / 16 + b) &&& 1085102592571150095
  let d := c + c / 256
  let e := d + d / 65536
  let f := e + e / 4294967296
  f &&& 127
theorem oc_on : ∀ z, z < 2048 → oc z = on z := by decide +kernel
theorem oc_fits : ∀ z, z < 2048 → (z / 2 &&& 6148914691236517205) + (z &&& 6148914691236517205) < 4294967296 := fun z h => by
  have h1 : z / 2 &&& 6148914691236517205 ≤ z / 2 := Nat.and_le_left
  have h2 : z &&& 6148914691236517205 ≤ z := Nat.and_le_left
  omega
theorem and64 (a m n : Nat) (x y : Int) (ha : a < 18446744073709551616) (hm : m < 18446744073709551616) (hx : x = a) (hy : y = m) (h : a &&& m = n) : bits .and .u64 x y = (n : Int) := by
  subst hx hy h
  exact u64_and_nat a m ha hm
set_option maxRecDepth 20000 in
set_option maxHeartbeats 1000000 in
theorem oc64_any (z : Nat) (w : World) (hz : z < 2048) :
    Calls Tryz.prog 52 #[.int .u64 z] w fun e w' => e = .returned (.int .i64 (on z : Nat)) ∧ w' = w := by
  have Hoc : Hid (oc z = on z) := oc_on z hz
  have l1 : z / 2 &&& 6148914691236517205 ≤ z / 2 := Nat.and_le_left
  have l2 : z &&& 6148914691236517205 ≤ z := Nat.and_le_left
  obtain ⟨n1, e1⟩ : ∃ n, z / 2 &&& 6148914691236517205 = n := ⟨_, rfl⟩
  obtain ⟨n2, e2⟩ : ∃ n, z &&& 6148914691236517205 = n := ⟨_, rfl⟩
  rw [e1] at l1
  rw [e2] at l2
  obtain ⟨m1, f1⟩ : ∃ m, n1 + n2 = m := ⟨_, rfl⟩
  have l3 : m1 / 4 &&& 3689348814741910323 ≤ m1 / 4 := Nat.and_le_left
  have l4 : m1 &&& 3689348814741910323 ≤ m1 := Nat.and_le_left
  obtain ⟨n3, e3⟩ : ∃ n, m1 / 4 &&& 3689348814741910323 = n := ⟨_, rfl⟩
  obtain ⟨n4, e4⟩ : ∃ n, m1 &&& 3689348814741910323 = n := ⟨_, rfl⟩
  rw [e3] at l3
  rw [e4] at l4
  obtain ⟨m2, f2⟩ : ∃ m, n3 + n4 = m := ⟨_, rfl⟩
  have l5 : (m2 / 16 + m2) &&& 1085102592571150095 ≤ m2 / 16 + m2 := Nat.and_le_left
  obtain ⟨m3, e5⟩ : ∃ n, (m2 / 16 + m2) &&& 1085102592571150095 = n := ⟨_, rfl⟩
  rw [e5] at l5
  obtain ⟨m4, f4⟩ : ∃ m, m3 + m3 / 256 = m := ⟨_, rfl⟩
  obtain ⟨m5, f5⟩ : ∃ m, m4 + m4 / 65536 = m := ⟨_, rfl⟩
  obtain ⟨m6, f6⟩ : ∃ m, m5 + m5 / 4294967296 = m := ⟨_, rfl⟩
  have F : Hid (m6 &&& 127 = on z) := by
    show m6 &&& 127 = on z
    rw [← Hoc.out]
    unfold oc
    simp only [e1, e2, f1, e3, e4, f2, e5, f4, f5, f6]
  have a1 := and64 (z / 2) 6148914691236517205 n1 ((z : Int) / 2) 6148914691236517205 (by omega) (by decide) (by omega) rfl e1
  have a2 := and64 z 6148914691236517205 n2 (z : Int) 6148914691236517205 (by omega) (by decide) rfl rfl e2
  have a3 := and64 (m1 / 4) 3689348814741910323 n3 ((m1 : Int) / 4) 3689348814741910323 (by omega) (by decide) (by omega) rfl e3
  have a4 := and64 m1 3689348814741910323 n4 (m1 : Int) 3689348814741910323 (by omega) (by decide) rfl rfl e4
  have a5 := and64 (m2 / 16 + m2) 1085102592571150095 m3 ((m2 : Int) / 16 + m2) 1085102592571150095 (by omega) (by decide) (by omega) rfl e5
  have g1 : ((n1 : Int) + n2) = (m1 : Int) := by omega
  have g2 : ((n3 : Int) + n4) = (m2 : Int) := by omega
  have g4 : ((m3 : Int) + m3 / 256) = (m4 : Int) := by omega
  have g5 : ((m4 : Int) + m4 / 65536) = (m5 : Int) := by omega
  have g6 : ((m5 : Int) + m5 / 4294967296) = (m6 : Int) := by omega
  clear e1 e2 e3 e4 e5 Hoc
  have b1 : m1 ≤ 4096 := by omega
  have b2 : m2 ≤ 8192 := by omega
  have b3 : m3 ≤ 16384 := by omega
  have b4 : m4 ≤ 32768 := by omega
  have b5 : m5 ≤ 65536 := by omega
  have b6 : m6 ≤ 131072 := by omega
  clear f1 f2 f4 f5 f6
  have a6 : bits .and .i64 (m6 : Int) 127 = (m6 : Int) % 128 := by
    have := bits_mask .i64 32 (by decide) (fun n h0 h1 => by rw [IntKind.wrap_i64]; omega) 7 (by omega) (m6 : Int) (by omega) (by omega)
    simpa using this
  go_enter Tryz.func52, Tryz.ntmps52
  go_wp2
  go_ret
  exact ⟨ret_int (by rw [← F.out, Nat.and_two_pow_sub_one_eq_mod m6 7]; omega), rfl⟩
set_option maxRecDepth 20000 in
theorem ocn_any (z : Nat) (w : World) (hz : z < 2048) :
    Calls Tryz.prog 33 #[.int .u64 z] w fun e w' => e = .returned (.int .i64 (on z : Nat)) ∧ w' = w := by
  go_enter Tryz.func33, Tryz.ntmps33
  go_wp2_with (go_at_call 52; refine (oc64_any z _ hz).mono ?_; rintro e w' ⟨rfl, rfl⟩)
  go_ret
  exact ⟨rfl, rfl⟩
end Go.Proofs.YtjbbbfplephkpaaGreatDoor
namespace Go.Proofs.YtjbbbfplephkpaaGreatDoor
open Go.RowKit
end Go.Proofs.YtjbbbfplephkpaaGreatDoor
namespace Go.Proofs.YtjbbbfplephkpaaGreatDoor
open Go.RowKit
def okB (k z : Int) (n : Nat) (S : Nat → ByteArray) : Bool := decide ((k = 0 ∨ k = 1) ∧ 0 ≤ z ∧ z ≤ 2000 ∧ n = on z.toNat ∧ ∀ i, i < n → (S i).size = wid k)
theorem okB_yes {k z : Int} {n : Nat} {S : Nat → ByteArray} (hk : k = 0 ∨ k = 1) (h0 : 0 ≤ z) (h1 : z ≤ 2000) (hn : n = on z.toNat) (hs : ∀ i, i < n → (S i).size = wid k) : okB k z n S = true := by
  unfold okB; exact decide_eq_true ⟨hk, h0, h1, hn, hs⟩
theorem okB_no {k z : Int} {n : Nat} {S : Nat → ByteArray} (h : ¬ ((k = 0 ∨ k = 1) ∧ 0 ≤ z ∧ z ≤ 2000 ∧ n = on z.toNat ∧ ∀ i, i < n → (S i).size = wid k)) : okB k z n S = false := by
  unfold okB; exact decide_eq_false h
theorem okB_out {k z : Int} {n : Nat} {S : Nat → ByteArray} (h : okB k z n S = true) : (k = 0 ∨ k = 1) ∧ 0 ≤ z ∧ z ≤ 2000 ∧ n = on z.toNat ∧ ∀ i, i < n → (S i).size = wid k := by
  unfold okB at h; exact of_decide_eq_true h
set_option maxRecDepth 20000 in
set_option maxHeartbeats 1000000 in
theorem specOK_any (k z : Int) (a : Option Addr) (n c : Nat) (S : Nat → ByteArray) (w : World) (h : Sl w a n S) :
    Calls Tryz.prog 8 #[.int .i64 k, .agg #[.int .i64 z, .slice a n c]] w fun e w' => e = .returned (.bool (okB k z n S)) ∧ Below w.heap.size w w' := by
  have hn := h.1
  by_cases hk : k = 0 ∨ k = 1
  · by_cases hz : 0 ≤ z ∧ z ≤ 2000
    · obtain ⟨zn, rfl⟩ : ∃ zn : Nat, z = zn := ⟨z.toNat, by omega⟩
      obtain ⟨hz0, hz1⟩ := hz
      have hzn : zn < 2048 := by omega
      have hw := h.later (below1 w (.cells #[.int .i64 zn, .slice a n c] 28))
      go_enter Tryz.func8, Tryz.ntmps8
      go_wp2_with (first | (go_at_call 23; refine (kind_yes _ _ hk).mono ?_; rintro e w1 ⟨rfl, rfl⟩) | (go_at_call 24; refine (betw_yes _ _ _ _ hz0 hz1).mono ?_; rintro e w1 ⟨rfl, rfl⟩))
      go_loop [5, 6] (fun o x => ∃ m p : Nat, m < 2048 ∧ x = .int .i64 m ∧ o = .int .i64 p ∧ p + on m = on zn) (fun _ x => (intOf x).toNat)
      case atStart => exact ⟨zn, 0, hzn, rfl, rfl, by omega⟩
      case round =>
        obtain ⟨m, p, hm, rfl, rfl, hp⟩ := hrel
        have HP : Hid (p + on m = on zn) := hp
        have hpl : p ≤ 12 := by have := on_le zn; omega
        clear hp
        by_cases hm0 : 0 < m
        · have HS : Hid (on m = m % 2 + on (m / 2)) := on_step m hm
          go_wp2
          go_round
          case rel => exact ⟨m / 2, p + m % 2, by omega, by go_num, by go_num, by have := HP.out; have := HS.out; omega⟩
          case measure => simp [intOf]; omega
        · obtain rfl : m = 0 := by omega
          have HO : Hid (p = on zn) := by have := HP.out; rw [on_zero] at this; exact this
          go_wp2
          go_loop [31] (fun i => ∃ j : Nat, j ≤ n ∧ i = .int .i64 j ∧ ∀ q, q < j → (S q).size = wid k) (fun i => n - (intOf i).toNat)
          case atStart => exact ⟨0, by omega, rfl, fun q hq => by omega⟩
          case round =>
            obtain ⟨j, hj, rfl, hall⟩ := hrel
            have HA : Hid (∀ q, q < j → (S q).size = wid k) := hall
            clear hall
            by_cases hlt : j < n
            · obtain ⟨b, off, rfl, hc⟩ := hw.at j hlt
              have hsz := (h.2 j hlt).1
              by_cases hq : (S j).size = wid k
              · have hq' : ((S j).size : Int) = (wid k : Nat) := by omega
                go_wp2_with (go_at_call 25; refine (width_any _ _).mono ?_; rintro e w1 ⟨rfl, rfl⟩)
                go_round
                case rel => exact ⟨j + 1, by omega, by go_num, fun q hq2 => by
                  by_cases e : q = j
                  · subst e; exact hq
                  · exact HA.out q (by omega)⟩
                case measure => simp [intOf]; omega
              · have hq' : ¬ ((S j).size : Int) = (wid k : Nat) := by omega
                have hno : okB k zn n S = false := okB_no fun hh => hq (hh.2.2.2.2 j hlt)
                go_wp2_with (go_at_call 25; refine (width_any _ _).mono ?_; rintro e w1 ⟨rfl, rfl⟩)
                go_ret
                exact ⟨ret_bool hno.symm, below1 _ _⟩
            · obtain rfl : j = n := by omega
              go_wp2
              go_ret
              refine ⟨?_, below1 _ _⟩
              have : (((j : Int) == (p : Int)) : Bool) = okB k zn j S := by
                by_cases e : j = p
                · rw [okB_yes hk hz0 hz1 (by rw [e, HO.out]; simp) HA.out, e]; simp
                · rw [okB_no (fun hh => e (by rw [hh.2.2.2.1, HO.out]; simp))]; simpa using (by omega : ¬ (j : Int) = p)
              exact ret_bool this
    · have hno : okB k z n S = false := okB_no fun hh => hz ⟨hh.2.1, hh.2.2.1⟩
      go_enter Tryz.func8, Tryz.ntmps8
      go_wp2_with (first | (go_at_call 23; refine (kind_yes _ _ hk).mono ?_; rintro e w1 ⟨rfl, rfl⟩) | (go_at_call 24; refine (betw_no _ _ _ _ hz).mono ?_; rintro e w1 ⟨rfl, rfl⟩))
      go_ret
      exact ⟨ret_bool hno.symm, below1 _ _⟩
  · have hno : okB k z n S = false := okB_no fun hh => hk hh.1
    go_enter Tryz.func8, Tryz.ntmps8
    go_wp2_with (go_at_call 23; refine (kind_no _ _ hk).mono ?_; rintro e w1 ⟨rfl, rfl⟩)
    go_ret
    exact ⟨ret_bool hno.symm, below1 _ _⟩
end Go.Proofs.YtjbbbfplephkpaaGreatDoor
