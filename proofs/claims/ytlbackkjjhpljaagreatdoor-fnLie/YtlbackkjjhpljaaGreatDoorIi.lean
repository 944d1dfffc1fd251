/-
  CheckPath: the program's answer.
-/
import Derived.Test.YtlbackkjjhpljaaGreatDoorIp
import Derived.Test.YtlbackkjjhpljaaGreatDoorTs
import Derived.Test.YtlbackkjjhpljaaGreatDoorCs
namespace Go.Proofs.YtlbackkjjhpljaaGreatDoor
open Go.RowKit
theorem three_boxes (w : World) (x y f : Value) (s t u : TypeId) :
    (((w.alloc (.cells #[x] s)).alloc (.cells #[y] t)).alloc (.cells #[f] u)).cell? ⟨w.heap.size, 0, none⟩ = some x ∧ (((w.alloc (.cells #[x] s)).alloc (.cells #[y] t)).alloc (.cells #[f] u)).cell? ⟨w.heap.size + 1, 0, none⟩ = some y ∧ (((w.alloc (.cells #[x] s)).alloc (.cells #[y] t)).alloc (.cells #[f] u)).cell? ⟨w.heap.size + 1 + 1, 0, none⟩ = some f := by
  have e2 : ((w.alloc (.cells #[x] s)).alloc (.cells #[y] t)).cell? ⟨w.heap.size + 1, 0, none⟩ = some y := by
    rw [World.cell?_alloc_at _ _ _ _ (by simp)]; rfl
  have e1 : (w.alloc (.cells #[x] s)).cell? ⟨w.heap.size, 0, none⟩ = some x := by
    rw [World.cell?_alloc_at _ _ _ _ rfl]; rfl
  refine ⟨?_, ?_, ?_⟩
  · rw [World.cell?_alloc_lt _ _ _ (by simp; omega), World.cell?_alloc_lt _ _ _ (by simp)]; exact e1
  · rw [World.cell?_alloc_lt _ _ _ (by simp)]; exact e2
  · rw [World.cell?_alloc_at _ _ _ _ (by simp)]; rfl
set_option maxRecDepth 20000 in
theorem claimOfPath_any (k : Int) (X : ByteArray) (w : World) :
    Calls Tryz.prog 28 #[.int .i64 k, .string X] w fun e w' => e = .returned (.func (.func 55) #[] #[.pointer (some ⟨w.heap.size, 0, none⟩), .pointer (some ⟨w.heap.size + 1, 0, none⟩), .pointer (some ⟨w.heap.size + 1 + 1, 0, none⟩)]) ∧ PC w' w.heap.size (w.heap.size + 1) (w.heap.size + 1 + 1) k X ∧ Below w.heap.size w w' := by
  have hmf : ∀ (fn : Fn) (first cap : Array Value) (w : World), (Instr.makeFunc fn first cap).run Tryz.prog w = .ok (.func fn first cap) w := fun _ _ _ _ => rfl
  have e3 : (((w.alloc (.cells #[.int .i64 k] 3)).alloc (.cells #[.string X] 9)).alloc (.cells #[.nilFunc] 46)).cell? ⟨w.heap.size + 1 + 1, 0, none⟩ = some .nilFunc := by rw [World.cell?_alloc_at _ _ _ _ (by simp)]; rfl
  have f3 := frozen_of_row _ _ 0 _ _ (heap_alloc_new ((w.alloc (.cells #[.int .i64 k] 3)).alloc (.cells #[.string X] 9)) (.cells #[.nilFunc] 46))
  simp only [World.size_alloc] at f3
  have e4 := World.cell?_setCell_same' (((w.alloc (.cells #[.int .i64 k] 3)).alloc (.cells #[.string X] 9)).alloc (.cells #[.nilFunc] 46)) ⟨w.heap.size + 1 + 1, 0, none⟩ (.func (.func 55) #[] #[.pointer (some ⟨w.heap.size, 0, none⟩), .pointer (some ⟨w.heap.size + 1, 0, none⟩), .pointer (some ⟨w.heap.size + 1 + 1, 0, none⟩)]) (by rw [e3]; rfl)
  have hst := run_store Tryz.prog (((w.alloc (.cells #[.int .i64 k] 3)).alloc (.cells #[.string X] 9)).alloc (.cells #[.nilFunc] 46)) ⟨w.heap.size + 1 + 1, 0, none⟩ (.func (.func 55) #[] #[.pointer (some ⟨w.heap.size, 0, none⟩), .pointer (some ⟨w.heap.size + 1, 0, none⟩), .pointer (some ⟨w.heap.size + 1 + 1, 0, none⟩)]) .plain (by rfl)
  rw [e3] at hst
  simp only [f3] at hst
  go_enter Tryz.func28, Tryz.ntmps28
  go_wp2
  go_ret
  obtain ⟨a1, a2, a3⟩ := three_boxes w (.int .i64 k) (.string X) (.func (.func 55) #[] #[.pointer (some ⟨w.heap.size, 0, none⟩), .pointer (some ⟨w.heap.size + 1, 0, none⟩), .pointer (some ⟨w.heap.size + 1 + 1, 0, none⟩)]) 3 9 46
  exact ⟨rfl, ⟨a1, a2, a3⟩, below3 w _ _ _⟩
end Go.Proofs.YtlbackkjjhpljaaGreatDoor
namespace Go.Proofs.YtlbackkjjhpljaaGreatDoor
open Go.RowKit
/-- What the program's CheckPath answers. -/
def ImplCheckPath : Prop := ∀ (k x y : Int) (E R : ByteArray) (a : Option Addr) (m c : Nat) (S : Nat → ByteArray) (w : World), KeysAt w → E.size ≤ 1048576 → R.size ≤ 1048576 → Sl w a m S → m ≤ c → m ≤ 1048576 → (∀ j, j < m → (S j).size ≤ 1048576) →
      Calls Tryz.prog 18 #[.int .i64 k, .string E, .int .i64 x, .int .i64 y, .string R, .slice a m c] w fun e w' => e = .returned (.bool (chkB k x y E R m S)) ∧ Below w.heap.size w w'
/-- What the program's CheckProof answers. -/
def ImplCheckProof : Prop := ∀ (k x y : Int) (E R : ByteArray) (a : Option Addr) (m c : Nat) (S : Nat → ByteArray) (w : World), KeysAt w → E.size ≤ 1048576 → R.size ≤ 1048576 → Sl w a m S → m ≤ c → m ≤ 1048576 → (∀ j, j < m → (S j).size ≤ 1048576) →
      Calls Tryz.prog 23 #[.int .i64 k, .int .i64 x, .string E, .int .i64 y, .string R, .slice a m c] w fun e w' => e = .returned (.bool (chqB k x y E R m S)) ∧ Below w.heap.size w w'
end Go.Proofs.YtlbackkjjhpljaaGreatDoor
namespace Go.Proofs.YtlbackkjjhpljaaGreatDoor
open Go.RowKit
theorem digB_fits {k x y : Int} {m : Nat} {S : Nat → ByteArray} (h : Fits k x y m S) : digB k m S = true := digB_yes h.1 h.2.1
set_option maxRecDepth 20000 in
set_option maxHeartbeats 4000000 in
theorem implCheckPath : ImplCheckPath := by
  intro k x y E R a m c S w hK hE hR h hc hm hsz
  have HK : Hid (KeysAt w) := hK
  clear hK
  by_cases hr : y ≤ 2147483648 ∧ 0 ≤ x ∧ x < y ∧ digB k m S = true
  · obtain ⟨hy, hx0, hxy, hd⟩ := hr
    obtain ⟨hk, hw⟩ := digB_out hd
    have HD : Hid (digB k m S = true) := hd
    have hs2 : ∀ j, j < m → (S j).size ≤ 2097152 := fun j hj => by have := hsz j hj; omega
    obtain ⟨⟨u, t⟩, hu⟩ : ∃ u, cp k E S 31 x.toNat y.toNat m = u := ⟨_, rfl⟩
    have HU : Hid (cp k E S 31 x.toNat y.toNat m = (u, t)) := hu
    have HB : Hid (chkB k x y E R m S = (t && decide (u = R))) := by
      show _ = _
      unfold chkB
      rw [cp] at hu
      by_cases e : m = pl 31 x.toNat y.toNat
      · rw [if_pos e] at hu
        obtain ⟨hu1, hu2⟩ : cl k E S 31 x.toNat y.toNat m = u ∧ true = t := by simpa using hu
        subst hu2
        rw [hu1, Bool.true_and]
        by_cases e2 : u = R
        · rw [dT e2, dT ⟨⟨hk, hw, by omega, hy, hx0, by omega, e⟩, e2⟩]
        · rw [dF e2, dF fun hh => e2 hh.2]
      · rw [if_neg e] at hu
        obtain ⟨-, hu2⟩ : (⟨#[]⟩ : ByteArray) = u ∧ false = t := by simpa using hu
        subst hu2
        rw [Bool.false_and, dF fun hh => e hh.1.2.2.2.2.2.2]
    clear hd hu hw
    have d1 : decide (2147483648 < y) = false := by simpa using hy
    have d2 : decide (x < 0) = false := by simpa using hx0
    have d3 : decide (y ≤ x) = false := by simpa using hxy
    cases t
    all_goals
      go_enter Tryz.func18, Tryz.ntmps18
      go_wp2_with (first | (go_at_call 27; refine (areDig_any k a m c S _ h true HD.out).mono ?_; rintro e w0 ⟨rfl, rfl⟩) | (go_at_call 28; refine (claimOfPath_any k E _).mono ?_; rintro e w1 ⟨rfl, hP1, hb1⟩; have h1 := h.later hb1; have hK1 := keys_later HK.out hb1) | (go_at_call 55; refine (claimPath_as k E S (by omega) _ _ _ 31 x.toNat y.toNat m _ _ _ _ _ u _ (by omega) (by omega) (by omega) (by omega) (by omega) (by omega) hm h1 hc hs2 hK1 hP1 HU.out).mono ?_; rintro e w2 ⟨rfl, hb2⟩))
      go_ret
      exact ⟨ret_bool (by rw [HB.out]; first | rfl | exact (bytes_eq u R) | (rw [Bool.true_and]; exact bytes_eq u R)), hb1.trans (hb2.mono hb1.size)⟩
  · have HN : Hid (chkB k x y E R m S = false) := dF fun hh => hr ⟨hh.1.2.2.2.1, hh.1.2.2.2.2.1, by have := hh.1.2.2.2.2.2.1; omega, digB_fits hh.1⟩
    by_cases h1 : 2147483648 < y
    · have d1 : decide (2147483648 < y) = true := by simpa using h1
      go_enter Tryz.func18, Tryz.ntmps18
      go_wp2
      go_ret
      exact ⟨ret_bool HN.out.symm, Below.refl _ _⟩
    have d1 : decide (2147483648 < y) = false := by simpa using h1
    by_cases h2 : x < 0
    · have d2 : decide (x < 0) = true := by simpa using h2
      go_enter Tryz.func18, Tryz.ntmps18
      go_wp2
      go_ret
      exact ⟨ret_bool HN.out.symm, Below.refl _ _⟩
    have d2 : decide (x < 0) = false := by simpa using h2
    by_cases h3 : y ≤ x
    · have d3 : decide (y ≤ x) = true := by simpa using h3
      go_enter Tryz.func18, Tryz.ntmps18
      go_wp2
      go_ret
      exact ⟨ret_bool HN.out.symm, Below.refl _ _⟩
    have d3 : decide (y ≤ x) = false := by simpa using h3
    have hd : digB k m S = false := by
      cases e : digB k m S with
      | false => rfl
      | true => exact absurd ⟨by omega, by omega, by omega, e⟩ hr
    have HD : Hid (digB k m S = false) := hd
    clear hd hr
    go_enter Tryz.func18, Tryz.ntmps18
    go_wp2_with (go_at_call 27; refine (areDig_any k a m c S _ h false HD.out).mono ?_; rintro e w0 ⟨rfl, rfl⟩)
    go_ret
    exact ⟨ret_bool HN.out.symm, Below.refl _ _⟩
end Go.Proofs.YtlbackkjjhpljaaGreatDoor
