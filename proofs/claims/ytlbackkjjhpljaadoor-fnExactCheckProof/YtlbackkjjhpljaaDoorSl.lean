/-
  Slices of strings: how long, copied, held against each other.
-/
import Derived.Test.YtlbackkjjhpljaaDoorLn
import Derived.WalkKit
import Derived.ProofKit
import Derived.Laws.CopyOwn
import Derived.Deep.QuietTactic
import Derived.BigQuiet
namespace Go.Proofs.YtlbackkjjhpljaaDoor
open Go.RowKit
/-- A slice of n strings. -/
def Sl (w : World) (a : Option Addr) (n : Nat) (S : Nat → ByteArray) : Prop :=
  n ≤ 9223372036854775807 ∧ ∀ k, k < n → (S k).size ≤ 9223372036854775807 ∧ ∃ b off, a = some ⟨b, off, none⟩ ∧ w.cell? ⟨b, off + k, none⟩ = some (.string (S k))
theorem Sl.at {w : World} {a : Option Addr} {n : Nat} {S : Nat → ByteArray} (h : Sl w a n S) (k : Nat) (hk : k < n) :
    ∃ b off, a = some ⟨b, off, none⟩ ∧ w.cell? ⟨b, off + k, none⟩ = some (.string (S k)) := (h.2 k hk).2
theorem Sl.later {w w' : World} {a : Option Addr} {n : Nat} {S : Nat → ByteArray} (h : Sl w a n S) (hb : Below w.heap.size w w') : Sl w' a n S := by
  refine ⟨h.1, fun k hk => ⟨(h.2 k hk).1, ?_⟩⟩
  obtain ⟨b, off, e, hc⟩ := h.at k hk
  exact ⟨b, off, e, (hb.cell (World.block_lt_of_cell? w _ hc)).trans hc⟩
theorem Sl.drew {w : World} {a : Option Addr} {n : Nat} {S : Nat → ByteArray} (h : Sl w a n S) (q : Nat) : Sl (w.drewN q) a n S := h
set_option maxRecDepth 20000 in
set_option maxHeartbeats 1000000 in
theorem szStrs_any (a : Option Addr) (n c : Nat) (S : Nat → ByteArray) (w : World) (h : Sl w a n S) (L : Int) (h0 : 0 ≤ L) (h1 : L ≤ 1048576) :
    Calls Tryd.prog 18 #[.slice a n c, .int .i64 L] w fun e w' => w' = w ∧ ∃ r : Int, e = .returned (.int .i64 r) ∧ r ≤ 1048576 ∧ (0 ≤ r → n ≤ 1048576 ∧ ∀ k, k < n → (S k).size ≤ 1048576) := by
  have hn := h.1
  by_cases hs : (n : Int) ≤ L
  · go_enter Tryd.func18, Tryd.ntmps18
    go_wp2
    go_loop [1, 5] (fun l i => ∃ k : Nat, ∃ x : Int, k ≤ n ∧ i = .int .i64 k ∧ l = .int .i64 x ∧ 0 ≤ x ∧ x ≤ 1048576 ∧ ∀ j, j < k → (S j).size ≤ 1048576) (fun _ i => n - (intOf i).toNat)
    case atStart => exact ⟨0, _, by omega, rfl, rfl, by omega, by omega, fun j hj => by omega⟩
    case round =>
      obtain ⟨k, x, hk, rfl, rfl, hx0, hx1, hall⟩ := hrel
      by_cases hlt : k < n
      · have hsz := (h.2 k hlt).1
        obtain ⟨b, off, rfl, hc⟩ := h.at k hlt
        by_cases hneg : (0 : Int) ≤ x - (S k).size
        · go_wp2
          go_round
          case rel => exact ⟨k + 1, _, by omega, by go_num, rfl, by omega, by omega, fun j hj => by
            by_cases e : j = k
            · subst e; omega
            · exact hall j (by omega)⟩
          case measure => simp [intOf]; omega
        · go_wp2
          go_ret
          exact ⟨rfl, -1, rfl, by omega, fun hh => by omega⟩
      · obtain rfl : k = n := by omega
        go_wp2
        go_ret
        exact ⟨rfl, _, rfl, hx1, fun _ => ⟨by omega, hall⟩⟩
  · go_enter Tryd.func18, Tryd.ntmps18
    go_wp2
    go_ret
    exact ⟨rfl, -1, rfl, by omega, fun hh => by omega⟩
set_option maxRecDepth 20000 in
set_option maxHeartbeats 1000000 in
/-- Two slices of the same strings are found alike. -/
theorem eqStrs_any (a a' : Option Addr) (n c c' : Nat) (S S' : Nat → ByteArray) (w : World) (h : Sl w a n S) (h' : Sl w a' n S') (he : ∀ k, k < n → S k = S' k) :
    Calls Tryd.prog 22 #[.slice a n c, .slice a' n c'] w fun e w' => e = .returned (.bool true) ∧ ∃ q, w' = w.drewN q := by
  have hn := h.1
  go_enter Tryd.func22, Tryd.ntmps22
  go_wp2
  go_loopw [5] (fun i wr => ∃ k q : Nat, k ≤ n ∧ i = .int .i64 k ∧ wr = w.drewN q) (fun i _ => n - (intOf i).toNat)
  case atStart => exact ⟨0, 0, by omega, rfl, rfl⟩
  case round =>
    obtain ⟨k, q, hk, rfl, hwr⟩ := hrel
    have HR : Hid (wr = w.drewN q) := hwr
    by_cases hlt : k < n
    · have hkk : (k : Int) < n := by omega
      obtain ⟨b, off, rfl, hc⟩ := (h.drew q).at k hlt
      obtain ⟨b', off', rfl, hc'⟩ := (h'.drew q).at k hlt
      rw [← he k hlt, ← hwr] at hc'
      rw [← hwr] at hc
      clear hwr
      go_wp2
      go_quiet (fail)
      go_wp2
      go_roundw
      case rel => exact ⟨k + 1, q + nq, by omega, by go_num, by rw [HR.out]; simp⟩
      case measure => simp [intOf]; omega
    · clear hwr
      obtain rfl : k = n := by omega
      go_wp2
      go_ret
      exact ⟨rfl, q, HR.out⟩
end Go.Proofs.YtlbackkjjhpljaaDoor
