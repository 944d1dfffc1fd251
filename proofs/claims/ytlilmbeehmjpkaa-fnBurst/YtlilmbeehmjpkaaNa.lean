/-
  Names, texts, numbers: both sides' tests, exactly.
-/
import Derived.Test.YtlilmbeehmjpkaaProg
import Derived.WalkKit
import Derived.ProofKit
import Derived.Laws.CopyOwn
import Derived.Deep.QuietTactic
import Derived.BigQuiet
namespace Go.Proofs.Ytlilmbeehmjpkaa
open Go.RowKit
theorem retB {b b' : Bool} (h : b = b') : Ending.returned (.bool b) = .returned (.bool b') := by rw [h]
def isLet (c : Int) : Bool := decide (97 ≤ c) && decide (c ≤ 122)
def isDig (c : Int) : Bool := decide (48 ≤ c) && decide (c ≤ 57)
def isInn (c : Int) : Bool := isLet c || isDig c || c == 95
def btw (x lo hi : Int) : Bool := decide (lo ≤ x) && decide (x ≤ hi)
def isNum (n : Int) : Bool := n != -9223372036854775808
def isTyp (n : Int) : Bool := n == 1 || n == 2
def arity (n : Int) : Int := if n ≤ 3 then 0 else if n = 11 ∨ n = 13 then 1 else 2
def allB (p : Int → Bool) (s : ByteArray) : Bool := s.data.toList.all fun c => p c.toNat
theorem allB_true {p : Int → Bool} {s : ByteArray} (h : ∀ j (hj : j < s.size), p s[j].toNat = true) : allB p s = true := by
  unfold allB
  rw [List.all_eq_true]
  intro c hc
  obtain ⟨j, hj, rfl⟩ := List.getElem_of_mem hc
  exact h j (by simpa using hj)
theorem allB_false {p : Int → Bool} {s : ByteArray} {j : Nat} (hj : j < s.size) (h : p s[j].toNat = false) : allB p s = false := by
  unfold allB
  rw [List.all_eq_false]
  exact ⟨s[j], List.getElem_mem (l := s.data.toList) (n := j) (by simpa using hj), by simp [h]⟩
def isTxt (c : Int) : Bool := btw c 32 126
def okText (s : ByteArray) : Bool := decide ((s.size : Int) ≤ 200) && allB isTxt s
set_option maxRecDepth 20000 in
set_option maxHeartbeats 1000000 in
theorem sLetter (c : Int) (w : World) : Calls Try.prog 45 #[.int .u8 c] w fun e w' => e = .returned (.bool (isLet c)) ∧ w' = w := by
  go_enter Try.func45, Try.ntmps45
  go_wp2
  all_goals
    go_ret
    exact ⟨retB (by simp [isLet]; omega), rfl⟩
set_option maxRecDepth 20000 in
set_option maxHeartbeats 1000000 in
theorem sBetween (x lo hi : Int) (w : World) : Calls Try.prog 44 #[.int .i64 x, .int .i64 lo, .int .i64 hi] w fun e w' => e = .returned (.bool (btw x lo hi)) ∧ w' = w := by
  go_enter Try.func44, Try.ntmps44
  go_wp2
  all_goals
    go_ret
    exact ⟨retB (by simp [btw]; omega), rfl⟩
set_option maxRecDepth 20000 in
set_option maxHeartbeats 1000000 in
theorem sInner (c : Int) (w : World) : Calls Try.prog 48 #[.int .u8 c] w fun e w' => e = .returned (.bool (isInn c)) ∧ w' = w := by
  go_enter Try.func48, Try.ntmps48
  go_wp2_with (go_at_call 45; refine (sLetter c _).mono ?_; rintro e w1 ⟨rfl, rfl⟩; rcases hb : isLet c)
  all_goals
    go_ret
    exact ⟨retB (Bool.eq_iff_iff.2 (by simp [isInn, isDig, hb] <;> omega)), rfl⟩
set_option maxRecDepth 20000 in
set_option maxHeartbeats 1000000 in
theorem sNumber (n : Int) (w : World) : Calls Try.prog 49 #[.int .i64 n] w fun e w' => e = .returned (.bool (isNum n)) ∧ w' = w := by
  go_enter Try.func49, Try.ntmps49
  go_wp2
  go_ret
  exact ⟨retB (by simp [isNum]), rfl⟩
set_option maxRecDepth 20000 in
set_option maxHeartbeats 1000000 in
theorem sType (n : Int) (w : World) : Calls Try.prog 37 #[.int .i64 n] w fun e w' => e = .returned (.bool (isTyp n)) ∧ w' = w := by
  go_enter Try.func37, Try.ntmps37
  go_wp2
  all_goals
    go_ret
    exact ⟨retB (by simp [isTyp, *]), rfl⟩
set_option maxRecDepth 20000 in
set_option maxHeartbeats 1000000 in
theorem sArity (n : Int) (w : World) : Calls Try.prog 43 #[.int .i64 n] w fun e w' => e = .returned (.int .i64 (arity n)) ∧ w' = w := by
  go_enter Try.func43, Try.ntmps43
  go_wp2
  all_goals
    go_ret
    exact ⟨by
      show Ending.returned (.int .i64 _) = _
      unfold arity
      try simp only [beq_iff_eq, beq_eq_false_iff_ne, ne_eq] at *
      congr 2
      (repeat' split) <;> omega, rfl⟩
theorem wr8 (c : UInt8) : wrap64 (c.toNat : Int) = c.toNat := by
  have := c.toNat_lt
  unfold wrap64
  omega
set_option maxRecDepth 20000 in
set_option maxHeartbeats 2000000 in
theorem sText (s : ByteArray) (w : World) (hs : s.size ≤ 1048576) : Calls Try.prog 50 #[.string s] w fun e w' => e = .returned (.bool (okText s)) ∧ w' = w := by
  go_enter Try.func50, Try.ntmps50
  go_wp2
  · go_ret
    exact ⟨retB (by simp [okText]; omega), rfl⟩
  · go_loop [3] (fun i => ∃ k : Nat, k ≤ s.size ∧ i = .int .i64 k ∧ ∀ j (h : j < s.size), j < k → btw s[j].toNat 32 126 = true) (fun i => s.size - (intOf i).toNat)
    case atStart => exact ⟨0, by omega, rfl, fun j _ h => by omega⟩
    case round =>
      obtain ⟨k, hk, rfl, hall⟩ := hrel
      by_cases hlt : k < s.size
      · go_wp2_with (go_at_call 44; refine (sBetween _ 32 126 _).mono ?_; rw [wr8]; rintro e w1 ⟨rfl, rfl⟩; rcases hb : btw s[k].toNat 32 126)
        · go_ret
          exact ⟨retB (by simp [okText, allB_false (p := isTxt) hlt hb]), rfl⟩
        · go_round
          case rel => exact ⟨k + 1, by omega, by go_num, fun j h hj => by
            by_cases e : j = k
            · subst e; exact hb
            · exact hall j h (by omega)⟩
          case measure => simp [intOf]; omega
      · go_wp2
        go_ret
        exact ⟨retB (by simp [okText, allB_true (p := isTxt) (fun j h => hall j h (by omega))] <;> omega), rfl⟩
theorem bytes_inj2 {a b : ByteArray} (h : a.toList = b.toList) : a = b := by
  rw [ByteArray.toList_eq, ByteArray.toList_eq] at h
  obtain ⟨⟨a⟩⟩ := a
  obtain ⟨⟨b⟩⟩ := b
  simp at h
  rw [h]
theorem eqS (a b : ByteArray) : (a.toList == b.toList) = decide (a = b) := by
  by_cases h : a = b
  · subst h; simp
  · simp [h]
    exact fun e => h (bytes_inj2 e)
theorem empty_iff (s : ByteArray) : s.toList = [] ↔ s.size = 0 := by
  rw [ByteArray.toList_eq]
  constructor
  · intro h
    have := congrArg List.length h
    simpa using this
  · intro h
    exact List.length_eq_zero_iff.1 (by simpa using h)
def head0 (s : ByteArray) : Int := if h : 0 < s.size then s[0].toNat else 0
theorem head0_eq {s : ByteArray} (h : 0 < s.size) : head0 s = s[0].toNat := by simp [head0, h]
def okWord (s : ByteArray) : Bool := decide (0 < s.size) && decide ((s.size : Int) ≤ 30) && isLet (head0 s) && allB isInn s
end Go.Proofs.Ytlilmbeehmjpkaa
