/-
  Names, texts, numbers: both sides' tests, exactly.
-/
import Derived.Test.YtfodndnkhgijmaaDoorProg
import Derived.WalkKit
import Derived.ProofKit
import Derived.Laws.CopyOwn
import Derived.Deep.QuietTactic
import Derived.BigQuiet
namespace Go.Proofs.YtfodndnkhgijmaaDoor
open Go.RowKit
theorem retB {b b' : Bool} (h : b = b') : Ending.returned (.bool b) = .returned (.bool b') := by rw [h]
def isLet (c : Int) : Bool := decide (97 ≤ c) && decide (c ≤ 122)
def isDig (c : Int) : Bool := decide (48 ≤ c) && decide (c ≤ 57)
def isInn (c : Int) : Bool := isLet c || isDig c || c == 95
def btw (x lo hi : Int) : Bool := decide (lo ≤ x) && decide (x ≤ hi)
def isNum (n : Int) : Bool := n != -9223372036854775808
def isTyp (n : Int) : Bool := n == 1 || n == 2
def arity (n : Int) : Int := if n ≤ 3 then 0 else if n = 11 ∨ n = 13 then 1 else 2
def allB (p : Int → Bool) (s : ByteArray) : Bool := s.data.toList.all fun c => p c.toNat
theorem allB_true {p : Int → Bool} {s : ByteArray} (h : ∀ j (hj : j < s.size), p s[j].toNat = true) : allB p s = true := by
  unfold allB
  rw [List.all_eq_true]
  intro c hc
  obtain ⟨j, hj, rfl⟩ := List.getElem_of_mem hc
  exact h j (by simpa using hj)
theorem allB_false {p : Int → Bool} {s : ByteArray} {j : Nat} (hj : j < s.size) (h : p s[j].toNat = false) : allB p s = false := by
  unfold allB
  rw [List.all_eq_false]
  exact ⟨s[j], List.getElem_mem (l := s.data.toList) (n := j) (by simpa using hj), by simp [h]⟩
def isTxt (c : Int) : Bool := btw c 32 126
def okText (s : ByteArray) : Bool := decide ((s.size : Int) ≤ 200) && allB isTxt s
set_option maxRecDepth 20000 in
set_option maxHeartbeats 1000000 in
theorem sLetter (c : Int) (w : World) : Calls Tryd.prog 83 #[.int .u8 c] w fun e w' => e = .returned (.bool (isLet c)) ∧ w' = w := by
  go_enter Tryd.func83, Tryd.ntmps83
  go_wp2
  all_goals
    go_ret
    exact ⟨retB (by simp [isLet]; omega), rfl⟩
set_option maxRecDepth 20000 in
set_option maxHeartbeats 1000000 in
theorem iLetter (c : Int) (w : World) : Calls Tryd.prog 115 #[.int .u8 c] w fun e w' => e = .returned (.bool (isLet c)) ∧ w' = w := by
  go_enter Tryd.func115, Tryd.ntmps115
  go_wp2
  all_goals
    go_ret
    exact ⟨retB (by simp [isLet]; omega), rfl⟩
set_option maxRecDepth 20000 in
set_option maxHeartbeats 1000000 in
theorem iDigit (c : Int) (w : World) : Calls Tryd.prog 126 #[.int .u8 c] w fun e w' => e = .returned (.bool (isDig c)) ∧ w' = w := by
  go_enter Tryd.func126, Tryd.ntmps126
  go_wp2
  all_goals
    go_ret
    exact ⟨retB (by simp [isDig]; omega), rfl⟩
set_option maxRecDepth 20000 in
set_option maxHeartbeats 1000000 in
theorem iTextByte (c : Int) (w : World) : Calls Tryd.prog 118 #[.int .u8 c] w fun e w' => e = .returned (.bool (isTxt c)) ∧ w' = w := by
  go_enter Tryd.func118, Tryd.ntmps118
  go_wp2
  all_goals
    go_ret
    exact ⟨retB (by simp [isTxt, btw]; omega), rfl⟩
set_option maxRecDepth 20000 in
set_option maxHeartbeats 1000000 in
theorem sBetween (x lo hi : Int) (w : World) : Calls Tryd.prog 66 #[.int .i64 x, .int .i64 lo, .int .i64 hi] w fun e w' => e = .returned (.bool (btw x lo hi)) ∧ w' = w := by
  go_enter Tryd.func66, Tryd.ntmps66
  go_wp2
  all_goals
    go_ret
    exact ⟨retB (by simp [btw]; omega), rfl⟩
set_option maxRecDepth 20000 in
set_option maxHeartbeats 1000000 in
theorem sInner (c : Int) (w : World) : Calls Tryd.prog 86 #[.int .u8 c] w fun e w' => e = .returned (.bool (isInn c)) ∧ w' = w := by
  go_enter Tryd.func86, Tryd.ntmps86
  go_wp2_with (go_at_call 83; refine (sLetter c _).mono ?_; rintro e w1 ⟨rfl, rfl⟩; rcases hb : isLet c)
  all_goals
    go_ret
    exact ⟨retB (Bool.eq_iff_iff.2 (by simp [isInn, isDig, hb] <;> omega)), rfl⟩
set_option maxRecDepth 20000 in
set_option maxHeartbeats 1000000 in
theorem iWordByte (c : Int) (w : World) : Calls Tryd.prog 117 #[.int .u8 c] w fun e w' => e = .returned (.bool (isInn c)) ∧ w' = w := by
  go_enter Tryd.func117, Tryd.ntmps117
  go_wp2_with (first | (go_at_call 115; refine (iLetter c _).mono ?_; rintro e w1 ⟨rfl, rfl⟩; rcases hb : isLet c) | (go_at_call 126; refine (iDigit c _).mono ?_; rintro e w1 ⟨rfl, rfl⟩; rcases hd : isDig c))
  all_goals
    go_ret
    exact ⟨retB (by simp [isInn, *]), rfl⟩
set_option maxRecDepth 20000 in
set_option maxHeartbeats 1000000 in
theorem sNumber (n : Int) (w : World) : Calls Tryd.prog 87 #[.int .i64 n] w fun e w' => e = .returned (.bool (isNum n)) ∧ w' = w := by
  go_enter Tryd.func87, Tryd.ntmps87
  go_wp2
  go_ret
  exact ⟨retB (by simp [isNum]), rfl⟩
set_option maxRecDepth 20000 in
set_option maxHeartbeats 1000000 in
theorem iNumber (n : Int) (w : World) : Calls Tryd.prog 95 #[.int .i64 n] w fun e w' => e = .returned (.bool (isNum n)) ∧ w' = w := by
  go_enter Tryd.func95, Tryd.ntmps95
  go_wp2
  go_ret
  exact ⟨retB (by simp [isNum]), rfl⟩
set_option maxRecDepth 20000 in
set_option maxHeartbeats 1000000 in
theorem sType (n : Int) (w : World) : Calls Tryd.prog 32 #[.int .i64 n] w fun e w' => e = .returned (.bool (isTyp n)) ∧ w' = w := by
  go_enter Tryd.func32, Tryd.ntmps32
  go_wp2
  all_goals
    go_ret
    exact ⟨retB (by simp [isTyp, *]), rfl⟩
set_option maxRecDepth 20000 in
set_option maxHeartbeats 1000000 in
theorem sArity (n : Int) (w : World) : Calls Tryd.prog 90 #[.int .i64 n] w fun e w' => e = .returned (.int .i64 (arity n)) ∧ w' = w := by
  go_enter Tryd.func90, Tryd.ntmps90
  go_wp2
  all_goals
    go_ret
    exact ⟨by
      show Ending.returned (.int .i64 _) = _
      unfold arity
      try simp only [beq_iff_eq, beq_eq_false_iff_ne, ne_eq] at *
      congr 2
      (repeat' split) <;> omega, rfl⟩
theorem wr8 (c : UInt8) : wrap64 (c.toNat : Int) = c.toNat := by
  have := c.toNat_lt
  unfold wrap64
  omega
set_option maxRecDepth 20000 in
set_option maxHeartbeats 2000000 in
theorem sText (s : ByteArray) (w : World) (hs : s.size ≤ 1048576) : Calls Tryd.prog 88 #[.string s] w fun e w' => e = .returned (.bool (okText s)) ∧ w' = w := by
  go_enter Tryd.func88, Tryd.ntmps88
  go_wp2
  · go_ret
    exact ⟨retB (by simp [okText]; omega), rfl⟩
  · go_loop [3] (fun i => ∃ k : Nat, k ≤ s.size ∧ i = .int .i64 k ∧ ∀ j (h : j < s.size), j < k → btw s[j].toNat 32 126 = true) (fun i => s.size - (intOf i).toNat)
    case atStart => exact ⟨0, by omega, rfl, fun j _ h => by omega⟩
    case round =>
      obtain ⟨k, hk, rfl, hall⟩ := hrel
      by_cases hlt : k < s.size
      · go_wp2_with (go_at_call 66; refine (sBetween _ 32 126 _).mono ?_; rw [wr8]; rintro e w1 ⟨rfl, rfl⟩; rcases hb : btw s[k].toNat 32 126)
        · go_ret
          exact ⟨retB (by simp [okText, allB_false (p := isTxt) hlt hb]), rfl⟩
        · go_round
          case rel => exact ⟨k + 1, by omega, by go_num, fun j h hj => by
            by_cases e : j = k
            · subst e; exact hb
            · exact hall j h (by omega)⟩
          case measure => simp [intOf]; omega
      · go_wp2
        go_ret
        exact ⟨retB (by simp [okText, allB_true (p := isTxt) (fun j h => hall j h (by omega))] <;> omega), rfl⟩
set_option maxRecDepth 20000 in
set_option maxHeartbeats 2000000 in
theorem begText (s : ByteArray) (w : World) (hs : s.size ≤ 1048576) : Calls Tryd.prog 116 #[.string s, .func (.func 118) #[] #[]] w fun e w' => ∃ n : Nat, e = .returned (.int .i64 n) ∧ w' = w ∧ (n = s.size ↔ allB isTxt s = true) := by
  go_enter Tryd.func116, Tryd.ntmps116
  go_wp2
  go_loop [5] (fun i => ∃ k : Nat, k ≤ s.size ∧ i = .int .i64 k ∧ ∀ j (h : j < s.size), j < k → isTxt s[j].toNat = true) (fun i => s.size - (intOf i).toNat)
  case atStart => exact ⟨0, by omega, rfl, fun j _ h => by omega⟩
  case round =>
    obtain ⟨k, hk, rfl, hall⟩ := hrel
    by_cases hlt : k < s.size
    · go_wp2_with (go_at_call 118; refine (iTextByte _ _).mono ?_; rintro e w1 ⟨rfl, rfl⟩; rcases hb : isTxt s[k].toNat)
      · go_ret
        exact ⟨k, rfl, rfl, by rw [allB_false (p := isTxt) hlt hb]; simp; omega⟩
      · go_round
        case rel => exact ⟨k + 1, by omega, by go_num, fun j h hj => by
          by_cases e : j = k
          · subst e; exact hb
          · exact hall j h (by omega)⟩
        case measure => simp [intOf]; omega
    · go_wp2
      go_ret
      exact ⟨k, rfl, rfl, by rw [allB_true (p := isTxt) (fun j h => hall j h (by omega))]; simp; omega⟩
set_option maxRecDepth 20000 in
set_option maxHeartbeats 2000000 in
theorem begWord (s : ByteArray) (w : World) (hs : s.size ≤ 1048576) : Calls Tryd.prog 116 #[.string s, .func (.func 117) #[] #[]] w fun e w' => ∃ n : Nat, e = .returned (.int .i64 n) ∧ w' = w ∧ (n = s.size ↔ allB isInn s = true) := by
  go_enter Tryd.func116, Tryd.ntmps116
  go_wp2
  go_loop [5] (fun i => ∃ k : Nat, k ≤ s.size ∧ i = .int .i64 k ∧ ∀ j (h : j < s.size), j < k → isInn s[j].toNat = true) (fun i => s.size - (intOf i).toNat)
  case atStart => exact ⟨0, by omega, rfl, fun j _ h => by omega⟩
  case round =>
    obtain ⟨k, hk, rfl, hall⟩ := hrel
    by_cases hlt : k < s.size
    · go_wp2_with (go_at_call 117; refine (iWordByte _ _).mono ?_; rintro e w1 ⟨rfl, rfl⟩; rcases hb : isInn s[k].toNat)
      · go_ret
        exact ⟨k, rfl, rfl, by rw [allB_false (p := isInn) hlt hb]; simp; omega⟩
      · go_round
        case rel => exact ⟨k + 1, by omega, by go_num, fun j h hj => by
          by_cases e : j = k
          · subst e; exact hb
          · exact hall j h (by omega)⟩
        case measure => simp [intOf]; omega
    · go_wp2
      go_ret
      exact ⟨k, rfl, rfl, by rw [allB_true (p := isInn) (fun j h => hall j h (by omega))]; simp; omega⟩
theorem bytes_inj2 {a b : ByteArray} (h : a.toList = b.toList) : a = b := by
  rw [ByteArray.toList_eq, ByteArray.toList_eq] at h
  obtain ⟨⟨a⟩⟩ := a
  obtain ⟨⟨b⟩⟩ := b
  simp at h
  rw [h]
theorem eqS (a b : ByteArray) : (a.toList == b.toList) = decide (a = b) := by
  by_cases h : a = b
  · subst h; simp
  · simp [h]
    exact fun e => h (bytes_inj2 e)
theorem empty_iff (s : ByteArray) : s.toList = [] ↔ s.size = 0 := by
  rw [ByteArray.toList_eq]
  constructor
  · intro h
    have := congrArg List.length h
    simpa using this
  · intro h
    exact List.length_eq_zero_iff.1 (by simpa using h)
set_option maxRecDepth 20000 in
set_option maxHeartbeats 2000000 in
theorem iText (s : ByteArray) (w : World) (hs : s.size ≤ 1048576) : Calls Tryd.prog 96 #[.string s] w fun e w' => e = .returned (.bool (okText s)) ∧ w' = w := by
  go_enter Tryd.func96, Tryd.ntmps96
  go_wp2_with (go_at_call 116; refine (begText s _ hs).mono ?_; rintro e w1 ⟨n, rfl, rfl, hn⟩)
  all_goals
    go_ret
    refine ⟨retB (Bool.eq_iff_iff.2 ?_), rfl⟩
    first
      | (simp [okText, ← hn] <;> omega)
      | (simp [okText] <;> omega)
def head0 (s : ByteArray) : Int := if h : 0 < s.size then s[0].toNat else 0
theorem head0_eq {s : ByteArray} (h : 0 < s.size) : head0 s = s[0].toNat := by simp [head0, h]
def okWord (s : ByteArray) : Bool := decide (0 < s.size) && decide ((s.size : Int) ≤ 30) && isLet (head0 s) && allB isInn s
set_option maxRecDepth 20000 in
set_option maxHeartbeats 2000000 in
theorem iWord (s : ByteArray) (w : World) (hs : s.size ≤ 1048576) : Calls Tryd.prog 94 #[.string s] w fun e w' => e = .returned (.bool (okWord s)) ∧ w' = w := by
  go_enter Tryd.func94, Tryd.ntmps94
  by_cases h0 : 0 < s.size
  · have h0' : ¬ s.toList = [] := fun h => by have := (empty_iff s).1 h; omega
    go_wp2_with (first | (go_at_call 115; refine (iLetter _ _).mono ?_; rintro e w1 ⟨rfl, rfl⟩; rcases hb : isLet s[0].toNat) | (go_at_call 116; refine (begWord s _ hs).mono ?_; rintro e w1 ⟨n, rfl, rfl, hn⟩))
    all_goals
      go_ret
      refine ⟨retB (Bool.eq_iff_iff.2 ?_), rfl⟩
      first
        | (rcases ha : allB isInn s <;> simp [ha] at hn <;> simp [okWord, head0_eq h0, hb, ha, h0'] <;> omega)
        | (simp [okWord, head0_eq h0, hb] <;> omega)
        | (simp [okWord] <;> omega)
  · have h0' : s.toList = [] := (empty_iff s).2 (by omega)
    go_wp2
    go_ret
    exact ⟨retB (by simp [okWord, h0]), rfl⟩
end Go.Proofs.YtfodndnkhgijmaaDoor
