/-
  ScanFrames: the program's side.
-/
import Derived.Test.YtngppfjphbodcaaGreatDoorPh
import Derived.Lib.Atoi
import Derived.Lib.SmallJoins
import Derived.Test.YtngppfjphbodcaaGreatDoorHm
import Derived.Test.YtngppfjphbodcaaGreatDoorShelf
import Derived.RangeFuncNested
import Derived.RangeFuncBox
import Derived.RangeFuncBound
import Derived.RangeFuncCalls
import Derived.RangeFuncLeaves
import Derived.Shelf.Abstract
import Derived.Shelf.RegionOpen
import Derived.OwnWalkIn
import Derived.TacticsInMore
import Derived.LoopNIn
import Derived.LoopIn
import Derived.Maps.AppendAt
namespace Go.Proofs.YtngppfjphbodcaaGreatDoor
open Go.RowKit
def SEG : ByteArray := ⟨#[115, 101, 103, 45]⟩
/-- The digits of a segment's name. -/
def dgs4 (s : ByteArray) : List UInt8 := (s.data.toList.drop 4)
/-- The number of a segment, 0 for another name. -/
def segN (s : ByteArray) : Nat := if s.size = 8 ∧ s.data.toList.take 4 = [115, 101, 103, 45] then (Lib.decFrom 0 (dgs4 s)).getD 0 else 0
theorem dec_none : ∀ (l : List UInt8) (acc : Nat), (∃ b ∈ l, Lib.digitVal b = none) → Lib.decFrom acc l = none := by
  intro l
  induction l with
  | nil => intro _ ⟨b, hb, _⟩; cases hb
  | cons c r ih =>
    intro acc ⟨b, hb, h⟩
    unfold Lib.decFrom
    rcases List.mem_cons.1 hb with rfl | hb
    · rw [h]
    · cases Lib.digitVal c with
      | none => rfl
      | some d => exact ih _ ⟨b, hb, h⟩
theorem dec_some : ∀ (l : List UInt8) (acc : Nat), (∀ b ∈ l, isDig b.toNat = true) → ∃ n, Lib.decFrom acc l = some n ∧ n < (acc + 1) * 10 ^ l.length := by
  intro l
  induction l with
  | nil => intro acc _; exact ⟨acc, rfl, by simp⟩
  | cons c r ih =>
    intro acc h
    have hc := h c (by simp)
    unfold isDig at hc
    simp only [Bool.and_eq_true, decide_eq_true_eq] at hc
    obtain ⟨n, hn, hl⟩ := ih (acc * 10 + (c.toNat - 48)) (fun b hb => h b (by simp [hb]))
    refine ⟨n, ?_, ?_⟩
    · unfold Lib.decFrom Lib.digitVal
      rw [if_pos (by omega)]
      exact hn
    · refine Nat.lt_of_lt_of_le hl ?_
      rw [List.length_cons, Nat.pow_succ, show (acc + 1) * (10 ^ r.length * 10) = ((acc + 1) * 10) * 10 ^ r.length by rw [Nat.mul_comm (10 ^ r.length) 10, ← Nat.mul_assoc]]
      exact Nat.mul_le_mul_right _ (by omega)
theorem nodig {b : UInt8} (h : isDig b.toNat = false) : Lib.digitVal b = none := by
  unfold isDig at h
  unfold Lib.digitVal
  rw [if_neg]
  simp only [Bool.and_eq_false_iff, decide_eq_false_iff_not] at h
  omega
theorem digv {b : UInt8} (h : isDig b.toNat = true) : Lib.digitVal b = some (b.toNat - 48) := by
  unfold isDig at h
  unfold Lib.digitVal
  simp only [Bool.and_eq_true, decide_eq_true_eq] at h
  rw [if_pos (by omega)]
theorem dg_at {s : ByteArray} (k : Nat) (h : 4 + k < s.size) : (dgs4 s)[k]? = some s[4 + k] := by
  unfold dgs4
  rw [List.getElem?_drop, List.getElem?_eq_getElem (by simpa using h)]
  rfl
theorem pre_ext (s : ByteArray) : (s.extract 0 4).toList = s.data.toList.take 4 := by
  rw [ByteArray.toList_eq]
  simp
theorem segN_lt (s : ByteArray) : segN s < 10000 := by
  unfold segN
  split
  · rename_i h
    by_cases hd : ∀ b ∈ dgs4 s, isDig b.toNat = true
    · obtain ⟨n, hn, hl⟩ := dec_some _ 0 hd
      have hz : (dgs4 s).length = 4 := by unfold dgs4; simp [h.1]
      rw [hz] at hl
      rw [hn]
      simpa using hl
    · have : ∃ b ∈ dgs4 s, Lib.digitVal b = none := by
        simp only [Classical.not_forall] at hd
        obtain ⟨b, hb, hx⟩ := hd
        exact ⟨b, hb, nodig (by simpa using hx)⟩
      rw [dec_none _ 0 this]
      decide
  · decide
theorem seg_no {s : ByteArray} (h : ¬ (s.size = 8 ∧ s.data.toList.take 4 = [115, 101, 103, 45])) : segN s = 0 := by unfold segN; rw [if_neg h]
set_option maxRecDepth 20000 in
set_option maxHeartbeats 4000000 in
theorem sNumber (s : ByteArray) (w : World) (y : Nat) (hy : segN s = y) (hs : s.size ≤ 2097152) : Calls Tryz.prog 21 #[.string s] w fun e w' => e = .returned (.int .i64 (y : Int)) ∧ w' = w := by
  have HY : Hid (segN s = y) := hy
  clear hy
  by_cases h8 : s.size = 8
  · have h8' : ((s.size : Int) != 8) = false := by simp; omega
    have h4 : 4 ≤ s.size := by omega
    have hnot : ¬ 9223372036854775807 < s.size := by omega
    rcases hq : ((s.extract 0 4).toList == [115, 101, 103, 45])
    · have HE : Hid (0 = y) := by
        rw [pre_ext] at hq
        show 0 = y
        rw [← HY.out, seg_no (fun h => by rw [h.2] at hq; cases hq)]
      clear h8
      go_enter Tryz.func21, Tryz.ntmps21
      go_wp2
      go_ret
      exact ⟨by rw [← HE.out]; rfl, rfl⟩
    · have hp : s.data.toList.take 4 = [115, 101, 103, 45] := by rw [pre_ext] at hq; simpa using hq
      have HZ : Hid (segN s = (Lib.decFrom 0 (dgs4 s)).getD 0) := by show _ = _; unfold segN; rw [if_pos ⟨h8, hp⟩]
      have HL4 : Hid ((dgs4 s).length = 4) := by show _ = _; unfold dgs4; simp [h8]
      have hle8 : s.size ≤ 8 := by omega
      have hge8 : 8 ≤ s.size := by omega
      clear hp h8
      go_enter Tryz.func21, Tryz.ntmps21
      go_wp2
      go_loop [3, 4] (fun x i => ∃ (j n : Nat), 4 ≤ j ∧ j ≤ 8 ∧ n ≤ 9999 ∧ n < 10 ^ (j - 4) ∧ x = .int .i64 n ∧ i = .int .i64 j ∧ Lib.decFrom 0 ((dgs4 s).take (j - 4)) = some n) (fun _ i => 8 - (intOf i).toNat)
      case atStart => exact ⟨4, 0, by omega, by omega, by omega, by decide, rfl, rfl, by rfl⟩
      case round =>
        obtain ⟨j, n, hj4, hj8, hn, hn', rfl, rfl, hd⟩ := hrel
        have HD : Hid (Lib.decFrom 0 ((dgs4 s).take (j - 4)) = some n) := hd
        clear hd
        by_cases hlt : j < 8
        · have hlt' : j < s.size := by omega
          have hat : (dgs4 s)[j - 4]? = some s[j] := by
            have := dg_at (s := s) (j - 4) (by omega)
            rw [this]
            simp [show 4 + (j - 4) = j by omega]
          have HA : Hid ((dgs4 s)[j - 4]? = some s[j]) := hat
          clear hat
          rcases hd : isDig s[j].toNat
          · have hbt : btw (s[j].toNat : Int) 48 57 = false := hd
            have HE : Hid (0 = y) := by
              show 0 = y
              rw [← HY.out, HZ.out, dec_none _ 0 ⟨s[j], List.mem_of_getElem? HA.out, nodig hd⟩]
              rfl
            clear hd
            go_wp2_with (go_at_call 33; refine (sBetween _ 48 57 _).mono ?_; rw [wr8]; rintro e w1 ⟨rfl, rfl⟩)
            go_ret
            exact ⟨by rw [← HE.out]; rfl, rfl⟩
          · have hbt : btw (s[j].toNat : Int) 48 57 = true := hd
            have hdd := hd
            unfold isDig at hdd
            simp only [Bool.and_eq_true, decide_eq_true_eq] at hdd
            obtain ⟨hd1, hd2⟩ := hdd
            have hu8 : IntKind.u8.wrap ((s[j].toNat : Int) - 48) = (s[j].toNat : Int) - 48 := by rw [IntKind.wrap_u8']; omega
            have HS : Hid (Lib.decFrom 0 ((dgs4 s).take (j + 1 - 4)) = some (n * 10 + (s[j].toNat - 48))) := by
              have := Lib.decFrom_take (dgs4 s) (j - 4) 0 n s[j] (s[j].toNat - 48) HD.out HA.out (digv hd)
              rw [show j - 4 + 1 = j + 1 - 4 by omega] at this
              exact this
            have hpw : n * 10 + (s[j].toNat - 48) < 10 ^ (j + 1 - 4) := by
              rw [show j + 1 - 4 = (j - 4) + 1 by omega, Nat.pow_succ]
              omega
            have hle : n * 10 + (s[j].toNat - 48) ≤ 9999 := by
              have : 10 ^ (j + 1 - 4) ≤ 10 ^ 4 := Nat.pow_le_pow_right (by omega) (by omega)
              omega
            have HP : Hid (n * 10 + (s[j].toNat - 48) < 10 ^ (j + 1 - 4)) := hpw
            clear hd hpw hn'
            obtain ⟨c, hc⟩ : ∃ c : Nat, s[j].toNat - 48 = c := ⟨_, rfl⟩
            rw [hc] at hle HP HS
            have hc' : (s[j].toNat : Int) - 48 = c := by omega
            rw [hc'] at hu8
            have HC : Hid ((s[j].toNat : Int) - 48 = c) := hc'
            clear hc
            go_wp2_with (go_at_call 33; refine (sBetween _ 48 57 _).mono ?_; rintro e w1 ⟨rfl, rfl⟩)
            go_round
            case rel => exact ⟨j + 1, n * 10 + c, by omega, by omega, hle, HP.out, by go_num, by go_num, HS.out⟩
            case measure => simp [intOf]; omega
        · have hge : ¬ (j : Int) < 8 := by omega
          have HE : Hid (n = y) := by
            show n = y
            have h1 := HD.out
            rw [List.take_of_length_le (by have := HL4.out; omega)] at h1
            rw [← HY.out, HZ.out, h1]
            rfl
          go_wp2
          go_ret
          exact ⟨by rw [← HE.out]; rfl, rfl⟩
  · have h8' : ((s.size : Int) != 8) = true := by simp; omega
    have HE : Hid (0 = y) := by
      show 0 = y
      rw [← HY.out, seg_no (fun h => h8 h.1)]
    clear h8
    go_enter Tryz.func21, Tryz.ntmps21
    go_wp2
    go_ret
    exact ⟨by rw [← HE.out]; rfl, rfl⟩
set_option maxRecDepth 20000 in
set_option maxHeartbeats 2000000 in
theorem begDg (s : ByteArray) (w : World) (hs : s.size ≤ 2097152) : Calls Tryz.prog 53 #[.string s, .func (.func 64) #[] #[]] w fun e w' => ∃ n : Nat, e = .returned (.int .i64 n) ∧ w' = w ∧ (n = s.size ↔ allB isDig s = true) := by
  go_enter Tryz.func53, Tryz.ntmps53
  go_wp2
  go_loop [5] (fun i => ∃ k : Nat, k ≤ s.size ∧ i = .int .i64 k ∧ ∀ j (h : j < s.size), j < k → isDig s[j].toNat = true) (fun i => s.size - (intOf i).toNat)
  case atStart => exact ⟨0, by omega, rfl, fun j _ h => by omega⟩
  case round =>
    obtain ⟨k, hk, rfl, hall⟩ := hrel
    by_cases hlt : k < s.size
    · go_wp2_with (go_at_call 64; refine (iDigit _ _).mono ?_; rintro e w1 ⟨rfl, rfl⟩; rcases hb : isDig s[k].toNat)
      · go_ret
        exact ⟨k, rfl, rfl, by rw [allB_false (p := isDig) hlt hb]; simp; omega⟩
      · go_round
        case rel => exact ⟨k + 1, by omega, by go_num, fun j h hj => by
          by_cases e : j = k
          · subst e; exact hb
          · exact hall j h (by omega)⟩
        case measure => simp [intOf]; omega
    · go_wp2
      go_ret
      exact ⟨k, rfl, rfl, by rw [allB_true (p := isDig) (fun j h => hall j h (by omega))]; simp; omega⟩
set_option maxRecDepth 20000 in
set_option maxHeartbeats 2000000 in
theorem iCut0 (s : ByteArray) (w : World) (_hs : s.size ≤ 2097152) (hp : Lib.hasPrefix s.data.toList [115, 101, 103, 45] = false) : Calls Tryz.prog 89 #[.string s, .string ⟨#[115, 101, 103, 45]⟩] w fun e w' => e = .returned (.tuple #[.string s, .bool false]) ∧ w' = w := by
  have hc := Tryz.stringslite_HasPrefix s ⟨#[115, 101, 103, 45]⟩ w
  rw [show (⟨#[115, 101, 103, 45]⟩ : ByteArray).data.toList = [115, 101, 103, 45] from rfl, hp] at hc
  clear hp
  go_enter Tryz.func89, Tryz.ntmps89
  go_wp2_with (go_at_call 98; refine hc.mono ?_; rintro e w1 ⟨rfl, rfl⟩)
  go_ret2
  exact ⟨rfl, rfl⟩
set_option maxRecDepth 20000 in
set_option maxHeartbeats 2000000 in
theorem iCut1 (s : ByteArray) (w : World) (hs : s.size ≤ 2097152) (h4 : 4 ≤ s.size) (hp : Lib.hasPrefix s.data.toList [115, 101, 103, 45] = true) : Calls Tryz.prog 89 #[.string s, .string ⟨#[115, 101, 103, 45]⟩] w fun e w' => e = .returned (.tuple #[.string (s.extract 4 s.size), .bool true]) ∧ w' = w := by
  have hc := Tryz.stringslite_HasPrefix s ⟨#[115, 101, 103, 45]⟩ w
  rw [show (⟨#[115, 101, 103, 45]⟩ : ByteArray).data.toList = [115, 101, 103, 45] from rfl, hp] at hc
  have hz : (⟨#[115, 101, 103, 45]⟩ : ByteArray).size = 4 := rfl
  have h4' : (4 : Int) ≤ s.size := by omega
  clear hp
  go_enter Tryz.func89, Tryz.ntmps89
  go_wp2_with (go_at_call 98; refine hc.mono ?_; rintro e w1 ⟨rfl, rfl⟩)
  go_ret2
  exact ⟨rfl, rfl⟩
set_option maxRecDepth 20000 in
set_option maxHeartbeats 2000000 in
theorem jCut0 (s : ByteArray) (w : World) (hs : s.size ≤ 2097152) (hp : Lib.hasPrefix s.data.toList [115, 101, 103, 45] = false) : Calls Tryz.prog 85 #[.string s, .string ⟨#[115, 101, 103, 45]⟩] w fun e w' => e = .returned (.tuple #[.string s, .bool false]) ∧ w' = w := by
  have hc := iCut0 s w hs hp
  clear hp
  go_enter Tryz.func85, Tryz.ntmps85
  go_wp2_with (go_at_call 89; refine hc.mono ?_; rintro e w1 ⟨rfl, rfl⟩)
  go_ret2
  exact ⟨rfl, rfl⟩
set_option maxRecDepth 20000 in
set_option maxHeartbeats 2000000 in
theorem jCut1 (s : ByteArray) (w : World) (hs : s.size ≤ 2097152) (h4 : 4 ≤ s.size) (hp : Lib.hasPrefix s.data.toList [115, 101, 103, 45] = true) : Calls Tryz.prog 85 #[.string s, .string ⟨#[115, 101, 103, 45]⟩] w fun e w' => e = .returned (.tuple #[.string (s.extract 4 s.size), .bool true]) ∧ w' = w := by
  have hc := iCut1 s w hs h4 hp
  clear hp
  go_enter Tryz.func85, Tryz.ntmps85
  go_wp2_with (go_at_call 89; refine hc.mono ?_; rintro e w1 ⟨rfl, rfl⟩)
  go_ret2
  exact ⟨rfl, rfl⟩
theorem pre_iff (l : List UInt8) : Lib.hasPrefix l [115, 101, 103, 45] = true ↔ l.take 4 = [115, 101, 103, 45] := by
  unfold Lib.hasPrefix
  rw [List.isPrefixOf_iff_prefix, List.prefix_iff_eq_take]
  exact ⟨fun h => h.symm, fun h => h.symm⟩
theorem ext4 (s : ByteArray) : (s.extract 4 s.size).data.toList = dgs4 s := by
  unfold dgs4
  simp
  rw [List.take_of_length_le]
  simp
theorem atoi4 (l : List UInt8) (h : ∀ b ∈ l, isDig b.toNat = true) (h0 : l ≠ []) (n : Nat) (hn : Lib.decFrom 0 l = some n) : Lib.atoi l = some (n : Int) := by
  cases l with
  | nil => exact absurd rfl h0
  | cons b r =>
    have hb := h b (by simp)
    unfold isDig at hb
    simp only [Bool.and_eq_true, decide_eq_true_eq] at hb
    have h1 : (b == 45) = false := by
      rw [beq_eq_false_iff_ne]; rintro rfl; revert hb; decide
    have h2 : (b == 43) = false := by
      rw [beq_eq_false_iff_ne]; rintro rfl; revert hb; decide
    have h3 : Lib.decNat (b :: r) = some n := by unfold Lib.decNat; exact hn
    show (if b == 45 then _ else if b == 43 then _ else _) = _
    rw [h1, h2, if_neg (by decide), if_neg (by decide), h3]
    rfl
set_option maxRecDepth 20000 in
set_option maxHeartbeats 4000000 in
theorem iNumber (s : ByteArray) (w : World) (y : Nat) (hy : segN s = y) (hs : s.size ≤ 2097152) : Calls Tryz.prog 73 #[.string s] w fun e w' => e = .returned (.int .i64 (y : Int)) ∧ Below w.heap.size w w' := by
  rcases hp : Lib.hasPrefix s.data.toList [115, 101, 103, 45]
  · have HE : Hid (0 = y) := by
      show 0 = y
      rw [← hy, seg_no (fun h => by rw [(pre_iff _).2 h.2] at hp; cases hp)]
    have hc := jCut0 s w hs hp
    clear hp hy
    go_enter Tryz.func73, Tryz.ntmps73
    go_wp2_with (go_at_call 85; refine hc.mono ?_; rintro e w1 ⟨rfl, rfl⟩)
    go_ret
    exact ⟨by rw [← HE.out]; rfl, Below.refl _ _⟩
  · have hp' := (pre_iff _).1 hp
    have h4 : 4 ≤ s.size := by
      have := congrArg List.length hp'
      simp at this
      omega
    have hc := jCut1 s w hs h4 hp
    have hex := ext4 s
    have hxz : (s.extract 4 s.size).size = s.size - 4 := by simp
    obtain ⟨t, ht⟩ : ∃ t, s.extract 4 s.size = t := ⟨_, rfl⟩
    rw [ht] at hc hex hxz
    have ht4 : t.size ≤ 2097152 := by omega
    have hbg := begDg t w ht4
    by_cases h8 : s.size = 8
    · have h44 : ((t.size : Int) != 4) = false := by simp; omega
      have hal : allB isDig t = true ↔ ∀ b ∈ dgs4 s, isDig b.toNat = true := by
        unfold allB
        rw [List.all_eq_true, hex]
      by_cases ha : ∀ b ∈ dgs4 s, isDig b.toNat = true
      · obtain ⟨n, hn, hlt⟩ := dec_some _ 0 ha
        have hat := Tryz.strconv_Atoi t n (by omega) (by rw [hex]; exact atoi4 _ ha (by intro e; rw [← hex] at e; have e' := congrArg List.length e; rw [show t.data.toList.length = t.size from rfl, List.length_nil] at e'; omega) n hn) w
        have HE : Hid (n = y) := by
          show n = y
          rw [← hy]
          unfold segN
          rw [if_pos ⟨h8, hp'⟩, hn]
          rfl
        rw [hal.2 ha] at hbg
        have hbg' : Calls Tryz.prog 53 #[.string t, .func (.func 64) #[] #[]] w fun e w' => e = .returned (.int .i64 4) ∧ w' = w := by
          refine hbg.mono ?_
          rintro e w' ⟨m, rfl, rfl, hm⟩
          obtain rfl : m = t.size := hm.2 rfl
          exact ⟨by rw [show (t.size : Int) = 4 by omega], rfl⟩
        clear hbg hal ha hn hlt hy hp hp' ht hex hxz h8
        go_enter Tryz.func73, Tryz.ntmps73
        go_wp2_with (first | (go_at_call 85; refine hc.mono ?_; rintro e w1 ⟨rfl, rfl⟩) | (go_at_call 53; refine hbg'.mono ?_; rintro e w1 ⟨rfl, rfl⟩) | (go_at_call 86; refine hat.mono ?_; rintro e w1 ⟨rfl, tt, rfl⟩))
        go_ret
        exact ⟨by rw [← HE.out]; rfl, Joins.below_bytesWorld _ _ _ _ (Nat.le_refl _)⟩
      · have HE : Hid (0 = y) := by
          show 0 = y
          have : ∃ b ∈ dgs4 s, Lib.digitVal b = none := by
            simp only [Classical.not_forall] at ha
            obtain ⟨b, hb, hx⟩ := ha
            exact ⟨b, hb, nodig (by simpa using hx)⟩
          rw [← hy]
          unfold segN
          rw [dec_none _ 0 this]
          simp
        have hbg' : Calls Tryz.prog 53 #[.string t, .func (.func 64) #[] #[]] w fun e w' => ∃ m : Nat, e = .returned (.int .i64 m) ∧ ((m : Int) != 4) = true ∧ w' = w := by
          refine hbg.mono ?_
          rintro e w' ⟨m, rfl, rfl, hm⟩
          refine ⟨m, rfl, ?_, rfl⟩
          have : m ≠ t.size := fun e => ha (hal.1 (hm.1 e))
          simp
          omega
        clear hbg hal ha hy hp hp' ht hex hxz h8
        go_enter Tryz.func73, Tryz.ntmps73
        go_wp2_with (first | (go_at_call 85; refine hc.mono ?_; rintro e w1 ⟨rfl, rfl⟩) | (go_at_call 53; refine hbg'.mono ?_; rintro e w1 ⟨m, rfl, hm, rfl⟩))
        go_ret
        exact ⟨by rw [← HE.out]; rfl, Below.refl _ _⟩
    · have HE : Hid (0 = y) := by
        show 0 = y
        rw [← hy, seg_no (fun h => h8 h.1)]
      have h44 : ((t.size : Int) != 4) = true := by simp; omega
      clear hbg hy hp hp' ht hex hxz h8
      go_enter Tryz.func73, Tryz.ntmps73
      go_wp2_with (go_at_call 85; refine hc.mono ?_; rintro e w1 ⟨rfl, rfl⟩)
      go_ret
      exact ⟨by rw [← HE.out]; rfl, Below.refl _ _⟩
theorem segN_seg (n : Nat) (h : n ≤ 9999) : segN (seg n) = n := by
  have e : (seg n).data.toList = [115, 101, 103, 45, UInt8.ofNat (48 + n / 10 / 10 / 10 % 10), UInt8.ofNat (48 + n / 10 / 10 % 10), UInt8.ofNat (48 + n / 10 % 10), UInt8.ofNat (48 + n % 10)] := rfl
  have hd : ∀ m : Nat, Lib.digitVal (UInt8.ofNat (48 + m % 10)) = some (m % 10) := fun m => by
    unfold Lib.digitVal
    have : (UInt8.ofNat (48 + m % 10)).toNat = 48 + m % 10 := by simp; omega
    rw [this, if_pos (by omega)]
    simp
  unfold segN dgs4
  rw [if_pos ⟨seg_size n, by rw [e]; rfl⟩, e]
  simp only [List.drop_succ_cons, List.drop_zero, Lib.decFrom, hd, Option.getD_some]
  omega
theorem seg_inj {m n : Nat} (hm : m ≤ 9999) (hn : n ≤ 9999) (h : seg m = seg n) : m = n := by
  rw [← segN_seg m hm, ← segN_seg n hn, h]
end Go.Proofs.YtngppfjphbodcaaGreatDoor
namespace Go.Proofs.YtngppfjphbodcaaGreatDoor
open Go.RowKit Go.Shelf
attribute [local go_sem] Oper.semAt_some
theorem Ch.ext {s : ByteArray} {L L' : List ByteArray} {a b b' : Nat} (h : Ch s a L b) (h' : Ch s a L' b') (e : (fst (rst s b)).size ≠ 0) (e' : (fst (rst s b')).size = 0) : ∃ r, L' = L ++ fst (rst s b) :: r := by
  induction L generalizing a L' with
  | nil =>
    obtain rfl : a = b := h
    cases L' with
    | nil =>
      obtain rfl : a = b' := h'
      exact absurd e' e
    | cons y ys => exact ⟨ys, by rw [h'.1]; rfl⟩
  | cons x xs ih =>
    obtain ⟨h1, h2, h3⟩ := h
    cases L' with
    | nil =>
      obtain rfl : a = b' := h'
      rw [h1] at h2
      exact absurd e' h2
    | cons y ys =>
      obtain ⟨k1, k2, k3⟩ := h'
      obtain rfl : x = y := h1.trans k1.symm
      obtain ⟨r, hr⟩ := ih h3 k3
      exact ⟨r, by rw [hr]; rfl⟩
theorem Ch.there (s : ByteArray) (a : Nat) (h : a ≤ s.size) : ∃ L b, Ch s a L b ∧ (fst (rst s b)).size = 0 ∧ b ≤ s.size ∧ L.length + a ≤ b := by
  have key : ∀ m a, s.size - a ≤ m → a ≤ s.size → ∃ L b, Ch s a L b ∧ (fst (rst s b)).size = 0 ∧ b ≤ s.size ∧ L.length + a ≤ b := by
    intro m
    induction m with
    | zero =>
      intro a hm ha
      by_cases h0 : (fst (rst s a)).size = 0
      · exact ⟨[], a, rfl, h0, ha, by simp⟩
      · have := rst_fits ha h0
        omega
    | succ m ih =>
      intro a hm ha
      by_cases h0 : (fst (rst s a)).size = 0
      · exact ⟨[], a, rfl, h0, ha, by simp⟩
      · have := rst_fits ha h0
        obtain ⟨L, b, h1, h2, h3, h4⟩ := ih (a + (8 + (fst (rst s a)).size)) (by omega) this
        exact ⟨_ :: L, b, ⟨rfl, h0, h1⟩, h2, h3, by simp; omega⟩
  exact key _ a (Nat.le_refl _) h
/-- What a round must keep: the tables. -/
def KT (A B : World) : Prop := ∀ (b : Nat) X, A.heap[b]? = some (.cells X 103 (0, 0)) → B.heap[b]? = some (.cells X 103 (0, 0))
theorem KT.t {A B C : World} (h : KT A B) (k : KT B C) : KT A C := fun b X hX => k b X (h b X hX)
theorem KT.of {A B : World} (h : Below A.heap.size A B) : KT A B := fun _ _ hX => rowL' hX h
  where rowL' {w w' : World} {B : Nat} {o : Obj} (h : w.heap[B]? = some o) (hb : Below w.heap.size w w') : w'.heap[B]? = some o := (hb.block B (Array.getElem?_eq_some_iff.1 h).1).trans h
theorem below_gr {A B : World} (h : Below A.heap.size A B) : A.grownBy B none := ⟨h.os, h.tape, h.output, h.size, fun k hk _ => h.block k hk⟩
theorem lrow {P : Program} {F : Fence} {n : Nat} {ops : Array Oper} {rest : List Oper} {o : Oper} {a : Act} {w : World} {Q : Exit → Act → World → Prop} (hgd : o.guard = none) (ty : TypeId) (x : Operand) (ho : o.op = .load ty x)
    (g : Nat) (hx : a.eval x = .pointer (some ⟨g, 0, none⟩)) (t : TypeId) (cs : Array Value) (fr : Nat × Nat) (d : TypeDesc) (hg : w.heap[g]? = some (.cells cs t fr))
    (hu : P.underlying ty = some d) (hd : (match d with | .struct _ | .array _ _ => true | _ => false) = true) (hi : (P.info? ty).map (·.size) = some cs.size)
    (h : wpListIn F n P ops Q rest (a.put o.dst (.agg cs)) w) : wpListIn F n P ops Q (o :: rest) a w := by
  refine wpListIn_plain hgd fun K hK => ?_
  unfold Oper.wpIn
  refine ⟨?_, ?_⟩
  · simp [Oper.about, ho]
  · rw [Oper.semAt_plain F _ _ (by rw [ho]; intro c hc'; cases hc')]
    unfold execOp
    simp only [ho, hx, Instr.loadAt, Instr.sureAddr, Sem.run_bind, Sem.run_pure, Result.andThen_ok, run_loadVar_row w g t ty cs fr d hg hu hd hi]
    exact hK _ _ h
theorem srow {P : Program} {F : Fence} {n : Nat} {ops : Array Oper} {rest : List Oper} {o : Oper} {a : Act} {w : World} {Q : Exit → Act → World → Prop} (hgd : o.guard = none) (ty : TypeId) (x y : Operand) (ho : o.op = .store ty x y)
    (g : Nat) (cells : Array Value) (hx : a.eval x = .pointer (some ⟨g, 0, none⟩)) (hy : a.eval y = .agg cells)
    (t : TypeId) (old : Array Value) (hg : w.heap[g]? = some (.cells old t (0, 0))) (hi : (P.info? ty).map (·.size) = some cells.size)
    (hold : old.size = cells.size) (h1 : cells.all (·.oneCell') = true)
    (h : wpListIn F n P ops Q rest (a.put o.dst undef) (w.setRow g cells)) : wpListIn F n P ops Q (o :: rest) a w := by
  refine wpListIn_plain hgd fun K hK => ?_
  unfold Oper.wpIn
  refine ⟨?_, ?_⟩
  · simp [Oper.about, ho]
  · rw [Oper.semAt_plain F _ _ (by rw [ho]; intro c hc'; cases hc')]
    unfold execOp
    simp only [ho, hx, hy, Instr.storeAt, Instr.sureAddr, Sem.run_bind, Sem.run_pure, Result.andThen_ok, run_storeVar_row w g t ty old cells hg hi hold h1]
    exact hK _ _ h
theorem iClone (s : ByteArray) (w : World) (hs : s.size ≤ 1048576) : Calls Tryz.prog 72 #[.string s] w fun e w' => e = .returned (.string s) ∧ Below w.heap.size w w' := by
  go_enter Tryz.func72, Tryz.ntmps72
  go_wp2_with (go_at_call 84; refine (Tryz.stringslite_Clone s _ (by omega)).mono ?_; rintro e w1 ⟨rfl, hb1⟩)
  go_ret
  exact ⟨rfl, hb1⟩
def szOf : Value → Nat
  | .string x => x.size
  | _ => 0
theorem tableSize : (Tryz.prog.info? 103).map (·.size) = some (tab 256).size := by
  rw [tab_size]
  kernel_rfl
set_option maxRecDepth 100000 in
set_option maxHeartbeats 4000000 in
theorem frames1 (n : Nat) (hn : 2 ≤ n) (l Bn : Nat) (s : ByteArray) (hs : s.size ≤ 1048576) (xs : List ByteArray) (bE : Nat) (hC : Ch s 0 xs bE) (hE : (fst (rst s bE)).size = 0) (J Jx : List ByteArray → World → Prop) (W : World) (hJ : AbidesFrom W.heap.size J)
    (hY : ∀ pre x W1, J pre W1 → pre.length < xs.length → YieldAt Fence.wide (n - 1) Tryz.prog l #[.string x] W1 fun e W' =>
      (e = .returned (.bool true) ∧ J (pre ++ [x]) W' ∧ KT W1 W') ∨ (e = .returned (.bool false) ∧ Jx (pre ++ [x]) W'))
    (hBn : W.cell? ⟨Bn, 0, none⟩ = some (.string s)) (h0 : J [] W) :
    CallsIn Fence.wide n Tryz.prog 69 #[.func (.yield l) #[] #[], .pointer (some ⟨Bn, 0, none⟩)] W fun e W' => (∃ v, e = .returned v) ∧
      ((∃ ys, ys = xs ∧ J ys W') ∨ (∃ pre, pre <+: xs ∧ Jx pre W')) := by
  obtain ⟨hz, hi⟩ := zero_of_info info26
  have HI := tableSize
  have HTI : Hid ((Tryz.prog.info? 103).map (·.size) = some (tab 256).size) := HI
  clear HI hi
  refine callsIn_of_wp Tryz.func69 rfl trivial ?_ rfl
  simp only [Tryz.ntmps69, List.size_toArray, List.length_cons, List.length_nil, Nat.reduceAdd, Nat.reduceSub, Array.replicate_succ, Array.replicate_zero, List.push_toArray, List.append_toArray, List.nil_append, List.cons_append]
  gi_wp2_with (first | (refine ⟨trivial, fun _ => by omega, ?_⟩; gi_at_call 70; refine (callsIn_wide.2 (table_any _)).mono ?_; rintro e w1 ⟨rfl, hb1⟩; have hA1 := heap_alloc_new w1 (.cells (tab 0) 103); have hc1 := keepB (bstep hb1 (bal w1 (.cells (tab 0) 103))) hBn) | (refine srow rfl 103 _ _ rfl _ _ rfl rfl 103 _ hA1 HTI.out (by rw [tab_size, tab_size]) (tab_one _) ?_; have hBV : Below W.heap.size W ((w1.alloc (.cells (tab 0) 103)).setRow w1.heap.size (tab 256)) := below_setRow (bstep hb1 (bal w1 _)) hb1.size _; have hTV : ((w1.alloc (.cells (tab 0) 103)).setRow w1.heap.size (tab 256)).heap[w1.heap.size]? = some (.cells (tab 256) 103 (0, 0)) := setRow_heap _ _ _ _ _ _ hA1; have hcV := keepB hBV hBn))
  obtain ⟨V, hV⟩ : ∃ V, (w1.alloc (.cells (tab 0) 103)).setRow w1.heap.size (tab 256) = V := ⟨_, rfl⟩
  rw [hV] at hBV hTV hcV ⊢
  have hJ0 : J [] V := hJ [] W V none h0 (below_gr hBV) (fun r e => by cases e)
  clear hV hc1 hA1 hcV
  gi_loopw [4, 5] (fun r _ wr => ∃ (pre : List ByteArray) (b : Nat), r = .string (rst s b) ∧ Ch s 0 pre b ∧ b ≤ s.size ∧ J pre wr ∧ wr.heap[w1.heap.size]? = some (.cells (tab 256) 103 (0, 0))) (fun r _ _ => szOf r)
  case atStart => exact ⟨[], 0, by rw [rst_zero], rfl, by omega, hJ0, hTV⟩
  case round =>
    obtain ⟨pre, b, rfl, hCp, hbs, hJp, hT⟩ := hrel
    have HT : Hid (wr.heap[w1.heap.size]? = some (.cells (tab 256) 103 (0, 0))) := hT
    clear hT
    obtain ⟨R, hR⟩ : ∃ R, rst s b = R := ⟨_, rfl⟩
    have HR : Hid (rst s b = R) := hR
    have HRs : Hid (R.size = s.size - b) := by show R.size = _; rw [← hR]; exact rst_size s b hbs
    rw [hR]
    clear hR
    have hN := nilS (fst R)
    by_cases h0 : (fst R).size = 0
    · have hQ : ((fst R).toList == ([] : List UInt8)) = true := by rw [hN]; simp [h0]
      have hQ' : (fst R).toList = [] := by simpa using hQ
      gi_wp2_with (first | (refine lrow rfl 103 _ rfl _ rfl 103 _ _ _ HT.out Tryz.underlying103 rfl HTI.out ?_) | (refine ⟨trivial, fun _ => by omega, ?_⟩; gi_at_call 71; refine (callsIn_wide.2 (iFirst R _ (by have := HRs.out; omega))).mono ?_; rintro e w2 ⟨rfl, hb2⟩))
      refine ⟨trivial, ?_⟩
      gi_wp2
      refine ⟨fun _ h => (by cases h), ?_⟩
      gi_wp2
      refine bodyPost_ret (results_none rfl _ _ _) rfl ?_
      have hsame := hCp.same hC (by rw [HR.out]; exact h0) hE
      exact ⟨⟨_, rfl⟩, .inl ⟨pre, hsame.1, hJ pre wr w2 none hJp (below_gr hb2) (fun r e => by cases e)⟩⟩
    · have hQ : ((fst R).toList == ([] : List UInt8)) = false := by rw [hN]; simp [h0]
      have hQ' : ¬ (fst R).toList = [] := by simpa using hQ
      obtain ⟨rr, hrr⟩ := hCp.ext hC (by rw [HR.out]; exact h0) hE
      rw [HR.out] at hrr
      have hfit := rst_fits hbs (by rw [HR.out]; exact h0)
      rw [HR.out] at hfit
      have hsn := hCp.snoc (fst R) (by rw [HR.out]) h0
      have hrs := rst_rst s b (8 + (fst R).size) hfit
      rw [HR.out] at hrs
      have hlen : pre.length < xs.length := by rw [hrr]; simp
      obtain ⟨x, hx⟩ : ∃ x, fst R = x := ⟨_, rfl⟩
      rw [hx] at hfit h0 hQ hQ' hN hrr hsn hrs
      have q0 : (0 : Int) ≤ 8 + (x.size : Int) := by omega
      have q1 : 8 + (x.size : Int) ≤ (R.size : Int) := by have := HRs.out; omega
      have q2 : (8 + (x.size : Int)).toNat = 8 + x.size := by omega
      have q3 : IntKind.i64.wrap (8 + (x.size : Int)) = 8 + (x.size : Int) := by rw [IntKind.wrap_i64]; omega
      gi_wp2_with (first | (refine lrow rfl 103 _ rfl _ rfl 103 _ _ _ HT.out Tryz.underlying103 rfl HTI.out ?_) | (refine ⟨trivial, fun _ => by omega, ?_⟩; gi_at_call 71; refine (callsIn_wide.2 (iFirst R _ (by have := HRs.out; omega))).mono ?_; rw [hx]; rintro e w2 ⟨rfl, hb2⟩) | (refine ⟨trivial, fun _ => by omega, ?_⟩; gi_at_call 72; refine (callsIn_wide.2 (iClone x _ (by omega))).mono ?_; rintro e w3 ⟨rfl, hb3⟩; obtain ⟨fn, tmps, assign, body, hy, hRd⟩ := hY pre x w3 (hJ pre wr w3 none hJp (below_gr (bstep hb2 hb3)) (fun r e => by cases e)) hlen))
      refine ⟨fun _ => by omega, ?_⟩
      refine hRd.mono ?_
      rintro e w4 (⟨rfl, hJ4, hk4⟩ | ⟨rfl, hJx4⟩)
      · have hT3 : w3.heap[w1.heap.size]? = some (.cells (tab 256) 103 (0, 0)) := (KT.of (bstep hb2 hb3)) _ _ HT.out
        have hT4 := hk4 _ _ hT3
        have HT4 : Hid (w4.heap[w1.heap.size]? = some (.cells (tab 256) 103 (0, 0))) := hT4
        clear hT4 hT3
        gi_wp2
        go_roundw
        case rel => exact ⟨pre ++ [x], b + (8 + x.size), by rw [← hrs], hsn, hfit, hJ4, HT4.out⟩
        case measure =>
          have := HRs.out
          simp only [szOf]
          rw [rst_size s _ hfit]
          omega
      · gi_wp2
        refine bodyPost_ret (results_none rfl _ _ _) rfl ?_
        exact ⟨⟨_, rfl⟩, .inr ⟨pre ++ [x], ⟨rr, by rw [hrr]; simp⟩, hJx4⟩⟩
attribute [local go_sem] Oper.semAt_some
theorem frames_stops (n : Nat) (hn : 2 ≤ n) (Bn : Nat) (s : ByteArray) (hs : s.size ≤ 1048576) (xs : List ByteArray) (bE : Nat) (hC : Ch s 0 xs bE) (hE : (fst (rst s bE)).size = 0) (w : World) (hBn : Bn < w.heap.size) (hc : w.cell? ⟨Bn, 0, none⟩ = some (.string s)) :
    SeqStopsK Fence.wide n Tryz.prog 69 #[.pointer (some ⟨Bn, 0, none⟩)] (fun x : ByteArray => #[Value.string x]) KT (fun ys => ys = xs) (fun pre => pre <+: xs) xs.length w := fun l J Jx W hW hJ _ hY h0 =>
  frames1 n hn l Bn s hs xs bE hC hE J Jx W hJ hY ((hW.cell (p := ⟨Bn, 0, none⟩) hBn).trans hc) h0
theorem frames_any (s : ByteArray) (w : World) : Calls Tryz.prog 57 #[.string s] w fun e w' => e = .returned (.func (.func 69) #[] #[.pointer (some ⟨w.heap.size, 0, none⟩)]) ∧ w' = w.alloc (.cells #[.string s] 9) := by
  go_enter Tryz.func57, Tryz.ntmps57
  go_wp2
  go_ret
  exact ⟨rfl, rfl⟩
theorem KT.b {w : World} (W : World) (l : Nat) (o o' : Obj) (_h : w.heap.size ≤ l) (hl : W.heap[l]? = some o) (ho : o.isCells = false) (_hw : o.isWalk = false) : KT W (W.putObj l o') := fun b X hX => by
  refine ((grownBy_putObj' W l o').block b (Array.getElem?_eq_some_iff.1 hX).1 ?_).trans hX
  intro e
  obtain rfl : b = l := by simpa using e
  rw [hX] at hl
  cases hl
  cases ho
/-- How many bytes, as they are counted. -/
def tw (L : List ByteArray) : Int := L.foldl (fun a x => wrap64 (a + wrap64 (8 + (x.size : Int)))) 0
theorem tw_snoc (L : List ByteArray) (x : ByteArray) : tw (L ++ [x]) = wrap64 (tw L + wrap64 (8 + (x.size : Int))) := by simp [tw]
theorem tw_ch {s : ByteArray} (hs : s.size ≤ 1048576) {L : List ByteArray} {a b : Nat} (h : Ch s a L b) (hb : b ≤ s.size) (c : Int) (hc : c = (a : Int)) : L.foldl (fun a x => wrap64 (a + wrap64 (8 + (x.size : Int)))) c = (b : Int) ∧ a ≤ b := by
  induction L generalizing a c with
  | nil =>
    obtain rfl : a = b := h
    exact ⟨hc, Nat.le_refl _⟩
  | cons x xs ih =>
    obtain ⟨h1, h2, h3⟩ := h
    have key : ∀ c', c' = ((a + (8 + x.size) : Nat) : Int) → _ := fun c' hc' => ih h3 c' hc'
    have hle := (key _ rfl).2
    have e : wrap64 (c + wrap64 (8 + (x.size : Int))) = ((a + (8 + x.size) : Nat) : Int) := by
      unfold wrap64
      omega
    rw [List.foldl_cons, e]
    exact ⟨(key _ rfl).1, by omega⟩
/-- Tables are kept by an append of strings and two stores into boxes of other types. -/
theorem KT.step {W w1 : World} {n₀ B B' k : Nat} {v v' u' x : Value} {xs : List Value} {tmp : Obj} (hv : Boxed W B 31 v) (hz : Boxed W B' 3 x) (hrow : W.ownsRow n₀ 9 1 v k xs) (hgrow : (W.alloc tmp).grownBy w1 v.ownBlock) :
    KT W ((w1.setCell ⟨B, 0, none⟩ v').setCell ⟨B', 0, none⟩ u') := fun b X hX => by
  have hlt := (Array.getElem?_eq_some_iff.1 hX).1
  have h1 : (W.alloc tmp).heap[b]? = some (.cells X 103 (0, 0)) := (Below.heap_alloc W tmp b hlt).trans hX
  have h2 : w1.heap[b]? = some (.cells X 103 (0, 0)) := by
    refine (hgrow.block b (by simp; omega) ?_).trans h1
    rcases hrow.2 with ⟨rfl, _⟩ | ⟨g, cap, cur, rfl, _, hgb, _⟩
    · simp [Value.ownBlock]
    · intro e'
      obtain rfl : b = g := by simpa [Value.ownBlock] using e'
      rw [hX] at hgb
      simp at hgb
  have hB : b ≠ B := fun e => by
    subst e
    have := (show W.heap[b]? = _ from hv).symm.trans hX
    simp at this
  have hB' : b ≠ B' := fun e => by
    subst e
    have := (show W.heap[b]? = _ from hz).symm.trans hX
    simp at this
  exact (heap_setCell_other _ _ _ _ hB').trans ((heap_setCell_other _ _ _ _ hB).trans h2)
end Go.Proofs.YtngppfjphbodcaaGreatDoor
