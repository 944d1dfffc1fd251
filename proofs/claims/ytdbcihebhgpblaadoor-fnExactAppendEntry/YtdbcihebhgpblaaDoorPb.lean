/-
  The names of segments.
-/
import Derived.Test.YtdbcihebhgpblaaDoorHm
import Derived.Test.YtdbcihebhgpblaaDoorShelf
import Derived.Lib.AppendIntMem
namespace Go.Proofs.YtdbcihebhgpblaaDoor
open Go.RowKit
/-- The library's table of powers lies there. -/
def T10 (w : World) : Prop := Lib.TabIs Tryd.prog w "internal/strconv.uint64pow10" .u64 Lib.pow10Tab
theorem T10.later {w w' : World} (h : T10 w) (hb : Below w.heap.size w w') : T10 w' := Lib.tabBelow_of_tabIs h w' hb
def pd : Nat → Nat → ByteArray → ByteArray
  | 0, _, acc => acc
  | f + 1, i, acc => pd f (i / 10) (⟨#[UInt8.ofNat (48 + i % 10)]⟩ ++ acc)
/-- The name of a segment. -/
def seg (n : Nat) : ByteArray := ⟨#[115, 101, 103, 45]⟩ ++ pd 4 n ⟨#[]⟩
theorem pd_step (k j : Nat) (acc : ByteArray) (h : k < 4) : pd (4 - k) j acc = pd (4 - (k + 1)) (j / 10) (⟨#[UInt8.ofNat (48 + j % 10)]⟩ ++ acc) := by
  rw [show 4 - k = (4 - (k + 1)) + 1 by omega, pd]
set_option maxRecDepth 20000 in
set_option maxHeartbeats 2000000 in
theorem sSegment (n : Nat) (w : World) (hn : n ≤ 10000) (y : ByteArray) (hy : seg n = y) : Calls Tryd.prog 24 #[.int .i64 n] w fun e w' => e = .returned (.string y) ∧ Below w.heap.size w w' := by
  have HY : Hid (seg n = y) := hy
  clear hy
  go_enter Tryd.func24, Tryd.ntmps24
  go_wp2
  go_loopw [0, 3, 4] (fun x s i wr => ∃ (j : Nat) (acc : ByteArray) (k : Nat), k ≤ 4 ∧ j ≤ 10000 ∧ acc.size ≤ k ∧ x = .int .i64 j ∧ s = .string acc ∧ i = .int .i64 k ∧ pd (4 - k) j acc = pd 4 n ⟨#[]⟩ ∧ Below w.heap.size w wr) (fun _ _ i _ => 4 - (intOf i).toNat)
  case atStart => exact ⟨n, ⟨#[]⟩, 0, by omega, hn, Nat.le_refl _, rfl, rfl, rfl, rfl, Below.refl _ _⟩
  case round =>
    obtain ⟨j, acc, k, hk, hj, hsz, rfl, rfl, rfl, hd, hb⟩ := hrel
    have HD : Hid (pd (4 - k) j acc = pd 4 n ⟨#[]⟩) := hd
    clear hd
    by_cases hlt : k < 4
    · have HS : Hid (pd (4 - k) j acc = pd (4 - (k + 1)) (j / 10) (⟨#[UInt8.ofNat (48 + j % 10)]⟩ ++ acc)) := pd_step k j acc hlt
      have hlt' : (k : Int) < 4 := by omega
      have hx1 : (48 : Int) ≤ 48 + (j : Int) % 10 := by omega
      have hx2 : 48 + (j : Int) % 10 ≤ 57 := by omega
      have hcv := conv1 wr (48 + (j : Int) % 10) hx1 hx2
      have e : (48 + (j : Int) % 10).toNat = 48 + j % 10 := by omega
      rw [e] at hcv
      have hw8 : IntKind.u8.wrap (48 + (j : Int) % 10) = 48 + (j : Int) % 10 := by rw [IntKind.wrap_u8']; omega
      clear e
      obtain ⟨c8, hc8⟩ : ∃ c, UInt8.ofNat (48 + j % 10) = c := ⟨_, rfl⟩
      rw [hc8] at hcv HS
      clear hc8
      go_wp2
      go_roundw
      case rel => exact ⟨j / 10, _, k + 1, by omega, by omega, by have := size1 c8 acc; omega, by go_num, rfl, by go_num, by rw [← HS.out]; exact HD.out, hb.alloc hb.size _⟩
      case measure => simp [intOf]; omega
    · obtain rfl : k = 4 := by omega
      have HE : Hid (⟨#[115, 101, 103, 45]⟩ ++ acc = y) := by show ⟨#[115, 101, 103, 45]⟩ ++ acc = y; rw [← HY.out]; unfold seg; rw [← HD.out]; rfl
      go_wp2
      go_ret
      exact ⟨by rw [← HE.out]; rfl, hb⟩
theorem dec5 (n : Nat) (h : n ≤ 9999) : Lib.decDigits (10000 + n) = 49 :: [UInt8.ofNat (48 + n / 10 / 10 / 10 % 10), UInt8.ofNat (48 + n / 10 / 10 % 10), UInt8.ofNat (48 + n / 10 % 10), UInt8.ofNat (48 + n % 10)] := by
  rw [Lib.decDigits, dif_neg (by omega), show (10000 + n) / 10 = 1000 + n / 10 by omega, show (10000 + n) % 10 = n % 10 by omega]
  rw [Lib.decDigits, dif_neg (by omega), show (1000 + n / 10) / 10 = 100 + n / 10 / 10 by omega, show (1000 + n / 10) % 10 = n / 10 % 10 by omega]
  rw [Lib.decDigits, dif_neg (by omega), show (100 + n / 10 / 10) / 10 = 10 + n / 10 / 10 / 10 by omega, show (100 + n / 10 / 10) % 10 = n / 10 / 10 % 10 by omega]
  rw [Lib.decDigits, dif_neg (by omega), show (10 + n / 10 / 10 / 10) / 10 = 1 by omega, show (10 + n / 10 / 10 / 10) % 10 = n / 10 / 10 / 10 % 10 by omega]
  rw [Lib.decDigits_one (by omega)]
  rfl
theorem pd4 (n : Nat) : pd 4 n ⟨#[]⟩ = ⟨#[UInt8.ofNat (48 + n / 10 / 10 / 10 % 10), UInt8.ofNat (48 + n / 10 / 10 % 10), UInt8.ofNat (48 + n / 10 % 10), UInt8.ofNat (48 + n % 10)]⟩ := rfl
theorem seg_size (n : Nat) : (seg n).size = 8 := rfl
theorem dig_ok (n : Nat) : isFnb (UInt8.ofNat (48 + n % 10)).toNat = true := by
  have h : (UInt8.ofNat (48 + n % 10)).toNat = 48 + n % 10 := by simp; omega
  rw [h]
  unfold isFnb isDig
  simp only [Bool.or_eq_true, Bool.and_eq_true, decide_eq_true_eq]
  omega
theorem seg_ok (n : Nat) : okFn (seg n) = true := by
  have e : (seg n).data.toList = [115, 101, 103, 45, UInt8.ofNat (48 + n / 10 / 10 / 10 % 10), UInt8.ofNat (48 + n / 10 / 10 % 10), UInt8.ofNat (48 + n / 10 % 10), UInt8.ofNat (48 + n % 10)] := rfl
  unfold okFn
  rw [Bool.and_eq_true]
  refine ⟨by rw [seg_size]; rfl, ?_⟩
  unfold allB
  rw [e]
  simp only [List.all_cons, List.all_nil, Bool.and_true, dig_ok]
  rfl
theorem iSegment (n : Nat) (w : World) (hn : n ≤ 9999) (hT : T10 w) (y : ByteArray) (hy : seg n = y) : Calls Tryd.prog 33 #[.int .i64 n] w fun e w' => e = .returned (.string y) ∧ Below w.heap.size w w' := by
  have HY : Hid (⟨#[115, 101, 103, 45]⟩ ++ (⟨(Lib.itoa (10000 + (n : Int))).toArray⟩ : ByteArray).extract 1 (⟨(Lib.itoa (10000 + (n : Int))).toArray⟩ : ByteArray).size = y) := by
    show _ = _
    rw [← hy, show (10000 + (n : Int)) = ((10000 + n : Nat) : Int) by omega, Lib.itoa_nonneg, dec5 n hn]
    rfl
  have hsz : (⟨(Lib.itoa (10000 + (n : Int))).toArray⟩ : ByteArray).size = 5 := by
    rw [show (10000 + (n : Int)) = ((10000 + n : Nat) : Int) by omega, Lib.itoa_nonneg, dec5 n hn]
    rfl
  clear hy
  obtain ⟨S, hS⟩ : ∃ S : ByteArray, S = ⟨(Lib.itoa (10000 + (n : Int))).toArray⟩ := ⟨_, rfl⟩
  have hItoa := Tryd.strconv_Itoa (10000 + (n : Int)) (by omega) (by omega) w hT
  rw [← hS] at HY hsz hItoa
  clear hS
  have h1 : (1 : Int) ≤ S.size := by omega
  go_enter Tryd.func33, Tryd.ntmps33
  go_wp2_with (go_at_call 70; refine hItoa.mono ?_; rintro e w1 ⟨rfl, kk, os, hw1⟩)
  go_ret
  exact ⟨by rw [← HY.out, hsz]; rfl, Lib.below_grow _ _ (Nat.le_refl _) _ _⟩
end Go.Proofs.YtdbcihebhgpblaaDoor
