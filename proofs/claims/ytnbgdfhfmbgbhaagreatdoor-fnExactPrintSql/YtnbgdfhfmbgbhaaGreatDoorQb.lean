/-
  Texts in quotes, lists with commas, as the specification writes them.
-/
import Derived.Test.YtnbgdfhfmbgbhaaGreatDoorQa

namespace Go.Proofs.YtnbgdfhfmbgbhaaGreatDoor
open Go.RowKit Go.Maps Go.WideMaps
/-- Each quote is written twice. -/
def quoL : List UInt8 → List UInt8
  | [] => []
  | c :: r => if c = 39 then 39 :: 39 :: quoL r else c :: quoL r
theorem quoL_app (a b : List UInt8) : quoL (a ++ b) = quoL a ++ quoL b := by
  induction a with
  | nil => rfl
  | cons c r ih =>
    simp only [List.cons_append, quoL]
    split
    · rw [ih]; rfl
    · rw [ih]; rfl
theorem quoL_len (a : List UInt8) : (quoL a).length ≤ 2 * a.length := by
  induction a with
  | nil => simp [quoL]
  | cons c r ih =>
    simp only [quoL]
    split
    · simp only [List.length_cons]; omega
    · simp only [List.length_cons]; omega
def quoP (s : ByteArray) (k : Nat) : ByteArray := ⟨#[39]⟩ ++ ⟨(quoL (s.data.toList.take k)).toArray⟩
def quoB (s : ByteArray) : ByteArray := quoP s s.size ++ ⟨#[39]⟩
theorem quoP_size (s : ByteArray) (k : Nat) : (quoP s k).size ≤ 1 + 2 * k := by
  have h1 := quoL_len (s.data.toList.take k)
  have h2 : (s.data.toList.take k).length ≤ k := by simp; omega
  have h3 : (quoP s k).size = 1 + (quoL (s.data.toList.take k)).length := by
    unfold quoP
    rw [ByteArray.size_append]
    rfl
  omega
theorem quoB_size (s : ByteArray) : (quoB s).size ≤ 2 + 2 * s.size := by
  have h := quoP_size s s.size
  unfold quoB
  rw [ByteArray.size_append]
  have : (⟨#[39]⟩ : ByteArray).size = 1 := rfl
  omega
theorem ext1 {s : ByteArray} {k : Nat} (hk : k < s.size) : s.extract k (k + 1) = ⟨#[s[k]]⟩ := by
  apply bytes_inj2
  have hl : k < s.data.toList.length := by simpa using hk
  rw [ByteArray.toList_eq, ByteArray.toList_eq, ByteArray.data_extract, Array.toList_extract]
  show List.extract s.data.toList k (k + 1) = [s.data[k]]
  rw [List.extract_eq_take_drop, List.drop_eq_getElem_cons hl, show k + 1 - k = 1 by omega]
  simp
theorem quoP_step {s : ByteArray} {k : Nat} (hk : k < s.size) : quoP s (k + 1) = quoP s k ++ ⟨(quoL [s[k]]).toArray⟩ := by
  have hl : k < s.data.toList.length := by simpa using hk
  have hc : s.data.toList[k] = s[k] := by simp; rfl
  unfold quoP
  rw [List.take_succ_eq_append_getElem hl, quoL_app, hc, ba_app, ByteArray.append_assoc]
theorem quoP_hit {s : ByteArray} {k : Nat} (hk : k < s.size) (h : s[k].toNat = 39) : quoP s (k + 1) = quoP s k ++ ⟨#[39]⟩ ++ s.extract k (k + 1) := by
  have hc : s[k] = 39 := UInt8.toNat_inj.1 h
  rw [quoP_step hk, ext1 hk, hc, ByteArray.append_assoc]
  rfl
theorem quoP_miss {s : ByteArray} {k : Nat} (hk : k < s.size) (h : s[k].toNat ≠ 39) : quoP s (k + 1) = quoP s k ++ s.extract k (k + 1) := by
  have hc : ¬ s[k] = 39 := fun e => h (by rw [e]; rfl)
  rw [quoP_step hk, ext1 hk]
  simp only [quoL, if_neg hc]
set_option maxRecDepth 20000 in
set_option maxHeartbeats 4000000 in
theorem sQuote (s : ByteArray) (w : World) (hs : s.size ≤ 1048576) : Calls Tryz.prog 89 #[.string s] w fun e w' => e = .returned (.string (quoB s)) ∧ w' = w := by
  go_enter Tryz.func89, Tryz.ntmps89
  go_wp2
  go_loop [3, 4] (fun o i => ∃ k : Nat, k ≤ s.size ∧ i = .int .i64 k ∧ o = .string (quoP s k)) (fun _ i => s.size - (intOf i).toNat)
  case atStart => exact ⟨0, by omega, rfl, rfl⟩
  case round =>
    obtain ⟨k, hk, rfl, rfl⟩ := hrel
    have hz := quoP_size s k
    by_cases hlt : k < s.size
    · have e1 : (s.extract k (k + 1)).size = 1 := by rw [ext1 hlt]; rfl
      by_cases hc : s[k].toNat = 39
      · have HQ : Hid (quoP s (k + 1) = quoP s k ++ ⟨#[39]⟩ ++ s.extract k (k + 1)) := quoP_hit hlt hc
        go_wp2
        go_round
        case rel => exact ⟨k + 1, by omega, by go_num, by rw [HQ.out]⟩
        case measure => simp [intOf]; omega
      · have HQ : Hid (quoP s (k + 1) = quoP s k ++ s.extract k (k + 1)) := quoP_miss hlt hc
        go_wp2
        go_round
        case rel => exact ⟨k + 1, by omega, by go_num, by rw [HQ.out]⟩
        case measure => simp [intOf]; omega
    · obtain rfl : k = s.size := by omega
      go_wp2
      go_ret
      exact ⟨rfl, rfl⟩
end Go.Proofs.YtnbgdfhfmbgbhaaGreatDoor
