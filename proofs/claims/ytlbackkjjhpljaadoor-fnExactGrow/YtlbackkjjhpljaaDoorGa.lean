/-
  Texts that mark, and slices marked by them.
-/
import Derived.Test.YtlbackkjjhpljaaDoorTik
import Derived.RegionCalls
namespace Go.Proofs.YtlbackkjjhpljaaDoor
open Go.RowKit
def dgs : Nat → Nat → ByteArray → ByteArray
  | 0, _, acc => acc
  | f + 1, i, acc => if i = 0 then acc else dgs f (i / 10) (⟨#[UInt8.ofNat (48 + i % 10)]⟩ ++ acc)
theorem dgs_zero (f : Nat) (acc : ByteArray) : dgs f 0 acc = acc := by cases f <;> simp [dgs]
theorem dgs_more (f i : Nat) (acc : ByteArray) (h : i < 10 ^ f) : dgs (f + 1) i acc = dgs f i acc := by
  induction f generalizing i acc with
  | zero => have : i = 0 := by simpa using h
            subst this; simp [dgs]
  | succ f ih =>
    by_cases hi : i = 0
    · subst hi; simp [dgs]
    · have h' : i / 10 < 10 ^ f := by rw [Nat.pow_succ] at h; omega
      have e1 : dgs (f + 1 + 1) i acc = dgs (f + 1) (i / 10) (⟨#[UInt8.ofNat (48 + i % 10)]⟩ ++ acc) := by simp [dgs, hi]
      have e2 : dgs (f + 1) i acc = dgs f (i / 10) (⟨#[UInt8.ofNat (48 + i % 10)]⟩ ++ acc) := by simp [dgs, hi]
      rw [e1, e2, ih _ _ h']
/-- The text that marks number i. -/
def mtx (i : Nat) : ByteArray := ⟨#[109]⟩ ++ dgs 8 i ⟨#[]⟩
theorem dgs_step (i : Nat) (acc : ByteArray) (h0 : 0 < i) (h : i < 10000000) : dgs 8 i acc = dgs 8 (i / 10) (⟨#[UInt8.ofNat (48 + i % 10)]⟩ ++ acc) := by
  have e : dgs 8 i acc = dgs 7 (i / 10) (⟨#[UInt8.ofNat (48 + i % 10)]⟩ ++ acc) := by
    rw [dgs, if_neg (by omega)]
  rw [e, dgs_more 7 _ _ (by omega)]
set_option maxRecDepth 20000 in
theorem conv1 (w : World) (x : Int) (hx : 48 ≤ x) (hx2 : x ≤ 57) :
    (convert 75 9 (.slice (some ⟨w.heap.size, 0, none⟩) 1 1)).run Tryd.prog (w.alloc (.cells #[.int .u8 x] 5)) = .ok (.string ⟨#[UInt8.ofNat x.toNat]⟩) (w.alloc (.cells #[.int .u8 x] 5)) := by
  refine run_convert_bytes_back _ 75 9 5 ⟨w.heap.size, 0, none⟩ _ [UInt8.ofNat x.toNat] Tryd.underlying75 Tryd.underlying5 Tryd.underlying9 ?_
  intro j hj
  obtain rfl : j = 0 := by simpa using hj
  have hadd : (⟨w.heap.size, 0, none⟩ : Addr).add 0 = ⟨w.heap.size, 0, none⟩ := rfl
  rw [hadd, cell_of_row _ _ 0 _ 5 _ (heap_alloc_new w _)]
  have : ((UInt8.ofNat x.toNat).toNat : Int) = x := by simp; omega
  have e2 : (List.toArray [Value.int .u8 x])[0]? = some (.int .u8 x) := rfl
  simp only [List.length_cons, List.length_nil] at hj
  show some (Value.int .u8 x) = some (Value.int .u8 ((UInt8.ofNat x.toNat).toNat : Int))
  rw [this]
set_option maxRecDepth 20000 in
set_option maxHeartbeats 1000000 in
theorem markText_any (i : Nat) (w : World) (h0 : 0 < i) (h1 : i < 10000000) (y : ByteArray) (hy : mtx i = y) :
    Calls Tryd.prog 63 #[.int .i64 i] w fun e w' => e = .returned (.string y) ∧ Below w.heap.size w w' := by
  have HY : Hid (mtx i = y) := hy
  clear hy
  have hd0 : decide (i = 0) = false := by simpa using (by omega : ¬ i = 0)
  go_enter Tryd.func63, Tryd.ntmps63
  go_wp2
  go_loopw [0, 3] (fun x s wr => ∃ (j : Nat) (acc : ByteArray), acc.size + j ≤ 10000000 ∧ j < 10000000 ∧ x = .int .i64 j ∧ s = .string acc ∧ dgs 8 j acc = dgs 8 i ⟨#[]⟩ ∧ Below w.heap.size w wr) (fun x _ _ => (intOf x).toNat)
  case atStart => exact ⟨i, ⟨#[]⟩, (show 0 + i ≤ 10000000 by omega), h1, rfl, rfl, rfl, Below.refl _ _⟩
  case round =>
    obtain ⟨j, acc, hsz, hj, rfl, rfl, hd, hb⟩ := hrel
    have HD : Hid (dgs 8 j acc = dgs 8 i ⟨#[]⟩) := hd
    clear hd
    by_cases hlt : 0 < j
    · have HS : Hid (dgs 8 j acc = dgs 8 (j / 10) (⟨#[UInt8.ofNat (48 + j % 10)]⟩ ++ acc)) := dgs_step j acc hlt hj
      have hx1 : (48 : Int) ≤ 48 + (j : Int) % 10 := by omega
      have hx2 : 48 + (j : Int) % 10 ≤ 57 := by omega
      have hcv := conv1 wr (48 + (j : Int) % 10) hx1 hx2
      have e : (48 + (j : Int) % 10).toNat = 48 + j % 10 := by omega
      rw [e] at hcv
      have hw8 : IntKind.u8.wrap (48 + (j : Int) % 10) = 48 + (j : Int) % 10 := by rw [IntKind.wrap_u8']; omega
      clear e
      obtain ⟨c8, hc8⟩ : ∃ c, UInt8.ofNat (48 + j % 10) = c := ⟨_, rfl⟩
      rw [hc8] at hcv HS
      clear hc8
      go_wp2
      go_roundw
      case rel => exact ⟨j / 10, _, by have := size1 c8 acc; omega, by omega, by go_num, rfl, by rw [← HS.out]; exact HD.out, hb.alloc hb.size _⟩
      case measure => simp [intOf]; omega
    · obtain rfl : j = 0 := by omega
      have HE : Hid (⟨#[109]⟩ ++ acc = y) := by show ⟨#[109]⟩ ++ acc = y; rw [← HY.out]; unfold mtx; rw [← HD.out, dgs_zero]
      go_wp2
      go_ret
      exact ⟨by rw [← HE.out]; rfl, hb⟩
theorem mtx_size (i : Nat) : (mtx i).size ≤ 1000 := by
  have h : ∀ f j acc, (dgs f j acc).size ≤ f + acc.size := by
    intro f
    induction f with
    | zero => intro j acc; simp [dgs]
    | succ f ih =>
      intro j acc
      rw [dgs]
      split
      · omega
      · have := ih (j / 10) (⟨#[UInt8.ofNat (48 + j % 10)]⟩ ++ acc)
        rw [size1] at this
        omega
  unfold mtx
  rw [size1]
  have := h 8 i ⟨#[]⟩
  have e : (⟨#[]⟩ : ByteArray).size = 0 := rfl
  omega
end Go.Proofs.YtlbackkjjhpljaaDoor
