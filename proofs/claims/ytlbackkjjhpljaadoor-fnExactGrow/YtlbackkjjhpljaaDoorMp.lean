/-
  Digests as arrays of 32 bytes; the map of doubles: what its operations answer.
-/
import Derived.Test.YtlbackkjjhpljaaDoorTik
import Derived.Maps.OwnSet
import Derived.Stop.BytesEq
import Derived.Lib.BufferWrite
namespace Go.Proofs.YtlbackkjjhpljaaDoor
open Go.RowKit Go.ChangeMaps
/-- A digest, filled up to 32 bytes. -/
def pad (s : ByteArray) : List UInt8 := s.data.toList ++ List.replicate (32 - s.size) 0
theorem size_list (s : ByteArray) : s.data.toList.length = s.size := rfl
theorem pad_len (s : ByteArray) (h : s.size ≤ 32) : (pad s).length = 32 := by
  unfold pad
  rw [List.length_append, List.length_replicate, size_list]
  omega
theorem pad_take (s : ByteArray) : (pad s).take s.size = s.data.toList := by
  unfold pad
  rw [List.take_append_of_le_length (by rw [size_list]; exact Nat.le_refl _), List.take_of_length_le (by rw [size_list]; exact Nat.le_refl _)]
theorem ba_list (s : ByteArray) : (⟨s.data.toList.toArray⟩ : ByteArray) = s := by cases s; simp
theorem pad_inj (s t : ByteArray) (h : s.size = t.size) (e : pad s = pad t) : s = t := by
  have := pad_take s
  rw [e, h, pad_take] at this
  rw [← ba_list s, ← ba_list t, this]
def mkA (l : List UInt8) : Array Value := (cells8 l).toArray
def mkV (l : List UInt8) : Value := .agg (mkA l)
theorem mkA_size (l : List UInt8) : (mkA l).size = l.length := by simp [mkA, cells8]
theorem mkA_one (l : List UInt8) : (mkA l).all (·.oneCell') = true := by
  rw [Array.all_eq_true]
  intro i hi
  simp [mkA, cells8, Value.oneCell']
theorem mkA_get (l : List UInt8) (i : Nat) (h : i < l.length) : (mkA l)[i]? = some (.int .u8 ((l[i]).toNat : Int)) := by
  simp [mkA, cells8, h]
theorem sizeB (w : World) : (sizeOf 5).run Tryd.prog w = .ok 1 w := by kernel_rfl
theorem run_same (w : World) (xs ys : List UInt8) (hx : xs.length = 32) (hy : ys.length = 32) : (Op.equal 51 (mkV xs) (mkV ys)).run Tryd.prog w = .ok (xs == ys) w :=
  run_equalIn_bytes w 9998 51 5 32 Tryd.underlying51 Tryd.underlying5 sizeB xs ys hx hy
theorem run_differ (w : World) (xs ys : List UInt8) (hx : xs.length = 32) (hy : ys.length = 32) : (binOp .neq 51 (mkV xs) (mkV ys)).run Tryd.prog w = .ok (.bool (!(xs == ys))) w := by
  have h := run_same w xs ys hx hy
  unfold mkV at h ⊢
  rw [run_neq_struct]
  show ((Op.equal 51 _ _).run Tryd.prog w).andThen _ = _
  rw [h]; rfl
theorem run_check (w : World) (em : Bool) (l : List UInt8) (h : l.length = 32) : (Instr.checkKey em 10000 51 (mkV l)).run Tryd.prog w = .ok () w := by
  unfold mkV
  rw [Instr.checkKey]
  simp only [Sem.run_bind, run_underlying Tryd.underlying51, Result.andThen_ok, Std.Legacy.Range.forIn_eq_forIn_range', Std.Legacy.Range.size, Nat.sub_zero, Nat.add_sub_cancel, Nat.div_one]
  have hl : ∀ i ∈ List.range' 0 32 1, i < 32 := fun i hi => by simpa using (List.mem_range'_1.1 hi).2
  generalize List.range' 0 32 1 = r at hl ⊢
  induction r with
  | nil => simp
  | cons i r ih =>
    have hi : i < 32 := hl i (by simp)
    have px : (part 5 (mkA l) (i * 1)).run Tryd.prog w = .ok (.int .u8 ((l[i]'(by omega)).toNat : Int)) w := by
      simp [part, isAgg, run_underlying Tryd.underlying5, mkA_get l i (by omega)]
    have pc : ∀ x : Int, (Instr.checkKey em 9999 5 (.int .u8 x)).run Tryd.prog w = .ok () w := by
      intro x
      rw [Instr.checkKey]
      simp [run_underlying Tryd.underlying5]
    simp only [List.forIn_cons, Sem.run_bind, sizeB, Result.andThen_ok, px, pc, Sem.run_pure]
    exact ih fun j hj => hl j (by simp [hj])
end Go.Proofs.YtlbackkjjhpljaaDoor
