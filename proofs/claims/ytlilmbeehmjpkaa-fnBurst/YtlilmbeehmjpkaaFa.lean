/-
  Files and file systems: small things, names of files.
-/
import Derived.Test.YtlilmbeehmjpkaaNlx
import Derived.Test.YtlilmbeehmjpkaaNd
import Derived.Test.YtlilmbeehmjpkaaNb
import Derived.Test.YtlilmbeehmjpkaaNa
import Derived.Test.YtlilmbeehmjpkaaRows
import Derived.WalkKit
import Derived.ProofKit
import Derived.Laws.CopyOwn
import Derived.Deep.QuietTactic
import Derived.BigQuiet
import Derived.Deep.OwnRows
import Derived.Deep.RegionWith
import Derived.Deep.AppendLies
import Derived.Laws.Cover1
namespace Go.Proofs.Ytlilmbeehmjpkaa
open Go.RowKit
theorem undrew {w w' : World} (h : Below w.drew.heap.size w.drew w') : Below w.heap.size w w' := ⟨h.os, h.tape, h.output, h.size, h.block⟩
theorem grow_le {w : World} {B : Nat} {e : TypeId} {size g n cap : Nat} {xs : List Value} (h : w.ownsRow B e size (.slice (some ⟨g, 0, none⟩) n cap) n xs) : B ≤ g :=
  (h.lt g rfl).1
theorem ones (v : Value) (h : v.oneCell' = true) : ∀ u ∈ [v], u.oneCell' = true := by
  intro u hu; simp at hu; subst hu; exact h
theorem below3 (w : World) (a b c : Obj) : Below w.heap.size w (((w.alloc a).alloc b).alloc c) := bstep (bal w a) (bstep (bal _ b) (bal _ c))
theorem make_any {t e : TypeId} {z : Value} {size bytes : Nat} (ht : Try.prog.underlying t = some (.slice e)) (hinfo : (Try.prog.info? e).map (fun i => (i.zero, i.size, i.bytes)) = some (some z, size, bytes)) (n : Nat) (hn : n ≤ 1048576) (hb : bytes ≤ 1000) (w : World) :
    (Instr.makeSlice t (.int .i64 (n : Int)) (.int .i64 (n : Int))).run Try.prog w = .ok (.slice (some ⟨w.heap.size, 0, none⟩) n n) (w.alloc (.cells (madeCells z.cells (n * size)) e)) := by
  obtain ⟨i, hi, hzz⟩ := Option.map_eq_some_iff.1 hinfo
  simp only [Prod.mk.injEq] at hzz
  obtain ⟨hz, hs, hbb⟩ := hzz
  have h1 : ((i.bytes : Int) * (n : Int)) ≤ 281474976710656 := by
    rw [hbb]
    have : bytes * n ≤ 1000 * 1048576 := Nat.mul_le_mul hb hn
    have h2 : ((bytes : Int) * (n : Int)) = ((bytes * n : Nat) : Int) := by simp
    omega
  have := run_make (P := Try.prog) w t e i z ht hi hz .i64 .i64 n n (by omega) (by omega) h1 (by omega)
  rw [hs] at this
  simpa using this
theorem made_size (z : Array Value) (n : Nat) : (madeCells z n).size = n := by simp [size_madeCells]
theorem there {A : Array Value} {k : Nat} (h : k < A.size) : ∃ v, A[k]? = some v := ⟨A[k], by simp [h]⟩
theorem setA {A : Array Value} {k i : Nat} {v u : Value} (h : A[i]? = some u) (hne : k ≠ i) : (A.setIfInBounds k v)[i]? = some u := by
  rw [Array.getElem?_setIfInBounds, if_neg hne]; exact h
theorem setS {A : Array Value} {k : Nat} {v : Value} (h : k < A.size) : (A.setIfInBounds k v)[k]? = some v := by
  rw [Array.getElem?_setIfInBounds]; simp [h]
theorem eqS_same (s : ByteArray) : (s.toList == s.toList) = true := by simp
/-- A byte of a file's name; a file's name. -/
def isFnb (c : Int) : Bool := isLet c || isDig c || c == 45
def okFn (s : ByteArray) : Bool := btw s.size 1 30 && allB isFnb s
end Go.Proofs.Ytlilmbeehmjpkaa
