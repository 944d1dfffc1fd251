/-
  What an accepted statement is, kind by kind.
-/
import Derived.Test.YtlilmbeehmjpkaaNl
namespace Go.Proofs.Ytlilmbeehmjpkaa
open Go.RowKit Go.Maps Go.WideMaps
def bareB (n2 n3 : Nat) (col : ByteArray) (n5 n6 n7 : Nat) : Bool := (n2 : Int) == 0 && (n3 : Int) == 0 && decide (col.size = 0) && (n5 : Int) == 0 && (n6 : Int) == 0 && (n7 : Int) == 0
theorem eqZ (n : Nat) : ((n : Int) == 0) = decide (n = 0) := by rw [Bool.eq_iff_iff]; simp
theorem neZ (n : Nat) : ((n : Int) != 0) = !decide (n = 0) := by rw [bne, eqZ]
theorem stm1 (D : St) (e : D.k = 1) : okStm D = (okName D.tb && (bareB 0 D.n3 D.col D.n5 D.n6 D.n7 && (btw D.n2 1 20 && allN D.n2 (fun j => okCol (D.C j).s (D.C j).t)))) := by
  simp only [okStm, badS, restS, e, bareB, eqZ, neZ]
  by_cases h1 : D.n3 = 0 <;> by_cases h2 : D.col.size = 0 <;> by_cases h3 : D.n5 = 0 <;> by_cases h4 : D.n6 = 0 <;> by_cases h5 : D.n7 = 0 <;> simp [h1, h2, h3, h4, h5]
theorem stm2 (D : St) (e : D.k = 2) : okStm D = (okName D.tb && (bareB D.n2 0 D.col D.n5 D.n6 D.n7 && (btw D.n3 1 20 && allN D.n3 (fun j => okValue (D.V j).o (D.V j).m (D.V j).s)))) := by
  simp only [okStm, badS, restS, e, bareB, eqZ, neZ]
  by_cases h1 : D.n2 = 0 <;> by_cases h2 : D.col.size = 0 <;> by_cases h3 : D.n5 = 0 <;> by_cases h4 : D.n6 = 0 <;> by_cases h5 : D.n7 = 0 <;> simp [h1, h2, h3, h4, h5]
theorem stm3 (D : St) (e : D.k = 3) : okStm D = (okName D.tb && (bareB D.n2 D.n3 ⟨#[]⟩ 0 0 D.n7 && (okName D.col && okExp D.E D.n5 && okWhere D.W D.n6))) := by
  have z : (⟨#[]⟩ : ByteArray).size = 0 := rfl
  simp only [okStm, badS, restS, e, bareB, eqZ, neZ, z]
  by_cases h1 : D.n2 = 0 <;> by_cases h2 : D.n3 = 0 <;> by_cases h3 : D.n7 = 0 <;> simp [h1, h2, h3]
theorem stm4 (D : St) (e : D.k = 4) : okStm D = (okName D.tb && (bareB D.n2 D.n3 D.col D.n5 0 D.n7 && okWhere D.W D.n6)) := by
  simp only [okStm, badS, restS, e, bareB, eqZ, neZ]
  by_cases h1 : D.n2 = 0 <;> by_cases h2 : D.n3 = 0 <;> by_cases h3 : D.n7 = 0 <;> by_cases h4 : D.col.size = 0 <;> by_cases h5 : D.n5 = 0 <;> simp [h1, h2, h3, h4, h5]
theorem stm5 (D : St) (e : D.k = 5) : okStm D = (okName D.tb && (bareB D.n2 D.n3 D.col D.n5 0 0 && ((btw D.n7 1 20 && allN D.n7 (fun j => okExp (D.O j) (D.m7 j))) && okWhere D.W D.n6))) := by
  simp only [okStm, badS, restS, e, bareB, eqZ, neZ]
  by_cases h1 : D.n2 = 0 <;> by_cases h2 : D.n3 = 0 <;> by_cases h4 : D.col.size = 0 <;> by_cases h5 : D.n5 = 0 <;> simp [h1, h2, h4, h5]
theorem stm0 (D : St) (e1 : ¬ D.k = 1) (e2 : ¬ D.k = 2) (e3 : ¬ D.k = 3) (e4 : ¬ D.k = 4) (e5 : ¬ D.k = 5) : okStm D = false := by
  simp [okStm, restS, e1, e2, e3, e4, e5]
end Go.Proofs.Ytlilmbeehmjpkaa
