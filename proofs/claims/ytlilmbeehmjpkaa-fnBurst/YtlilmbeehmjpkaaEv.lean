/-
  EncodeStm: both sides, and the law.
-/
import Derived.Test.YtlilmbeehmjpkaaEm
import Derived.Test.YtlilmbeehmjpkaaEh
namespace Go.Proofs.Ytlilmbeehmjpkaa
open Go.RowKit Go.Maps Go.WideMaps
theorem sEnc (d : St) (p : Sa) (w : World) (h : SM w d p) : Calls Try.prog 15 #[.agg (cs8 d p)] w fun e w' => e = .returned (.string (encS d)) ∧ Below w.heap.size w w' := by
  obtain ⟨k, tb, n2, C, n3, V, col, n5, E, n6, W, n7, m7, O⟩ := d
  obtain ⟨a2, c2, a3, c3, a5, c5, a6, c6, a7, c7⟩ := p
  by_cases e1 : k = 1
  · subst e1; exact sEnc1 tb n2 C n3 V col n5 E n6 W n7 m7 O a2 c2 a3 c3 a5 c5 a6 c6 a7 c7 _ rfl w h
  by_cases e2 : k = 2
  · subst e2; exact sEnc2 tb n2 C n3 V col n5 E n6 W n7 m7 O a2 c2 a3 c3 a5 c5 a6 c6 a7 c7 _ rfl w h
  by_cases e3 : k = 3
  · subst e3; exact sEnc3 tb n2 C n3 V col n5 E n6 W n7 m7 O a2 c2 a3 c3 a5 c5 a6 c6 a7 c7 _ rfl w h
  by_cases e4 : k = 4
  · subst e4; exact sEnc4 tb n2 C n3 V col n5 E n6 W n7 m7 O a2 c2 a3 c3 a5 c5 a6 c6 a7 c7 _ rfl w h
  by_cases e5 : k = 5
  · subst e5; exact sEnc5 tb n2 C n3 V col n5 E n6 W n7 m7 O a2 c2 a3 c3 a5 c5 a6 c6 a7 c7 _ rfl w h
  exact sEnc0 k e1 e2 e3 e4 e5 tb n2 C n3 V col n5 E n6 W n7 m7 O a2 c2 a3 c3 a5 c5 a6 c6 a7 c7 _ rfl w h
end Go.Proofs.Ytlilmbeehmjpkaa
