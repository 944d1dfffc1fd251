/-
  EncodeStm: both sides, and the law.
-/
import Derived.Test.YtnbgdfhfmbgbhaaGreatDoorEg
import Derived.Test.YtnbgdfhfmbgbhaaGreatDoorEh
namespace Go.Proofs.YtnbgdfhfmbgbhaaGreatDoor
open Go.RowKit Go.Maps Go.WideMaps
theorem iEnc (d : St) (p : Sa) (w : World) (h : SM w d p) (hT : SpT w) : Calls Tryz.prog 20 #[.agg (cs8 d p)] w fun e w' => e = .returned (.string (encS d)) ∧ Below w.heap.size w w' := by
  obtain ⟨k, tb, n2, C, n3, V, col, n5, E, n6, W, n7, m7, O⟩ := d
  obtain ⟨a2, c2, a3, c3, a5, c5, a6, c6, a7, c7⟩ := p
  by_cases e1 : k = 1
  · subst e1; exact iEnc1 tb n2 C n3 V col n5 E n6 W n7 m7 O a2 c2 a3 c3 a5 c5 a6 c6 a7 c7 _ rfl w h hT
  by_cases e2 : k = 2
  · subst e2; exact iEnc2 tb n2 C n3 V col n5 E n6 W n7 m7 O a2 c2 a3 c3 a5 c5 a6 c6 a7 c7 _ rfl w h hT
  by_cases e3 : k = 3
  · subst e3; exact iEnc3 tb n2 C n3 V col n5 E n6 W n7 m7 O a2 c2 a3 c3 a5 c5 a6 c6 a7 c7 _ rfl w h hT
  by_cases e4 : k = 4
  · subst e4; exact iEnc4 tb n2 C n3 V col n5 E n6 W n7 m7 O a2 c2 a3 c3 a5 c5 a6 c6 a7 c7 _ rfl w h hT
  by_cases e5 : k = 5
  · subst e5; exact iEnc5 tb n2 C n3 V col n5 E n6 W n7 m7 O a2 c2 a3 c3 a5 c5 a6 c6 a7 c7 _ rfl w h hT
  exact iEnc0 k e1 e2 e3 e4 e5 tb n2 C n3 V col n5 E n6 W n7 m7 O a2 c2 a3 c3 a5 c5 a6 c6 a7 c7 _ rfl w h hT
theorem sEnc (d : St) (p : Sa) (w : World) (h : SM w d p) : Calls Tryz.prog 17 #[.agg (cs8 d p)] w fun e w' => e = .returned (.string (encS d)) ∧ Below w.heap.size w w' := by
  obtain ⟨k, tb, n2, C, n3, V, col, n5, E, n6, W, n7, m7, O⟩ := d
  obtain ⟨a2, c2, a3, c3, a5, c5, a6, c6, a7, c7⟩ := p
  by_cases e1 : k = 1
  · subst e1; exact sEnc1 tb n2 C n3 V col n5 E n6 W n7 m7 O a2 c2 a3 c3 a5 c5 a6 c6 a7 c7 _ rfl w h
  by_cases e2 : k = 2
  · subst e2; exact sEnc2 tb n2 C n3 V col n5 E n6 W n7 m7 O a2 c2 a3 c3 a5 c5 a6 c6 a7 c7 _ rfl w h
  by_cases e3 : k = 3
  · subst e3; exact sEnc3 tb n2 C n3 V col n5 E n6 W n7 m7 O a2 c2 a3 c3 a5 c5 a6 c6 a7 c7 _ rfl w h
  by_cases e4 : k = 4
  · subst e4; exact sEnc4 tb n2 C n3 V col n5 E n6 W n7 m7 O a2 c2 a3 c3 a5 c5 a6 c6 a7 c7 _ rfl w h
  by_cases e5 : k = 5
  · subst e5; exact sEnc5 tb n2 C n3 V col n5 E n6 W n7 m7 O a2 c2 a3 c3 a5 c5 a6 c6 a7 c7 _ rfl w h
  exact sEnc0 k e1 e2 e3 e4 e5 tb n2 C n3 V col n5 E n6 W n7 m7 O a2 c2 a3 c3 a5 c5 a6 c6 a7 c7 _ rfl w h
end Go.Proofs.YtnbgdfhfmbgbhaaGreatDoor
