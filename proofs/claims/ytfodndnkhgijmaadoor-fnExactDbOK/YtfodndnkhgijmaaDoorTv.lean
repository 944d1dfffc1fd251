/-
  DbOK: the law.
-/
import Derived.Test.YtfodndnkhgijmaaDoorTr
namespace Go.Proofs.YtfodndnkhgijmaaDoor
open Go.RowKit Go.Maps Go.WideMaps
theorem cell0 {w w' : World} {v : Value} {t : TypeId} (hb : Below (w.alloc (.cells #[v] t)).heap.size (w.alloc (.cells #[v] t)) w') : w'.cell? ⟨w.heap.size, 0, none⟩ = some v :=
  keepB hb ((cell_of_row _ _ 0 _ _ _ (heap_alloc_new w (.cells #[v] t))).trans rfl)
theorem TL.drew {w : World} {a : Option Addr} {n : Nat} {T : Nat → Td} (h : TL w a n T) : TL w.drew a n T := h.later (bdrew w)
set_option maxRecDepth 20000 in
set_option maxHeartbeats 4000000 in
theorem lawDb (a : Option Addr) (n c : Nat) (T : Nat → Td) (w : World) (h : TX w a n T) (hT : SpT w) : Calls Tryd.prog 3 #[.agg #[.slice a n c]] w fun e w' => e = .returned (.bool true) ∧ Below w.heap.size w w' := by
  have hb0 := bal w (.cells #[.slice a n c] 24)
  have H0 := h.later hb0
  have Q0 : (w.alloc (.cells #[.slice a n c] 24)).cell? ⟨w.heap.size, 0, none⟩ = some (.slice a n c) := cell0 (Below.refl _ _)
  go_enter Tryd.func3, Tryd.ntmps3
  go_wp2_with (first | (go_at_call 6; refine (szDb_any a n c T _ H0).mono ?_; rintro e w1 ⟨hb1, r, rfl, hr⟩; have Q1 := keepB hb1 Q0; replace hb1 := bstep hb0 hb1; by_cases hp : (0 : Int) ≤ r) | (go_at_call 8; have _h := hb3; refine (toDb_any a n c T _ ((h.small (hr hp).2).later hb3) (hr hp).1).mono ?_; rintro e w4 ⟨g4, rfl, H4, hb4⟩; have hb4a := bstep hb4 (bal w4 (.cells #[.slice (some ⟨g4, 0, none⟩) n n] 29)); have Q4 := keepB hb4a Q3; have H4a := H4.later (bal w4 (.cells #[.slice (some ⟨g4, 0, none⟩) n n] 29)); have P4 : (w4.alloc (.cells #[.slice (some ⟨g4, 0, none⟩) n n] 29)).cell? ⟨w4.heap.size, 0, none⟩ = some (.slice (some ⟨g4, 0, none⟩) n n) := cell0 (Below.refl _ _); replace hb4 := bstep hb3 hb4a) | (go_at_call 8; refine (toDb_any a n c T _ ((h.small (hr hp).2).later hb1) (hr hp).1).mono ?_; rintro e w2 ⟨g2, rfl, H2, hb2⟩; have Q2 := keepB hb2 Q1; replace hb2 := bstep hb1 hb2) | (go_at_call 7; refine (sDb g2 n n T _ H2 (hr hp).1).mono ?_; rintro e w3 ⟨rfl, hb3⟩; have Q3 := keepB hb3 Q2; replace hb3 := bstep hb2 hb3) | (go_at_call 9; refine (iDb _ n n T _ (hT.later hb4) H4a.tl (hr hp).1).mono ?_; rintro e w5 ⟨rfl, hb5⟩; have Q5 := keepB hb5 Q4; have P5 := keepB hb5 P4; have H5 := H4a.later hb5; replace hb5 := bstep hb4 hb5))
  · go_region_with (first | (go_at_call 8; refine (toDb_any a n c T _ ((h.small (hr hp).2).later hb5).drew (hr hp).1).mono ?_; rintro e w6 ⟨g6, rfl, H6, hb6⟩; have P6 := keepB (undrew hb6) P5; have H6' := H5.later (undrew hb6); replace hb6 := bstep hb5 (undrew hb6)) | (go_at_call 10; refine (eqDb_any _ _ n n n T _ H6'.tl H6.tl (hr hp).1).mono ?_; rintro e w7 ⟨rfl, hb7⟩; replace hb7 := bstep hb6 hb7))
    all_goals
      go_wp2
      go_ret
      exact ⟨rfl, hb7⟩
  · go_ret
    exact ⟨rfl, hb1⟩
end Go.Proofs.YtfodndnkhgijmaaDoor
