/-
  EncodeStm: both sides, and the law.
-/
import Derived.Test.YtfodndnkhgijmaaDoorNu
import Derived.Test.YtfodndnkhgijmaaDoorEg
import Derived.Test.YtfodndnkhgijmaaDoorEh
namespace Go.Proofs.YtfodndnkhgijmaaDoor
open Go.RowKit Go.Maps Go.WideMaps
theorem iEnc (d : St) (p : Sa) (w : World) (h : SM w d p) (hT : SpT w) : Calls Tryd.prog 17 #[.agg (cs8 d p)] w fun e w' => e = .returned (.string (encS d)) ∧ Below w.heap.size w w' := by
  obtain ⟨k, tb, n2, C, n3, V, col, n5, E, n6, W, n7, m7, O⟩ := d
  obtain ⟨a2, c2, a3, c3, a5, c5, a6, c6, a7, c7⟩ := p
  by_cases e1 : k = 1
  · subst e1; exact iEnc1 tb n2 C n3 V col n5 E n6 W n7 m7 O a2 c2 a3 c3 a5 c5 a6 c6 a7 c7 _ rfl w h hT
  by_cases e2 : k = 2
  · subst e2; exact iEnc2 tb n2 C n3 V col n5 E n6 W n7 m7 O a2 c2 a3 c3 a5 c5 a6 c6 a7 c7 _ rfl w h hT
  by_cases e3 : k = 3
  · subst e3; exact iEnc3 tb n2 C n3 V col n5 E n6 W n7 m7 O a2 c2 a3 c3 a5 c5 a6 c6 a7 c7 _ rfl w h hT
  by_cases e4 : k = 4
  · subst e4; exact iEnc4 tb n2 C n3 V col n5 E n6 W n7 m7 O a2 c2 a3 c3 a5 c5 a6 c6 a7 c7 _ rfl w h hT
  by_cases e5 : k = 5
  · subst e5; exact iEnc5 tb n2 C n3 V col n5 E n6 W n7 m7 O a2 c2 a3 c3 a5 c5 a6 c6 a7 c7 _ rfl w h hT
  exact iEnc0 k e1 e2 e3 e4 e5 tb n2 C n3 V col n5 E n6 W n7 m7 O a2 c2 a3 c3 a5 c5 a6 c6 a7 c7 _ rfl w h hT
theorem sEnc (d : St) (p : Sa) (w : World) (h : SM w d p) : Calls Tryd.prog 16 #[.agg (cs8 d p)] w fun e w' => e = .returned (.string (encS d)) ∧ Below w.heap.size w w' := by
  obtain ⟨k, tb, n2, C, n3, V, col, n5, E, n6, W, n7, m7, O⟩ := d
  obtain ⟨a2, c2, a3, c3, a5, c5, a6, c6, a7, c7⟩ := p
  by_cases e1 : k = 1
  · subst e1; exact sEnc1 tb n2 C n3 V col n5 E n6 W n7 m7 O a2 c2 a3 c3 a5 c5 a6 c6 a7 c7 _ rfl w h
  by_cases e2 : k = 2
  · subst e2; exact sEnc2 tb n2 C n3 V col n5 E n6 W n7 m7 O a2 c2 a3 c3 a5 c5 a6 c6 a7 c7 _ rfl w h
  by_cases e3 : k = 3
  · subst e3; exact sEnc3 tb n2 C n3 V col n5 E n6 W n7 m7 O a2 c2 a3 c3 a5 c5 a6 c6 a7 c7 _ rfl w h
  by_cases e4 : k = 4
  · subst e4; exact sEnc4 tb n2 C n3 V col n5 E n6 W n7 m7 O a2 c2 a3 c3 a5 c5 a6 c6 a7 c7 _ rfl w h
  by_cases e5 : k = 5
  · subst e5; exact sEnc5 tb n2 C n3 V col n5 E n6 W n7 m7 O a2 c2 a3 c3 a5 c5 a6 c6 a7 c7 _ rfl w h
  exact sEnc0 k e1 e2 e3 e4 e5 tb n2 C n3 V col n5 E n6 W n7 m7 O a2 c2 a3 c3 a5 c5 a6 c6 a7 c7 _ rfl w h
set_option maxRecDepth 20000 in
set_option maxHeartbeats 4000000 in
theorem lawEnc (d : St) (p : Sa) (w : World) (h : SX w d p) (hT : SpT w) : Calls Tryd.prog 5 #[.agg (cs8 d p)] w fun e w' => e = .returned (.bool true) ∧ Below w.heap.size w w' := by
  have hb0 := bal w (.cells (cs8 d p) 38)
  have H0 := h.later hb0
  have Q0 := B8.new w d p 38
  go_enter Tryd.func5, Tryd.ntmps5
  go_wp2_with (first | (go_at_call 11; refine (szStm_any d p _ H0).mono ?_; rintro e w1 ⟨hb1, r, rfl, hr⟩; have Q1 := Q0.later hb1; obtain ⟨x0, x1, x2, x3, x4, x5, x6, x7⟩ := id Q1; replace hb1 := bstep hb0 hb1; by_cases hp : (0 : Int) ≤ r) | (go_at_call 13; have _h := hb3; refine (toStm_any d p _ ((h.small (hr hp)).later hb3)).mono ?_; rintro e w4 ⟨p4, rfl, H4, hb4⟩; have Q4 := Q3.later hb4; have hb4a := bstep hb4 (bal w4 (.cells (cs8 d p4) 46)); have Q4a := Q3.later hb4a; have H4a := H4.later (bal w4 (.cells (cs8 d p4) 46)); have P4 := B8.new w4 d p4 46; replace hb4 := bstep hb3 hb4a) | (go_at_call 13; refine (toStm_any d p _ ((h.small (hr hp)).later hb1)).mono ?_; rintro e w2 ⟨p2, rfl, H2, hb2⟩; have Q2 := Q1.later hb2; replace hb2 := bstep hb1 hb2) | (go_at_call 16; refine (sEnc d p2 _ H2).mono ?_; rintro e w3 ⟨rfl, hb3⟩; have Q3 := Q2.later hb3; obtain ⟨y0, y1, y2, y3, y4, y5, y6, y7⟩ := id Q3; replace hb3 := bstep hb2 hb3) | (go_at_call 17; refine (iEnc d p4 _ H4a (hT.later hb4)).mono ?_; rintro e w5 ⟨rfl, hb5⟩; have Q5 := Q4a.later hb5; have P5 := P4.later hb5; have H5 := H4a.later hb5; obtain ⟨z0, z1, z2, z3, z4, z5, z6, z7⟩ := id Q5; obtain ⟨t0, t1, t2, t3, t4, t5, t6, t7⟩ := id P5; replace hb5 := bstep hb4 hb5))
  · go_region_with (first | (go_at_call 13; refine (toStm_any d p _ ((h.small (hr hp)).later hb5).drew).mono ?_; rintro e w6 ⟨p6, rfl, H6, hb6⟩; have P6 := P5.later (undrew hb6); have H6' := H5.later (undrew hb6); obtain ⟨u0, u1, u2, u3, u4, u5, u6, u7⟩ := id P6; replace hb6 := bstep hb5 (undrew hb6)) | (go_at_call 15; refine (eqStm_any d p4 p6 _ H6' H6).mono ?_; rintro e w7 ⟨rfl, hb7⟩; replace hb7 := bstep hb6 hb7))
    all_goals
      go_wp2
      go_ret
      exact ⟨rfl, hb7⟩
  · go_ret
    exact ⟨rfl, hb1⟩
end Go.Proofs.YtfodndnkhgijmaaDoor
