/-
  StmOK: the law.
-/
import Derived.Test.YtfodndnkhgijmaaDoorNt
import Derived.Test.YtfodndnkhgijmaaDoorNl
import Derived.Test.YtfodndnkhgijmaaDoorNn
namespace Go.Proofs.YtfodndnkhgijmaaDoor
open Go.RowKit Go.Maps Go.WideMaps
theorem SM.drew {w : World} {d : St} {p : Sa} (h : SM w d p) : SM w.drew d p := ⟨h.tb, h.col, h.co, h.va, h.ex, h.wh, h.ou, h.l2, h.l3, h.l5, h.l6, h.l7⟩
set_option maxRecDepth 20000 in
set_option maxHeartbeats 4000000 in
theorem lawStm (d : St) (p : Sa) (w : World) (h : SX w d p) (hT : SpT w) : Calls Tryd.prog 4 #[.agg (cs8 d p)] w fun e w' => e = .returned (.bool true) ∧ Below w.heap.size w w' := by
  have hb0 := bal w (.cells (cs8 d p) 38)
  have H0 := h.later hb0
  have Q0 := B8.new w d p 38
  go_enter Tryd.func4, Tryd.ntmps4
  go_wp2_with (first | (go_at_call 11; refine (szStm_any d p _ H0).mono ?_; rintro e w1 ⟨hb1, r, rfl, hr⟩; have Q1 := Q0.later hb1; obtain ⟨x0, x1, x2, x3, x4, x5, x6, x7⟩ := id Q1; replace hb1 := bstep hb0 hb1; by_cases hp : (0 : Int) ≤ r) | (go_at_call 13; have _h := hb3; refine (toStm_any d p _ ((h.small (hr hp)).later hb3)).mono ?_; rintro e w4 ⟨p4, rfl, H4, hb4⟩; have Q4 := Q3.later hb4; have hb4a := bstep hb4 (bal w4 (.cells (cs8 d p4) 46)); have Q4a := Q3.later hb4a; have H4a := H4.later (bal w4 (.cells (cs8 d p4) 46)); have P4 := B8.new w4 d p4 46; replace hb4 := bstep hb3 hb4a) | (go_at_call 13; refine (toStm_any d p _ ((h.small (hr hp)).later hb1)).mono ?_; rintro e w2 ⟨p2, rfl, H2, hb2⟩; have Q2 := Q1.later hb2; replace hb2 := bstep hb1 hb2) | (go_at_call 12; refine (sStm d p2 _ H2).mono ?_; rintro e w3 ⟨rfl, hb3⟩; have Q3 := Q2.later hb3; obtain ⟨y0, y1, y2, y3, y4, y5, y6, y7⟩ := id Q3; replace hb3 := bstep hb2 hb3) | (go_at_call 14; refine (iStm d p4 _ H4a (hT.later hb4)).mono ?_; rintro e w5 ⟨rfl, hb5⟩; have Q5 := Q4a.later hb5; have P5 := P4.later hb5; have H5 := H4a.later hb5; obtain ⟨z0, z1, z2, z3, z4, z5, z6, z7⟩ := id Q5; obtain ⟨t0, t1, t2, t3, t4, t5, t6, t7⟩ := id P5; replace hb5 := bstep hb4 hb5))
  · go_region_with (first | (go_at_call 13; refine (toStm_any d p _ ((h.small (hr hp)).later hb5).drew).mono ?_; rintro e w6 ⟨p6, rfl, H6, hb6⟩; have P6 := P5.later (undrew hb6); have H6' := H5.later (undrew hb6); obtain ⟨u0, u1, u2, u3, u4, u5, u6, u7⟩ := id P6; replace hb6 := bstep hb5 (undrew hb6)) | (go_at_call 15; refine (eqStm_any d p4 p6 _ H6' H6).mono ?_; rintro e w7 ⟨rfl, hb7⟩; replace hb7 := bstep hb6 hb7))
    all_goals
      go_wp2
      go_ret
      exact ⟨rfl, hb7⟩
  · go_ret
    exact ⟨rfl, hb1⟩
end Go.Proofs.YtfodndnkhgijmaaDoor
