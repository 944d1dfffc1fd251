/-
  Recovery, the program's side.
-/
import Derived.Test.YtngppfjphbodcaaGreatDoorQi
namespace Go.Proofs.YtngppfjphbodcaaGreatDoor
open Go.RowKit
theorem results_ct2 {P : Program} {fn : Func} {p t0 t1 : Tmp} {ty : TypeId} (h : fn.results = #[.cell p ty, .tmp t0, .tmp t1]) (tmps : Array Value) (w : World) (g : Nat) (t : TypeId) (cs : Array Value) (fr : Nat × Nat) (d : TypeDesc)
    (hp : tmps.getD p undef = .pointer (some ⟨g, 0, none⟩)) (hg : w.heap[g]? = some (.cells cs t fr))
    (hu : P.underlying ty = some d) (hd : (match d with | .struct _ | .array _ _ => true | _ => false) = true) (hi : (P.info? ty).map (·.size) = some cs.size) :
    (results fn tmps).run P w = .ok (.tuple #[.agg cs, tmps.getD t0 undef, tmps.getD t1 undef]) w := by
  have hp1 : tmps[p]?.getD undef = .pointer (some ⟨g, 0, none⟩) := by simpa using hp
  simp [results, h, hp1, asAddr, run_loadVar_row w g t ty cs fr d hg hu hd hi]
theorem BK.setN {B p : Nat} {w V : World} (h : BK B p w V) {Q : Nat} (hQ : w.heap.size ≤ Q) (hB : B ≤ w.heap.size) (o : Nat) (v : Value) : BK B p w (V.setCell ⟨Q, o, none⟩ v) :=
  ⟨h.b.setCell (by show B ≤ Q; omega) v, fun q X t fr h1 h2 h3 => rowO (h.k q X t fr h1 h2 h3) (by have := (Array.getElem?_eq_some_iff.1 h3).1; omega)⟩
theorem BK.own {B p : Nat} {w V : World} (h : BK B p w V) {b g cap : Nat} {E : List ByteArray} (hO : OwnS w b g cap E) (hp : g ≠ p) : OwnS V b g cap E := by
  obtain ⟨_, cur, hc⟩ := orw_in hO
  exact orw_at hO ((h.k g cur _ _ hp (by decide) hc).trans hc.symm)
/-- The result's box, and the disk. -/
structure RC (w V : World) (p B : Nat) (M : List Fil) (x1 x2 x3 x4 : Int) (x5 : Bool) : Prop where
  d : Dk V p B M x1 x2 x3 x4 x5
  r : V.heap[w.heap.size]? = some (.cells #[.int .i64 0, .int .i64 0] 30 (0, 0))
  k : BK B p w V
  lt : p < w.heap.size ∧ B ≤ p
theorem RC.later {w V V' : World} {p B : Nat} {M : List Fil} {x1 x2 x3 x4 : Int} {x5 : Bool} (h : RC w V p B M x1 x2 x3 x4 x5) (hb : Below V.heap.size V V') : RC w V' p B M x1 x2 x3 x4 x5 := ⟨h.d.later hb, rowL h.r hb, h.k.trans (BK.of hb (by have := h.d.lt; omega)), h.lt⟩
def RecR (w : World) (p B : Nat) (x1 x3 x4 : Int) (A : An) (e : Ending) (w' : World) : Prop := ∃ ge ce, e = .returned (.tuple #[.agg #[.int .i64 A.l, .int .i64 A.g], .slice (some ⟨ge, 0, none⟩) A.E.length ce, .int .i64 A.c]) ∧ Dk w' p B A.M x1 A.z2 x3 x4 A.z5 ∧ OwnS w' w.heap.size ge ce A.E ∧ BK B p w w'
theorem RC.fin {w V : World} {p B : Nat} {M : List Fil} {x1 x2 x3 x4 : Int} {x5 : Bool} (h : RC w V p B M x1 x2 x3 x4 x5) {ge ce : Nat} {E : List ByteArray} (hE : OwnS V w.heap.size ge ce E) (l g c : Int) (v0 v1 : Value) : RecR w p B x1 x3 x4 ⟨M, x2, x5, l, g, E, c⟩ (.returned (.tuple #[.agg #[.int .i64 l, .int .i64 g], .slice (some ⟨ge, 0, none⟩) E.length ce, .int .i64 c])) ((V.setCell ⟨w.heap.size, 0, none⟩ v0).setCell ⟨w.heap.size, 1, none⟩ v1) := by
  have hlt := h.lt
  exact ⟨ge, ce, rfl, h.d.set2 h.r (by omega) v0 v1, orw_set2 hE (orw_ne hE h.r (by decide)) _ _, (h.k.setN (Nat.le_refl _) (by omega) 0 v0).setN (Nat.le_refl _) (by omega) 1 v1⟩
set_option maxRecDepth 20000 in
set_option maxHeartbeats 8000000 in
theorem iRecDown (p B : Nat) (L : List Fil) (x1 x2 x3 x4 : Int) (w : World) (h : Dk w p B L x1 x2 x3 x4 true) : Calls Tryz.prog 26 #[.pointer (some ⟨p, 0, none⟩)] w (RecR w p B x1 x3 x4 ⟨L, x2, true, 0, 0, [], 11⟩) := by
  have hlt := h.lt
  have hC : RC w (w.alloc (.cells #[.int .i64 0, .int .i64 0] 30)) p B L x1 x2 x3 x4 true := ⟨h.later (bal _ _), heap_alloc_new _ _, BK.of (bal _ _) (by omega), hlt⟩
  obtain ⟨g, cap, hA, _, _⟩ := id hC.d
  have c3 := hA.box.c3
  have hC2 := hC.later (bal _ (.cells #[] 9))
  have hO := own_nil (w.alloc (.cells #[.int .i64 0, .int .i64 0] 30))
  simp only [World.size_alloc] at hO
  obtain ⟨b0, b1⟩ := B2.of hC2.r
  obtain ⟨f0, f1⟩ := F2.of hC2.r
  go_enter Tryz.func26, Tryz.ntmps26
  go_wp2
  refine bodyPost_ret (results_ct2 Tryz.results26 _ _ w.heap.size 30 _ (0, 0) _ rfl hC2.r Tryz.underlying30 rfl (by kernel_rfl)) rfl ?_
  exact ⟨w.heap.size + 1, 0, rfl, hC2.d, hO.wk (by omega), hC2.k⟩
set_option maxRecDepth 20000 in
set_option maxHeartbeats 8000000 in
theorem iRecGo (p B : Nat) (L : List Fil) (x1 x2 x3 x4 : Int) (w : World) (h : Dk w p B L x1 x2 x3 x4 false) (hok : Ok6 L x1 x2 1048576) (hT : ∀ w', Below B w w' → T10 w') (A : An) (hA : recA L x1 x2 x3 x4 false = A) : Calls Tryz.prog 26 #[.pointer (some ⟨p, 0, none⟩)] w (RecR w p B x1 x3 x4 A) := by
  have hlt := h.lt
  have HA : Hid (recA L x1 x2 x3 x4 false = A) := hA
  clear hA
  obtain ⟨l0, E0, g0, hrd⟩ : ∃ l0 E0 g0, rd L = (l0, E0, g0) := ⟨_, _, _, rfl⟩
  have HRD : Hid (rd L = (l0, E0, g0)) := hrd
  have hRd := rd_is L hok.good.len
  rw [hrd] at hRd
  have hl0 : l0 ≤ 300 := hRd.top
  have HP : Hid (1 ≤ l0 → fdN L (seg l0) < L.length) := fun h1 => (hRd.pos h1).1
  clear hrd hRd
  have hC : RC w (w.alloc (.cells #[.int .i64 0, .int .i64 0] 30)) p B L x1 x2 x3 x4 false := ⟨h.later (bal _ _), heap_alloc_new _ _, BK.of (bal _ _) (by omega), hlt⟩
  obtain ⟨g, cap, hA, _, _⟩ := id hC.d
  have c3 := hA.box.c3
  clear hA
  go_enter Tryz.func26, Tryz.ntmps26
  go_upto_region 4 with (go_at_call 45; refine (iRead p B L x1 x2 x3 x4 _ hC.d hok (hT _ hC.k.b) l0 g0 E0 HRD.out).mono ?_; rintro e w1 ⟨l, g, gE, cE, E, rfl, hE1, hb1, hcase⟩; have HCS : Hid ((2000 < E0.length ∧ 2000 < E.length) ∨ (E0.length ≤ 2000 ∧ l = (l0 : Int) ∧ E = E0 ∧ g = (g0 : Int))) := hcase; clear hcase)
  have hb2 := bal w1 (.cells #[.int .i64 l, .int .i64 g] 30)
  have hQ := heap_alloc_new w1 (.cells #[.int .i64 l, .int .i64 g] 30)
  have hC2 := (hC.later hb1).later hb2
  have hE2 := (hE1.later hb2).wk (B' := w.heap.size) (by simp)
  have hQN : w.heap.size < w1.heap.size := by have := hb1.size; simp at this; omega
  clear hC hE1 hb1 hb2 c3
  generalize w1.heap.size = Q at hQ hQN ⊢
  generalize w1.alloc (.cells #[.int .i64 l, .int .i64 g] 30) = w2 at hQ hC2 hE2 ⊢
  by_cases hm : 2000 < E.length
  · have hmi : (2000 : Int) < (E.length : Int) := by omega
    have hE0 : 2000 < E0.length := by
      rcases HCS.out with h1 | h1
      · exact h1.1
      · rw [h1.2.2.1] at hm; exact hm
    have hC3 := hC2.later (bal _ (.cells #[] 9))
    have hO := own_nil w2
    have hs2 := hC2.k.b.size
    have hN2 : w.heap.size ≤ w2.heap.size := by have := (Array.getElem?_eq_some_iff.1 hC2.r).1; omega
    obtain ⟨b0, b1⟩ := B2.of hC3.r
    obtain ⟨f0, f1⟩ := F2.of hC3.r
    go_wp2
    refine bodyPost_ret (results_ct2 Tryz.results26 _ _ w.heap.size 30 _ (0, 0) _ rfl (set2_row _ _ hC3.r) Tryz.underlying30 rfl (by kernel_rfl)) rfl ?_
    rw [← HA.out, recA_many HRD.out hE0]
    exact hC3.fin (hO.wk hN2) 0 0 22 _ _
  · have hmi : ¬ (2000 : Int) < (E.length : Int) := by omega
    obtain ⟨hE0, rfl, rfl, rfl⟩ : E0.length ≤ 2000 ∧ l = (l0 : Int) ∧ E = E0 ∧ g = (g0 : Int) := by
      rcases HCS.out with h1 | h1
      · exact absurd h1.2 hm
      · exact h1
    clear HCS
    obtain ⟨M, y2, y5, yc, hR⟩ : ∃ M y2 y5 yc, runO x1 x3 x4 (delO L l0 ++ tailO L l0 g0) L x2 false = (M, y2, y5, yc) := ⟨_, _, _, _, rfl⟩
    have HR : Hid (runO x1 x3 x4 (delO L l0 ++ tailO L l0 g0) L x2 false = (M, y2, y5, yc)) := hR
    clear hR
    obtain ⟨b0, b1⟩ := B2.of hQ
    have hgp : gE ≠ p := by have := (orw_in hE2).1; omega
    go_upto_region 7 with (go_at_call 46; refine (iSettle p B L x1 x2 x3 x4 l0 g0 _ hC2.d hok (fun w' hb => hT w' (hC2.k.b.trans hb)) hl0 HP.out M y2 y5 yc HR.out).mono ?_; rintro e w3 ⟨rfl, hD3, hK3⟩)
    have hQ3 := hK3.k Q _ _ _ (by omega) (by decide) hQ
    have hC3 : RC w w3 p B M x1 y2 x3 x4 y5 := ⟨hD3, hK3.k _ _ _ _ (by omega) (by decide) hC2.r, hC2.k.trans hK3, hlt⟩
    have hE3 := hK3.own hE2 hgp
    clear hC2 hE2 hQ b0 b1 hD3 hK3
    by_cases hc : yc = 0
    · subst hc
      have hmx : max (l0 : Int) 1 = ((max l0 1 : Nat) : Int) := by omega
      obtain ⟨b0, b1⟩ := B2.of hQ3
      obtain ⟨f0, f1⟩ := F2.of hQ3
      go_upto_region 10 with (fail)
      have hC4 : RC w (w3.setCell ⟨Q, 0, none⟩ (.int .i64 ((max l0 1 : Nat) : Int))) p B M x1 y2 x3 x4 y5 := ⟨hC3.d.set1 hQ3 (by omega) _, rowO hC3.r (by omega), hC3.k.setN (by omega) (by omega) 0 _, hlt⟩
      have hE4 := orw_set hE3 (orw_ne hE3 hQ3 (by decide)) 0 (.int .i64 ((max l0 1 : Nat) : Int))
      have hQ4 : (w3.setCell ⟨Q, 0, none⟩ (.int .i64 ((max l0 1 : Nat) : Int))).heap[Q]? = some (.cells #[.int .i64 ((max l0 1 : Nat) : Int), .int .i64 (g0 : Int)] 30 (0, 0)) := heap_setCell_same _ _ 0 _ _ _ hQ3
      clear hC3 hE3 hQ3 b0 b1 f0 f1
      generalize w3.setCell ⟨Q, 0, none⟩ (.int .i64 ((max l0 1 : Nat) : Int)) = w4 at hC4 hE4 hQ4 ⊢
      have hQ5 : w4.heap[Q]? = some (.cells #[.int .i64 ((max l0 1 : Nat) : Int), .int .i64 (g0 : Int)] 30 (0, 0)) := hQ4
      obtain ⟨b0, b1⟩ := B2.of hQ5
      obtain ⟨e0, e1⟩ := B2.of hC4.r
      obtain ⟨f0, f1⟩ := F2.of hC4.r
      go_wp2
      refine bodyPost_ret (results_ct2 Tryz.results26 _ _ w.heap.size 30 _ (0, 0) _ rfl (set2_row _ _ hC4.r) Tryz.underlying30 rfl (by kernel_rfl)) rfl ?_
      rw [← HA.out, recA_ok HRD.out (by omega) HR.out]
      exact hC4.fin hE4 _ _ 0 _ _
    · have hC4 := hC3.later (bal _ (.cells #[] 9))
      have hO := own_nil w3
      have hN2 : w.heap.size ≤ w3.heap.size := by have := (Array.getElem?_eq_some_iff.1 hC3.r).1; omega
      obtain ⟨b0, b1⟩ := B2.of hC4.r
      obtain ⟨f0, f1⟩ := F2.of hC4.r
      go_wp2
      refine bodyPost_ret (results_ct2 Tryz.results26 _ _ w.heap.size 30 _ (0, 0) _ rfl (set2_row _ _ hC4.r) Tryz.underlying30 rfl (by kernel_rfl)) rfl ?_
      rw [← HA.out, recA_code HRD.out (by omega) HR.out hc]
      exact hC4.fin (hO.wk hN2) 0 0 yc _ _
/-- The boxes: the argument, the two results that are not yet written. -/
structure IW (w V : World) (v : Value) (x1 x2 x3 x4 : Int) (x5 : Bool) : Prop where
  fs : V.heap[w.heap.size]? = some (.cells #[v, .int .i64 x1, .int .i64 x2, .int .i64 x3, .int .i64 x4, .bool x5] 28 (0, 0))
  r1 : V.heap[w.heap.size + 1]? = some (.cells #[.slice none 0 0, .int .i64 0, .int .i64 0, .int .i64 0, .int .i64 0, .bool false] 28 (0, 0))
  r2 : V.heap[w.heap.size + 1 + 1]? = some (.cells #[.int .i64 0, .int .i64 0] 30 (0, 0))
  b : Below w.heap.size w V
theorem IW.later {w V V' : World} {v : Value} {x1 x2 x3 x4 : Int} {x5 : Bool} (h : IW w V v x1 x2 x3 x4 x5) (hb : Below V.heap.size V V') : IW w V' v x1 x2 x3 x4 x5 := ⟨rowL h.fs hb, rowL h.r1 hb, rowL h.r2 hb, bstep h.b hb⟩
theorem IW.low {w V V' : World} {v : Value} {x1 x2 x3 x4 : Int} {x5 : Bool} {B : Nat} (h : IW w V v x1 x2 x3 x4 x5) (hb : Below B V V') (hB : w.heap.size + 1 + 1 < B) : IW w V' v x1 x2 x3 x4 x5 :=
  ⟨(hb.block _ (by omega)).trans h.fs, (hb.block _ (by omega)).trans h.r1, (hb.block _ (by omega)).trans h.r2, h.b.trans (hb.mono (by omega))⟩
theorem IW.new (w : World) (v : Value) (x1 x2 x3 x4 : Int) (x5 : Bool) : IW w (((w.alloc (.cells #[v, .int .i64 x1, .int .i64 x2, .int .i64 x3, .int .i64 x4, .bool x5] 28)).alloc (.cells #[.slice none 0 0, .int .i64 0, .int .i64 0, .int .i64 0, .int .i64 0, .bool false] 28)).alloc (.cells #[.int .i64 0, .int .i64 0] 30)) v x1 x2 x3 x4 x5 := by
  have h1 := heap_alloc_new w (.cells #[v, .int .i64 x1, .int .i64 x2, .int .i64 x3, .int .i64 x4, .bool x5] 28)
  have h2 := heap_alloc_new (w.alloc (.cells #[v, .int .i64 x1, .int .i64 x2, .int .i64 x3, .int .i64 x4, .bool x5] 28)) (.cells #[.slice none 0 0, .int .i64 0, .int .i64 0, .int .i64 0, .int .i64 0, .bool false] 28)
  have h3 := heap_alloc_new ((w.alloc (.cells #[v, .int .i64 x1, .int .i64 x2, .int .i64 x3, .int .i64 x4, .bool x5] 28)).alloc (.cells #[.slice none 0 0, .int .i64 0, .int .i64 0, .int .i64 0, .int .i64 0, .bool false] 28)) (.cells #[.int .i64 0, .int .i64 0] 30)
  simp only [World.size_alloc] at h2 h3
  exact ⟨rowL h1 (bstep (bal _ _) (bal _ _)), rowL h2 (bal _ _), h3, below3 _ _ _ _⟩
set_option maxRecDepth 20000 in
set_option maxHeartbeats 8000000 in
theorem iRecBad (a : Option Addr) (n c : Nat) (F : Nat → Fil) (x1 x2 x3 x4 : Int) (x5 : Bool) (w : World) (h : FL w a n F) (hsm : Small n F) (hno : okFs n F x1 x2 x3 x4 = false) :
    Calls Tryz.prog 7 #[.agg #[.slice a n c, .int .i64 x1, .int .i64 x2, .int .i64 x3, .int .i64 x4, .bool x5]] w fun e w' => ∃ ge ce, e = .returned (.tuple #[.agg #[.slice none 0 0, .int .i64 0, .int .i64 0, .int .i64 0, .int .i64 0, .bool false], .agg #[.int .i64 0, .int .i64 0], .slice (some ⟨ge, 0, none⟩) 0 ce, .int .i64 16]) ∧ OwnS w' w.heap.size ge ce [] ∧ Below w.heap.size w w' := by
  have hN := IW.new w (.slice a n c) x1 x2 x3 x4 x5
  obtain ⟨k0, k1, k2, k3, k4, k5⟩ := B6.of hN.fs
  go_enter Tryz.func7, Tryz.ntmps7
  go_upto_region 2 with (go_at_call 24; refine (iValid a n c F x1 x2 x3 x4 x5 _ (h.later hN.b) hsm).mono ?_; rw [hno]; rintro e w1 ⟨rfl, hb1⟩)
  have hM := (hN.later hb1).later (bal w1 (.cells #[] 9))
  have hO := own_nil w1
  have hs1 := (hN.later hb1).b.size
  have hl2 := (Array.getElem?_eq_some_iff.1 (hN.later hb1).r2).1
  obtain ⟨p0, p1, p2, p3, p4, p5⟩ := B6.of hM.r1
  obtain ⟨q0, q1, q2, q3, q4, q5⟩ := F6.of hM.r1
  obtain ⟨r0, r1⟩ := B2.of hM.r2
  obtain ⟨s0, s1⟩ := F2.of hM.r2
  go_wp2
  refine bodyPost_ret (results_c2t2 Tryz.results7 _ _ (w.heap.size + 1) 28 _ (0, 0) _ rfl (fin8 _ _ _ _ _ _ _ _ hM.r1 (by omega)) Tryz.underlying28 rfl (by kernel_rfl) (w.heap.size + 1 + 1) 30 _ (0, 0) _ rfl (fin9 _ _ _ _ _ _ _ _ hM.r2 (by omega)) Tryz.underlying30 rfl (by kernel_rfl)) rfl ?_
  exact ⟨_, 0, rfl, orw_set2 (orw_set6 (hO.wk hs1) (by omega) _ _ _ _ _ _) (by omega) _ _, set2_below _ _ (set6_below _ _ _ _ _ _ hM.b (by omega)) (by omega)⟩
set_option maxRecDepth 20000 in
set_option maxHeartbeats 8000000 in
theorem iRec (b off n c : Nat) (L : List Fil) (hL : L.length = n) (x1 x2 x3 x4 : Int) (x5 : Bool) (w : World) (h : FL w (some ⟨b, off, none⟩) n (nthF L)) (hok : okFs n (nthF L) x1 x2 x3 x4 = true) (hs : sumL L ≤ 1048576) (hT : T10 w) (A : An) (hA : recA L x1 x2 x3 x4 x5 = A) :
    Calls Tryz.prog 7 #[.agg #[.slice (some ⟨b, off, none⟩) n c, .int .i64 x1, .int .i64 x2, .int .i64 x3, .int .i64 x4, .bool x5]] w fun e w' => RDone w w' x1 x3 x4 A e := by
  obtain ⟨hG, ⟨hx10, hx11⟩, ⟨hx20, hx21⟩, hx3, hx4⟩ := (okFs_iff L x1 x2 x3 x4).1 (by rw [hL]; exact hok)
  have hn : n ≤ 300 := by rw [← hL]; exact hG.len
  have hsm : Small n (nthF L) := by rw [← hL]; exact hG.small (by omega)
  have hO6 : Ok6 L x1 x2 1048576 := ⟨hG, hx11, hx20, hx21, hs⟩
  have HL : Hid (L.length = n) := hL
  have hrec : ∀ (p B : Nat) (v : World), Dk v p B L x1 x2 x3 x4 x5 → (∀ w', Below B v w' → T10 w') → Calls Tryz.prog 26 #[.pointer (some ⟨p, 0, none⟩)] v (RecR v p B x1 x3 x4 A) := by
    intro p B v hD hTv
    cases x5 with
    | true =>
      have e : A = ⟨L, x2, true, 0, 0, [], 11⟩ := by rw [← hA]; rfl
      rw [e]
      exact iRecDown p B L x1 x2 x3 x4 v hD
    | false => exact iRecGo p B L x1 x2 x3 x4 v hD hO6 hTv A hA
  have HREC : Hid (∀ (p B : Nat) (v : World), Dk v p B L x1 x2 x3 x4 x5 → (∀ w', Below B v w' → T10 w') → Calls Tryz.prog 26 #[.pointer (some ⟨p, 0, none⟩)] v (RecR v p B x1 x3 x4 A)) := hrec
  clear hL hA hrec
  have hN := IW.new w (.slice (some ⟨b, off, none⟩) n c) x1 x2 x3 x4 x5
  obtain ⟨k0, k1, k2, k3, k4, k5⟩ := B6.of hN.fs
  go_enter Tryz.func7, Tryz.ntmps7
  go_upto_region 3 with (go_at_call 24; refine (iValid _ n c (nthF L) x1 x2 x3 x4 x5 _ (h.later hN.b) hsm).mono ?_; rw [hok]; rintro e w1 ⟨rfl, hb1⟩)
  have hN1 := hN.later hb1
  clear k0 k1 k2 k3 k4 k5
  obtain ⟨k0, k1, k2, k3, k4, k5⟩ := B6.of hN1.fs
  have hl2 := (Array.getElem?_eq_some_iff.1 hN1.r2).1
  go_upto_region 4 with (go_at_call 25; refine (iMount b off n c (nthF L) x1 x2 x3 x4 x5 _ (h.later hN1.b) (by omega)).mono ?_; rintro e w2 ⟨p, g, cap, rfl, hD2, hM2, hgp, hp, hb2⟩)
  have hDk : Dk w2 p w1.heap.size L x1 x2 x3 x4 x5 := by
    have h2 := HL.out
    subst h2
    exact ⟨g, cap, hD2, hM2.l, hp⟩
  have hN2 := hN1.later hb2
  obtain ⟨B, hB⟩ : ∃ B, w1.heap.size = B := ⟨_, rfl⟩
  rw [hB] at hDk hl2 hb2
  have hTB : ∀ w', Below B w2 w' → T10 w' := fun w' hb => hT.later (hN2.b.trans (hb.mono (by omega)))
  have hBs : B ≤ w2.heap.size := by rw [← hB] at hb2 ⊢; exact hb2.size
  clear k0 k1 k2 k3 k4 k5 hD2 hM2 hgp hp hb2 hN1 hb1 hN hB
  go_upto_region 5 with (go_at_call 26; refine (HREC.out p B _ hDk hTB).mono ?_; rintro e w3 ⟨ge, ce, rfl, hD3, hE3, hK3⟩)
  have hI3 := hN2.low hK3.b hl2
  have hE3' := hE3.wk (B' := w.heap.size) (by omega)
  have hb4 := bal w3 (.cells #[.int .i64 A.l, .int .i64 A.g] 30)
  have hQ := heap_alloc_new w3 (.cells #[.int .i64 A.l, .int .i64 A.g] 30)
  have hI4 := hI3.later hb4
  have hE4 := hE3'.later hb4
  have hD4 := hD3.later hb4
  have hQN : w.heap.size + 1 + 1 < w3.heap.size := (Array.getElem?_eq_some_iff.1 hI3.r2).1
  clear hb4 hI3 hE3 hE3' hD3 hK3 hN2 hDk
  generalize w3.heap.size = Q at hQ hQN ⊢
  generalize w3.alloc (.cells #[.int .i64 A.l, .int .i64 A.g] 30) = w4 at hQ hI4 hE4 hD4 ⊢
  obtain ⟨gm, cp, hAt, hOL, hBp⟩ := hD4
  refine wp_region_held_drew (S := fun x => x.heap[Q]? = some (.cells #[.int .i64 A.l, .int .i64 A.g] 30 (0, 0))) (by kernel_rfl) (rowL hQ (bdrew1 _)) (fun hHeld => ?_)
  refine' wpAnyH_take (i := 0) (oi := ({ dst := some 24, op := Op.move (Operand.tmp 6), type := 57, pos := "l6_journal.go:151", after := #[], guard := none } : Oper)) (v := _) rfl (by kernel_rfl) (by kernel_rfl) (by kernel_rfl) (fun _ _ _ h => h) (Or.inl ⟨by rfl, fun x hSw => ?hyz1_0⟩) hHeld ?restz1_0
  case hyz1_0 =>
    obtain ⟨b0, b1⟩ := B2.of hSw
    go_simp
    try with_reducible rfl
  try simp only [Act.put, List.setIfInBounds_toArray, List.set_cons_zero, List.set_cons_succ]
  refine' wpAnyH_take (i := 2) (oi := ({ dst := some 26, op := Op.load 30 (Operand.tmp 7), type := 30, pos := "l6_journal.go:151", after := #[{ on := 5, ground := Ground.gcOnly Departure.lateStores }], guard := none } : Oper)) (v := _) rfl (by kernel_rfl) (by kernel_rfl) (by kernel_rfl) (fun _ _ _ h => h) (Or.inl ⟨by rfl, fun x hSw => ?hyz1_2⟩) hHeld ?restz1_2
  case hyz1_2 =>
    obtain ⟨b0, b1⟩ := B2.of hSw
    go_simp
    try with_reducible rfl
  try simp only [Act.put, List.setIfInBounds_toArray, List.set_cons_zero, List.set_cons_succ]
  refine' wpAnyH_take (i := 3) (oi := ({ dst := some 27, op := Op.move (Operand.tmp 8), type := 31, pos := "l6_journal.go:151", after := #[{ on := 6, ground := Ground.gcOnly Departure.lateStores }], guard := none } : Oper)) (v := _) rfl (by kernel_rfl) (by kernel_rfl) (by kernel_rfl) (fun _ _ _ h => h) (Or.inl ⟨by rfl, fun x hSw => ?hyz1_3⟩) hHeld ?restz1_3
  case hyz1_3 =>
    obtain ⟨b0, b1⟩ := B2.of hSw
    go_simp
    try with_reducible rfl
  try simp only [Act.put, List.setIfInBounds_toArray, List.set_cons_zero, List.set_cons_succ]
  refine' wpAnyH_take (i := 4) (oi := ({ dst := some 28, op := Op.move (Operand.tmp 9), type := 3, pos := "l6_journal.go:151", after := #[{ on := 7, ground := Ground.gcOnly Departure.lateStores }], guard := none } : Oper)) (v := _) rfl (by kernel_rfl) (by kernel_rfl) (by kernel_rfl) (fun _ _ _ h => h) (Or.inl ⟨by rfl, fun x hSw => ?hyz1_4⟩) hHeld ?restz1_4
  case hyz1_4 =>
    obtain ⟨b0, b1⟩ := B2.of hSw
    go_simp
    try with_reducible rfl
  try simp only [Act.put, List.setIfInBounds_toArray, List.set_cons_zero, List.set_cons_succ]
  refine wpAnyH_ready (rs := [1]) (by kernel_rfl) (by simp) ?_
  refine AllReadyH.cons (o := ({ dst := some 25, op := Op.call { callee := Callee.value (Operand.func 27), args := #[Operand.tmp 24], argTypes := #[57] }, type := 28, pos := "l6_journal.go:151", after := #[{ on := 0, ground := Ground.data }], guard := none } : Oper)) rfl (fun K hK => ?_) AllReadyH.nil
  go_simp
  refine (iState p _ _ A.M.length cp rfl x1 A.z2 x3 x4 A.z5 _ (hAt.later (bdrew1 _))).mono ?_
  rintro e wz ⟨rfl, hbz⟩
  refine hK.out _ _ (rowL hHeld hbz) (fun hHeld => ?_)
  clear hK K
  try simp only [Act.put, List.setIfInBounds_toArray, List.set_cons_zero, List.set_cons_succ]
  refine wpAnyH_ready (rs := [5]) (by kernel_rfl) (by simp) ?_
  refine AllReadyH.cons (o := ({ dst := none, op := Op.store 28 (Operand.tmp 2) (Operand.tmp 25), type := 0, pos := "l6_journal.go:151", after := #[{ on := 1, ground := Ground.data }, { on := 1, ground := Ground.chain }, { on := 0, ground := Ground.phase }, { on := 1, ground := Ground.phase }, { on := 2, ground := Ground.textOnly Departure.lateStores }, { on := 3, ground := Ground.textOnly Departure.lateStores }, { on := 4, ground := Ground.textOnly Departure.lateStores }], guard := none } : Oper)) rfl (fun K hK => ?_) AllReadyH.nil
  have hIz := (hI4.later (bdrew1 _)).later hbz; obtain ⟨p0, p1, p2, p3, p4, p5⟩ := B6.of hIz.r1; obtain ⟨q0, q1, q2, q3, q4, q5⟩ := F6.of hIz.r1
  go_simp
  refine hK.out _ _ (set6_oth (Q := w.heap.size + 1) _ _ _ _ _ _ hHeld (by omega)) (fun hHeld => ?_)
  clear hK K
  try simp only [Act.put, List.setIfInBounds_toArray, List.set_cons_zero, List.set_cons_succ]
  refine wpAnyH_ready (rs := [6]) (by kernel_rfl) (by simp) ?_
  refine AllReadyH.cons (o := ({ dst := none, op := Op.store 30 (Operand.tmp 3) (Operand.tmp 26), type := 0, pos := "l6_journal.go:151", after := #[{ on := 2, ground := Ground.data }, { on := 5, ground := Ground.chain }, { on := 0, ground := Ground.phase }, { on := 1, ground := Ground.phase }, { on := 2, ground := Ground.phase }, { on := 3, ground := Ground.textOnly Departure.lateStores }, { on := 4, ground := Ground.textOnly Departure.lateStores }, { on := 5, ground := Ground.phase }], guard := none } : Oper)) rfl (fun K hK => ?_) AllReadyH.nil
  have hr1 := set6_row (.slice (some ⟨gm, 0, none⟩) A.M.length cp) (.int .i64 x1) (.int .i64 A.z2) (.int .i64 x3) (.int .i64 x4) (.bool A.z5) hIz.r1; have hr2 := set6_oth (.slice (some ⟨gm, 0, none⟩) A.M.length cp) (.int .i64 x1) (.int .i64 A.z2) (.int .i64 x3) (.int .i64 x4) (.bool A.z5) (Q := w.heap.size + 1) hIz.r2 (by omega); have hOy := keep6 (v0 := .slice (some ⟨gm, 0, none⟩) A.M.length cp) (v1 := .int .i64 x1) (v2 := .int .i64 A.z2) (v3 := .int .i64 x3) (v4 := .int .i64 x4) (v5 := .bool A.z5) ((hOL.later (bdrew1 _)).later hbz) hIz.r1; have hEz := (hE4.later (bdrew1 _)).later hbz; have hEy := orw_set6 hEz (orw_ne hEz hIz.r1 (by decide)) (.slice (some ⟨gm, 0, none⟩) A.M.length cp) (.int .i64 x1) (.int .i64 A.z2) (.int .i64 x3) (.int .i64 x4) (.bool A.z5); have hby := set6_below (.slice (some ⟨gm, 0, none⟩) A.M.length cp) (.int .i64 x1) (.int .i64 A.z2) (.int .i64 x3) (.int .i64 x4) (.bool A.z5) hIz.b (Q := w.heap.size + 1) (by omega); clear p0 p1 p2 p3 p4 p5 q0 q1 q2 q3 q4 q5 hIz hEz; generalize ((((((wz.setCell ⟨w.heap.size + 1, 0, none⟩ (.slice (some ⟨gm, 0, none⟩) A.M.length cp)).setCell ⟨w.heap.size + 1, 1, none⟩ (.int .i64 x1)).setCell ⟨w.heap.size + 1, 2, none⟩ (.int .i64 A.z2)).setCell ⟨w.heap.size + 1, 3, none⟩ (.int .i64 x3)).setCell ⟨w.heap.size + 1, 4, none⟩ (.int .i64 x4)).setCell ⟨w.heap.size + 1, 5, none⟩ (.bool A.z5)) = wy at hHeld hr1 hr2 hOy hEy hby ⊢; obtain ⟨r0, r1⟩ := B2.of hr2; obtain ⟨s0, s1⟩ := F2.of hr2
  go_simp
  refine hK.out _ _ (set2_oth (Q := w.heap.size + 1 + 1) _ _ hHeld (by omega)) (fun hHeld => ?_)
  clear hK K
  try simp only [Act.put, List.setIfInBounds_toArray, List.set_cons_zero, List.set_cons_succ]
  refine' wpAnyH_take (i := 7) (oi := ({ dst := some 4, op := Op.assign (Operand.tmp 27), type := 31, pos := "l6_journal.go:151", after := #[{ on := 3, ground := Ground.data }, { on := 6, ground := Ground.chain }, { on := 0, ground := Ground.phase }, { on := 1, ground := Ground.phase }, { on := 2, ground := Ground.phase }, { on := 3, ground := Ground.phase }, { on := 4, ground := Ground.textOnly Departure.lateStores }, { on := 5, ground := Ground.phase }, { on := 6, ground := Ground.phase }], guard := none } : Oper)) (v := _) rfl (by kernel_rfl) (by kernel_rfl) (by kernel_rfl) (fun _ _ _ h => h) (Or.inl ⟨by rfl, fun x hSw => ?hyz1_7⟩) hHeld ?restz1_7
  case hyz1_7 =>
    obtain ⟨b0, b1⟩ := B2.of hSw
    go_simp
    try with_reducible rfl
  try simp only [Act.put, List.setIfInBounds_toArray, List.set_cons_zero, List.set_cons_succ]
  refine' wpAnyH_take (i := 8) (oi := ({ dst := some 5, op := Op.assign (Operand.tmp 28), type := 3, pos := "l6_journal.go:151", after := #[{ on := 4, ground := Ground.data }, { on := 7, ground := Ground.chain }, { on := 0, ground := Ground.phase }, { on := 1, ground := Ground.phase }, { on := 2, ground := Ground.phase }, { on := 3, ground := Ground.phase }, { on := 4, ground := Ground.phase }, { on := 5, ground := Ground.phase }, { on := 6, ground := Ground.phase }, { on := 7, ground := Ground.phase }], guard := none } : Oper)) (v := _) rfl (by kernel_rfl) (by kernel_rfl) (by kernel_rfl) (fun _ _ _ h => h) (Or.inl ⟨by rfl, fun x hSw => ?hyz1_8⟩) hHeld ?restz1_8
  case hyz1_8 =>
    obtain ⟨b0, b1⟩ := B2.of hSw
    go_simp
    try with_reducible rfl
  try simp only [Act.put, List.setIfInBounds_toArray, List.set_cons_zero, List.set_cons_succ]
  refine wpAnyH_done (by kernel_rfl) ?_ _
  go_wp2
  refine bodyPost_ret (results_c2t2 Tryz.results7 _ _ (w.heap.size + 1) 28 _ (0, 0) _ rfl (set2_oth _ _ hr1 (by omega)) Tryz.underlying28 rfl (by kernel_rfl) (w.heap.size + 1 + 1) 30 _ (0, 0) _ rfl (set2_row _ _ hr2) Tryz.underlying30 rfl (by kernel_rfl)) rfl ?_
  exact ⟨gm, cp, ge, ce, rfl, keep2 (hOy.wk (by omega)) hr2, orw_set2 hEy (orw_ne hEy hr2 (by decide)) _ _, set2_below _ _ hby (by omega)⟩
end Go.Proofs.YtngppfjphbodcaaGreatDoor
