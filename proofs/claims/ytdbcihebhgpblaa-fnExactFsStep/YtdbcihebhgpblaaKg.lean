/-
  The law on FsCrash.
-/
import Derived.Test.YtdbcihebhgpblaaKf
namespace Go.Proofs.Ytdbcihebhgpblaa
open Go.RowKit
theorem B6.of {V : World} {B : Nat} {t : TypeId} {fr : Nat × Nat} {v0 v1 v2 v3 v4 v5 : Value} (h : V.heap[B]? = some (.cells #[v0, v1, v2, v3, v4, v5] t fr)) : B6 V B v0 v1 v2 v3 v4 v5 :=
  ⟨cell_of_row _ _ 0 _ _ _ h, cell_of_row _ _ 1 _ _ _ h, cell_of_row _ _ 2 _ _ _ h, cell_of_row _ _ 3 _ _ _ h, cell_of_row _ _ 4 _ _ _ h, cell_of_row _ _ 5 _ _ _ h⟩
/-- What an answer is made of. -/
def Ans (n : Nat) (F : Nat → Fil) (x1 x2 x3 x4 : Int) (rn : Nat) (r1 r2 : Int) : Prop := (okFs n F x1 x2 x3 x4 = true ∧ rn = n ∧ r1 = x1 ∧ r2 = x2) ∨ (okFs n F x1 x2 x3 x4 = false ∧ rn = 0 ∧ r1 = 0 ∧ r2 = 0)
theorem Ans.there (n : Nat) (F : Nat → Fil) (x1 x2 x3 x4 : Int) : ∃ rn r1 r2, Ans n F x1 x2 x3 x4 rn r1 r2 := by
  rcases h : okFs n F x1 x2 x3 x4
  · exact ⟨0, 0, 0, Or.inr ⟨h, rfl, rfl, rfl⟩⟩
  · exact ⟨n, x1, x2, Or.inl ⟨h, rfl, rfl, rfl⟩⟩
theorem sCrash (g7 n : Nat) (F : Nat → Fil) (x1 x2 x3 x4 : Int) (x5 : Bool) (a' : Option Addr) (m c' : Nat) (T : Nat → ByteArray) (rn : Nat) (r1 r2 : Int) (hA : Ans n F x1 x2 x3 x4 rn r1 r2) (w : World) (h : FL w (some ⟨g7, 0, none⟩) n F) (hS : Small n F) (hT : Sl w a' m T) (hTs : ∀ k, k < m → (T k).size ≤ 1048576) (hm : m ≤ 1048576) :
    Calls Try.prog 22 #[.agg #[.slice (some ⟨g7, 0, none⟩) n n, .int .i64 x1, .int .i64 x2, .int .i64 x3, .int .i64 x4, .bool x5], .slice a' m c'] w fun e w' => ∃ av cv, e = .returned (.agg #[.slice av rn cv, .int .i64 r1, .int .i64 r2, .int .i64 0, .int .i64 0, .bool false]) ∧ OwnF w' w.heap.size (.slice av rn cv) rn (crF F m T) ∧ Below w.heap.size w w' := by
  rcases hA with ⟨ho, rfl, rfl, rfl⟩ | ⟨ho, rfl, rfl, rfl⟩
  · refine (sCrashYes _ rn rn F r1 r2 x3 x4 x5 a' m c' T w h hS ho hT hTs hm).mono ?_
    rintro e w' ⟨v, rfl, hO, hb⟩
    obtain ⟨av, cv, rfl⟩ := own_slice hO
    exact ⟨av, cv, rfl, hO, hb⟩
  · refine (sCrashNo _ n n F x1 x2 x3 x4 x5 a' m c' w h hS ho).mono ?_
    rintro e w' ⟨rfl, hb⟩
    exact ⟨none, 0, rfl, ⟨rfl, Or.inl ⟨rfl, rfl⟩⟩, hb⟩
theorem iCrash (g7 n : Nat) (F : Nat → Fil) (x1 x2 x3 x4 : Int) (x5 : Bool) (a' : Option Addr) (m c' : Nat) (T : Nat → ByteArray) (rn : Nat) (r1 r2 : Int) (hA : Ans n F x1 x2 x3 x4 rn r1 r2) (w : World) (h : FL w (some ⟨g7, 0, none⟩) n F) (hS : Small n F) (hT : Sl w a' m T) (hTs : ∀ k, k < m → (T k).size ≤ 1048576) (hm : m ≤ 1048576) :
    Calls Try.prog 24 #[.agg #[.slice (some ⟨g7, 0, none⟩) n n, .int .i64 x1, .int .i64 x2, .int .i64 x3, .int .i64 x4, .bool x5], .slice a' m c'] w fun e w' => ∃ av cv, e = .returned (.agg #[.slice av rn cv, .int .i64 r1, .int .i64 r2, .int .i64 0, .int .i64 0, .bool false]) ∧ OwnF w' w.heap.size (.slice av rn cv) rn (crF F m T) ∧ Below w.heap.size w w' := by
  rcases hA with ⟨ho, rfl, rfl, rfl⟩ | ⟨ho, rfl, rfl, rfl⟩
  · refine (iCrashYes g7 0 rn rn F r1 r2 x3 x4 x5 a' m c' T w h hS ho hT hTs hm).mono ?_
    rintro e w' ⟨g, cap, rfl, hO, hb⟩
    exact ⟨_, _, rfl, hO, hb⟩
  · refine (iCrashNo _ n n F x1 x2 x3 x4 x5 a' m c' w h hS ho).mono ?_
    rintro e w' ⟨rfl, hb⟩
    exact ⟨none, 0, rfl, ⟨rfl, Or.inl ⟨rfl, rfl⟩⟩, hb⟩
theorem sl_of {w : World} {B g n cap : Nat} {S : Nat → ByteArray} (h : w.ownsRow B 9 1 (.slice (some ⟨g, 0, none⟩) n cap) n (strs S n)) (hn : n ≤ 1048576) (hs : ∀ k, k < n → (S k).size ≤ 1048576) : Sl w (some ⟨g, 0, none⟩) n S :=
  ⟨by omega, fun k hk => ⟨by have := hs k hk; omega, g, 0, rfl, by rw [Nat.zero_add]; exact own_cell h k _ (strs_get _ _ _ hk)⟩⟩
theorem rowG {w w' : World} {q : Nat} {r : Option Nat} {o : Obj} (h : w.heap[q]? = some o) (hg : w.grownBy w' r) (hne : some q ≠ r) : w'.heap[q]? = some o := (hg.block q (Array.getElem?_eq_some_iff.1 h).1 hne).trans h
set_option maxRecDepth 20000 in
set_option maxHeartbeats 16000000 in
theorem lawCrash (a : Option Addr) (n c : Nat) (F : Nat → Fil) (x1 x2 x3 x4 : Int) (x5 : Bool) (a' : Option Addr) (m c' : Nat) (T : Nat → ByteArray) (w : World) (h : FX w a n F) (hT : Sl w a' m T) :
    Calls Try.prog 6 #[.agg #[.slice a n c, .int .i64 x1, .int .i64 x2, .int .i64 x3, .int .i64 x4, .bool x5], .slice a' m c'] w fun e w' => e = .returned (.bool true) ∧ Below w.heap.size w w' := by
  have hb0 := bal w (.cells #[.slice a n c, .int .i64 x1, .int .i64 x2, .int .i64 x3, .int .i64 x4, .bool x5] 31)
  have hX0 := heap_alloc_new w (.cells #[.slice a n c, .int .i64 x1, .int .i64 x2, .int .i64 x3, .int .i64 x4, .bool x5] 31)
  obtain ⟨rn, r1, r2, hA⟩ := Ans.there n F x1 x2 x3 x4
  go_enter Try.func6, Try.ntmps6
  go_upto_region 5 with (go_at_call 16; refine (szFs_any a n c F x1 x2 x3 x4 x5 _ (h.later hb0) 1048576 (by omega) (by omega)).mono ?_; rintro e w1 ⟨hb1, r, rfl, hr⟩; by_cases hr0 : (0 : Int) ≤ r)
  rotate_left
  · go_wp2
    go_ret
    exact ⟨rfl, bstep hb0 hb1⟩
  have hr' := hr hr0
  have hS : Small n F := by unfold Small; omega
  have hn := hS.n
  have hf := h.fl
  have hc1 := bstep hb0 hb1
  go_upto_region 8 with (go_at_call 21; refine (szStrs_any a' m c' T _ (hT.later hc1) r hr0 (by omega)).mono ?_; rintro e w1' ⟨rfl, r', rfl, -, hr2⟩; by_cases hr3 : (0 : Int) ≤ r')
  rotate_left
  · go_wp2
    go_ret
    exact ⟨rfl, hc1⟩
  obtain ⟨hm, hTs⟩ := hr2 hr3
  have hX1 := rowL hX0 hb1
  have hrn : rn ≤ 1048576 := by rcases hA with ⟨_, e, _⟩ | ⟨_, e, _⟩ <;> omega
  have hB1 := B6.of hX1
  obtain ⟨k0, k1, k2, k3, k4, k5⟩ := hB1
  go_upto_region 9 with (first | (go_at_call 18; refine (toFs_any a n c F x1 x2 x3 x4 x5 _ (hf.later hc1) hn).mono ?_; rintro e w2 ⟨g2, hg2, rfl, hR2, hb2⟩) | (go_at_call 23; refine (toStrsR a' m c' T _ (hT.later (bstep hc1 hb2)) hm).mono ?_; rintro e w3 ⟨g3, hg3, rfl, hO3, hb3⟩) | (go_at_call 22; refine (sCrash g2 n F x1 x2 x3 x4 x5 _ m m T rn r1 r2 hA _ (hR2.later hb3).fl hS (sl_of hO3 hm hTs) hTs hm).mono ?_; rintro e w4 ⟨av, cv, rfl, hO4, hb4⟩))
  have hc4 := bstep hc1 (bstep hb2 (bstep hb3 hb4))
  have hb5 := bal w4 (.cells #[.slice av rn cv, .int .i64 r1, .int .i64 r2, .int .i64 0, .int .i64 0, .bool false] 36)
  have h65 := heap_alloc_new w4 (.cells #[.slice av rn cv, .int .i64 r1, .int .i64 r2, .int .i64 0, .int .i64 0, .bool false] 36)
  have hO5 := hO4.later hb5
  have hX5 := rowL hX1 (bstep hb2 (bstep hb3 (bstep hb4 hb5)))
  have hc5 := bstep hc4 hb5
  clear k0 k1 k2 k3 k4 k5
  have hlt4 : ∀ q, (Value.slice av rn cv).ownBlock = some q → q < w4.heap.size := fun q e => (hO4.lt q e).2
  obtain ⟨W5, hW5⟩ : ∃ W5, w4.alloc (.cells #[.slice av rn cv, .int .i64 r1, .int .i64 r2, .int .i64 0, .int .i64 0, .bool false] 36) = W5 := ⟨_, rfl⟩
  have hs5 : w4.heap.size < W5.heap.size := by rw [← hW5]; simp
  rw [hW5] at h65 hO5 hX5 hc5 ⊢
  have hwX := (Array.getElem?_eq_some_iff.1 hX5).1
  clear hW5 hb5
  obtain ⟨k0, k1, k2, k3, k4, k5⟩ := B6.of hX5
  go_upto_region 10 with (go_at_call 18; refine (toFs_any a n c F x1 x2 x3 x4 x5 _ (hf.later hc5) hn).mono ?_; rintro e w6 ⟨g7, hg7, rfl, hR6, hb6⟩)
  have hb7 := bal w6 (.cells #[.slice (some ⟨g7, 0, none⟩) n n, .int .i64 x1, .int .i64 x2, .int .i64 x3, .int .i64 x4, .bool x5] 36)
  have h77 := heap_alloc_new w6 (.cells #[.slice (some ⟨g7, 0, none⟩) n n, .int .i64 x1, .int .i64 x2, .int .i64 x3, .int .i64 x4, .bool x5] 36)
  have hR7 := hR6.later hb7
  have h67 := rowL h65 (bstep hb6 hb7)
  have hO7 := hO5.later (bstep hb6 hb7)
  have hX7 := rowL hX5 (bstep hb6 hb7)
  have hc7 := bstep hc5 (bstep hb6 hb7)
  have hs6 := hb6.size
  have hg7l : g7 < w6.heap.size := (Array.getElem?_eq_some_iff.1 hR6).1
  obtain ⟨W7, hW7⟩ : ∃ W7, w6.alloc (.cells #[.slice (some ⟨g7, 0, none⟩) n n, .int .i64 x1, .int .i64 x2, .int .i64 x3, .int .i64 x4, .bool x5] 36) = W7 := ⟨_, rfl⟩
  have hs7 : w6.heap.size < W7.heap.size := by rw [← hW7]; simp
  rw [hW7] at h77 hR7 h67 hO7 hX7 hc7 ⊢
  clear hW7 hb7 k0 k1 k2 k3 k4 k5
  go_upto_region 11 with (go_at_call 23; refine (toStrsR a' m c' T _ (hT.later hc7) hm).mono ?_; rintro e w8 ⟨g8, hg8, rfl, hO8, hb8⟩)
  have h78 := rowL h77 hb8
  have hs8 := hb8.size
  have hg8l := (hO8.lt g8 rfl).2
  obtain ⟨k0, k1, k2, k3, k4, k5⟩ := B6.of h78
  go_upto_region 12 with (go_at_call 24; refine (iCrash g7 n F x1 x2 x3 x4 x5 _ m m T rn r1 r2 hA _ (hR7.later hb8).fl hS (sl_of hO8 hm hTs) hTs hm).mono ?_; rintro e w9 ⟨a9, c9, rfl, hO9, hb9⟩)
  have hba := bal w9 (.cells #[.slice a9 rn c9, .int .i64 r1, .int .i64 r2, .int .i64 0, .int .i64 0, .bool false] 36)
  have h9a := heap_alloc_new w9 (.cells #[.slice a9 rn c9, .int .i64 r1, .int .i64 r2, .int .i64 0, .int .i64 0, .bool false] 36)
  have hOa := hO9.later hba
  have h6a := rowL h67 (bstep hb8 (bstep hb9 hba))
  have h7a := rowL h78 (bstep hb9 hba)
  have hO6a := hO7.later (bstep hb8 (bstep hb9 hba))
  have hRa := hR7.later (bstep hb8 (bstep hb9 hba))
  have hO8a := own_below hO8 (bstep hb9 hba)
  have hXa := rowL hX7 (bstep hb8 (bstep hb9 hba))
  have hca := bstep hc7 (bstep hb8 (bstep hb9 hba))
  have hs9 := hb9.size
  have hge9 : ∀ q, (Value.slice a9 rn c9).ownBlock = some q → w8.heap.size ≤ q ∧ q < w9.heap.size := fun q e => hO9.lt q e
  obtain ⟨Wa, hWa⟩ : ∃ Wa, w9.alloc (.cells #[.slice a9 rn c9, .int .i64 r1, .int .i64 r2, .int .i64 0, .int .i64 0, .bool false] 36) = Wa := ⟨_, rfl⟩
  have hsa : w9.heap.size < Wa.heap.size := by rw [← hWa]; simp
  rw [hWa] at h9a hOa h6a h7a hO6a hRa hO8a hXa hca ⊢
  clear hWa hba k0 k1 k2 k3 k4 k5
  obtain ⟨k0, k1, k2, k3, k4, k5⟩ := B6.of h9a
  obtain ⟨j0, j1, j2, j3, j4, j5⟩ := B6.of h6a
  go_upto_region 14 with (go_at_call 20; refine (eqFs_any a9 av rn c9 cv (crF F m T) r1 r2 0 0 false _ hOa.fl hO6a.fl hrn).mono ?_; rintro e wb ⟨rfl, hbb⟩)
  clear k0 k1 k2 k3 k4 k5 j0 j1 j2 j3 j4 j5
  have h9b := rowL h9a hbb
  have h6b := rowL h6a hbb
  have h7b := rowL h7a hbb
  have hXb := rowL hXa hbb
  have hOb := hOa.later hbb
  have hO6b := hO6a.later hbb
  have hRb := hRa.later hbb
  have hO8b := own_below hO8a hbb
  have hcb := bstep hca hbb
  have hsb := hbb.size
  have hB7 := B6.of h7b
  have hBX := B6.of hXb
  refine wp_region_held_drew (S := fun x => Below wb.heap.size wb x) (by kernel_rfl) (bdrew1 _) (fun hHeld => ?_)
  refine' wpAnyH_take (i := 0) (oi := ({ dst := some 40, op := Op.load 36 (Operand.tmp 7), type := 36, pos := "exact.go:2008", after := #[], guard := none } : Oper)) (v := _) rfl (by kernel_rfl) (by kernel_rfl) (by kernel_rfl) (fun _ _ _ h => h) (Or.inl ⟨by rfl, fun x hSw => ?hyz1_0⟩) hHeld ?restz1_0
  case hyz1_0 =>
    obtain ⟨p0, p1, p2, p3, p4, p5⟩ := hB7.later hSw; obtain ⟨q0, q1, q2, q3, q4, q5⟩ := hBX.later hSw
    go_simp
    try with_reducible rfl
  try simp only [Act.put, List.setIfInBounds_toArray, List.set_cons_zero, List.set_cons_succ]
  refine' wpAnyH_take (i := 1) (oi := ({ dst := some 41, op := Op.load 31 (Operand.tmp 2), type := 31, pos := "exact.go:2008", after := #[], guard := none } : Oper)) (v := _) rfl (by kernel_rfl) (by kernel_rfl) (by kernel_rfl) (fun _ _ _ h => h) (Or.inl ⟨by rfl, fun x hSw => ?hyz1_1⟩) hHeld ?restz1_1
  case hyz1_1 =>
    obtain ⟨p0, p1, p2, p3, p4, p5⟩ := hB7.later hSw; obtain ⟨q0, q1, q2, q3, q4, q5⟩ := hBX.later hSw
    go_simp
    try with_reducible rfl
  try simp only [Act.put, List.setIfInBounds_toArray, List.set_cons_zero, List.set_cons_succ]
  refine wpAnyH_ready (rs := [2]) (by kernel_rfl) (by simp) ?_
  refine AllReadyH.cons (o := ({ dst := some 42, op := Op.call { callee := Callee.value (Operand.func 18), args := #[Operand.tmp 41], argTypes := #[31] }, type := 36, pos := "exact.go:2008", after := #[{ on := 1, ground := Ground.data }], guard := none } : Oper)) rfl (fun K hK => ?_) AllReadyH.nil
  go_simp
  refine (toFs_any a n c F x1 x2 x3 x4 x5 _ (hf.later (bstep hcb hHeld)) hn).mono ?_
  rintro e wc ⟨gc, hgc, rfl, hRc, hbc⟩
  refine hK.out _ _ (bstep hHeld hbc) (fun hHeld => ?_)
  clear hK K
  try simp only [Act.put, List.setIfInBounds_toArray, List.set_cons_zero, List.set_cons_succ]
  refine wpAnyH_ready (rs := [3]) (by kernel_rfl) (by simp) ?_
  refine AllReadyH.cons (o := ({ dst := some 43, op := Op.call { callee := Callee.value (Operand.func 20), args := #[Operand.tmp 40, Operand.tmp 42], argTypes := #[36, 36] }, type := 4, pos := "exact.go:2008", after := #[{ on := 0, ground := Ground.data }, { on := 2, ground := Ground.data }, { on := 2, ground := Ground.chain }], guard := none } : Oper)) rfl (fun K hK => ?_) AllReadyH.nil
  go_simp
  refine (eqFs_any _ _ n n n F x1 x2 x3 x4 x5 _ (hRb.later hHeld).fl hRc.fl hn).mono ?_
  rintro e wd ⟨rfl, hbd⟩
  refine hK.out _ _ (bstep hHeld hbd) (fun hHeld => ?_)
  clear hK K
  try simp only [Act.put, List.setIfInBounds_toArray, List.set_cons_zero, List.set_cons_succ]
  refine' wpAnyH_take (i := 4) (oi := ({ dst := some 44, op := Op.unOp UnOp.not 4 (Operand.tmp 43), type := 4, pos := "exact.go:2008", after := #[{ on := 3, ground := Ground.data }], guard := none } : Oper)) (v := _) rfl (by kernel_rfl) (by kernel_rfl) (by kernel_rfl) (fun _ _ _ h => h) (Or.inl ⟨by rfl, fun x hSw => ?hyz1_4⟩) hHeld ?restz1_4
  case hyz1_4 =>
    obtain ⟨p0, p1, p2, p3, p4, p5⟩ := hB7.later hSw; obtain ⟨q0, q1, q2, q3, q4, q5⟩ := hBX.later hSw
    go_simp
    try with_reducible rfl
  try simp only [Act.put, List.setIfInBounds_toArray, List.set_cons_zero, List.set_cons_succ]
  refine wpAnyH_done (by kernel_rfl) ?_ _
  have h9d := rowL h9b hHeld
  have h6d := rowL h6b hHeld
  have h7d := rowL h7b hHeld
  have hXd := rowL hXb hHeld
  have hOd := hOb.later hHeld
  have hO6d := hO6b.later hHeld
  have hRd := hRb.later hHeld
  have hO8d := own_below hO8b hHeld
  have hcd := bstep hcb hHeld
  have hsd := hHeld.size
  have hS8d := sl_of hO8d hm hTs
  go_upto_region 19 with (first | (go_at_call 23; refine (toStrsR a' m c' T _ (hT.later hcd) hm).mono ?_; rintro e we ⟨ge, hge, rfl, hOe, hbe⟩) | (go_at_call 13; refine (eqStrs_any _ _ _ _ _ _ _ _ (hS8d.later hbe) (sl_of hOe hm hTs) (fun _ _ => rfl)).mono ?_; rintro e wf ⟨rfl, qf, rfl⟩))
  have hbf := bstep hbe (undrewN (w := we) qf)
  have h9f := rowL h9d hbf
  have h6f := rowL h6d hbf
  have h7f := rowL h7d hbf
  have hXf := rowL hXd hbf
  have hOf := hOd.later hbf
  have hO6f := hO6d.later hbf
  have hRf := hRd.later hbf
  have hO8f := own_below hO8d hbf
  have hcf := bstep hcd hbf
  have hsf := hbf.size
  obtain ⟨Wf, hWf⟩ : ∃ Wf, we.drewN qf = Wf := ⟨_, rfl⟩
  rw [hWf] at h9f h6f h7f hXf hOf hO6f hRf hO8f hcf hsf ⊢
  clear hWf hbf
  obtain ⟨k0, k1, k2, k3, k4, k5⟩ := B6.of h7f
  have hOx : OwnF Wf w.heap.size (.slice (some ⟨g7, 0, none⟩) n n) n F := OwnF.of hRf (by omega) hn
  go_upto_region 20 with (go_at_call 25; refine (markFs_any _ n n 1 _ F x1 x2 x3 x4 x5 _ hOx hn (by omega) (by omega)).mono ?_; rintro e wg ⟨rfl, hOg, hgg⟩)
  clear k0 k1 k2 k3 k4 k5
  have h9g := rowG h9f hgg (by simp [Value.ownBlock]; omega)
  have h6g := rowG h6f hgg (by simp [Value.ownBlock]; omega)
  have hXg := rowG hXf hgg (by simp [Value.ownBlock]; omega)
  have hOg9 : OwnF wg w8.heap.size (.slice a9 rn c9) rn (crF F m T) := World.ownsRow.kept hOf hgg (.inr (fun e => by have := (hge9 g7 e).1; omega))
  have hOg6 := World.ownsRow.kept hO6f hgg (.inr (fun e => by have := hlt4 g7 e; omega))
  have hO8g := World.ownsRow.kept hO8f hgg (.inr (by simp [Value.ownBlock]; omega))
  have hcg := hcf.grown hgg (by have := hcf.size; omega) (fun k e => by have h1 : g7 = k := (by simpa [Value.ownBlock] using e); omega)
  have hsg := hgg.size
  go_upto_region 21 with (go_at_call 14; refine (markStrs_z _ g8 m m (1 + 3 * n) _ _ hO8g hm (by omega) (by omega)).mono ?_; rintro e wh ⟨rfl, hgh⟩)
  have h9h := rowG h9g hgh (by simp; omega)
  have h6h := rowG h6g hgh (by simp; omega)
  have hXh := rowG hXg hgh (by simp; omega)
  have hOh9 : OwnF wh w8.heap.size (.slice a9 rn c9) rn (crF F m T) := World.ownsRow.kept hOg9 hgh (.inr (fun e => by have := (hge9 g8 e).1; omega))
  have hOh6 : OwnF wh _ (.slice av rn cv) rn (crF F m T) := World.ownsRow.kept hOg6 hgh (.inr (fun e => by have := hlt4 g8 e; omega))
  have hch := hcg.grown hgh (by have := hcg.size; omega) (fun k e => by have h1 : g8 = k := (by simpa using e); omega)
  have hsh := hgh.size
  obtain ⟨k0, k1, k2, k3, k4, k5⟩ := B6.of h9h
  obtain ⟨j0, j1, j2, j3, j4, j5⟩ := B6.of h6h
  go_upto_region 24 with (go_at_call 20; refine (eqFs_any a9 av rn c9 cv (crF F m T) r1 r2 0 0 false _ hOh9.fl hOh6.fl hrn).mono ?_; rintro e wi ⟨rfl, hbi⟩)
  clear k0 k1 k2 k3 k4 k5 j0 j1 j2 j3 j4 j5
  have h9i := rowL h9h hbi
  have h6i := rowL h6h hbi
  have hXi := rowL hXh hbi
  have hOi9 := hOh9.later hbi
  have hOi6 := hOh6.later hbi
  have hci := bstep hch hbi
  have hsi := hbi.size
  obtain ⟨k0, k1, k2, k3, k4, k5⟩ := B6.of h9i
  go_upto_region 26 with (go_at_call 25; refine (markFs_any _ rn c9 1 _ (crF F m T) r1 r2 0 0 false _ hOi9 hrn (by omega) (by omega)).mono ?_; rintro e wj ⟨rfl, hOj, hgj⟩)
  clear k0 k1 k2 k3 k4 k5
  have h9j := rowG h9i hgj (fun e => by have := hge9 _ e.symm; omega)
  have h6j := rowG h6i hgj (fun e => by have := hge9 _ e.symm; omega)
  have hXj := rowG hXi hgj (fun e => by have := hge9 _ e.symm; omega)
  have hOj6 : OwnF wj _ (.slice av rn cv) rn (crF F m T) := World.ownsRow.kept hOi6 hgj (by
    rcases hq : (Value.slice a9 rn c9).ownBlock with _ | q
    · rcases hq6 : (Value.slice av rn cv).ownBlock with _ | q
      · exact .inl rfl
      · exact .inr (by simp)
    · exact .inr (fun e => by have := hlt4 q e; have := hge9 q hq; omega))
  have hcj := hci.grown hgj (by have := hci.size; omega) (fun k e => by have := hge9 k e; omega)
  have hsj := hgj.size
  obtain ⟨k0, k1, k2, k3, k4, k5⟩ := B6.of h9j
  go_upto_region 31 with (go_at_call 26; refine (heldFs_any rn c9 1 _ r1 r2 0 0 false _ hOj.fl hrn (by omega) (by omega)).mono ?_; rintro e wk ⟨rfl, hbk⟩)
  clear k0 k1 k2 k3 k4 k5
  have h6k := rowL h6j hbk
  have hXk := rowL hXj hbk
  have hOk6 := hOj6.later hbk
  have hck := bstep hcj hbk
  obtain ⟨k0, k1, k2, k3, k4, k5⟩ := B6.of hXk
  go_upto_region 32 with (first | (go_at_call 18; refine (toFs_any a n c F x1 x2 x3 x4 x5 _ (hf.later hck) hn).mono ?_; rintro e wl ⟨gl, hgl, rfl, hRl, hbl⟩) | (go_at_call 23; refine (toStrsR a' m c' T _ (hT.later (bstep hck hbl)) hm).mono ?_; rintro e wm ⟨gm, hgm, rfl, hOm, hbm⟩) | (go_at_call 24; refine (iCrash gl n F x1 x2 x3 x4 x5 _ m m T rn r1 r2 hA _ (hRl.later hbm).fl hS (sl_of hOm hm hTs) hTs hm).mono ?_; rintro e wn ⟨a13, c13, rfl, hOn, hbn⟩))
  have hbo := bal wn (.cells #[.slice a13 rn c13, .int .i64 r1, .int .i64 r2, .int .i64 0, .int .i64 0, .bool false] 36)
  have h13 := heap_alloc_new wn (.cells #[.slice a13 rn c13, .int .i64 r1, .int .i64 r2, .int .i64 0, .int .i64 0, .bool false] 36)
  have hOo := hOn.later hbo
  have h6o := rowL h6k (bstep hbl (bstep hbm (bstep hbn hbo)))
  have hOo6 := hOk6.later (bstep hbl (bstep hbm (bstep hbn hbo)))
  have hco := bstep hck (bstep hbl (bstep hbm (bstep hbn hbo)))
  obtain ⟨Wo, hWo⟩ : ∃ Wo, wn.alloc (.cells #[.slice a13 rn c13, .int .i64 r1, .int .i64 r2, .int .i64 0, .int .i64 0, .bool false] 36) = Wo := ⟨_, rfl⟩
  rw [hWo] at h13 hOo h6o hOo6 hco ⊢
  clear hWo hbo k0 k1 k2 k3 k4 k5
  obtain ⟨k0, k1, k2, k3, k4, k5⟩ := B6.of h13
  obtain ⟨j0, j1, j2, j3, j4, j5⟩ := B6.of h6o
  go_wp2_with (go_at_call 20; refine (eqFs_any a13 av rn c13 cv (crF F m T) r1 r2 0 0 false _ hOo.fl hOo6.fl hrn).mono ?_; rintro e wp ⟨rfl, hbp⟩)
  go_ret
  exact ⟨rfl, bstep hco hbp⟩
end Go.Proofs.Ytdbcihebhgpblaa
