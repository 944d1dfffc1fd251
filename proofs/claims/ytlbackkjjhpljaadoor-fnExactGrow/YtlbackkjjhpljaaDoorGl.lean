/-
  A tree with one entry more: the law's walk.
-/
import Derived.Test.YtlbackkjjhpljaaDoorGh
namespace Go.Proofs.YtlbackkjjhpljaaDoor
open Go.RowKit Go.ChangeMaps
theorem ownT_row {w : World} {B g n cap : Nat} {T : Nat → ByteArray} (h : OwnT w B (some ⟨g, 0, none⟩) n cap T) : w.ownsRow B 9 1 (.slice (some ⟨g, 0, none⟩) n cap) n (strs T n) := by
  rcases h with ⟨_, h0⟩ | ⟨g', e, ho⟩
  · cases h0
  · obtain rfl : g = g' := by simpa using e
    exact ho
set_option maxRecDepth 20000 in
set_option maxHeartbeats 8000000 in
theorem lawGrow_any (k z : Int) (a : Option Addr) (n c : Nat) (S : Nat → ByteArray) (x : ByteArray) (w : World) (h : Sl w a n S) (hK : KeysAt w) :
    Calls Tryd.prog 7 #[.int .i64 k, .agg #[.int .i64 z, .slice a n c], .string x] w fun e w' => e = .returned (.bool true) ∧ Below w.heap.size w w' := by
  by_cases hx : x.size ≤ 1048576
  · have HK : Hid (KeysAt w) := hK
    have h00 := hK.lt
    have ha : ∀ P off, a = some ⟨P, off, none⟩ → 0 < n → P < w.heap.size := by
      intro P off e hp
      obtain ⟨b', o, e', hc⟩ := h.at 0 hp
      rw [e] at e'
      obtain ⟨rfl, rfl⟩ : P = b' ∧ off = o := by simpa using e'
      exact World.block_lt_of_cell? w _ hc
    have HA : Hid (∀ P off, a = some ⟨P, off, none⟩ → 0 < n → P < w.heap.size) := ha
    clear hK ha
    have hS0 := h.later (below1 w (.cells #[.int .i64 z, .slice a n c] 28))
    have hs := fun j hj => (h.2 j hj).1
    obtain ⟨p0, q0⟩ := cell_box w (.int .i64 z) (.slice a n c) 28
    have hspec := fun a c w h => specGrow_any k z a n c S x w h hx
    have himpl := fun a c w h hc hK => implGrow_any k z a n c S x w h hc hK hx
    have hN := gn_le k z n S
    have hTs := gT_size k z n S x
    obtain ⟨Z, hZ⟩ : ∃ Z, gz k z n S = Z := ⟨_, rfl⟩
    obtain ⟨N, hN2⟩ : ∃ N, gn k z n S = N := ⟨_, rfl⟩
    obtain ⟨T, hT⟩ : ∃ T, grownS k S n x (lows z.toNat) = T := ⟨_, rfl⟩
    rw [hZ, hN2, hT] at hspec himpl
    rw [hN2] at hN hTs
    rw [hT] at hTs
    have HSP : Hid (∀ (a : Option Addr) (c : Nat) (w : World), Sl w a n S → Calls Tryd.prog 23 #[.int .i64 k, .agg #[.int .i64 z, .slice a n c], .string x] w fun e w' => ∃ ga cap, e = .returned (.agg #[.int .i64 Z, .slice ga N cap]) ∧ OwnT w' w.heap.size ga N cap T ∧ Below w.heap.size w w') := hspec
    have HIM : Hid (∀ (a : Option Addr) (c : Nat) (w : World), Sl w a n S → n ≤ c → KeysAt w → Calls Tryd.prog 24 #[.int .i64 k, .agg #[.int .i64 z, .slice a n c], .string x] w fun e w' => ∃ ga cap, e = .returned (.agg #[.int .i64 Z, .slice ga N cap]) ∧ OwnT w' w.heap.size ga N cap T ∧ Below w.heap.size w w') := himpl
    have HTS : Hid (∀ j, j < N → (T j).size ≤ 9223372036854775807) := hTs
    clear hspec himpl hTs hZ hN2 hT
    have hmarks : Hid (∀ j, j < N → (marks j).size ≤ 9223372036854775807) := fun j _ => Nat.le_trans (mtx_size _) (by omega)
    go_enter Tryd.func7, Tryd.ntmps7
    go_wp2_with (first | (go_at_call 13; refine (szTree_any _ _ _ _ S _ hS0).mono ?_; rintro e w1 ⟨hb1, r, rfl, hall⟩; have hS1 := hS0.later hb1; have p1 := keep hb1 p0; have q1 := keep hb1 q0) | (go_at_call 15; refine (toTree_any _ _ _ _ S _ hS1 (hall (by omega)).1).mono ?_; rintro e w2 ⟨g2, hg2, rfl, hrow2, hb2⟩; have hS2 := sl_of_row w2 g2 n S _ (hall (by omega)).1 hs hrow2; clear hrow2; have p2 := keep hb2 p1; have q2 := keep hb2 q1) | (go_at_call 23; refine (HSP.out _ _ _ hS2).mono ?_; rintro e w3 ⟨ga3, cap3, rfl, o3, hb3⟩; have hS3 := ((hS1.later hb2).later hb3).later (below1 w3 (.cells #[.int .i64 Z, .slice ga3 N cap3] 31)); have p3 := keep (below1 w3 (.cells #[.int .i64 Z, .slice ga3 N cap3] 31)) (keep hb3 p2); have q3 := keep (below1 w3 (.cells #[.int .i64 Z, .slice ga3 N cap3] 31)) (keep hb3 q2); obtain ⟨u3, v3⟩ := cell_box w3 (.int .i64 Z) (.slice ga3 N cap3) 31) | (go_at_call 15; refine (toTree_any _ _ _ _ S _ hS3 (hall (by omega)).1).mono ?_; rintro e w4 ⟨g4, hg4, rfl, hrow4, hb4⟩; have hS4 := (sl_of_row w4 g4 n S _ (hall (by omega)).1 hs hrow4).later (below1 w4 (.cells #[.int .i64 z, .slice (some ⟨g4, 0, none⟩) n n] 31)); have p4 := keep (below1 w4 (.cells #[.int .i64 z, .slice (some ⟨g4, 0, none⟩) n n] 31)) (keep hb4 p3); have q4 := keep (below1 w4 (.cells #[.int .i64 z, .slice (some ⟨g4, 0, none⟩) n n] 31)) (keep hb4 q3); have u4 := keep (below1 w4 (.cells #[.int .i64 z, .slice (some ⟨g4, 0, none⟩) n n] 31)) (keep hb4 u3); have v4 := keep (below1 w4 (.cells #[.int .i64 z, .slice (some ⟨g4, 0, none⟩) n n] 31)) (keep hb4 v3); obtain ⟨m4, l4⟩ := cell_box w4 (.int .i64 z) (.slice (some ⟨g4, 0, none⟩) n n) 31; have k4 := keys_later (keys_later (keys_later (keys_later (keys_later (keys_later HK.out (below1 w (.cells #[.int .i64 z, .slice a n c] 28))) hb1) hb2) hb3) (below1 w3 (.cells #[.int .i64 Z, .slice ga3 N cap3] 31))) hb4; have K4 : Hid (KeysAt (w4.alloc (.cells #[.int .i64 z, .slice (some ⟨g4, 0, none⟩) n n] 31))) := keys_later k4 (below1 _ _); clear k4) | (go_at_call 24; refine (HIM.out _ _ _ hS4 (Nat.le_refl _) K4.out).mono ?_; rintro e w5 ⟨ga5, cap5, rfl, o5, hb5⟩; have p5 := keep (below1 w5 (.cells #[.int .i64 Z, .slice ga5 N cap5] 31)) (keep hb5 p4); have q5 := keep (below1 w5 (.cells #[.int .i64 Z, .slice ga5 N cap5] 31)) (keep hb5 q4); have u5 := keep (below1 w5 (.cells #[.int .i64 Z, .slice ga5 N cap5] 31)) (keep hb5 u4); have v5 := keep (below1 w5 (.cells #[.int .i64 Z, .slice ga5 N cap5] 31)) (keep hb5 v4); have m5 := keep (below1 w5 (.cells #[.int .i64 Z, .slice ga5 N cap5] 31)) (keep hb5 m4); have l5 := keep (below1 w5 (.cells #[.int .i64 Z, .slice ga5 N cap5] 31)) (keep hb5 l4); obtain ⟨i5, j5⟩ := cell_box w5 (.int .i64 Z) (.slice ga5 N cap5) 31; have s35 := (((((o3.sl (by omega) HTS.out).later (below1 w3 (.cells #[.int .i64 Z, .slice ga3 N cap3] 31))).later hb4).later (below1 w4 (.cells #[.int .i64 z, .slice (some ⟨g4, 0, none⟩) n n] 31))).later hb5).later (below1 w5 (.cells #[.int .i64 Z, .slice ga5 N cap5] 31)); have s55 := (o5.sl (by omega) HTS.out).later (below1 w5 (.cells #[.int .i64 Z, .slice ga5 N cap5] 31))) | (go_at_call 17; refine (eqTree_any Z _ _ N _ _ T T _ s55 s35 (fun _ _ => rfl)).mono ?_; rintro e w6 ⟨rfl, hb6⟩))
    · go_ret
      exact ⟨rfl, (below1 _ _).trans (hb1.mono (by simp))⟩
    · have hnn := (hall (by omega)).1
      have sg6 : Sg w z a n c S Z N T w3.heap.size w4.heap.size w5.heap.size g4 (w4.heap.size + 1) ga3 ga5 cap3 cap5 S T w6 := by
        have z1 : w.heap.size + 1 ≤ w1.heap.size := by have := hb1.size; simpa using this
        have z2 := hb2.size
        have z3 := hb3.size
        have z4 : w3.heap.size + 1 ≤ w4.heap.size := by have := hb4.size; simpa using this
        have z5 : w4.heap.size + 1 ≤ w5.heap.size := by have := hb5.size; simpa using this
        have z6 : w5.heap.size + 1 ≤ w6.heap.size := by have := hb6.size; simpa using this
        have c1 : Below w.heap.size w w1 := (below1 _ _).trans (hb1.mono (by simp))
        have c2 : Below w.heap.size w w2 := c1.trans (hb2.mono c1.size)
        have c3 : Below w.heap.size w w3 := c2.trans (hb3.mono c2.size)
        have c3' := c3.trans ((below1 w3 (.cells #[.int .i64 Z, .slice ga3 N cap3] 31)).mono c3.size)
        have c4 : Below w.heap.size w w4 := c3'.trans (hb4.mono c3'.size)
        have c4' := c4.trans ((below1 w4 (.cells #[.int .i64 z, .slice (some ⟨g4, 0, none⟩) n n] 31)).mono c4.size)
        have c5 : Below w.heap.size w w5 := c4'.trans (hb5.mono c4'.size)
        have c5' := c5.trans ((below1 w5 (.cells #[.int .i64 Z, .slice ga5 N cap5] 31)).mono c5.size)
        have c6 : Below w.heap.size w w6 := c5'.trans (hb6.mono c5'.size)
        have hg4' : w3.heap.size + 1 ≤ g4 := by simpa using hg4
        have hg4l : g4 < w4.heap.size := (Array.getElem?_eq_some_iff.1 hrow4).1
        have o4 := own_later (own_later (own_later (own_later (own_of_row w4 (w3.heap.size + 1) g4 n S hg4' hnn hrow4) (below1 w4 (.cells #[.int .i64 z, .slice (some ⟨g4, 0, none⟩) n n] 31))) hb5) (below1 w5 (.cells #[.int .i64 Z, .slice ga5 N cap5] 31))) hb6
        refine ⟨⟨keep hb6 p5, keep hb6 q5⟩, ⟨keep hb6 u5, keep hb6 v5⟩, ⟨keep hb6 m5, keep hb6 l5⟩, ⟨keep hb6 i5, keep hb6 j5⟩, h.later c6, s35.later hb6, o4, ?_, keys_later HK.out c6, c6, HA.out, fun P off e => (o3.at P off e).2, by omega, by omega, hg4l, by omega, fun P off e => (o5.at P off e).2, by omega, by omega, h00⟩
        have o5' := (o5.later (below1 w5 (.cells #[.int .i64 Z, .slice ga5 N cap5] 31))).later hb6
        simpa using o5'
      clear p0 q0 p1 q1 p2 q2 p3 q3 p4 q4 p5 q5 u3 v3 u4 v4 u5 v5 m4 l4 m5 l5 i5 j5 hS0 hS1 hS2 hS3 hS4 s35 s55 hrow4 K4 hb1 hb2 hb3 hb4 hb5 hb6 o3 o5 hall hg2 hg4 h HSP HA HK
      have sd := sg6.drew1
      refine wp_region_held_drew (S := fun w' => Bx w' w4.heap.size z (some ⟨g4, 0, none⟩) n n ∧ Bx w' w.heap.size z a n c) (by kernel_rfl) ⟨sd.b9, sd.b4⟩ (fun hHeld => ?_)
      refine wpAnyH_take (i := 0) (oi := ({ dst := some 38, op := Op.load 31 (Operand.tmp 9), type := 31, pos := "exact.go:1470", after := #[], guard := none } : Oper)) (v := .agg #[.int .i64 z, .slice (some ⟨g4, 0, none⟩) n n]) rfl (by kernel_rfl) (by kernel_rfl) (by kernel_rfl) (fun _ _ _ h => h) (Or.inl ⟨by rfl, fun w hSw => by obtain ⟨⟨y0, y1⟩, ⟨y2, y3⟩⟩ := hSw; go_simp⟩) hHeld ?_
      simp only [Act.put, List.setIfInBounds_toArray, List.set_cons_zero, List.set_cons_succ]
      refine wpAnyH_take (i := 1) (oi := ({ dst := some 39, op := Op.load 28 (Operand.tmp 4), type := 28, pos := "exact.go:1470", after := #[], guard := none } : Oper)) (v := .agg #[.int .i64 z, .slice a n c]) rfl (by kernel_rfl) (by kernel_rfl) (by kernel_rfl) (fun _ _ _ h => h) (Or.inl ⟨by rfl, fun w hSw => by obtain ⟨⟨y0, y1⟩, ⟨y2, y3⟩⟩ := hSw; go_simp⟩) hHeld ?_
      simp only [Act.put, List.setIfInBounds_toArray, List.set_cons_zero, List.set_cons_succ]
      refine wpAnyH_ready (rs := [2]) (by kernel_rfl) (by simp) ?_
      refine AllReadyH.cons (o := ({ dst := some 40, op := Op.call { callee := Callee.value (Operand.func 15), args := #[Operand.tmp 39], argTypes := #[28] }, type := 31, pos := "exact.go:1470", after := #[{ on := 1, ground := Ground.data }], guard := none } : Oper)) rfl (fun K hK => ?_) AllReadyH.nil
      go_simp
      refine (toTree_any _ _ _ _ S _ sd.sa hnn).mono ?_
      rintro e w7 ⟨g7, hg7, rfl, hrow7, hb7⟩
      have sg7 := sd.call hb7
      have s77 := sl_of_row w7 g7 n S _ hnn hs hrow7
      refine hK.out _ _ ⟨sg7.b9, sg7.b4⟩ (fun hHeld => ?_)
      clear hK K
      refine wpAnyH_ready (rs := [3]) (by kernel_rfl) (by simp) ?_
      refine AllReadyH.cons (o := ({ dst := some 41, op := Op.call { callee := Callee.value (Operand.func 17), args := #[Operand.tmp 38, Operand.tmp 40], argTypes := #[31, 31] }, type := 4, pos := "exact.go:1470", after := #[{ on := 0, ground := Ground.data }, { on := 2, ground := Ground.data }, { on := 2, ground := Ground.chain }], guard := none } : Oper)) rfl (fun K hK => ?_) AllReadyH.nil
      go_simp
      refine (eqTree_any z _ _ n _ _ S S _ (own_sl sg7.o4 hnn hs) s77 (fun _ _ => rfl)).mono ?_
      rintro e w8 ⟨rfl, hb8⟩
      have sg8 := sg7.call hb8
      refine hK.out _ _ ⟨sg8.b9, sg8.b4⟩ (fun hHeld => ?_)
      clear hK K hHeld hrow7 s77 hg7
      refine wpAnyH_take (i := 4) (oi := ({ dst := some 42, op := Op.unOp UnOp.not 4 (Operand.tmp 41), type := 4, pos := "exact.go:1470", after := #[{ on := 3, ground := Ground.data }], guard := none } : Oper)) (v := .bool false) rfl (by kernel_rfl) (by kernel_rfl) (by kernel_rfl) (fun _ _ _ h => h) (Or.inl ⟨by rfl, fun w hSw => by go_simp⟩) ⟨sg8.b9, sg8.b4⟩ ?_
      simp only [Act.put, List.setIfInBounds_toArray, List.set_cons_zero, List.set_cons_succ]
      refine wpAnyH_done (by kernel_rfl) ?_ _
      have x48 := sg8.b4.1; have y48 := sg8.b4.2; have x88 := sg8.b8.1; have y88 := sg8.b8.2; have x98 := sg8.b9.1; have y98 := sg8.b9.2; have x108 := sg8.b10.1; have y108 := sg8.b10.2
      have mpos : ¬ (((1 + n : Nat) : Int) < 0) := by omega
      have mpos' : (0 : Int) ≤ ((1 + n : Nat) : Int) := by omega
      have npos : ¬ (((1 + N : Nat) : Int) < 0) := by omega
      have npos' : (0 : Int) ≤ ((1 + N : Nat) : Int) := by omega
      go_wp2_with (go_at_call 25; refine (markTree_any z (w3.heap.size + 1) (some ⟨g4, 0, none⟩) n n S _ (.inr ⟨g4, rfl, sg8.o4⟩) hnn).mono ?_; rintro e w9 ⟨rfl, om9, hg9⟩; have sg9 := sg8.mark4 hg9 (ownT_row om9); have x49 := sg9.b4.1; have y49 := sg9.b4.2; have x89 := sg9.b8.1; have y89 := sg9.b8.2; have x99 := sg9.b9.1; have y99 := sg9.b9.2; have x109 := sg9.b10.1; have y109 := sg9.b10.2)
      go_wp2_with (go_at_call 17; refine (eqTree_any Z _ _ N _ _ T T _ (sg9.o5.sl (by omega) HTS.out) sg9.s3 (fun _ _ => rfl)).mono ?_; rintro e wA ⟨rfl, hbA⟩; have sgA := sg9.call hbA; have x4A := sgA.b4.1; have y4A := sgA.b4.2; have x8A := sgA.b8.1; have y8A := sgA.b8.2; have x9A := sgA.b9.1; have y9A := sgA.b9.2; have x10A := sgA.b10.1; have y10A := sgA.b10.2)
      go_wp2_with (first | (go_at_call 25; refine (markTree_any Z _ ga5 N cap5 T _ sgA.o5 (by omega)).mono ?_; rintro e wB ⟨rfl, omB, hgB⟩; have sgB := sgA.mark5 hgB omB (ownT_form sgA.o5); have x4B := sgB.b4.1; have y4B := sgB.b4.2; have x8B := sgB.b8.1; have y8B := sgB.b8.2; have x9B := sgB.b9.1; have y9B := sgB.b9.2; have x10B := sgB.b10.1; have y10B := sgB.b10.2) | (go_at_call 26; refine (heldTree_any Z ga5 N cap5 _ (sgB.o5.sl (by omega) hmarks.out) (by omega)).mono ?_; rintro e wC ⟨rfl, hbC⟩; have sgC := sgB.call hbC; have x4C := sgC.b4.1; have y4C := sgC.b4.2; have x8C := sgC.b8.1; have y8C := sgC.b8.2; have x9C := sgC.b9.1; have y9C := sgC.b9.2; have x10C := sgC.b10.1; have y10C := sgC.b10.2) | (go_at_call 15; refine (toTree_any _ _ _ _ S _ sgC.sa hnn).mono ?_; rintro e wD ⟨gD, hgD, rfl, hrowD, hbD⟩; have sgD := sgC.call hbD; have sD := sl_of_row wD gD n S _ hnn hs hrowD; have x4D := sgD.b4.1; have y4D := sgD.b4.2; have x8D := sgD.b8.1; have y8D := sgD.b8.2; have x9D := sgD.b9.1; have y9D := sgD.b9.2; have x10D := sgD.b10.1; have y10D := sgD.b10.2) | (go_at_call 24; refine (HIM.out _ _ _ sD (Nat.le_refl _) sgD.keys).mono ?_; rintro e wE ⟨ga14, cap14, rfl, oE, hbE⟩; have sgE := (sgD.call hbE).call (below1 wE (.cells #[.int .i64 Z, .slice ga14 N cap14] 31)); have sE := (oE.sl (by omega) HTS.out).later (below1 wE (.cells #[.int .i64 Z, .slice ga14 N cap14] 31)); have x4E := sgE.b4.1; have y4E := sgE.b4.2; have x8E := sgE.b8.1; have y8E := sgE.b8.2; have x9E := sgE.b9.1; have y9E := sgE.b9.2; have x10E := sgE.b10.1; have y10E := sgE.b10.2))
      go_wp2_with (go_at_call 17; refine (eqTree_any Z _ _ N _ _ T T _ sE sgE.s3 (fun _ _ => rfl)).mono ?_; rintro e wF ⟨rfl, hbF⟩)
      go_ret
      exact ⟨rfl, sgE.below.trans (hbF.mono sgE.below.size)⟩
  · have hx' : (1048576 : Int) < (x.size : Int) := by omega
    go_enter Tryd.func7, Tryd.ntmps7
    go_wp2
    go_ret
    exact ⟨rfl, below1 _ _⟩
end Go.Proofs.YtlbackkjjhpljaaDoor
