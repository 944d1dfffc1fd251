/-
  Statements read: lists of expressions, the program's way.
-/
import Derived.Test.YtnbgdfhfmbgbhaaGreatDoorRg
namespace Go.Proofs.YtnbgdfhfmbgbhaaGreatDoor
open Go.RowKit Go.Maps Go.WideMaps
theorem own_grN {w w' : World} {base e size g n cap m C : Nat} {xs : List Value} (h : w.ownsRow base e size (.slice (some ⟨g, 0, none⟩) n cap) m xs) (hg : w.grownBy w' (some C)) (hne : g ≠ C) : w'.ownsRow base e size (.slice (some ⟨g, 0, none⟩) n cap) m xs := by
  obtain ⟨hl, hh⟩ := h
  refine ⟨hl, ?_⟩
  rcases hh with hh | ⟨gg, cap', cur, e1, e2, e3, e4⟩
  · exact Or.inl hh
  · have e5 : g = gg := by
      simp only [Value.slice.injEq, Option.some.injEq, Addr.mk.injEq, and_true] at e1
      exact e1.1
    subst e5
    exact Or.inr ⟨g, cap', cur, e1, e2, rowG e3 hg hne, e4⟩
theorem PS.lt {w : World} {B : Nat} {s : ByteArray} : ∀ {p : Option Nat}, PS w B s p → B < w.heap.size
  | none, h => BL.lt h
  | some _, h => BL.lt h.2
theorem PS.later {w w' : World} {B : Nat} {s : ByteArray} : ∀ {p : Option Nat}, PS w B s p → Below w.heap.size w w' → PS w' B s p
  | none, h, hb => BL.later h hb
  | some _, h, hb => ⟨h.1, BL.later h.2 hb⟩
theorem PS.grown {w w' : World} {B g : Nat} {s : ByteArray} (hg : w.grownBy w' (some g)) (hne : B ≠ g) : ∀ {p : Option Nat}, PS w B s p → PS w' B s p
  | none, h => rowG h hg hne
  | some _, h => ⟨h.1, rowG h.2 hg hne⟩
/-- The list of items that is read from a place on: m of them. -/
structure LsI (w : World) (base B : Nat) (s : ByteArray) (q : Option Nat) (n m g cap : Nat) : Prop where
  own : w.ownsRow base 85 3 (.slice (some ⟨g, 0, none⟩) m cap) m (flat (fun j => [Value.int .i64 (itmV s (rep (itmP s) q j)).o, Value.int .i64 (itmV s (rep (itmP s) q j)).m, Value.string (itmV s (rep (itmP s) q j)).s]) m)
  le : m ≤ n
  at' : m = n ∨ rep (itmP s) q m = none
set_option maxRecDepth 20000 in
set_option maxHeartbeats 2000000 in
theorem iItemsR (B : Nat) (s : ByteArray) (p : Option Nat) (w : World) (h : PI w B s p) :
    Calls Tryz.prog 65 #[.pointer (some ⟨B, 0, none⟩)] w fun e w' => ∃ m g cap, e = .returned (.slice (some ⟨g, 0, none⟩) m cap) ∧ LsI w' w.heap.size B s (numP s 2 p) (lenV s 2 p) m g cap ∧ PI w' B s (rep (itmP s) (numP s 2 p) m) ∧ w.grownBy w' (some B) := by
  go_enter Tryz.func65, Tryz.ntmps65
  go_wp2_with (go_at_call 110; refine (iListIt B s p 2 _ h (by omega)).mono ?_; rintro e w1 ⟨m, g, cap, rfl, hO, hm, hat, hP, hg⟩)
  go_ret
  exact ⟨m, g, cap, rfl, ⟨hO, hm, hat⟩, hP, hg⟩
set_option maxRecDepth 20000 in
set_option maxHeartbeats 16000000 in
theorem sExpR (B : Nat) (s : ByteArray) (p : Option Nat) (w : World) (h : PS w B s p) (hs : s.size ≤ 1048576) :
    Calls Tryz.prog 16 #[.pointer (some ⟨B, 0, none⟩)] w fun e w' => ∃ m g cap, e = .returned (.slice (some ⟨g, 0, none⟩) m cap) ∧ LsI w' w.heap.size B s (numP s 2 p) (lenV s 2 p) m g cap ∧ PS w' B s (rep (itmP s) (numP s 2 p) m) ∧ w.grownBy w' (some B) := by
  have hlt := h.lt
  obtain ⟨i0, hi, hz0, hz1, hz2⟩ := info_parts Tryz.infoItm
  have HI : Hid (Tryz.prog.info? 85 = some i0) := hi
  clear hi
  have hb0 := bal w (.cells #[] 85)
  have hN := sNumP B s p 2 _ (h.later hb0) hs (by omega)
  obtain ⟨h1, h2⟩ := numV_small s (k := 2) (by omega) p
  rw [h1] at hN
  obtain ⟨n, hn⟩ : ∃ n, lenV s 2 p = n := ⟨_, rfl⟩
  rw [hn] at hN h2 ⊢
  clear hn h1
  obtain ⟨q, hq⟩ : ∃ q, numP s 2 p = q := ⟨_, rfl⟩
  rw [hq] at hN ⊢
  clear hq
  go_enter Tryz.func16, Tryz.ntmps16
  go_wp2_with (go_at_call 14; refine hN.mono ?_; rintro e w1 ⟨rfl, hP1, hg1⟩)
  go_loopw [3, 5] (fun v i wr => ∃ (j g cap : Nat), j ≤ n ∧ i = .int .i64 j ∧ v = .slice (some ⟨g, 0, none⟩) j cap ∧ wr.ownsRow w.heap.size 85 3 (.slice (some ⟨g, 0, none⟩) j cap) j (flat (fun j => [Value.int .i64 (itmV s (rep (itmP s) q j)).o, Value.int .i64 (itmV s (rep (itmP s) q j)).m, Value.string (itmV s (rep (itmP s) q j)).s]) j) ∧ PS wr B s (rep (itmP s) q j) ∧ w.grownBy wr (some B)) (fun _ i _ => n - (intOf i).toNat)
  case atStart =>
    refine ⟨0, w.heap.size, 0, by omega, rfl, rfl, ?_, hP1, gtrans (gbelow hb0 _) hg1⟩
    exact own_gr (World.ownsRow_made w #[] 0 (Nat.le_refl _) (by unfold maxLen; omega) rfl) hg1 hlt
  case round =>
    obtain ⟨j, g, cap, hj, rfl, rfl, hO, hP, hG⟩ := hrel
    by_cases hlj : j < n
    rotate_left
    · obtain rfl : j = n := by omega
      go_wp2
      go_ret
      exact ⟨j, g, cap, rfl, ⟨hO, Nat.le_refl _, Or.inl rfl⟩, hP, hG⟩
    have hgg := (hO.lt g rfl).1
    have hgl := (hO.lt g rfl).2
    have hcp := own_capN hO
    have hsz := hG.size
    have HNX : Hid (flat (fun j => [Value.int .i64 (itmV s (rep (itmP s) q j)).o, Value.int .i64 (itmV s (rep (itmP s) q j)).m, Value.string (itmV s (rep (itmP s) q j)).s]) (j + 1) = flat (fun j => [Value.int .i64 (itmV s (rep (itmP s) q j)).o, Value.int .i64 (itmV s (rep (itmP s) q j)).m, Value.string (itmV s (rep (itmP s) q j)).s]) j ++ [Value.int .i64 (itmV s (rep (itmP s) q j)).o, Value.int .i64 (itmV s (rep (itmP s) q j)).m, Value.string (itmV s (rep (itmP s) q j)).s]) := rfl
    cases hp : rep (itmP s) q j with
    | none =>
      rw [hp] at hP
      have c1 : wr.cell? ⟨B, 1, none⟩ = some (.int .i64 (-1)) := BL.c1 hP
      have HP0 : Hid (PS wr B s (rep (itmP s) q j)) := by rw [hp]; exact hP
      have HP1 : Hid (rep (itmP s) q j = none) := hp
      clear hp hP
      go_wp2
      go_ret
      exact ⟨j, g, cap, rfl, ⟨hO, hj, Or.inr HP1.out⟩, HP0.out, hG⟩
    | some a =>
      have c1 : wr.cell? ⟨B, 1, none⟩ = some (.int .i64 (a : Nat)) := by
        rw [hp] at hP
        exact BL.c1 hP.2
      clear hp
      have ia : (0 : Int) ≤ (a : Int) := by omega
      obtain ⟨u, hu⟩ : ∃ u, rep (itmP s) q j = u := ⟨_, rfl⟩
      have HU : Hid (rep (itmP s) q (j + 1) = itmP s u) := by show itmP s (rep (itmP s) q j) = _; rw [hu]
      rw [hu] at hP HNX
      clear hu
      have hNo := sNumP B s u 1 wr hP hs (by omega)
      by_cases e1 : numV s 1 u = 1
      · have HV : itmV s u = ⟨1, numV s 8 (numP s 1 u), ⟨#[]⟩⟩ := by unfold itmV; rw [if_pos e1]
        have HP : Hid (itmP s u = numP s 8 (numP s 1 u)) := by show _ = _; unfold itmP; rw [if_pos e1]
        rw [e1] at hNo
        rw [HV] at HNX
        clear HV
        go_wp2_with (first | (go_at_call 14; have _h := hP2; refine (sNumP B s (numP s 1 u) 8 _ (hP2.later (bal _ _)) hs (by omega)).mono ?_; rintro e w3 ⟨rfl, hP3, hg3⟩; have lR : Hid (w3.heap[w2.heap.size]? = some (.cells #[.int .i64 1, .int .i64 0, .string ⟨#[]⟩] 85 (0, 0))) := rowG HL2.out hg3 hne3; have hO3 := own_grN (own_gr (hO2.alloc (.cells #[.int .i64 1, .int .i64 0, .string ⟨#[]⟩] 85)) hg3 hlt) (gset w3 w2.heap.size 1 (.int .i64 (numV s 8 (numP s 1 u)))) hne4; have hs3 := hg3.size; have l0 : w3.cell? ⟨w2.heap.size, 0, none⟩ = some (.int .i64 1) := (cell_of_row _ _ 0 _ _ _ lR.out).trans rfl; have lf0 : w3.frozen? ⟨w2.heap.size, 0, none⟩ = false := frozen_of_row _ _ 0 _ _ lR.out; have l1 : w3.cell? ⟨w2.heap.size, 1, none⟩ = some (.int .i64 0) := (cell_of_row _ _ 1 _ _ _ lR.out).trans rfl; have lf1 : w3.frozen? ⟨w2.heap.size, 1, none⟩ = false := frozen_of_row _ _ 1 _ _ lR.out; have l2 : w3.cell? ⟨w2.heap.size, 2, none⟩ = some (.string ⟨#[]⟩) := (cell_of_row _ _ 2 _ _ _ lR.out).trans rfl; have lf2 : w3.frozen? ⟨w2.heap.size, 2, none⟩ = false := frozen_of_row _ _ 2 _ _ lR.out; have hsW : (w3.setCell ⟨w2.heap.size, 1, none⟩ (.int .i64 (numV s 8 (numP s 1 u)))).heap.size = w3.heap.size := (by simp); have HNW := World.news_of_block (heap_alloc_new (w3.setCell ⟨w2.heap.size, 1, none⟩ (.int .i64 (numV s 8 (numP s 1 u)))) (.cells ([Value.int .i64 1, .int .i64 (numV s 8 (numP s 1 u)), .string ⟨#[]⟩]).toArray 85)); rw [hsW] at HNW; have HNX2 := HNW; clear HNW) | (go_at_call 14; refine hNo.mono ?_; rintro e w2 ⟨rfl, hP2, hg2⟩; have hO2 := own_gr hO hg2 hlt; have hs2 := hg2.size; have hne3 : w2.heap.size ≠ B := (by omega); have hne4 : g ≠ w2.heap.size := (by omega); have HL2 : Hid ((w2.alloc (.cells #[.int .i64 1, .int .i64 0, .string ⟨#[]⟩] 85)).heap[w2.heap.size]? = some (.cells #[.int .i64 1, .int .i64 0, .string ⟨#[]⟩] 85 (0, 0))) := heap_alloc_new w2 _; have hsA : (w2.alloc (.cells #[.int .i64 1, .int .i64 0, .string ⟨#[]⟩] 85)).heap.size = w2.heap.size + 1 := (by simp)) | (at_builtin; refine wpList_append_lies _ rfl _ _ _ rfl w.heap.size 85 i0 (.agg #[.int .i64 0, .int .i64 0, .string ByteArray.empty]) 3 32 Tryz.underlying24 HI.out hz0 hz1 hz2 rfl (by omega) _ j _ rfl (hO3.alloc _) ⟨w3.heap.size, 0, none⟩ 1 1 [Value.int .i64 1, .int .i64 (numV s 8 (numP s 1 u)), .string ⟨#[]⟩] rfl rfl (HNX2) (by intro u hu; simp at hu; rcases hu with rfl | rfl | rfl <;> rfl) (by omega) (by unfold maxLen; omega) (by omega) (by simp; omega) _ rfl ?_; intro g4 cap4 w4 hO4 hgr4 hat4 hlt4))
        have G3 : w.grownBy (w3.setCell ⟨w2.heap.size, 1, none⟩ (.int .i64 (numV s 8 (numP s 1 u)))) (some B) := gsetN (gtrans (gal (gtrans hG hg2) _) hg3) (by omega)
        have Q6 : w.grownBy w4 (some B) := gjoin (gal G3 _) hgr4 (fun i hi => by have e : g = i := Option.some.inj hi; omega)
        have Q7 : PS w4 B s (rep (itmP s) q (j + 1)) := by rw [HU.out, HP.out]; exact PS.grown (g := g) hgr4 (by omega) ((PS.grown (gset w3 w2.heap.size 1 _) hne3.symm hP3).later (bal _ _))
        go_roundw
        case rel => first | exact ⟨j + 1, g4, cap4, by omega, by go_num, rfl, by rw [HNX.out]; exact hO4, Q7, Q6⟩ | ((repeat apply Exists.intro); exact ⟨⟨j + 1, g4, cap4, by omega, by go_num, rfl, by rw [HNX.out]; exact hO4, Q7, Q6⟩, rfl⟩)
        case measure => simp [intOf]; omega
      by_cases e2 : numV s 1 u = 2
      · have HV : itmV s u = ⟨2, 0, txtV s 2 (numP s 1 u)⟩ := by unfold itmV; rw [if_neg e1, if_pos e2]
        have HP : Hid (itmP s u = txtP s 2 (numP s 1 u)) := by show _ = _; unfold itmP; rw [if_neg e1, if_pos e2]
        rw [e2] at hNo
        rw [HV] at HNX
        clear HV
        go_wp2_with (first | (go_at_call 15; have _h := hP2; refine (sTxtP B s (numP s 1 u) 2 _ (hP2.later (bal _ _)) hs (by omega)).mono ?_; rintro e w3 ⟨rfl, hP3, hg3⟩; have lR : Hid (w3.heap[w2.heap.size]? = some (.cells #[.int .i64 2, .int .i64 0, .string ⟨#[]⟩] 85 (0, 0))) := rowG HL2.out hg3 hne3; have hO3 := own_grN (own_gr (hO2.alloc (.cells #[.int .i64 2, .int .i64 0, .string ⟨#[]⟩] 85)) hg3 hlt) (gset w3 w2.heap.size 2 (.string (txtV s 2 (numP s 1 u)))) hne4; have hs3 := hg3.size; have l0 : w3.cell? ⟨w2.heap.size, 0, none⟩ = some (.int .i64 2) := (cell_of_row _ _ 0 _ _ _ lR.out).trans rfl; have lf0 : w3.frozen? ⟨w2.heap.size, 0, none⟩ = false := frozen_of_row _ _ 0 _ _ lR.out; have l1 : w3.cell? ⟨w2.heap.size, 1, none⟩ = some (.int .i64 0) := (cell_of_row _ _ 1 _ _ _ lR.out).trans rfl; have lf1 : w3.frozen? ⟨w2.heap.size, 1, none⟩ = false := frozen_of_row _ _ 1 _ _ lR.out; have l2 : w3.cell? ⟨w2.heap.size, 2, none⟩ = some (.string ⟨#[]⟩) := (cell_of_row _ _ 2 _ _ _ lR.out).trans rfl; have lf2 : w3.frozen? ⟨w2.heap.size, 2, none⟩ = false := frozen_of_row _ _ 2 _ _ lR.out; have hsW : (w3.setCell ⟨w2.heap.size, 2, none⟩ (.string (txtV s 2 (numP s 1 u)))).heap.size = w3.heap.size := (by simp); have HNW := World.news_of_block (heap_alloc_new (w3.setCell ⟨w2.heap.size, 2, none⟩ (.string (txtV s 2 (numP s 1 u)))) (.cells ([Value.int .i64 2, .int .i64 0, .string (txtV s 2 (numP s 1 u))]).toArray 85)); rw [hsW] at HNW; have HNX2 := HNW; clear HNW) | (go_at_call 14; refine hNo.mono ?_; rintro e w2 ⟨rfl, hP2, hg2⟩; have hO2 := own_gr hO hg2 hlt; have hs2 := hg2.size; have hne3 : w2.heap.size ≠ B := (by omega); have hne4 : g ≠ w2.heap.size := (by omega); have HL2 : Hid ((w2.alloc (.cells #[.int .i64 2, .int .i64 0, .string ⟨#[]⟩] 85)).heap[w2.heap.size]? = some (.cells #[.int .i64 2, .int .i64 0, .string ⟨#[]⟩] 85 (0, 0))) := heap_alloc_new w2 _; have hsA : (w2.alloc (.cells #[.int .i64 2, .int .i64 0, .string ⟨#[]⟩] 85)).heap.size = w2.heap.size + 1 := (by simp)) | (at_builtin; refine wpList_append_lies _ rfl _ _ _ rfl w.heap.size 85 i0 (.agg #[.int .i64 0, .int .i64 0, .string ByteArray.empty]) 3 32 Tryz.underlying24 HI.out hz0 hz1 hz2 rfl (by omega) _ j _ rfl (hO3.alloc _) ⟨w3.heap.size, 0, none⟩ 1 1 [Value.int .i64 2, .int .i64 0, .string (txtV s 2 (numP s 1 u))] rfl rfl (HNX2) (by intro u hu; simp at hu; rcases hu with rfl | rfl | rfl <;> rfl) (by omega) (by unfold maxLen; omega) (by omega) (by simp; omega) _ rfl ?_; intro g4 cap4 w4 hO4 hgr4 hat4 hlt4))
        have G3 : w.grownBy (w3.setCell ⟨w2.heap.size, 2, none⟩ (.string (txtV s 2 (numP s 1 u)))) (some B) := gsetN (gtrans (gal (gtrans hG hg2) _) hg3) (by omega)
        have Q6 : w.grownBy w4 (some B) := gjoin (gal G3 _) hgr4 (fun i hi => by have e : g = i := Option.some.inj hi; omega)
        have Q7 : PS w4 B s (rep (itmP s) q (j + 1)) := by rw [HU.out, HP.out]; exact PS.grown (g := g) hgr4 (by omega) ((PS.grown (gset w3 w2.heap.size 2 _) hne3.symm hP3).later (bal _ _))
        go_roundw
        case rel => first | exact ⟨j + 1, g4, cap4, by omega, by go_num, rfl, by rw [HNX.out]; exact hO4, Q7, Q6⟩ | ((repeat apply Exists.intro); exact ⟨⟨j + 1, g4, cap4, by omega, by go_num, rfl, by rw [HNX.out]; exact hO4, Q7, Q6⟩, rfl⟩)
        case measure => simp [intOf]; omega
      by_cases e3 : numV s 1 u = 3
      · have HV : itmV s u = ⟨3, 0, txtV s 1 (numP s 1 u)⟩ := by unfold itmV; rw [if_neg e1, if_neg e2, if_pos e3]
        have HP : Hid (itmP s u = txtP s 1 (numP s 1 u)) := by show _ = _; unfold itmP; rw [if_neg e1, if_neg e2, if_pos e3]
        rw [e3] at hNo
        rw [HV] at HNX
        clear HV
        go_wp2_with (first | (go_at_call 15; have _h := hP2; refine (sTxtP B s (numP s 1 u) 1 _ (hP2.later (bal _ _)) hs (by omega)).mono ?_; rintro e w3 ⟨rfl, hP3, hg3⟩; have lR : Hid (w3.heap[w2.heap.size]? = some (.cells #[.int .i64 3, .int .i64 0, .string ⟨#[]⟩] 85 (0, 0))) := rowG HL2.out hg3 hne3; have hO3 := own_grN (own_gr (hO2.alloc (.cells #[.int .i64 3, .int .i64 0, .string ⟨#[]⟩] 85)) hg3 hlt) (gset w3 w2.heap.size 2 (.string (txtV s 1 (numP s 1 u)))) hne4; have hs3 := hg3.size; have l0 : w3.cell? ⟨w2.heap.size, 0, none⟩ = some (.int .i64 3) := (cell_of_row _ _ 0 _ _ _ lR.out).trans rfl; have lf0 : w3.frozen? ⟨w2.heap.size, 0, none⟩ = false := frozen_of_row _ _ 0 _ _ lR.out; have l1 : w3.cell? ⟨w2.heap.size, 1, none⟩ = some (.int .i64 0) := (cell_of_row _ _ 1 _ _ _ lR.out).trans rfl; have lf1 : w3.frozen? ⟨w2.heap.size, 1, none⟩ = false := frozen_of_row _ _ 1 _ _ lR.out; have l2 : w3.cell? ⟨w2.heap.size, 2, none⟩ = some (.string ⟨#[]⟩) := (cell_of_row _ _ 2 _ _ _ lR.out).trans rfl; have lf2 : w3.frozen? ⟨w2.heap.size, 2, none⟩ = false := frozen_of_row _ _ 2 _ _ lR.out; have hsW : (w3.setCell ⟨w2.heap.size, 2, none⟩ (.string (txtV s 1 (numP s 1 u)))).heap.size = w3.heap.size := (by simp); have HNW := World.news_of_block (heap_alloc_new (w3.setCell ⟨w2.heap.size, 2, none⟩ (.string (txtV s 1 (numP s 1 u)))) (.cells ([Value.int .i64 3, .int .i64 0, .string (txtV s 1 (numP s 1 u))]).toArray 85)); rw [hsW] at HNW; have HNX2 := HNW; clear HNW) | (go_at_call 14; refine hNo.mono ?_; rintro e w2 ⟨rfl, hP2, hg2⟩; have hO2 := own_gr hO hg2 hlt; have hs2 := hg2.size; have hne3 : w2.heap.size ≠ B := (by omega); have hne4 : g ≠ w2.heap.size := (by omega); have HL2 : Hid ((w2.alloc (.cells #[.int .i64 3, .int .i64 0, .string ⟨#[]⟩] 85)).heap[w2.heap.size]? = some (.cells #[.int .i64 3, .int .i64 0, .string ⟨#[]⟩] 85 (0, 0))) := heap_alloc_new w2 _; have hsA : (w2.alloc (.cells #[.int .i64 3, .int .i64 0, .string ⟨#[]⟩] 85)).heap.size = w2.heap.size + 1 := (by simp)) | (at_builtin; refine wpList_append_lies _ rfl _ _ _ rfl w.heap.size 85 i0 (.agg #[.int .i64 0, .int .i64 0, .string ByteArray.empty]) 3 32 Tryz.underlying24 HI.out hz0 hz1 hz2 rfl (by omega) _ j _ rfl (hO3.alloc _) ⟨w3.heap.size, 0, none⟩ 1 1 [Value.int .i64 3, .int .i64 0, .string (txtV s 1 (numP s 1 u))] rfl rfl (HNX2) (by intro u hu; simp at hu; rcases hu with rfl | rfl | rfl <;> rfl) (by omega) (by unfold maxLen; omega) (by omega) (by simp; omega) _ rfl ?_; intro g4 cap4 w4 hO4 hgr4 hat4 hlt4))
        have G3 : w.grownBy (w3.setCell ⟨w2.heap.size, 2, none⟩ (.string (txtV s 1 (numP s 1 u)))) (some B) := gsetN (gtrans (gal (gtrans hG hg2) _) hg3) (by omega)
        have Q6 : w.grownBy w4 (some B) := gjoin (gal G3 _) hgr4 (fun i hi => by have e : g = i := Option.some.inj hi; omega)
        have Q7 : PS w4 B s (rep (itmP s) q (j + 1)) := by rw [HU.out, HP.out]; exact PS.grown (g := g) hgr4 (by omega) ((PS.grown (gset w3 w2.heap.size 2 _) hne3.symm hP3).later (bal _ _))
        go_roundw
        case rel => first | exact ⟨j + 1, g4, cap4, by omega, by go_num, rfl, by rw [HNX.out]; exact hO4, Q7, Q6⟩ | ((repeat apply Exists.intro); exact ⟨⟨j + 1, g4, cap4, by omega, by go_num, rfl, by rw [HNX.out]; exact hO4, Q7, Q6⟩, rfl⟩)
        case measure => simp [intOf]; omega
      · have HV : itmV s u = ⟨numV s 1 u, 0, ⟨#[]⟩⟩ := by unfold itmV; rw [if_neg e1, if_neg e2, if_neg e3]
        have HP : Hid (itmP s u = numP s 1 u) := by show _ = _; unfold itmP; rw [if_neg e1, if_neg e2, if_neg e3]
        obtain ⟨o, ho⟩ : ∃ o, numV s 1 u = o := ⟨_, rfl⟩
        rw [ho] at hNo e1 e2 e3 HV
        clear ho
        have n1 : (o == 1) = false := by simpa using e1
        have n2 : (o == 2) = false := by simpa using e2
        have n3 : (o == 3) = false := by simpa using e3
        rw [HV] at HNX
        clear HV
        go_wp2_with (first | (go_at_call 14; refine hNo.mono ?_; rintro e w2 ⟨rfl, hP2, hg2⟩; have hO2 := own_gr hO hg2 hlt; have hs2 := hg2.size; have hne3 : w2.heap.size ≠ B := (by omega); have hne4 : g ≠ w2.heap.size := (by omega); have HL2 : Hid ((w2.alloc (.cells #[.int .i64 o, .int .i64 0, .string ⟨#[]⟩] 85)).heap[w2.heap.size]? = some (.cells #[.int .i64 o, .int .i64 0, .string ⟨#[]⟩] 85 (0, 0))) := heap_alloc_new w2 _; have hsA : (w2.alloc (.cells #[.int .i64 o, .int .i64 0, .string ⟨#[]⟩] 85)).heap.size = w2.heap.size + 1 := (by simp); have hsW : (w2.alloc (.cells #[.int .i64 o, .int .i64 0, .string ⟨#[]⟩] 85)).heap.size = w2.heap.size + 1 := (by simp); have HNW := World.news_of_block (heap_alloc_new (w2.alloc (.cells #[.int .i64 o, .int .i64 0, .string ⟨#[]⟩] 85)) (.cells ([Value.int .i64 o, .int .i64 0, .string ⟨#[]⟩]).toArray 85)); rw [hsW] at HNW; have HNX2 := HNW; clear HNW) | (at_builtin; refine wpList_append_lies _ rfl _ _ _ rfl w.heap.size 85 i0 (.agg #[.int .i64 0, .int .i64 0, .string ByteArray.empty]) 3 32 Tryz.underlying24 HI.out hz0 hz1 hz2 rfl (by omega) _ j _ rfl ((hO2.alloc (.cells #[.int .i64 o, .int .i64 0, .string ⟨#[]⟩] 85)).alloc _) ⟨w2.heap.size + 1, 0, none⟩ 1 1 [Value.int .i64 o, .int .i64 0, .string ⟨#[]⟩] rfl rfl (HNX2) (by intro u hu; simp at hu; rcases hu with rfl | rfl | rfl <;> rfl) (by omega) (by unfold maxLen; omega) (by omega) (by simp; omega) _ rfl ?_; intro g4 cap4 w4 hO4 hgr4 hat4 hlt4))
        have Q6 : w.grownBy w4 (some B) := gjoin (gal (gal (gtrans hG hg2) _) _) hgr4 (fun i hi => by have e : g = i := Option.some.inj hi; omega)
        have Q7 : PS w4 B s (rep (itmP s) q (j + 1)) := by rw [HU.out, HP.out]; exact PS.grown (g := g) hgr4 (by omega) ((hP2.later (bal _ _)).later (bal _ _))
        go_roundw
        case rel => first | exact ⟨j + 1, g4, cap4, by omega, by go_num, rfl, by rw [HNX.out]; exact hO4, Q7, Q6⟩ | ((repeat apply Exists.intro); exact ⟨⟨j + 1, g4, cap4, by omega, by go_num, rfl, by rw [HNX.out]; exact hO4, Q7, Q6⟩, rfl⟩)
        case measure => simp [intOf]; omega
end Go.Proofs.YtnbgdfhfmbgbhaaGreatDoor
namespace Go.Proofs.YtnbgdfhfmbgbhaaGreatDoor
open Go.RowKit Go.Maps Go.WideMaps
theorem itmP_none (s : ByteArray) : itmP s none = none := by
  unfold itmP
  have e : numV s 1 none = 0 := rfl
  rw [e, if_neg (by omega), if_neg (by omega), if_neg (by omega)]
  rfl
theorem rep_none {f : Option Nat → Option Nat} (hf : f none = none) {p : Option Nat} {m : Nat} (h : rep f p m = none) : ∀ n, m ≤ n → rep f p n = none := by
  intro n hn
  induction n with
  | zero => obtain rfl : m = 0 := by omega
            exact h
  | succ n ih =>
    by_cases e : m = n + 1
    · subst e; exact h
    · rw [rep, ih (by omega), hf]
theorem own_mono {w : World} {base base' e size n : Nat} {v : Value} {xs : List Value} (h : w.ownsRow base e size v n xs) (hb : base' ≤ base) : w.ownsRow base' e size v n xs := by
  obtain ⟨hl, hh⟩ := h
  refine ⟨hl, ?_⟩
  rcases hh with hh | ⟨gg, cap, cur, e1, e2, e3, e4⟩
  · exact Or.inl hh
  · exact Or.inr ⟨gg, cap, cur, e1, Nat.le_trans hb e2, e3, e4⟩
/-- The place behind an expression. -/
def exPl (s : ByteArray) (p : Option Nat) : Option Nat := rep (itmP s) (numP s 2 p) (lenV s 2 p)
theorem LsI.place {w : World} {base B : Nat} {s : ByteArray} {p : Option Nat} {m g cap : Nat} (h : LsI w base B s (numP s 2 p) (lenV s 2 p) m g cap) : rep (itmP s) (numP s 2 p) m = exPl s p := by
  unfold exPl
  rcases h.at' with e | e
  · rw [e]
  · rw [e, rep_none (itmP_none s) e _ h.le]
theorem LsI.gr {w w' : World} {base B C : Nat} {s : ByteArray} {q : Option Nat} {n m g cap : Nat} (h : LsI w base B s q n m g cap) (hg : w.grownBy w' (some C)) (hne : g ≠ C) : LsI w' base B s q n m g cap := ⟨own_grN h.own hg hne, h.le, h.at'⟩
theorem LsI.later {w w' : World} {base B : Nat} {s : ByteArray} {q : Option Nat} {n m g cap : Nat} (h : LsI w base B s q n m g cap) (hb : Below w.heap.size w w') : LsI w' base B s q n m g cap := ⟨own_below h.own hb, h.le, h.at'⟩
theorem Tryz.infoRowI : (Tryz.prog.info? 24).map (fun i => (i.zero, i.size, i.bytes)) = some (some (.slice none 0 0), 1, 24) := by kernel_rfl
/-- Where the expressions of a list lie. -/
structure Ex3 where
  g : Nat
  m : Nat
  c : Nat
def exC (X : Nat → Ex3) (j : Nat) : List Value := (List.range j).map fun i => Value.slice (some ⟨(X i).g, 0, none⟩) (X i).m (X i).c
theorem exC_next (X : Nat → Ex3) (j : Nat) : exC X (j + 1) = exC X j ++ [Value.slice (some ⟨(X j).g, 0, none⟩) (X j).m (X j).c] := by
  unfold exC
  rw [List.range_succ, List.map_append]
  rfl
def upd (X : Nat → Ex3) (j : Nat) (x : Ex3) : Nat → Ex3 := fun i => if i = j then x else X i
theorem exC_upd (X : Nat → Ex3) (j : Nat) (x : Ex3) : exC (upd X j x) j = exC X j := by
  unfold exC
  apply List.map_congr_left
  intro i hi
  have : i < j := by simpa using hi
  unfold upd
  rw [if_neg (by omega)]
set_option maxRecDepth 20000 in
set_option maxHeartbeats 8000000 in
theorem iListO2 (B : Nat) (s : ByteArray) (p : Option Nat) (w : World) (h : PI w B s p) :
    Calls Tryz.prog 66 #[.pointer (some ⟨B, 0, none⟩), .int .i64 1, .func (.func 65) #[] #[]] w fun e w' => ∃ m g cap X, e = .returned (.slice (some ⟨g, 0, none⟩) m cap) ∧ w'.ownsRow w.heap.size 24 1 (.slice (some ⟨g, 0, none⟩) m cap) m (exC X m) ∧ (∀ i, i < m → (X i).g ≠ g ∧ (∀ k, k < i → (X k).g ≠ (X i).g) ∧ LsI w' w.heap.size B s (numP s 2 (rep (exPl s) (numP s 1 p) i)) (lenV s 2 (rep (exPl s) (numP s 1 p) i)) (X i).m (X i).g (X i).c) ∧ m ≤ lenV s 1 p ∧ (m = lenV s 1 p ∨ rep (exPl s) (numP s 1 p) m = none) ∧ PI w' B s (rep (exPl s) (numP s 1 p) m) ∧ w.grownBy w' (some B) := by
  have hlt := h.lt
  obtain ⟨i0, hi, hz0, hz1, hz2⟩ := info_parts Tryz.infoRowI
  have HI : Hid (Tryz.prog.info? 24 = some i0) := hi
  clear hi
  have hb0 := bal w (.cells #[] 24)
  have hN := iNumP B s p 1 _ (h.later hb0) (by omega)
  obtain ⟨h1, h2⟩ := numV_small s (k := 1) (by omega) p
  rw [h1] at hN
  obtain ⟨n, hn⟩ : ∃ n, lenV s 1 p = n := ⟨_, rfl⟩
  rw [hn] at hN h2 ⊢
  clear hn h1
  obtain ⟨q, hq⟩ : ∃ q, numP s 1 p = q := ⟨_, rfl⟩
  rw [hq] at hN ⊢
  clear hq
  go_enter Tryz.func66, Tryz.ntmps66
  go_wp2_with (go_at_call 59; refine hN.mono ?_; rintro e w1 ⟨rfl, hP1, hg1⟩)
  go_loopw [7, 12] (fun v i wr => ∃ (j g cap : Nat) (X : Nat → Ex3), j ≤ n ∧ i = .int .i64 j ∧ v = .slice (some ⟨g, 0, none⟩) j cap ∧ wr.ownsRow w.heap.size 24 1 (.slice (some ⟨g, 0, none⟩) j cap) j (exC X j) ∧ (∀ i, i < j → (X i).g ≠ g ∧ (∀ k, k < i → (X k).g ≠ (X i).g) ∧ LsI wr w.heap.size B s (numP s 2 (rep (exPl s) q i)) (lenV s 2 (rep (exPl s) q i)) (X i).m (X i).g (X i).c) ∧ PI wr B s (rep (exPl s) q j) ∧ w.grownBy wr (some B)) (fun _ i _ => n - (intOf i).toNat)
  case atStart =>
    refine ⟨0, w.heap.size, 0, fun _ => ⟨0, 0, 0⟩, by omega, rfl, rfl, ?_, fun i hi => by omega, hP1, gtrans (gbelow hb0 _) hg1⟩
    exact own_gr (World.ownsRow_made w #[] 0 (Nat.le_refl _) (by unfold maxLen; omega) rfl) hg1 hlt
  case round =>
    obtain ⟨j, g, cap, X, hj, rfl, rfl, hO, hX, hP, hG⟩ := hrel
    have HX : Hid (∀ i, i < j → (X i).g ≠ g ∧ (∀ k, k < i → (X k).g ≠ (X i).g) ∧ LsI wr w.heap.size B s (numP s 2 (rep (exPl s) q i)) (lenV s 2 (rep (exPl s) q i)) (X i).m (X i).g (X i).c) := hX
    clear hX
    by_cases hlj : j < n
    · have hgg := (hO.lt g rfl).1
      have hgl := (hO.lt g rfl).2
      have hcp := own_capN hO
      have hsz := hG.size
      have c1 := hP.c1
      cases hp : rep (exPl s) q j with
      | none =>
        rw [hp] at c1 hP
        go_wp2
        go_ret
        exact ⟨j, g, cap, X, rfl, hO, HX.out, hj, Or.inr hp, by rw [hp]; exact hP, hG⟩
      | some a =>
        rw [hp] at c1
        have c1' : wr.cell? ⟨B, 1, none⟩ = some (.bool false) := c1
        clear c1 hp
        have hE := iItemsR B s _ wr hP
        go_wp2_with (first | (go_at_call 65; refine hE.mono ?_; rintro e w2 ⟨m2, g2, cap2, rfl, hL2, hP2, hg2⟩; have hO2 := own_gr hO hg2 hlt; have hs2 := hg2.size; have hg2b := (hL2.own.lt g2 rfl).1; have hg2l := (hL2.own.lt g2 rfl).2) | (at_builtin; refine wpList_append_lies _ rfl _ _ _ rfl w.heap.size 24 i0 (.slice none 0 0) 1 24 Tryz.underlying25 HI.out hz0 hz1 hz2 rfl (by omega) _ j _ rfl (hO2.alloc _) ⟨w2.heap.size, 0, none⟩ 1 1 [.slice (some ⟨g2, 0, none⟩) m2 cap2] rfl rfl (World.news_of_block (heap_alloc_new w2 _)) (ones _ rfl) (by omega) (by unfold maxLen; omega) (by omega) (by simp; omega) _ rfl ?_; intro g4 cap4 w4 hO4 hgr4 hat4 hlt4))
        have Q6 : w.grownBy w4 (some B) := gjoin (gal (gtrans hG hg2) _) hgr4 (fun i hi => by have e : g = i := Option.some.inj hi; omega)
        have Q7 : PI w4 B s (rep (exPl s) q (j + 1)) := by
          show PI w4 B s (exPl s (rep (exPl s) q j))
          rw [← hL2.place]
          exact PI.grown (g := g) hgr4 (by omega) (hP2.later (bal _ _))
        have hsA : (w2.alloc (.cells #[.slice (some ⟨g2, 0, none⟩) m2 cap2] 24)).heap.size = w2.heap.size + 1 := by simp
        have hg4 : g4 = g ∨ g4 = w2.heap.size + 1 := by
          rcases hat4 with e | e
          · exact Or.inl (Option.some.inj e).symm
          · exact Or.inr (e.trans hsA)
        have Q8 : ∀ i, i < j + 1 → (upd X j ⟨g2, m2, cap2⟩ i).g ≠ g4 ∧ (∀ k, k < i → (upd X j ⟨g2, m2, cap2⟩ k).g ≠ (upd X j ⟨g2, m2, cap2⟩ i).g) ∧ LsI w4 w.heap.size B s (numP s 2 (rep (exPl s) q i)) (lenV s 2 (rep (exPl s) q i)) (upd X j ⟨g2, m2, cap2⟩ i).m (upd X j ⟨g2, m2, cap2⟩ i).g (upd X j ⟨g2, m2, cap2⟩ i).c := fun i hi => by
          by_cases e : i = j
          · subst e
            unfold upd
            simp only [if_true]
            refine ⟨by omega, fun k hk => ?_, ?_⟩
            · rw [if_neg (by omega)]
              have hkl := ((HX.out k (by omega)).2.2.own.lt (X k).g rfl).2
              show (X k).g ≠ g2
              omega
            have hL3 : LsI w2 w.heap.size B s (numP s 2 (rep (exPl s) q i)) (lenV s 2 (rep (exPl s) q i)) m2 g2 cap2 := ⟨own_mono hL2.own hsz, hL2.le, hL2.at'⟩
            exact (hL3.later (bal _ _)).gr hgr4 (by show g2 ≠ g; omega)
          · unfold upd
            rw [if_neg e]
            obtain ⟨hne, hdf, hL⟩ := HX.out i (by omega)
            have hil := (hL.own.lt (X i).g rfl).2
            have hib := (hL.own.lt (X i).g rfl).1
            refine ⟨by omega, fun k hk => by rw [if_neg (by omega)]; exact hdf k hk, ?_⟩
            exact ((hL.gr hg2 (by omega)).later (bal _ _)).gr hgr4 hne
        have Q9 : exC (upd X j ⟨g2, m2, cap2⟩) (j + 1) = exC X j ++ [.slice (some ⟨g2, 0, none⟩) m2 cap2] := by
          rw [exC_next, exC_upd]
          unfold upd
          simp only [if_true]
        go_roundw
        case rel => first | exact ⟨j + 1, g4, cap4, upd X j ⟨g2, m2, cap2⟩, by omega, by go_num, rfl, by rw [Q9]; exact hO4, Q8, Q7, Q6⟩ | ((repeat apply Exists.intro); exact ⟨⟨j + 1, g4, cap4, upd X j ⟨g2, m2, cap2⟩, by omega, by go_num, rfl, by rw [Q9]; exact hO4, Q8, Q7, Q6⟩, rfl⟩)
        case measure => simp [intOf]; omega
    · obtain rfl : j = n := by omega
      go_wp2
      go_ret
      exact ⟨j, g, cap, X, rfl, hO, HX.out, Nat.le_refl _, Or.inl rfl, hP, hG⟩
end Go.Proofs.YtnbgdfhfmbgbhaaGreatDoor
