/-
  DecodeStm: the specification's way, a Select.
-/
import Derived.Test.YtnbgdfhfmbgbhaaGreatDoorRzb
import Derived.Test.YtnbgdfhfmbgbhaaGreatDoorRyb
import Derived.Test.YtnbgdfhfmbgbhaaGreatDoorRyc
namespace Go.Proofs.YtnbgdfhfmbgbhaaGreatDoor
open Go.RowKit Go.Maps Go.WideMaps
theorem LsI.grR {w w' : World} {base B : Nat} {r : Option Nat} {s : ByteArray} {q : Option Nat} {n m g cap : Nat} (h : LsI w base B s q n m g cap) (hg : w.grownBy w' r) (hne : some g ≠ r) : LsI w' base B s q n m g cap :=
  ⟨own_grR h.own hg (fun x e => by have e' : g = x := Option.some.inj e; rw [← e']; exact hne), h.le, h.at'⟩
theorem own_olA {w : World} {base B m cap : Nat} {a : Option Addr} {s : ByteArray} {X : Nat → Ex3} {Q : Nat → Option Nat} (h : w.ownsRow base 24 1 (.slice a m cap) m (exC X m)) (hX : ∀ i, i < m → LsI w base B s (numP s 2 (Q i)) (lenV s 2 (Q i)) (X i).m (X i).g (X i).c) (hs : s.size ≤ 1048576) :
    OL w a m (fun i => if i < m then (X i).m else 0) (fun i j => itmV s (rep (itmP s) (numP s 2 (Q i)) j)) := by
  have h' := h
  rcases h.2 with ⟨e, rfl⟩ | ⟨g, cap', cur, e, h2⟩
  · exact zeroOL _ _ _ _
  · simp only [Value.slice.injEq, true_and] at e
    obtain ⟨rfl, rfl⟩ := e
    intro k hk
    have := own_ol h' hX hs k hk
    have e : (fun i => if i < m then (X i).m else 0) k = (X k).m := if_pos hk
    rw [e]
    exact this
set_option maxRecDepth 20000 in
set_option maxHeartbeats 16000000 in
theorem sDec5 (s : ByteArray) (w : World) (hs : s.size ≤ 1048576) (hk : numV s 1 (some 0) = 5) (h1 : ¬ 60000 < s.size) :
    Calls Tryz.prog 5 #[.string s] w fun e w' => DecS w w' s e := by
  have t1 : ¬ (60000 : Int) < s.size := by omega
  have hsA : (w.alloc (.cells #[.int .i64 0, .string ⟨#[]⟩, .slice none 0 0, .slice none 0 0, .string ⟨#[]⟩, .slice none 0 0, .slice none 0 0, .slice none 0 0] 27)).heap.size = w.heap.size + 1 := by simp
  have hsB : ((w.alloc (.cells #[.int .i64 0, .string ⟨#[]⟩, .slice none 0 0, .slice none 0 0, .string ⟨#[]⟩, .slice none 0 0, .slice none 0 0, .slice none 0 0] 27)).alloc (.cells #[.string s, .int .i64 0] 45)).heap.size = w.heap.size + 1 + 1 := by simp
  have hb0 : Below w.heap.size w ((w.alloc (.cells #[.int .i64 0, .string ⟨#[]⟩, .slice none 0 0, .slice none 0 0, .string ⟨#[]⟩, .slice none 0 0, .slice none 0 0, .slice none 0 0] 27)).alloc (.cells #[.string s, .int .i64 0] 45)) := bstep (bal _ _) (bal _ _)
  have HR0 : Hid (((w.alloc (.cells #[.int .i64 0, .string ⟨#[]⟩, .slice none 0 0, .slice none 0 0, .string ⟨#[]⟩, .slice none 0 0, .slice none 0 0, .slice none 0 0] 27)).alloc (.cells #[.string s, .int .i64 0] 45)).heap[w.heap.size]? = some (.cells #[.int .i64 0, .string ⟨#[]⟩, .slice none 0 0, .slice none 0 0, .string ⟨#[]⟩, .slice none 0 0, .slice none 0 0, .slice none 0 0] 27 (0, 0))) := rowL (heap_alloc_new w _) (bal _ _)
  have hP0 : PS ((w.alloc (.cells #[.int .i64 0, .string ⟨#[]⟩, .slice none 0 0, .slice none 0 0, .string ⟨#[]⟩, .slice none 0 0, .slice none 0 0, .slice none 0 0] 27)).alloc (.cells #[.string s, .int .i64 0] 45)) (w.heap.size + 1) s (some 0) := ⟨Nat.zero_le _, (by have := heap_alloc_new (w.alloc (.cells #[.int .i64 0, .string ⟨#[]⟩, .slice none 0 0, .slice none 0 0, .string ⟨#[]⟩, .slice none 0 0, .slice none 0 0, .slice none 0 0] 27)) (.cells #[.string s, .int .i64 0] 45); rw [hsA] at this; exact this)⟩
  have hN := sNumP (w.heap.size + 1) s (some 0) 1 _ hP0 hs (by omega)
  have HK : Hid (numV s 1 (some 0) = 5) := hk
  have hs0 : 0 < s.size := by
    rcases Nat.eq_zero_or_pos s.size with h | h
    · exfalso
      have : numV s 1 (some 0) = 0 := by simp only [numV]; rw [if_neg (by omega)]
      omega
    · exact h
  have t0 : s.toList.isEmpty = false := by rw [isE]; exact decide_eq_false (by omega)
  rw [hk] at hN
  clear hk
  obtain ⟨hn1, hn2⟩ := numV_small s (k := 1) (by omega) (hd2 s)
  have hN3 : ∀ v, PS v (w.heap.size + 1) s (hd2 s) → Calls Tryz.prog 14 #[.pointer (some ⟨(w.heap.size + 1), 0, none⟩), .int .i64 1] v fun e w' => e = .returned (.int .i64 ((lenV s 1 (hd2 s) : Nat) : Int)) ∧ PS w' (w.heap.size + 1) s (numP s 1 (hd2 s)) ∧ v.grownBy w' (some (w.heap.size + 1)) := fun v hv => by rw [← hn1]; exact sNumP (w.heap.size + 1) s (hd2 s) 1 v hv hs (by omega)
  obtain ⟨n, hn⟩ : ∃ n, lenV s 1 (hd2 s) = n := ⟨_, rfl⟩
  have HLEN : Hid (lenV s 1 (hd2 s) = n) := hn
  rw [hn] at hN3 hn2
  clear hn hn1
  have hT : ∀ v, PS v (w.heap.size + 1) s (numP s 1 (some 0)) → Calls Tryz.prog 15 #[.pointer (some ⟨(w.heap.size + 1), 0, none⟩), .int .i64 1] v fun e w' => e = .returned (.string (tbS s)) ∧ PS w' (w.heap.size + 1) s (hd2 s) ∧ v.grownBy w' (some (w.heap.size + 1)) := fun v hv => sTxtP (w.heap.size + 1) s (numP s 1 (some 0)) 1 v hv hs (by omega)
  obtain ⟨i0, hi, hz0, hz1, hz2⟩ := info_parts Tryz.infoRowI
  have HI : Hid (Tryz.prog.info? 24 = some i0) := hi
  clear hi
  go_enter Tryz.func5, Tryz.ntmps5
  go_wp2_with (first | (go_at_call 14; have _h := hP2; refine (hN3 _ hP2t).mono ?_; rintro e w3 ⟨rfl, hP3, hg3⟩; have hs3 := hg3.size; have HL3 : Hid (w3.heap[w1.heap.size]? = some (.cells #[.int .i64 5, .string (tbS s), .slice none 0 0, .slice none 0 0, .string ⟨#[]⟩, .slice none 0 0, .slice none 0 0, .slice none 0 0] 27 (0, 0))) := rowG HL2t.out hg3 hneL; have HR3 : Hid (w3.heap[w.heap.size]? = some (.cells #[.int .i64 0, .string ⟨#[]⟩, .slice none 0 0, .slice none 0 0, .string ⟨#[]⟩, .slice none 0 0, .slice none 0 0, .slice none 0 0] 27 (0, 0))) := rowG HR2t.out hg3 hneRB; have hb3 : Below w.heap.size w w3 := gB hb2t hg3 (by omega)) | (go_at_call 15; refine (hT _ (hP1.later (bal _ _))).mono ?_; rintro e w2 ⟨rfl, hP2, hg2⟩; have hs2 := hg2.size; have HL2 : Hid (w2.heap[w1.heap.size]? = some (.cells #[.int .i64 5, .string ⟨#[]⟩, .slice none 0 0, .slice none 0 0, .string ⟨#[]⟩, .slice none 0 0, .slice none 0 0, .slice none 0 0] 27 (0, 0))) := rowG HLn.out hg2 hneL; have HR2 : Hid (w2.heap[w.heap.size]? = some (.cells #[.int .i64 0, .string ⟨#[]⟩, .slice none 0 0, .slice none 0 0, .string ⟨#[]⟩, .slice none 0 0, .slice none 0 0, .slice none 0 0] 27 (0, 0))) := rowG (rowL HR1 (bal _ _)) hg2 hneRB; have hb2 : Below w.heap.size w w2 := gB (bstep hb1 (bal _ _)) hg2 (by omega); have HL2t : Hid ((w2.setCell ⟨w1.heap.size, 1, none⟩ (.string (tbS s))).heap[w1.heap.size]? = some (.cells #[.int .i64 5, .string (tbS s), .slice none 0 0, .slice none 0 0, .string ⟨#[]⟩, .slice none 0 0, .slice none 0 0, .slice none 0 0] 27 (0, 0))) := heap_setCell_same _ _ 1 _ _ _ HL2.out; have HR2t : Hid ((w2.setCell ⟨w1.heap.size, 1, none⟩ (.string (tbS s))).heap[w.heap.size]? = some (.cells #[.int .i64 0, .string ⟨#[]⟩, .slice none 0 0, .slice none 0 0, .string ⟨#[]⟩, .slice none 0 0, .slice none 0 0, .slice none 0 0] 27 (0, 0))) := rowO HR2.out hneR; have hP2t := PS.grown (gset w2 w1.heap.size 1 (.string (tbS s))) hneL.symm hP2; have hb2t : Below w.heap.size w (w2.setCell ⟨w1.heap.size, 1, none⟩ (.string (tbS s))) := bset hb2 (by omega); have hs2t : (w2.setCell ⟨w1.heap.size, 1, none⟩ (.string (tbS s))).heap.size = w2.heap.size := (by simp); have l0 : w2.cell? ⟨w1.heap.size, 0, none⟩ = some (.int .i64 5) := (cell_of_row _ _ 0 _ _ _ HL2.out).trans rfl; have lf0 : w2.frozen? ⟨w1.heap.size, 0, none⟩ = false := frozen_of_row _ _ 0 _ _ HL2.out; have l1 : w2.cell? ⟨w1.heap.size, 1, none⟩ = some (.string ⟨#[]⟩) := (cell_of_row _ _ 1 _ _ _ HL2.out).trans rfl; have lf1 : w2.frozen? ⟨w1.heap.size, 1, none⟩ = false := frozen_of_row _ _ 1 _ _ HL2.out; have l2 : w2.cell? ⟨w1.heap.size, 2, none⟩ = some (.slice none 0 0) := (cell_of_row _ _ 2 _ _ _ HL2.out).trans rfl; have lf2 : w2.frozen? ⟨w1.heap.size, 2, none⟩ = false := frozen_of_row _ _ 2 _ _ HL2.out; have l3 : w2.cell? ⟨w1.heap.size, 3, none⟩ = some (.slice none 0 0) := (cell_of_row _ _ 3 _ _ _ HL2.out).trans rfl; have lf3 : w2.frozen? ⟨w1.heap.size, 3, none⟩ = false := frozen_of_row _ _ 3 _ _ HL2.out; have l4 : w2.cell? ⟨w1.heap.size, 4, none⟩ = some (.string ⟨#[]⟩) := (cell_of_row _ _ 4 _ _ _ HL2.out).trans rfl; have lf4 : w2.frozen? ⟨w1.heap.size, 4, none⟩ = false := frozen_of_row _ _ 4 _ _ HL2.out; have l5 : w2.cell? ⟨w1.heap.size, 5, none⟩ = some (.slice none 0 0) := (cell_of_row _ _ 5 _ _ _ HL2.out).trans rfl; have lf5 : w2.frozen? ⟨w1.heap.size, 5, none⟩ = false := frozen_of_row _ _ 5 _ _ HL2.out; have l6 : w2.cell? ⟨w1.heap.size, 6, none⟩ = some (.slice none 0 0) := (cell_of_row _ _ 6 _ _ _ HL2.out).trans rfl; have lf6 : w2.frozen? ⟨w1.heap.size, 6, none⟩ = false := frozen_of_row _ _ 6 _ _ HL2.out; have l7 : w2.cell? ⟨w1.heap.size, 7, none⟩ = some (.slice none 0 0) := (cell_of_row _ _ 7 _ _ _ HL2.out).trans rfl; have lf7 : w2.frozen? ⟨w1.heap.size, 7, none⟩ = false := frozen_of_row _ _ 7 _ _ HL2.out) | (go_at_call 14; refine hN.mono ?_; rintro e w1 ⟨rfl, hP1, hg1⟩; have hs1 := hg1.size; have HR1 := rowG HR0.out hg1 (by omega); have hneL : w1.heap.size ≠ w.heap.size + 1 := (by omega); have hneR : w.heap.size ≠ w1.heap.size := (by omega); have hneRB : w.heap.size ≠ w.heap.size + 1 := (by omega); have hb1 : Below w.heap.size w w1 := gB hb0 hg1 (by omega); have hsL : (w1.alloc (.cells #[.int .i64 5, .string ⟨#[]⟩, .slice none 0 0, .slice none 0 0, .string ⟨#[]⟩, .slice none 0 0, .slice none 0 0, .slice none 0 0] 27)).heap.size = w1.heap.size + 1 := (by simp); have HLn : Hid ((w1.alloc (.cells #[.int .i64 5, .string ⟨#[]⟩, .slice none 0 0, .slice none 0 0, .string ⟨#[]⟩, .slice none 0 0, .slice none 0 0, .slice none 0 0] 27)).heap[w1.heap.size]? = some (.cells #[.int .i64 5, .string ⟨#[]⟩, .slice none 0 0, .slice none 0 0, .string ⟨#[]⟩, .slice none 0 0, .slice none 0 0, .slice none 0 0] 27 (0, 0))) := heap_alloc_new w1 _))
  go_loopw [13] (fun i wr => ∃ (j : Nat) (a : Option Addr) (cap : Nat) (X : Nat → Ex3), j ≤ n ∧ i = .int .i64 j ∧ wr.heap[w1.heap.size]? = some (.cells #[.int .i64 5, .string (tbS s), .slice none 0 0, .slice none 0 0, .string ⟨#[]⟩, .slice none 0 0, .slice none 0 0, .slice a j cap] 27 (0, 0)) ∧ wr.heap[w.heap.size]? = some (.cells #[.int .i64 0, .string ⟨#[]⟩, .slice none 0 0, .slice none 0 0, .string ⟨#[]⟩, .slice none 0 0, .slice none 0 0, .slice none 0 0] 27 (0, 0)) ∧ wr.ownsRow w3.heap.size 24 1 (.slice a j cap) j (exC X j) ∧ (∀ i, i < j → (∀ x, (Value.slice a j cap).ownBlock = some x → (X i).g ≠ x) ∧ LsI wr w3.heap.size (w.heap.size + 1) s (numP s 2 (rep (exPl s) (numP s 1 (hd2 s)) i)) (lenV s 2 (rep (exPl s) (numP s 1 (hd2 s)) i)) (X i).m (X i).g (X i).c) ∧ PS wr (w.heap.size + 1) s (rep (exPl s) (numP s 1 (hd2 s)) j) ∧ Below w.heap.size w wr ∧ w3.heap.size ≤ wr.heap.size) (fun i _ => n - (intOf i).toNat)
  case atStart => exact ⟨0, none, 0, fun _ => ⟨0, 0, 0⟩, by omega, rfl, HL3.out, HR3.out, ⟨rfl, Or.inl ⟨rfl, rfl⟩⟩, fun i hi => by omega, hP3, hb3, Nat.le_refl _⟩
  case round =>
    obtain ⟨j, a, cap, X, hj, rfl, hLr, hRr, hO, hX, hP, hb, hG⟩ := hrel
    have HLr : Hid (wr.heap[w1.heap.size]? = some (.cells #[.int .i64 5, .string (tbS s), .slice none 0 0, .slice none 0 0, .string ⟨#[]⟩, .slice none 0 0, .slice none 0 0, .slice a j cap] 27 (0, 0))) := hLr
    have HRr : Hid (wr.heap[w.heap.size]? = some (.cells #[.int .i64 0, .string ⟨#[]⟩, .slice none 0 0, .slice none 0 0, .string ⟨#[]⟩, .slice none 0 0, .slice none 0 0, .slice none 0 0] 27 (0, 0))) := hRr
    have HXs : Hid ((∀ i, i < j → (∀ x, (Value.slice a j cap).ownBlock = some x → (X i).g ≠ x) ∧ LsI wr w3.heap.size (w.heap.size + 1) s (numP s 2 (rep (exPl s) (numP s 1 (hd2 s)) i)) (lenV s 2 (rep (exPl s) (numP s 1 (hd2 s)) i)) (X i).m (X i).g (X i).c)) := hX
    clear hX
    clear hLr hRr
    by_cases hlj : j < n
    rotate_left
    · have hjn : j = n := by omega
      subst hjn
      clear hlj hj
      have hnb : ∀ x, x < w3.heap.size → some x ≠ (Value.slice a j cap).ownBlock := fun x hx e => by have := (hO.lt x e.symm).1; omega
      have hBG : w.heap.size + 1 < w3.heap.size := by omega
      have hLG : w1.heap.size < w3.heap.size := by omega
      have hRG : w.heap.size < w3.heap.size := by omega
      have l0 : wr.cell? ⟨w1.heap.size, 0, none⟩ = some (.int .i64 5) := (cell_of_row _ _ 0 _ _ _ HLr.out).trans rfl
      have lf0 : wr.frozen? ⟨w1.heap.size, 0, none⟩ = false := frozen_of_row _ _ 0 _ _ HLr.out
      have l1 : wr.cell? ⟨w1.heap.size, 1, none⟩ = some (.string (tbS s)) := (cell_of_row _ _ 1 _ _ _ HLr.out).trans rfl
      have lf1 : wr.frozen? ⟨w1.heap.size, 1, none⟩ = false := frozen_of_row _ _ 1 _ _ HLr.out
      have l2 : wr.cell? ⟨w1.heap.size, 2, none⟩ = some (.slice none 0 0) := (cell_of_row _ _ 2 _ _ _ HLr.out).trans rfl
      have lf2 : wr.frozen? ⟨w1.heap.size, 2, none⟩ = false := frozen_of_row _ _ 2 _ _ HLr.out
      have l3 : wr.cell? ⟨w1.heap.size, 3, none⟩ = some (.slice none 0 0) := (cell_of_row _ _ 3 _ _ _ HLr.out).trans rfl
      have lf3 : wr.frozen? ⟨w1.heap.size, 3, none⟩ = false := frozen_of_row _ _ 3 _ _ HLr.out
      have l4 : wr.cell? ⟨w1.heap.size, 4, none⟩ = some (.string ⟨#[]⟩) := (cell_of_row _ _ 4 _ _ _ HLr.out).trans rfl
      have lf4 : wr.frozen? ⟨w1.heap.size, 4, none⟩ = false := frozen_of_row _ _ 4 _ _ HLr.out
      have l5 : wr.cell? ⟨w1.heap.size, 5, none⟩ = some (.slice none 0 0) := (cell_of_row _ _ 5 _ _ _ HLr.out).trans rfl
      have lf5 : wr.frozen? ⟨w1.heap.size, 5, none⟩ = false := frozen_of_row _ _ 5 _ _ HLr.out
      have l6 : wr.cell? ⟨w1.heap.size, 6, none⟩ = some (.slice none 0 0) := (cell_of_row _ _ 6 _ _ _ HLr.out).trans rfl
      have lf6 : wr.frozen? ⟨w1.heap.size, 6, none⟩ = false := frozen_of_row _ _ 6 _ _ HLr.out
      have l7 : wr.cell? ⟨w1.heap.size, 7, none⟩ = some (.slice a j cap) := (cell_of_row _ _ 7 _ _ _ HLr.out).trans rfl
      have lf7 : wr.frozen? ⟨w1.heap.size, 7, none⟩ = false := frozen_of_row _ _ 7 _ _ HLr.out
      go_wp2_with (first | (go_at_call 17; have _h := hP4t; have HM : ∀ W, KpR (w3.heap.size) (w4.setCell ⟨w1.heap.size, 6, none⟩ (.slice (some ⟨g', 0, none⟩) m' cap')).heap.size (w4.setCell ⟨w1.heap.size, 6, none⟩ (.slice (some ⟨g', 0, none⟩) m' cap')) W → SM W (rd5 s j (fun i => if i < j then (X i).m else 0) m') (⟨none, 0, none, 0, none, 0, some ⟨g', 0, none⟩, cap', a, cap⟩) := fun W hK => ⟨Nat.le_trans (txt_size _ _ _) hs, zero_size, zeroCL _ _ _, zeroIL _ _ _, zeroIL _ _ _, LsI.il (LsI.kp hLb_4t hK (by omega)) hs, own_olA (Q := fun i => rep (exPl s) (numP s 1 (hd2 s)) i) (own_kp hO4t hK (Nat.le_refl _)) (fun i hi => LsI.kp (HX4t.out i hi) hK (Nat.le_refl _)) hs, Nat.zero_le _, Nat.zero_le _, Nat.zero_le _, (by have q1 := hLb.le; have q2 := (lenV_le s (rep (exPl s) (numP s 1 (hd2 s)) j)).1; show m' ≤ 1048576; omega), (by show j ≤ 1048576; omega)⟩; refine (sEnc (rd5 s j (fun i => if i < j then (X i).m else 0) m') (⟨none, 0, none, 0, none, 0, some ⟨g', 0, none⟩, cap', a, cap⟩) _ (HM _ (KpR.below (Below.refl _ _)))).mono ?_; rintro e w9 ⟨rfl, hb9⟩; have HL9 : Hid (w9.heap[w1.heap.size]? = some (.cells #[.int .i64 5, .string (tbS s), .slice none 0 0, .slice none 0 0, .string ⟨#[]⟩, .slice none 0 0, .slice (some ⟨g', 0, none⟩) m' cap', .slice a j cap] 27 (0, 0))) := rowL HL4t.out hb9; have HR9 : Hid (w9.heap[w.heap.size]? = some (.cells #[.int .i64 0, .string ⟨#[]⟩, .slice none 0 0, .slice none 0 0, .string ⟨#[]⟩, .slice none 0 0, .slice none 0 0, .slice none 0 0] 27 (0, 0))) := rowL HR4t.out hb9; have m0 : w9.cell? ⟨w1.heap.size, 0, none⟩ = some (.int .i64 5) := (cell_of_row _ _ 0 _ _ _ HL9.out).trans rfl; have mf0 : w9.frozen? ⟨w1.heap.size, 0, none⟩ = false := frozen_of_row _ _ 0 _ _ HL9.out; have m1 : w9.cell? ⟨w1.heap.size, 1, none⟩ = some (.string (tbS s)) := (cell_of_row _ _ 1 _ _ _ HL9.out).trans rfl; have mf1 : w9.frozen? ⟨w1.heap.size, 1, none⟩ = false := frozen_of_row _ _ 1 _ _ HL9.out; have m2 : w9.cell? ⟨w1.heap.size, 2, none⟩ = some (.slice none 0 0) := (cell_of_row _ _ 2 _ _ _ HL9.out).trans rfl; have mf2 : w9.frozen? ⟨w1.heap.size, 2, none⟩ = false := frozen_of_row _ _ 2 _ _ HL9.out; have m3 : w9.cell? ⟨w1.heap.size, 3, none⟩ = some (.slice none 0 0) := (cell_of_row _ _ 3 _ _ _ HL9.out).trans rfl; have mf3 : w9.frozen? ⟨w1.heap.size, 3, none⟩ = false := frozen_of_row _ _ 3 _ _ HL9.out; have m4 : w9.cell? ⟨w1.heap.size, 4, none⟩ = some (.string ⟨#[]⟩) := (cell_of_row _ _ 4 _ _ _ HL9.out).trans rfl; have mf4 : w9.frozen? ⟨w1.heap.size, 4, none⟩ = false := frozen_of_row _ _ 4 _ _ HL9.out; have m5 : w9.cell? ⟨w1.heap.size, 5, none⟩ = some (.slice none 0 0) := (cell_of_row _ _ 5 _ _ _ HL9.out).trans rfl; have mf5 : w9.frozen? ⟨w1.heap.size, 5, none⟩ = false := frozen_of_row _ _ 5 _ _ HL9.out; have m6 : w9.cell? ⟨w1.heap.size, 6, none⟩ = some (.slice (some ⟨g', 0, none⟩) m' cap') := (cell_of_row _ _ 6 _ _ _ HL9.out).trans rfl; have mf6 : w9.frozen? ⟨w1.heap.size, 6, none⟩ = false := frozen_of_row _ _ 6 _ _ HL9.out; have m7 : w9.cell? ⟨w1.heap.size, 7, none⟩ = some (.slice a j cap) := (cell_of_row _ _ 7 _ _ _ HL9.out).trans rfl; have mf7 : w9.frozen? ⟨w1.heap.size, 7, none⟩ = false := frozen_of_row _ _ 7 _ _ HL9.out; have r0 : w9.cell? ⟨w.heap.size, 0, none⟩ = some (.int .i64 0) := (cell_of_row _ _ 0 _ _ _ HR9.out).trans rfl; have rf0 : w9.frozen? ⟨w.heap.size, 0, none⟩ = false := frozen_of_row _ _ 0 _ _ HR9.out; have r1 : w9.cell? ⟨w.heap.size, 1, none⟩ = some (.string ⟨#[]⟩) := (cell_of_row _ _ 1 _ _ _ HR9.out).trans rfl; have rf1 : w9.frozen? ⟨w.heap.size, 1, none⟩ = false := frozen_of_row _ _ 1 _ _ HR9.out; have r2 : w9.cell? ⟨w.heap.size, 2, none⟩ = some (.slice none 0 0) := (cell_of_row _ _ 2 _ _ _ HR9.out).trans rfl; have rf2 : w9.frozen? ⟨w.heap.size, 2, none⟩ = false := frozen_of_row _ _ 2 _ _ HR9.out; have r3 : w9.cell? ⟨w.heap.size, 3, none⟩ = some (.slice none 0 0) := (cell_of_row _ _ 3 _ _ _ HR9.out).trans rfl; have rf3 : w9.frozen? ⟨w.heap.size, 3, none⟩ = false := frozen_of_row _ _ 3 _ _ HR9.out; have r4 : w9.cell? ⟨w.heap.size, 4, none⟩ = some (.string ⟨#[]⟩) := (cell_of_row _ _ 4 _ _ _ HR9.out).trans rfl; have rf4 : w9.frozen? ⟨w.heap.size, 4, none⟩ = false := frozen_of_row _ _ 4 _ _ HR9.out; have r5 : w9.cell? ⟨w.heap.size, 5, none⟩ = some (.slice none 0 0) := (cell_of_row _ _ 5 _ _ _ HR9.out).trans rfl; have rf5 : w9.frozen? ⟨w.heap.size, 5, none⟩ = false := frozen_of_row _ _ 5 _ _ HR9.out; have r6 : w9.cell? ⟨w.heap.size, 6, none⟩ = some (.slice none 0 0) := (cell_of_row _ _ 6 _ _ _ HR9.out).trans rfl; have rf6 : w9.frozen? ⟨w.heap.size, 6, none⟩ = false := frozen_of_row _ _ 6 _ _ HR9.out; have r7 : w9.cell? ⟨w.heap.size, 7, none⟩ = some (.slice none 0 0) := (cell_of_row _ _ 7 _ _ _ HR9.out).trans rfl; have rf7 : w9.frozen? ⟨w.heap.size, 7, none⟩ = false := frozen_of_row _ _ 7 _ _ HR9.out; obtain ⟨x, hx⟩ : ∃ x, encS (rd5 s j (fun i => if i < j then (X i).m else 0) m') = x := ⟨_, rfl⟩; have HX : Hid (encS (rd5 s j (fun i => if i < j then (X i).m else 0) m') = x) := hx; rw [hx]; clear hx; by_cases he : x = s; (case' pos => (have qq : (x.toList == s.toList) = true := (by rw [he]; exact eqS_same s))); (case' neg => (have qq := bytes_ne he))) | (go_at_call 16; have _h := hP; refine (sExpR (w.heap.size + 1) s (rep (exPl s) (numP s 1 (hd2 s)) j) _ hP hs).mono ?_; rintro e w4 ⟨m', g', cap', rfl, hLb, hP4, hg4⟩; have hs4 := hg4.size; have HL4 : Hid (w4.heap[w1.heap.size]? = some (.cells #[.int .i64 5, .string (tbS s), .slice none 0 0, .slice none 0 0, .string ⟨#[]⟩, .slice none 0 0, .slice none 0 0, .slice a j cap] 27 (0, 0))) := rowG HLr.out hg4 hneL; have HR4 : Hid (w4.heap[w.heap.size]? = some (.cells #[.int .i64 0, .string ⟨#[]⟩, .slice none 0 0, .slice none 0 0, .string ⟨#[]⟩, .slice none 0 0, .slice none 0 0, .slice none 0 0] 27 (0, 0))) := rowG HRr.out hg4 hneRB; have hb4 : Below w.heap.size w w4 := gB hb hg4 (by omega); have hLb_lt := (hLb.own.lt g' rfl); have hLb_b1 := hLb_lt.1; have hLb_b2 := hLb_lt.2; have l4_0 : w4.cell? ⟨w1.heap.size, 0, none⟩ = some (.int .i64 5) := (cell_of_row _ _ 0 _ _ _ HL4.out).trans rfl; have l4_f0 : w4.frozen? ⟨w1.heap.size, 0, none⟩ = false := frozen_of_row _ _ 0 _ _ HL4.out; have l4_1 : w4.cell? ⟨w1.heap.size, 1, none⟩ = some (.string (tbS s)) := (cell_of_row _ _ 1 _ _ _ HL4.out).trans rfl; have l4_f1 : w4.frozen? ⟨w1.heap.size, 1, none⟩ = false := frozen_of_row _ _ 1 _ _ HL4.out; have l4_2 : w4.cell? ⟨w1.heap.size, 2, none⟩ = some (.slice none 0 0) := (cell_of_row _ _ 2 _ _ _ HL4.out).trans rfl; have l4_f2 : w4.frozen? ⟨w1.heap.size, 2, none⟩ = false := frozen_of_row _ _ 2 _ _ HL4.out; have l4_3 : w4.cell? ⟨w1.heap.size, 3, none⟩ = some (.slice none 0 0) := (cell_of_row _ _ 3 _ _ _ HL4.out).trans rfl; have l4_f3 : w4.frozen? ⟨w1.heap.size, 3, none⟩ = false := frozen_of_row _ _ 3 _ _ HL4.out; have l4_4 : w4.cell? ⟨w1.heap.size, 4, none⟩ = some (.string ⟨#[]⟩) := (cell_of_row _ _ 4 _ _ _ HL4.out).trans rfl; have l4_f4 : w4.frozen? ⟨w1.heap.size, 4, none⟩ = false := frozen_of_row _ _ 4 _ _ HL4.out; have l4_5 : w4.cell? ⟨w1.heap.size, 5, none⟩ = some (.slice none 0 0) := (cell_of_row _ _ 5 _ _ _ HL4.out).trans rfl; have l4_f5 : w4.frozen? ⟨w1.heap.size, 5, none⟩ = false := frozen_of_row _ _ 5 _ _ HL4.out; have l4_6 : w4.cell? ⟨w1.heap.size, 6, none⟩ = some (.slice none 0 0) := (cell_of_row _ _ 6 _ _ _ HL4.out).trans rfl; have l4_f6 : w4.frozen? ⟨w1.heap.size, 6, none⟩ = false := frozen_of_row _ _ 6 _ _ HL4.out; have l4_7 : w4.cell? ⟨w1.heap.size, 7, none⟩ = some (.slice a j cap) := (cell_of_row _ _ 7 _ _ _ HL4.out).trans rfl; have l4_f7 : w4.frozen? ⟨w1.heap.size, 7, none⟩ = false := frozen_of_row _ _ 7 _ _ HL4.out; have HL4t : Hid ((w4.setCell ⟨w1.heap.size, 6, none⟩ (.slice (some ⟨g', 0, none⟩) m' cap')).heap[w1.heap.size]? = some (.cells #[.int .i64 5, .string (tbS s), .slice none 0 0, .slice none 0 0, .string ⟨#[]⟩, .slice none 0 0, .slice (some ⟨g', 0, none⟩) m' cap', .slice a j cap] 27 (0, 0))) := heap_setCell_same _ _ 6 _ _ _ HL4.out; have HR4t : Hid ((w4.setCell ⟨w1.heap.size, 6, none⟩ (.slice (some ⟨g', 0, none⟩) m' cap')).heap[w.heap.size]? = some (.cells #[.int .i64 0, .string ⟨#[]⟩, .slice none 0 0, .slice none 0 0, .string ⟨#[]⟩, .slice none 0 0, .slice none 0 0, .slice none 0 0] 27 (0, 0))) := rowO HR4.out hneR; have hP4t := PS.grown (gset w4 w1.heap.size 6 (.slice (some ⟨g', 0, none⟩) m' cap')) hneL.symm hP4; have hb4t : Below w.heap.size w (w4.setCell ⟨w1.heap.size, 6, none⟩ (.slice (some ⟨g', 0, none⟩) m' cap')) := bset hb4 (by omega); have hs4t : (w4.setCell ⟨w1.heap.size, 6, none⟩ (.slice (some ⟨g', 0, none⟩) m' cap')).heap.size = w4.heap.size := (by simp); have hLb_4t := hLb.gr (gset w4 w1.heap.size 6 (.slice (some ⟨g', 0, none⟩) m' cap')) (by omega); have hO4t := own_set (own_gr hO hg4 hBG) (L := w1.heap.size) (i := 6) (v := .slice (some ⟨g', 0, none⟩) m' cap') hLG; have HX4t : Hid (∀ i, i < j → LsI (w4.setCell ⟨w1.heap.size, 6, none⟩ (.slice (some ⟨g', 0, none⟩) m' cap')) w3.heap.size (w.heap.size + 1) s (numP s 2 (rep (exPl s) (numP s 1 (hd2 s)) i)) (lenV s 2 (rep (exPl s) (numP s 1 (hd2 s)) i)) (X i).m (X i).g (X i).c) := (fun i hi => by have q1 := ((HXs.out i hi).2.own.lt (X i).g rfl).1; exact ((HXs.out i hi).2.gr hg4 (by omega)).gr (gset w4 w1.heap.size 6 _) (by omega))))
      · exact bodyPost_ret (v := .tuple #[.agg #[.int .i64 0, .string ⟨#[]⟩, .slice none 0 0, .slice none 0 0, .string ⟨#[]⟩, .slice none 0 0, .slice none 0 0, .slice none 0 0], .bool false]) (results_cell_tmp Tryz.results5 _ _ w.heap.size 27 _ (0, 0) _ rfl (set8_row HR9.out _ _ _ _ _ _ _ _) Tryz.underlying27 rfl (by kernel_rfl)) rfl ⟨set8_below (bstep hb4t hb9) (Nat.le_refl _) _ _ _ _ _ _ _ _, Or.inl ⟨rfl, no_good (.k5 j _ m' HK.out ⟨by rw [HLEN.out]; exact Nat.le_refl _, Or.inl HLEN.out.symm⟩ (fun i hi => by rw [if_pos hi]; exact (HXs.out i hi).2.cnt) (fun i hi => if_neg (by omega)) hLb.cnt) (by rw [HX.out]; exact he)⟩⟩
      · refine bodyPost_ret (v := .tuple #[.agg #[.int .i64 5, .string (tbS s), .slice none 0 0, .slice none 0 0, .string ⟨#[]⟩, .slice none 0 0, .slice (some ⟨g', 0, none⟩) m' cap', .slice a j cap], .bool true]) (results_cell_tmp Tryz.results5 _ _ w.heap.size 27 _ (0, 0) _ rfl (set8_row HR9.out _ _ _ _ _ _ _ _) Tryz.underlying27 rfl (by kernel_rfl)) rfl ⟨set8_below (bstep hb4t hb9) (Nat.le_refl _) _ _ _ _ _ _ _ _, Or.inr ⟨rd5 s j (fun i => if i < j then (X i).m else 0) m', ⟨none, 0, none, 0, none, 0, some ⟨g', 0, none⟩, cap', a, cap⟩, ⟨by omega, .k5 j _ m' HK.out ⟨by rw [HLEN.out]; exact Nat.le_refl _, Or.inl HLEN.out.symm⟩ (fun i hi => by rw [if_pos hi]; exact (HXs.out i hi).2.cnt) (fun i hi => if_neg (by omega)) hLb.cnt, HX.out.trans he⟩, rfl, HM _ ((KpR.below hb9).trans (set8_kp w9 (by omega) _ _ _ _ _ _ _ _))⟩⟩
    have hnb : ∀ x, x < w3.heap.size → some x ≠ (Value.slice a j cap).ownBlock := fun x hx e => by have := (hO.lt x e.symm).1; omega
    have hBG : w.heap.size + 1 < w3.heap.size := by omega
    have hLG : w1.heap.size < w3.heap.size := by omega
    have hRG : w.heap.size < w3.heap.size := by omega
    obtain ⟨u, hu⟩ : ∃ u, rep (exPl s) (numP s 1 (hd2 s)) j = u := ⟨_, rfl⟩
    have HU : Hid (rep (exPl s) (numP s 1 (hd2 s)) (j + 1) = exPl s u) := by show exPl s (rep (exPl s) (numP s 1 (hd2 s)) j) = _; rw [hu]
    have HUj : Hid (rep (exPl s) (numP s 1 (hd2 s)) j = u) := hu
    rw [hu] at hP
    clear hu
    have hownb : ∀ x, (Value.slice a j cap).ownBlock = some x → x < wr.heap.size := fun x e => (hO.lt x e).2
    go_upto_region 35 with (fail)
    have HLd : Hid (wr.drew.heap[w1.heap.size]? = some (.cells #[.int .i64 5, .string (tbS s), .slice none 0 0, .slice none 0 0, .string ⟨#[]⟩, .slice none 0 0, .slice none 0 0, .slice a j cap] 27 (0, 0))) := HLr.out
    have HRd : Hid (wr.drew.heap[w.heap.size]? = some (.cells #[.int .i64 0, .string ⟨#[]⟩, .slice none 0 0, .slice none 0 0, .string ⟨#[]⟩, .slice none 0 0, .slice none 0 0, .slice none 0 0] 27 (0, 0))) := HRr.out
    have hOd := own_below hO (bdrewR wr)
    have hPd := PS.later hP (bdrewR wr)
    have hbd : Below w.heap.size w wr.drew := bstep hb (bdrewR wr)
    have hsd : wr.drew.heap.size = wr.heap.size := rfl
    have hEu := sExpR (w.heap.size + 1) s u _ hPd hs
    have l7 : wr.drew.cell? ⟨w1.heap.size, 7, none⟩ = some (.slice a j cap) := (cell_of_row _ _ 7 _ _ _ HLd.out).trans rfl
    refine wp_region_held_drew (S := fun _ => True) (by kernel_rfl) (trivial) (fun hHeld => ?_)
    refine wpAnyH_take (i := 0) (oi := ({ dst := some 101, op := Op.fieldAddr 27 (Operand.tmp 5) 7, type := 0, pos := "l4_stm.go:269", after := #[], guard := none } : Oper)) (v := .pointer (some ⟨w1.heap.size, 7, none⟩)) rfl (by kernel_rfl) (by kernel_rfl) (by kernel_rfl) (fun _ _ _ h => h) (Or.inl ⟨by rfl, fun x hSw => (by go_simp)⟩) hHeld ?_
    try simp only [Act.put, List.setIfInBounds_toArray, List.set_cons_zero, List.set_cons_succ]
    refine wpAnyH_take (i := 2) (oi := ({ dst := some 103, op := Op.move (Operand.tmp 4), type := 43, pos := "l4_stm.go:269", after := #[], guard := none } : Oper)) (v := .pointer (some ⟨w.heap.size + 1, 0, none⟩)) rfl (by kernel_rfl) (by kernel_rfl) (by kernel_rfl) (fun _ _ _ h => h) (Or.inl ⟨by rfl, fun x hSw => (by go_simp)⟩) hHeld ?_
    try simp only [Act.put, List.setIfInBounds_toArray, List.set_cons_zero, List.set_cons_succ]
    refine wpAnyH_ready (rs := [1, 3]) (by kernel_rfl) (by simp) ?_
    refine AllReadyH.cons (o := ({ dst := some 102, op := Op.load 25 (Operand.tmp 101), type := 25, pos := "l4_stm.go:269", after := #[{ on := 0, ground := Ground.data }], guard := none } : Oper)) rfl (fun K hK => ?_) (AllReadyH.cons (o := ({ dst := some 104, op := Op.call { callee := Callee.value (Operand.func 16), args := #[Operand.tmp 103], argTypes := #[43] }, type := 24, pos := "l4_stm.go:269", after := #[{ on := 2, ground := Ground.data }], guard := none } : Oper)) rfl (fun K hK => ?_) AllReadyH.nil)
    · go_simp
      refine hK.out _ _ (trivial) (fun hHeld => ?_)
      clear hK K
      try simp only [Act.put, List.setIfInBounds_toArray, List.set_cons_zero, List.set_cons_succ]
      refine wpAnyH_ready (rs := [3]) (by kernel_rfl) (by simp) ?_
      refine AllReadyH.cons (o := ({ dst := some 104, op := Op.call { callee := Callee.value (Operand.func 16), args := #[Operand.tmp 103], argTypes := #[43] }, type := 24, pos := "l4_stm.go:269", after := #[{ on := 2, ground := Ground.data }], guard := none } : Oper)) rfl (fun K hK => ?_) AllReadyH.nil
      go_simp
      refine (hEu).mono ?_
      rintro e w5 ⟨m2, g2, cap2, rfl, hL2, hP5, hg5⟩; have hs5 := hg5.size; have HL5 : Hid (w5.heap[w1.heap.size]? = some (.cells #[.int .i64 5, .string (tbS s), .slice none 0 0, .slice none 0 0, .string ⟨#[]⟩, .slice none 0 0, .slice none 0 0, .slice a j cap] 27 (0, 0))) := rowG HLd.out hg5 hneL; have HR5 : Hid (w5.heap[w.heap.size]? = some (.cells #[.int .i64 0, .string ⟨#[]⟩, .slice none 0 0, .slice none 0 0, .string ⟨#[]⟩, .slice none 0 0, .slice none 0 0, .slice none 0 0] 27 (0, 0))) := rowG HRd.out hg5 hneRB; have hO5 := own_gr hOd hg5 hBG; have hb5 : Below w.heap.size w w5 := gB hbd hg5 (by omega); have l75 : w5.cell? ⟨w1.heap.size, 7, none⟩ = some (.slice a j cap) := (cell_of_row _ _ 7 _ _ _ HL5.out).trans rfl; have hs5a : (w5.alloc (.cells #[.slice (some ⟨g2, 0, none⟩) m2 cap2] 24)).heap.size = w5.heap.size + 1 := (by simp); have l75a : (w5.alloc (.cells #[.slice (some ⟨g2, 0, none⟩) m2 cap2] 24)).cell? ⟨w1.heap.size, 7, none⟩ = some (.slice a j cap) := keepB (bal _ _) l75; have hg2b := (hL2.own.lt g2 rfl).1; have hg2l := (hL2.own.lt g2 rfl).2
      refine hK.out _ _ (trivial) (fun hHeld => ?_)
      clear hK K
      try simp only [Act.put, List.setIfInBounds_toArray, List.set_cons_zero, List.set_cons_succ]
      refine wpAnyH_ready (rs := [4]) (by kernel_rfl) (by simp) ?_
      refine AllReadyH.cons (o := ({ dst := some 105, op := Op.buildSlice 25 1 #[(0, Operand.tmp 104)], type := 25, pos := "l4_stm.go:269", after := #[{ on := 3, ground := Ground.data }], guard := none } : Oper)) rfl (fun K hK => ?_) AllReadyH.nil
      go_simp
      refine hK.out _ _ (trivial) (fun hHeld => ?_)
      clear hK K
      try simp only [Act.put, List.setIfInBounds_toArray, List.set_cons_zero, List.set_cons_succ]
      refine wpAnyH_ready (rs := [5]) (by kernel_rfl) (by simp) ?_
      refine AllReadyH.cons (o := ({ dst := some 106, op := Op.call { callee := Callee.builtin Builtin.append, args := #[Operand.tmp 102, Operand.tmp 105], argTypes := #[25, 25] }, type := 25, pos := "l4_stm.go:269", after := #[{ on := 1, ground := Ground.data }, { on := 4, ground := Ground.data }, { on := 3, ground := Ground.chain }], guard := none } : Oper)) rfl (fun K hK => ?_) AllReadyH.nil
      rw [if_pos (by kernel_rfl)]
      refine wp_append_lies _ _ _ _ rfl w3.heap.size 24 i0 (.slice none 0 0) 1 24 Tryz.underlying25 HI.out hz0 hz1 hz2 rfl (by omega) (.slice a j cap) j _ rfl (hO5.alloc _) ⟨w5.heap.size, 0, none⟩ 1 1 [.slice (some ⟨g2, 0, none⟩) m2 cap2] rfl rfl (World.news_of_block (heap_alloc_new w5 _)) (ones _ rfl) (by omega) (by unfold maxLen; omega) (by omega) (by simp; omega) _ rfl ?_
      intro g6 cap6 w6 hO6 hgr6 hat6 hlt6
      have hs6 := hgr6.size
      have HL6 : Hid (w6.heap[w1.heap.size]? = some (.cells #[.int .i64 5, .string (tbS s), .slice none 0 0, .slice none 0 0, .string ⟨#[]⟩, .slice none 0 0, .slice none 0 0, .slice a j cap] 27 (0, 0))) := rowG' (rowL HL5.out (bal w5 (.cells #[.slice (some ⟨g2, 0, none⟩) m2 cap2] 24))) hgr6 (hnb _ hLG)
      have HR6 : Hid (w6.heap[w.heap.size]? = some (.cells #[.int .i64 0, .string ⟨#[]⟩, .slice none 0 0, .slice none 0 0, .string ⟨#[]⟩, .slice none 0 0, .slice none 0 0, .slice none 0 0] 27 (0, 0))) := rowG' (rowL HR5.out (bal w5 (.cells #[.slice (some ⟨g2, 0, none⟩) m2 cap2] 24))) hgr6 (hnb _ hRG)
      have l76 : w6.cell? ⟨w1.heap.size, 7, none⟩ = some (.slice a j cap) := (cell_of_row _ _ 7 _ _ _ HL6.out).trans rfl
      have lf76 : w6.frozen? ⟨w1.heap.size, 7, none⟩ = false := frozen_of_row _ _ 7 _ _ HL6.out
      refine hK.out _ _ (trivial) (fun hHeld => ?_)
      clear hK K
      try simp only [Act.put, List.setIfInBounds_toArray, List.set_cons_zero, List.set_cons_succ]
      refine wpAnyH_take (i := 6) (oi := ({ dst := some 107, op := Op.fieldAddr 27 (Operand.tmp 5) 7, type := 0, pos := "l4_stm.go:269", after := #[{ on := 0, ground := Ground.phase }, { on := 1, ground := Ground.phase }, { on := 2, ground := Ground.phase }, { on := 3, ground := Ground.phase }, { on := 4, ground := Ground.phase }, { on := 5, ground := Ground.phase }], guard := none } : Oper)) (v := .pointer (some ⟨w1.heap.size, 7, none⟩)) rfl (by kernel_rfl) (by kernel_rfl) (by kernel_rfl) (fun _ _ _ h => h) (Or.inl ⟨by rfl, fun x hSw => (by go_simp)⟩) hHeld ?_
      try simp only [Act.put, List.setIfInBounds_toArray, List.set_cons_zero, List.set_cons_succ]
      refine wpAnyH_ready (rs := [7]) (by kernel_rfl) (by simp) ?_
      refine AllReadyH.cons (o := ({ dst := none, op := Op.store 25 (Operand.tmp 107) (Operand.tmp 106), type := 0, pos := "l4_stm.go:269", after := #[{ on := 6, ground := Ground.data }, { on := 5, ground := Ground.data }, { on := 5, ground := Ground.chain }, { on := 0, ground := Ground.phase }, { on := 1, ground := Ground.phase }, { on := 2, ground := Ground.phase }, { on := 3, ground := Ground.phase }, { on := 4, ground := Ground.phase }, { on := 5, ground := Ground.phase }], guard := none } : Oper)) rfl (fun K hK => ?_) AllReadyH.nil
      go_simp
      refine hK.out _ _ (trivial) (fun hHeld => ?_)
      clear hK K
      try simp only [Act.put, List.setIfInBounds_toArray, List.set_cons_zero, List.set_cons_succ]
      refine wpAnyH_done (by kernel_rfl) ?_ _
      have HL7 : Hid ((w6.setCell ⟨w1.heap.size, 7, none⟩ (.slice (some ⟨g6, 0, none⟩) (j + 1) cap6)).heap[w1.heap.size]? = some (.cells #[.int .i64 5, .string (tbS s), .slice none 0 0, .slice none 0 0, .string ⟨#[]⟩, .slice none 0 0, .slice none 0 0, .slice (some ⟨g6, 0, none⟩) (j + 1) cap6] 27 (0, 0))) := heap_setCell_same _ _ 7 _ _ _ HL6.out
      have HR7 : Hid ((w6.setCell ⟨w1.heap.size, 7, none⟩ (.slice (some ⟨g6, 0, none⟩) (j + 1) cap6)).heap[w.heap.size]? = some (.cells #[.int .i64 0, .string ⟨#[]⟩, .slice none 0 0, .slice none 0 0, .string ⟨#[]⟩, .slice none 0 0, .slice none 0 0, .slice none 0 0] 27 (0, 0))) := rowO HR6.out hneR
      have hP6 : PS w6 (w.heap.size + 1) s (exPl s u) := by rw [← hL2.place]; exact PS.gr' hgr6 (hnb _ hBG) (hP5.later (bal w5 (.cells #[.slice (some ⟨g2, 0, none⟩) m2 cap2] 24)))
      have hP7 : PS (w6.setCell ⟨w1.heap.size, 7, none⟩ (.slice (some ⟨g6, 0, none⟩) (j + 1) cap6)) (w.heap.size + 1) s (rep (exPl s) (numP s 1 (hd2 s)) (j + 1)) := by rw [HU.out]; exact PS.grown (gset w6 w1.heap.size 7 _) hneL.symm hP6
      have hb6 : Below w.heap.size w w6 := gB' (bstep hb5 (bal w5 (.cells #[.slice (some ⟨g2, 0, none⟩) m2 cap2] 24))) hgr6 (fun x hx => hnb x (by omega))
      have hb7 : Below w.heap.size w (w6.setCell ⟨w1.heap.size, 7, none⟩ (.slice (some ⟨g6, 0, none⟩) (j + 1) cap6)) := bset hb6 (by omega)
      have hO7 := own_set hO6 (L := w1.heap.size) (i := 7) (v := .slice (some ⟨g6, 0, none⟩) (j + 1) cap6) hLG
      have hs7 : (w6.setCell ⟨w1.heap.size, 7, none⟩ (.slice (some ⟨g6, 0, none⟩) (j + 1) cap6)).heap.size = w6.heap.size := by simp
      have HX7 : Hid (∀ i, i < j + 1 → (∀ x, (Value.slice (some ⟨g6, 0, none⟩) (j + 1) cap6).ownBlock = some x → (upd X j ⟨g2, m2, cap2⟩ i).g ≠ x) ∧ LsI (w6.setCell ⟨w1.heap.size, 7, none⟩ (.slice (some ⟨g6, 0, none⟩) (j + 1) cap6)) w3.heap.size (w.heap.size + 1) s (numP s 2 (rep (exPl s) (numP s 1 (hd2 s)) i)) (lenV s 2 (rep (exPl s) (numP s 1 (hd2 s)) i)) (upd X j ⟨g2, m2, cap2⟩ i).m (upd X j ⟨g2, m2, cap2⟩ i).g (upd X j ⟨g2, m2, cap2⟩ i).c) := fun i hi => by
        by_cases e : i = j
        · subst e
          unfold upd
          simp only [if_true]
          rw [HUj.out]
          refine ⟨fun x hx => ?_, ?_⟩
          · have hx' : g6 = x := Option.some.inj hx
            rcases hat6 with e6 | e6
            · have := hownb g6 e6; omega
            · omega
          · have hL3 : LsI w5 w3.heap.size (w.heap.size + 1) s (numP s 2 u) (lenV s 2 u) m2 g2 cap2 := ⟨own_mono hL2.own (by omega), hL2.le, hL2.at'⟩
            exact ((hL3.later (bal w5 (.cells #[.slice (some ⟨g2, 0, none⟩) m2 cap2] 24))).grR hgr6 (fun e => by have := hownb g2 e.symm; omega)).gr (gset w6 w1.heap.size 7 _) (by omega)
        · unfold upd
          rw [if_neg e]
          obtain ⟨hne, hL⟩ := HXs.out i (by omega)
          have hil := (hL.own.lt (X i).g rfl).2
          have hib := (hL.own.lt (X i).g rfl).1
          refine ⟨fun x hx => ?_, ?_⟩
          · have hx' : g6 = x := Option.some.inj hx
            rcases hat6 with e6 | e6
            · have := hne g6 e6; omega
            · omega
          · exact ((((hL.later (bdrewR wr)).gr hg5 (by omega)).later (bal w5 (.cells #[.slice (some ⟨g2, 0, none⟩) m2 cap2] 24))).grR hgr6 (fun e => hne (X i).g e.symm rfl)).gr (gset w6 w1.heap.size 7 _) (by omega)
      have Q9 : exC (upd X j ⟨g2, m2, cap2⟩) (j + 1) = exC X j ++ [.slice (some ⟨g2, 0, none⟩) m2 cap2] := by
        rw [exC_next, exC_upd]
        unfold upd
        simp only [if_true]
      clear hHeld
      go_wp2
      go_roundw
      case rel => exact ⟨j + 1, _, _, (upd X j ⟨g2, m2, cap2⟩), by omega, by go_num, HL7.out, HR7.out, by rw [Q9]; exact hO7, HX7.out, hP7, hb7, by rw [hs7]; omega⟩
      case measure => simp [intOf]; omega
    · go_simp
      refine (hEu).mono ?_
      rintro e w5 ⟨m2, g2, cap2, rfl, hL2, hP5, hg5⟩; have hs5 := hg5.size; have HL5 : Hid (w5.heap[w1.heap.size]? = some (.cells #[.int .i64 5, .string (tbS s), .slice none 0 0, .slice none 0 0, .string ⟨#[]⟩, .slice none 0 0, .slice none 0 0, .slice a j cap] 27 (0, 0))) := rowG HLd.out hg5 hneL; have HR5 : Hid (w5.heap[w.heap.size]? = some (.cells #[.int .i64 0, .string ⟨#[]⟩, .slice none 0 0, .slice none 0 0, .string ⟨#[]⟩, .slice none 0 0, .slice none 0 0, .slice none 0 0] 27 (0, 0))) := rowG HRd.out hg5 hneRB; have hO5 := own_gr hOd hg5 hBG; have hb5 : Below w.heap.size w w5 := gB hbd hg5 (by omega); have l75 : w5.cell? ⟨w1.heap.size, 7, none⟩ = some (.slice a j cap) := (cell_of_row _ _ 7 _ _ _ HL5.out).trans rfl; have hs5a : (w5.alloc (.cells #[.slice (some ⟨g2, 0, none⟩) m2 cap2] 24)).heap.size = w5.heap.size + 1 := (by simp); have l75a : (w5.alloc (.cells #[.slice (some ⟨g2, 0, none⟩) m2 cap2] 24)).cell? ⟨w1.heap.size, 7, none⟩ = some (.slice a j cap) := keepB (bal _ _) l75; have hg2b := (hL2.own.lt g2 rfl).1; have hg2l := (hL2.own.lt g2 rfl).2
      refine hK.out _ _ (trivial) (fun hHeld => ?_)
      clear hK K
      try simp only [Act.put, List.setIfInBounds_toArray, List.set_cons_zero, List.set_cons_succ]
      refine wpAnyH_ready (rs := [1, 4]) (by kernel_rfl) (by simp) ?_
      refine AllReadyH.cons (o := ({ dst := some 102, op := Op.load 25 (Operand.tmp 101), type := 25, pos := "l4_stm.go:269", after := #[{ on := 0, ground := Ground.data }], guard := none } : Oper)) rfl (fun K hK => ?_) (AllReadyH.cons (o := ({ dst := some 105, op := Op.buildSlice 25 1 #[(0, Operand.tmp 104)], type := 25, pos := "l4_stm.go:269", after := #[{ on := 3, ground := Ground.data }], guard := none } : Oper)) rfl (fun K hK => ?_) AllReadyH.nil)
      · go_simp
        refine hK.out _ _ (trivial) (fun hHeld => ?_)
        clear hK K
        try simp only [Act.put, List.setIfInBounds_toArray, List.set_cons_zero, List.set_cons_succ]
        refine wpAnyH_ready (rs := [4]) (by kernel_rfl) (by simp) ?_
        refine AllReadyH.cons (o := ({ dst := some 105, op := Op.buildSlice 25 1 #[(0, Operand.tmp 104)], type := 25, pos := "l4_stm.go:269", after := #[{ on := 3, ground := Ground.data }], guard := none } : Oper)) rfl (fun K hK => ?_) AllReadyH.nil
        go_simp
        refine hK.out _ _ (trivial) (fun hHeld => ?_)
        clear hK K
        try simp only [Act.put, List.setIfInBounds_toArray, List.set_cons_zero, List.set_cons_succ]
        refine wpAnyH_ready (rs := [5]) (by kernel_rfl) (by simp) ?_
        refine AllReadyH.cons (o := ({ dst := some 106, op := Op.call { callee := Callee.builtin Builtin.append, args := #[Operand.tmp 102, Operand.tmp 105], argTypes := #[25, 25] }, type := 25, pos := "l4_stm.go:269", after := #[{ on := 1, ground := Ground.data }, { on := 4, ground := Ground.data }, { on := 3, ground := Ground.chain }], guard := none } : Oper)) rfl (fun K hK => ?_) AllReadyH.nil
        rw [if_pos (by kernel_rfl)]
        refine wp_append_lies _ _ _ _ rfl w3.heap.size 24 i0 (.slice none 0 0) 1 24 Tryz.underlying25 HI.out hz0 hz1 hz2 rfl (by omega) (.slice a j cap) j _ rfl (hO5.alloc _) ⟨w5.heap.size, 0, none⟩ 1 1 [.slice (some ⟨g2, 0, none⟩) m2 cap2] rfl rfl (World.news_of_block (heap_alloc_new w5 _)) (ones _ rfl) (by omega) (by unfold maxLen; omega) (by omega) (by simp; omega) _ rfl ?_
        intro g6 cap6 w6 hO6 hgr6 hat6 hlt6
        have hs6 := hgr6.size
        have HL6 : Hid (w6.heap[w1.heap.size]? = some (.cells #[.int .i64 5, .string (tbS s), .slice none 0 0, .slice none 0 0, .string ⟨#[]⟩, .slice none 0 0, .slice none 0 0, .slice a j cap] 27 (0, 0))) := rowG' (rowL HL5.out (bal w5 (.cells #[.slice (some ⟨g2, 0, none⟩) m2 cap2] 24))) hgr6 (hnb _ hLG)
        have HR6 : Hid (w6.heap[w.heap.size]? = some (.cells #[.int .i64 0, .string ⟨#[]⟩, .slice none 0 0, .slice none 0 0, .string ⟨#[]⟩, .slice none 0 0, .slice none 0 0, .slice none 0 0] 27 (0, 0))) := rowG' (rowL HR5.out (bal w5 (.cells #[.slice (some ⟨g2, 0, none⟩) m2 cap2] 24))) hgr6 (hnb _ hRG)
        have l76 : w6.cell? ⟨w1.heap.size, 7, none⟩ = some (.slice a j cap) := (cell_of_row _ _ 7 _ _ _ HL6.out).trans rfl
        have lf76 : w6.frozen? ⟨w1.heap.size, 7, none⟩ = false := frozen_of_row _ _ 7 _ _ HL6.out
        refine hK.out _ _ (trivial) (fun hHeld => ?_)
        clear hK K
        try simp only [Act.put, List.setIfInBounds_toArray, List.set_cons_zero, List.set_cons_succ]
        refine wpAnyH_take (i := 6) (oi := ({ dst := some 107, op := Op.fieldAddr 27 (Operand.tmp 5) 7, type := 0, pos := "l4_stm.go:269", after := #[{ on := 0, ground := Ground.phase }, { on := 1, ground := Ground.phase }, { on := 2, ground := Ground.phase }, { on := 3, ground := Ground.phase }, { on := 4, ground := Ground.phase }, { on := 5, ground := Ground.phase }], guard := none } : Oper)) (v := .pointer (some ⟨w1.heap.size, 7, none⟩)) rfl (by kernel_rfl) (by kernel_rfl) (by kernel_rfl) (fun _ _ _ h => h) (Or.inl ⟨by rfl, fun x hSw => (by go_simp)⟩) hHeld ?_
        try simp only [Act.put, List.setIfInBounds_toArray, List.set_cons_zero, List.set_cons_succ]
        refine wpAnyH_ready (rs := [7]) (by kernel_rfl) (by simp) ?_
        refine AllReadyH.cons (o := ({ dst := none, op := Op.store 25 (Operand.tmp 107) (Operand.tmp 106), type := 0, pos := "l4_stm.go:269", after := #[{ on := 6, ground := Ground.data }, { on := 5, ground := Ground.data }, { on := 5, ground := Ground.chain }, { on := 0, ground := Ground.phase }, { on := 1, ground := Ground.phase }, { on := 2, ground := Ground.phase }, { on := 3, ground := Ground.phase }, { on := 4, ground := Ground.phase }, { on := 5, ground := Ground.phase }], guard := none } : Oper)) rfl (fun K hK => ?_) AllReadyH.nil
        go_simp
        refine hK.out _ _ (trivial) (fun hHeld => ?_)
        clear hK K
        try simp only [Act.put, List.setIfInBounds_toArray, List.set_cons_zero, List.set_cons_succ]
        refine wpAnyH_done (by kernel_rfl) ?_ _
        have HL7 : Hid ((w6.setCell ⟨w1.heap.size, 7, none⟩ (.slice (some ⟨g6, 0, none⟩) (j + 1) cap6)).heap[w1.heap.size]? = some (.cells #[.int .i64 5, .string (tbS s), .slice none 0 0, .slice none 0 0, .string ⟨#[]⟩, .slice none 0 0, .slice none 0 0, .slice (some ⟨g6, 0, none⟩) (j + 1) cap6] 27 (0, 0))) := heap_setCell_same _ _ 7 _ _ _ HL6.out
        have HR7 : Hid ((w6.setCell ⟨w1.heap.size, 7, none⟩ (.slice (some ⟨g6, 0, none⟩) (j + 1) cap6)).heap[w.heap.size]? = some (.cells #[.int .i64 0, .string ⟨#[]⟩, .slice none 0 0, .slice none 0 0, .string ⟨#[]⟩, .slice none 0 0, .slice none 0 0, .slice none 0 0] 27 (0, 0))) := rowO HR6.out hneR
        have hP6 : PS w6 (w.heap.size + 1) s (exPl s u) := by rw [← hL2.place]; exact PS.gr' hgr6 (hnb _ hBG) (hP5.later (bal w5 (.cells #[.slice (some ⟨g2, 0, none⟩) m2 cap2] 24)))
        have hP7 : PS (w6.setCell ⟨w1.heap.size, 7, none⟩ (.slice (some ⟨g6, 0, none⟩) (j + 1) cap6)) (w.heap.size + 1) s (rep (exPl s) (numP s 1 (hd2 s)) (j + 1)) := by rw [HU.out]; exact PS.grown (gset w6 w1.heap.size 7 _) hneL.symm hP6
        have hb6 : Below w.heap.size w w6 := gB' (bstep hb5 (bal w5 (.cells #[.slice (some ⟨g2, 0, none⟩) m2 cap2] 24))) hgr6 (fun x hx => hnb x (by omega))
        have hb7 : Below w.heap.size w (w6.setCell ⟨w1.heap.size, 7, none⟩ (.slice (some ⟨g6, 0, none⟩) (j + 1) cap6)) := bset hb6 (by omega)
        have hO7 := own_set hO6 (L := w1.heap.size) (i := 7) (v := .slice (some ⟨g6, 0, none⟩) (j + 1) cap6) hLG
        have hs7 : (w6.setCell ⟨w1.heap.size, 7, none⟩ (.slice (some ⟨g6, 0, none⟩) (j + 1) cap6)).heap.size = w6.heap.size := by simp
        have HX7 : Hid (∀ i, i < j + 1 → (∀ x, (Value.slice (some ⟨g6, 0, none⟩) (j + 1) cap6).ownBlock = some x → (upd X j ⟨g2, m2, cap2⟩ i).g ≠ x) ∧ LsI (w6.setCell ⟨w1.heap.size, 7, none⟩ (.slice (some ⟨g6, 0, none⟩) (j + 1) cap6)) w3.heap.size (w.heap.size + 1) s (numP s 2 (rep (exPl s) (numP s 1 (hd2 s)) i)) (lenV s 2 (rep (exPl s) (numP s 1 (hd2 s)) i)) (upd X j ⟨g2, m2, cap2⟩ i).m (upd X j ⟨g2, m2, cap2⟩ i).g (upd X j ⟨g2, m2, cap2⟩ i).c) := fun i hi => by
          by_cases e : i = j
          · subst e
            unfold upd
            simp only [if_true]
            rw [HUj.out]
            refine ⟨fun x hx => ?_, ?_⟩
            · have hx' : g6 = x := Option.some.inj hx
              rcases hat6 with e6 | e6
              · have := hownb g6 e6; omega
              · omega
            · have hL3 : LsI w5 w3.heap.size (w.heap.size + 1) s (numP s 2 u) (lenV s 2 u) m2 g2 cap2 := ⟨own_mono hL2.own (by omega), hL2.le, hL2.at'⟩
              exact ((hL3.later (bal w5 (.cells #[.slice (some ⟨g2, 0, none⟩) m2 cap2] 24))).grR hgr6 (fun e => by have := hownb g2 e.symm; omega)).gr (gset w6 w1.heap.size 7 _) (by omega)
          · unfold upd
            rw [if_neg e]
            obtain ⟨hne, hL⟩ := HXs.out i (by omega)
            have hil := (hL.own.lt (X i).g rfl).2
            have hib := (hL.own.lt (X i).g rfl).1
            refine ⟨fun x hx => ?_, ?_⟩
            · have hx' : g6 = x := Option.some.inj hx
              rcases hat6 with e6 | e6
              · have := hne g6 e6; omega
              · omega
            · exact ((((hL.later (bdrewR wr)).gr hg5 (by omega)).later (bal w5 (.cells #[.slice (some ⟨g2, 0, none⟩) m2 cap2] 24))).grR hgr6 (fun e => hne (X i).g e.symm rfl)).gr (gset w6 w1.heap.size 7 _) (by omega)
        have Q9 : exC (upd X j ⟨g2, m2, cap2⟩) (j + 1) = exC X j ++ [.slice (some ⟨g2, 0, none⟩) m2 cap2] := by
          rw [exC_next, exC_upd]
          unfold upd
          simp only [if_true]
        clear hHeld
        go_wp2
        go_roundw
        case rel => exact ⟨j + 1, _, _, (upd X j ⟨g2, m2, cap2⟩), by omega, by go_num, HL7.out, HR7.out, by rw [Q9]; exact hO7, HX7.out, hP7, hb7, by rw [hs7]; omega⟩
        case measure => simp [intOf]; omega
      · go_simp
        refine hK.out _ _ (trivial) (fun hHeld => ?_)
        clear hK K
        try simp only [Act.put, List.setIfInBounds_toArray, List.set_cons_zero, List.set_cons_succ]
        refine wpAnyH_ready (rs := [1]) (by kernel_rfl) (by simp) ?_
        refine AllReadyH.cons (o := ({ dst := some 102, op := Op.load 25 (Operand.tmp 101), type := 25, pos := "l4_stm.go:269", after := #[{ on := 0, ground := Ground.data }], guard := none } : Oper)) rfl (fun K hK => ?_) AllReadyH.nil
        go_simp
        refine hK.out _ _ (trivial) (fun hHeld => ?_)
        clear hK K
        try simp only [Act.put, List.setIfInBounds_toArray, List.set_cons_zero, List.set_cons_succ]
        refine wpAnyH_ready (rs := [5]) (by kernel_rfl) (by simp) ?_
        refine AllReadyH.cons (o := ({ dst := some 106, op := Op.call { callee := Callee.builtin Builtin.append, args := #[Operand.tmp 102, Operand.tmp 105], argTypes := #[25, 25] }, type := 25, pos := "l4_stm.go:269", after := #[{ on := 1, ground := Ground.data }, { on := 4, ground := Ground.data }, { on := 3, ground := Ground.chain }], guard := none } : Oper)) rfl (fun K hK => ?_) AllReadyH.nil
        rw [if_pos (by kernel_rfl)]
        refine wp_append_lies _ _ _ _ rfl w3.heap.size 24 i0 (.slice none 0 0) 1 24 Tryz.underlying25 HI.out hz0 hz1 hz2 rfl (by omega) (.slice a j cap) j _ rfl (hO5.alloc _) ⟨w5.heap.size, 0, none⟩ 1 1 [.slice (some ⟨g2, 0, none⟩) m2 cap2] rfl rfl (World.news_of_block (heap_alloc_new w5 _)) (ones _ rfl) (by omega) (by unfold maxLen; omega) (by omega) (by simp; omega) _ rfl ?_
        intro g6 cap6 w6 hO6 hgr6 hat6 hlt6
        have hs6 := hgr6.size
        have HL6 : Hid (w6.heap[w1.heap.size]? = some (.cells #[.int .i64 5, .string (tbS s), .slice none 0 0, .slice none 0 0, .string ⟨#[]⟩, .slice none 0 0, .slice none 0 0, .slice a j cap] 27 (0, 0))) := rowG' (rowL HL5.out (bal w5 (.cells #[.slice (some ⟨g2, 0, none⟩) m2 cap2] 24))) hgr6 (hnb _ hLG)
        have HR6 : Hid (w6.heap[w.heap.size]? = some (.cells #[.int .i64 0, .string ⟨#[]⟩, .slice none 0 0, .slice none 0 0, .string ⟨#[]⟩, .slice none 0 0, .slice none 0 0, .slice none 0 0] 27 (0, 0))) := rowG' (rowL HR5.out (bal w5 (.cells #[.slice (some ⟨g2, 0, none⟩) m2 cap2] 24))) hgr6 (hnb _ hRG)
        have l76 : w6.cell? ⟨w1.heap.size, 7, none⟩ = some (.slice a j cap) := (cell_of_row _ _ 7 _ _ _ HL6.out).trans rfl
        have lf76 : w6.frozen? ⟨w1.heap.size, 7, none⟩ = false := frozen_of_row _ _ 7 _ _ HL6.out
        refine hK.out _ _ (trivial) (fun hHeld => ?_)
        clear hK K
        try simp only [Act.put, List.setIfInBounds_toArray, List.set_cons_zero, List.set_cons_succ]
        refine wpAnyH_take (i := 6) (oi := ({ dst := some 107, op := Op.fieldAddr 27 (Operand.tmp 5) 7, type := 0, pos := "l4_stm.go:269", after := #[{ on := 0, ground := Ground.phase }, { on := 1, ground := Ground.phase }, { on := 2, ground := Ground.phase }, { on := 3, ground := Ground.phase }, { on := 4, ground := Ground.phase }, { on := 5, ground := Ground.phase }], guard := none } : Oper)) (v := .pointer (some ⟨w1.heap.size, 7, none⟩)) rfl (by kernel_rfl) (by kernel_rfl) (by kernel_rfl) (fun _ _ _ h => h) (Or.inl ⟨by rfl, fun x hSw => (by go_simp)⟩) hHeld ?_
        try simp only [Act.put, List.setIfInBounds_toArray, List.set_cons_zero, List.set_cons_succ]
        refine wpAnyH_ready (rs := [7]) (by kernel_rfl) (by simp) ?_
        refine AllReadyH.cons (o := ({ dst := none, op := Op.store 25 (Operand.tmp 107) (Operand.tmp 106), type := 0, pos := "l4_stm.go:269", after := #[{ on := 6, ground := Ground.data }, { on := 5, ground := Ground.data }, { on := 5, ground := Ground.chain }, { on := 0, ground := Ground.phase }, { on := 1, ground := Ground.phase }, { on := 2, ground := Ground.phase }, { on := 3, ground := Ground.phase }, { on := 4, ground := Ground.phase }, { on := 5, ground := Ground.phase }], guard := none } : Oper)) rfl (fun K hK => ?_) AllReadyH.nil
        go_simp
        refine hK.out _ _ (trivial) (fun hHeld => ?_)
        clear hK K
        try simp only [Act.put, List.setIfInBounds_toArray, List.set_cons_zero, List.set_cons_succ]
        refine wpAnyH_done (by kernel_rfl) ?_ _
        have HL7 : Hid ((w6.setCell ⟨w1.heap.size, 7, none⟩ (.slice (some ⟨g6, 0, none⟩) (j + 1) cap6)).heap[w1.heap.size]? = some (.cells #[.int .i64 5, .string (tbS s), .slice none 0 0, .slice none 0 0, .string ⟨#[]⟩, .slice none 0 0, .slice none 0 0, .slice (some ⟨g6, 0, none⟩) (j + 1) cap6] 27 (0, 0))) := heap_setCell_same _ _ 7 _ _ _ HL6.out
        have HR7 : Hid ((w6.setCell ⟨w1.heap.size, 7, none⟩ (.slice (some ⟨g6, 0, none⟩) (j + 1) cap6)).heap[w.heap.size]? = some (.cells #[.int .i64 0, .string ⟨#[]⟩, .slice none 0 0, .slice none 0 0, .string ⟨#[]⟩, .slice none 0 0, .slice none 0 0, .slice none 0 0] 27 (0, 0))) := rowO HR6.out hneR
        have hP6 : PS w6 (w.heap.size + 1) s (exPl s u) := by rw [← hL2.place]; exact PS.gr' hgr6 (hnb _ hBG) (hP5.later (bal w5 (.cells #[.slice (some ⟨g2, 0, none⟩) m2 cap2] 24)))
        have hP7 : PS (w6.setCell ⟨w1.heap.size, 7, none⟩ (.slice (some ⟨g6, 0, none⟩) (j + 1) cap6)) (w.heap.size + 1) s (rep (exPl s) (numP s 1 (hd2 s)) (j + 1)) := by rw [HU.out]; exact PS.grown (gset w6 w1.heap.size 7 _) hneL.symm hP6
        have hb6 : Below w.heap.size w w6 := gB' (bstep hb5 (bal w5 (.cells #[.slice (some ⟨g2, 0, none⟩) m2 cap2] 24))) hgr6 (fun x hx => hnb x (by omega))
        have hb7 : Below w.heap.size w (w6.setCell ⟨w1.heap.size, 7, none⟩ (.slice (some ⟨g6, 0, none⟩) (j + 1) cap6)) := bset hb6 (by omega)
        have hO7 := own_set hO6 (L := w1.heap.size) (i := 7) (v := .slice (some ⟨g6, 0, none⟩) (j + 1) cap6) hLG
        have hs7 : (w6.setCell ⟨w1.heap.size, 7, none⟩ (.slice (some ⟨g6, 0, none⟩) (j + 1) cap6)).heap.size = w6.heap.size := by simp
        have HX7 : Hid (∀ i, i < j + 1 → (∀ x, (Value.slice (some ⟨g6, 0, none⟩) (j + 1) cap6).ownBlock = some x → (upd X j ⟨g2, m2, cap2⟩ i).g ≠ x) ∧ LsI (w6.setCell ⟨w1.heap.size, 7, none⟩ (.slice (some ⟨g6, 0, none⟩) (j + 1) cap6)) w3.heap.size (w.heap.size + 1) s (numP s 2 (rep (exPl s) (numP s 1 (hd2 s)) i)) (lenV s 2 (rep (exPl s) (numP s 1 (hd2 s)) i)) (upd X j ⟨g2, m2, cap2⟩ i).m (upd X j ⟨g2, m2, cap2⟩ i).g (upd X j ⟨g2, m2, cap2⟩ i).c) := fun i hi => by
          by_cases e : i = j
          · subst e
            unfold upd
            simp only [if_true]
            rw [HUj.out]
            refine ⟨fun x hx => ?_, ?_⟩
            · have hx' : g6 = x := Option.some.inj hx
              rcases hat6 with e6 | e6
              · have := hownb g6 e6; omega
              · omega
            · have hL3 : LsI w5 w3.heap.size (w.heap.size + 1) s (numP s 2 u) (lenV s 2 u) m2 g2 cap2 := ⟨own_mono hL2.own (by omega), hL2.le, hL2.at'⟩
              exact ((hL3.later (bal w5 (.cells #[.slice (some ⟨g2, 0, none⟩) m2 cap2] 24))).grR hgr6 (fun e => by have := hownb g2 e.symm; omega)).gr (gset w6 w1.heap.size 7 _) (by omega)
          · unfold upd
            rw [if_neg e]
            obtain ⟨hne, hL⟩ := HXs.out i (by omega)
            have hil := (hL.own.lt (X i).g rfl).2
            have hib := (hL.own.lt (X i).g rfl).1
            refine ⟨fun x hx => ?_, ?_⟩
            · have hx' : g6 = x := Option.some.inj hx
              rcases hat6 with e6 | e6
              · have := hne g6 e6; omega
              · omega
            · exact ((((hL.later (bdrewR wr)).gr hg5 (by omega)).later (bal w5 (.cells #[.slice (some ⟨g2, 0, none⟩) m2 cap2] 24))).grR hgr6 (fun e => hne (X i).g e.symm rfl)).gr (gset w6 w1.heap.size 7 _) (by omega)
        have Q9 : exC (upd X j ⟨g2, m2, cap2⟩) (j + 1) = exC X j ++ [.slice (some ⟨g2, 0, none⟩) m2 cap2] := by
          rw [exC_next, exC_upd]
          unfold upd
          simp only [if_true]
        clear hHeld
        go_wp2
        go_roundw
        case rel => exact ⟨j + 1, _, _, (upd X j ⟨g2, m2, cap2⟩), by omega, by go_num, HL7.out, HR7.out, by rw [Q9]; exact hO7, HX7.out, hP7, hb7, by rw [hs7]; omega⟩
        case measure => simp [intOf]; omega
theorem specDec (s : ByteArray) (w : World) (hs : s.size ≤ 1048576) : Calls Tryz.prog 5 #[.string s] w fun e w' => DecS w w' s e := by
  by_cases h1 : 60000 < s.size
  · exact sDecL s w hs h1
  by_cases e1 : numV s 1 (some 0) = 1
  · exact sDec1 s w hs e1 h1
  by_cases e2 : numV s 1 (some 0) = 2
  · exact sDec2 s w hs e2 h1
  by_cases e3 : numV s 1 (some 0) = 3
  · exact sDec3 s w hs e3 h1
  by_cases e4 : numV s 1 (some 0) = 4
  · exact sDec4 s w hs e4 h1
  by_cases e5 : numV s 1 (some 0) = 5
  · exact sDec5 s w hs e5 h1
  by_cases h0 : s.size = 0
  · exact sDec0b s w hs e1 e2 e3 e4 e5 h0 h1
  · exact sDec0a s w hs e1 e2 e3 e4 e5 h0 h1
end Go.Proofs.YtnbgdfhfmbgbhaaGreatDoor
