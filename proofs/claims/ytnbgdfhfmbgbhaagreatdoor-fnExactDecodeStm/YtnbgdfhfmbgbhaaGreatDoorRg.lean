/-
  Statements read: lists, the program's way.
-/
import Derived.Test.YtnbgdfhfmbgbhaaGreatDoorRf
import Derived.Deep.AppendLies
namespace Go.Proofs.YtnbgdfhfmbgbhaaGreatDoor
open Go.RowKit Go.Maps Go.WideMaps
theorem own_gr {w w' : World} {base e size n g : Nat} {v : Value} {xs : List Value} (h : w.ownsRow base e size v n xs) (hg : w.grownBy w' (some g)) (hgb : g < base) : w'.ownsRow base e size v n xs := by
  obtain ⟨hl, hh⟩ := h
  refine ⟨hl, ?_⟩
  rcases hh with hh | ⟨gg, cap, cur, e1, e2, e3, e4⟩
  · exact Or.inl hh
  · exact Or.inr ⟨gg, cap, cur, e1, e2, (hg.block gg (Array.getElem?_eq_some_iff.1 e3).1 (fun e => by injection e; omega)).trans e3, e4⟩
theorem gjoin {a b c : World} {g : Nat} {r : Option Nat} (h : a.grownBy b (some g)) (k : b.grownBy c r) (hr : ∀ j, r = some j → a.heap.size ≤ j) : a.grownBy c (some g) :=
  ⟨k.os.trans h.os, k.tape.trans h.tape, k.output.trans h.output, Nat.le_trans h.size k.size, fun i hi hn => (k.block i (Nat.lt_of_lt_of_le hi h.size) (fun e => by have := hr i e.symm; omega)).trans (h.block i hi hn)⟩
theorem PI.grown {w w' : World} {B g : Nat} {s : ByteArray} (hg : w.grownBy w' (some g)) (hne : B ≠ g) : ∀ {p : Option Nat}, PI w B s p → PI w' B s p
  | none, h => rowG h hg hne
  | some _, h => ⟨h.1, rowG h.2 hg hne⟩
theorem PI.c1 {w : World} {B : Nat} {s : ByteArray} : ∀ {p : Option Nat}, PI w B s p → w.cell? ⟨B, 1, none⟩ = some (.bool p.isNone)
  | none, h => (cell_of_row _ _ 1 _ _ _ h).trans rfl
  | some _, h => (cell_of_row _ _ 1 _ _ _ h.2).trans rfl
/-- The place behind j things that are read by f. -/
def rep (f : Option Nat → Option Nat) (p : Option Nat) : Nat → Option Nat
  | 0 => p
  | j + 1 => f (rep f p j)
def flat (F : Nat → List Value) : Nat → List Value
  | 0 => []
  | j + 1 => flat F j ++ F j
theorem own_capN {w : World} {base e size g n cap : Nat} {xs : List Value} (h : w.ownsRow base e size (.slice (some ⟨g, 0, none⟩) n cap) n xs) : n ≤ cap ∧ cap ≤ maxLen := by
  obtain ⟨hl, hh⟩ := h
  rcases hh with ⟨hh, _⟩ | ⟨gg, cap', cur, e1, e2, e3, e4, e5, e6, e7⟩
  · simp at hh
  · simp only [Value.slice.injEq, Option.some.injEq, Addr.mk.injEq, and_true, true_and] at e1
    obtain ⟨rfl, rfl⟩ := e1
    exact ⟨e4, e5⟩
set_option maxRecDepth 20000 in
set_option maxHeartbeats 8000000 in
theorem iListIt (B : Nat) (s : ByteArray) (p : Option Nat) (k : Nat) (w : World) (h : PI w B s p) (hk : k ≤ 2) :
    Calls Tryz.prog 110 #[.pointer (some ⟨B, 0, none⟩), .int .i64 k, .func (.func 111) #[] #[]] w fun e w' => ∃ m g cap, e = .returned (.slice (some ⟨g, 0, none⟩) m cap) ∧ w'.ownsRow w.heap.size 85 3 (.slice (some ⟨g, 0, none⟩) m cap) m (flat (fun j => [Value.int .i64 (itmV s (rep (itmP s) (numP s k p) j)).o, Value.int .i64 (itmV s (rep (itmP s) (numP s k p) j)).m, Value.string (itmV s (rep (itmP s) (numP s k p) j)).s]) m) ∧ m ≤ lenV s k p ∧ (m = lenV s k p ∨ rep (itmP s) (numP s k p) m = none) ∧ PI w' B s (rep (itmP s) (numP s k p) m) ∧ w.grownBy w' (some B) := by
  have hlt := h.lt
  obtain ⟨i0, hi, hz0, hz1, hz2⟩ := info_parts Tryz.infoItm
  have HI : Hid (Tryz.prog.info? 85 = some i0) := hi
  clear hi
  have hb0 := bal w (.cells #[] 85)
  have hN := iNumP B s p k _ (h.later hb0) (by omega)
  obtain ⟨h1, h2⟩ := numV_small s hk p
  rw [h1] at hN
  obtain ⟨n, hn⟩ : ∃ n, lenV s k p = n := ⟨_, rfl⟩
  rw [hn] at hN h2 ⊢
  clear hn h1
  obtain ⟨q, hq⟩ : ∃ q, numP s k p = q := ⟨_, rfl⟩
  rw [hq] at hN ⊢
  clear hq
  go_enter Tryz.func110, Tryz.ntmps110
  go_wp2_with (go_at_call 59; refine hN.mono ?_; rintro e w1 ⟨rfl, hP1, hg1⟩)
  go_loopw [7, 12] (fun v i wr => ∃ (j g cap : Nat), j ≤ n ∧ i = .int .i64 j ∧ v = .slice (some ⟨g, 0, none⟩) j cap ∧ wr.ownsRow w.heap.size 85 3 (.slice (some ⟨g, 0, none⟩) j cap) j (flat (fun j => [Value.int .i64 (itmV s (rep (itmP s) q j)).o, Value.int .i64 (itmV s (rep (itmP s) q j)).m, Value.string (itmV s (rep (itmP s) q j)).s]) j) ∧ PI wr B s (rep (itmP s) q j) ∧ w.grownBy wr (some B)) (fun _ i _ => n - (intOf i).toNat)
  case atStart =>
    refine ⟨0, w.heap.size, 0, by omega, rfl, rfl, ?_, hP1, gtrans (gbelow hb0 _) hg1⟩
    exact own_gr (World.ownsRow_made w #[] 0 (Nat.le_refl _) (by unfold maxLen; omega) rfl) hg1 hlt
  case round =>
    obtain ⟨j, g, cap, hj, rfl, rfl, hO, hP, hG⟩ := hrel
    by_cases hlj : j < n
    · have hgg := (hO.lt g rfl).1
      have hgl := (hO.lt g rfl).2
      have hcp := own_capN hO
      have hsz := hG.size
      have HNX : Hid (flat (fun j => [Value.int .i64 (itmV s (rep (itmP s) q j)).o, Value.int .i64 (itmV s (rep (itmP s) q j)).m, Value.string (itmV s (rep (itmP s) q j)).s]) (j + 1) = flat (fun j => [Value.int .i64 (itmV s (rep (itmP s) q j)).o, Value.int .i64 (itmV s (rep (itmP s) q j)).m, Value.string (itmV s (rep (itmP s) q j)).s]) j ++ [Value.int .i64 (itmV s (rep (itmP s) q j)).o, Value.int .i64 (itmV s (rep (itmP s) q j)).m, Value.string (itmV s (rep (itmP s) q j)).s]) := rfl
      have c1 := hP.c1
      cases hp : rep (itmP s) q j with
      | none =>
        rw [hp] at c1 hP
        go_wp2
        go_ret
        exact ⟨j, g, cap, rfl, hO, hj, Or.inr hp, by rw [hp]; exact hP, hG⟩
      | some a =>
        rw [hp] at c1
        have c1' : wr.cell? ⟨B, 1, none⟩ = some (.bool false) := c1
        clear c1
        have HP : Hid (rep (itmP s) q j = some a) := hp
        clear hp
        have hE := iItemR B s _ wr hP
        obtain ⟨Y, hY⟩ : ∃ Y, itmV s (rep (itmP s) q j) = Y := ⟨_, rfl⟩
        rw [hY] at hE HNX
        clear hY
        go_wp2_with (first | (go_at_call 111; refine hE.mono ?_; rintro e w2 ⟨rfl, hP2, hg2⟩; have hO2 := own_gr hO hg2 hlt; have hs2 := hg2.size) | (at_builtin; refine wpList_append_lies _ rfl _ _ _ rfl w.heap.size 85 i0 (.agg #[.int .i64 0, .int .i64 0, .string ByteArray.empty]) 3 32 Tryz.underlying24 HI.out hz0 hz1 hz2 rfl (by omega) _ j _ rfl (hO2.alloc _) ⟨w2.heap.size, 0, none⟩ 1 1 [.int .i64 Y.o, .int .i64 Y.m, .string Y.s] rfl rfl (World.news_of_block (heap_alloc_new w2 _)) (by intro u hu; simp at hu; rcases hu with rfl | rfl | rfl <;> rfl) (by omega) (by unfold maxLen; omega) (by omega) (by simp; omega) _ rfl ?_; intro g4 cap4 w4 hO4 hgr4 hat4 hlt4))
        have Q6 : w.grownBy w4 (some B) := gjoin (gal (gtrans hG hg2) _) hgr4 (fun i hi => by have e : g = i := Option.some.inj hi; omega)
        have Q7 : PI w4 B s (rep (itmP s) q (j + 1)) := PI.grown (g := g) hgr4 (by omega) (hP2.later (bal _ _))
        go_roundw
        case rel => first | exact ⟨j + 1, g4, cap4, by omega, by go_num, rfl, by rw [HNX.out]; exact hO4, Q7, Q6⟩ | ((repeat apply Exists.intro); exact ⟨⟨j + 1, g4, cap4, by omega, by go_num, rfl, by rw [HNX.out]; exact hO4, Q7, Q6⟩, rfl⟩)
        case measure => simp [intOf]; omega
    · obtain rfl : j = n := by omega
      go_wp2
      go_ret
      exact ⟨j, g, cap, rfl, hO, Nat.le_refl _, Or.inl rfl, hP, hG⟩
set_option maxRecDepth 20000 in
set_option maxHeartbeats 8000000 in
theorem iListVl (B : Nat) (s : ByteArray) (p : Option Nat) (k : Nat) (w : World) (h : PI w B s p) (hk : k ≤ 2) :
    Calls Tryz.prog 63 #[.pointer (some ⟨B, 0, none⟩), .int .i64 k, .func (.func 64) #[] #[]] w fun e w' => ∃ m g cap, e = .returned (.slice (some ⟨g, 0, none⟩) m cap) ∧ w'.ownsRow w.heap.size 51 3 (.slice (some ⟨g, 0, none⟩) m cap) m (flat (fun j => [Value.int .i64 (vlV s (rep (vlP s) (numP s k p) j)).o, Value.int .i64 (vlV s (rep (vlP s) (numP s k p) j)).m, Value.string (vlV s (rep (vlP s) (numP s k p) j)).s]) m) ∧ m ≤ lenV s k p ∧ (m = lenV s k p ∨ rep (vlP s) (numP s k p) m = none) ∧ PI w' B s (rep (vlP s) (numP s k p) m) ∧ w.grownBy w' (some B) := by
  have hlt := h.lt
  obtain ⟨i0, hi, hz0, hz1, hz2⟩ := info_parts Tryz.infoVal
  have HI : Hid (Tryz.prog.info? 51 = some i0) := hi
  clear hi
  have hb0 := bal w (.cells #[] 51)
  have hN := iNumP B s p k _ (h.later hb0) (by omega)
  obtain ⟨h1, h2⟩ := numV_small s hk p
  rw [h1] at hN
  obtain ⟨n, hn⟩ : ∃ n, lenV s k p = n := ⟨_, rfl⟩
  rw [hn] at hN h2 ⊢
  clear hn h1
  obtain ⟨q, hq⟩ : ∃ q, numP s k p = q := ⟨_, rfl⟩
  rw [hq] at hN ⊢
  clear hq
  go_enter Tryz.func63, Tryz.ntmps63
  go_wp2_with (go_at_call 59; refine hN.mono ?_; rintro e w1 ⟨rfl, hP1, hg1⟩)
  go_loopw [7, 12] (fun v i wr => ∃ (j g cap : Nat), j ≤ n ∧ i = .int .i64 j ∧ v = .slice (some ⟨g, 0, none⟩) j cap ∧ wr.ownsRow w.heap.size 51 3 (.slice (some ⟨g, 0, none⟩) j cap) j (flat (fun j => [Value.int .i64 (vlV s (rep (vlP s) q j)).o, Value.int .i64 (vlV s (rep (vlP s) q j)).m, Value.string (vlV s (rep (vlP s) q j)).s]) j) ∧ PI wr B s (rep (vlP s) q j) ∧ w.grownBy wr (some B)) (fun _ i _ => n - (intOf i).toNat)
  case atStart =>
    refine ⟨0, w.heap.size, 0, by omega, rfl, rfl, ?_, hP1, gtrans (gbelow hb0 _) hg1⟩
    exact own_gr (World.ownsRow_made w #[] 0 (Nat.le_refl _) (by unfold maxLen; omega) rfl) hg1 hlt
  case round =>
    obtain ⟨j, g, cap, hj, rfl, rfl, hO, hP, hG⟩ := hrel
    by_cases hlj : j < n
    · have hgg := (hO.lt g rfl).1
      have hgl := (hO.lt g rfl).2
      have hcp := own_capN hO
      have hsz := hG.size
      have HNX : Hid (flat (fun j => [Value.int .i64 (vlV s (rep (vlP s) q j)).o, Value.int .i64 (vlV s (rep (vlP s) q j)).m, Value.string (vlV s (rep (vlP s) q j)).s]) (j + 1) = flat (fun j => [Value.int .i64 (vlV s (rep (vlP s) q j)).o, Value.int .i64 (vlV s (rep (vlP s) q j)).m, Value.string (vlV s (rep (vlP s) q j)).s]) j ++ [Value.int .i64 (vlV s (rep (vlP s) q j)).o, Value.int .i64 (vlV s (rep (vlP s) q j)).m, Value.string (vlV s (rep (vlP s) q j)).s]) := rfl
      have c1 := hP.c1
      cases hp : rep (vlP s) q j with
      | none =>
        rw [hp] at c1 hP
        go_wp2
        go_ret
        exact ⟨j, g, cap, rfl, hO, hj, Or.inr hp, by rw [hp]; exact hP, hG⟩
      | some a =>
        rw [hp] at c1
        have c1' : wr.cell? ⟨B, 1, none⟩ = some (.bool false) := c1
        clear c1
        have HP : Hid (rep (vlP s) q j = some a) := hp
        clear hp
        have hE := iValR B s _ wr hP
        obtain ⟨Y, hY⟩ : ∃ Y, vlV s (rep (vlP s) q j) = Y := ⟨_, rfl⟩
        rw [hY] at hE HNX
        clear hY
        go_wp2_with (first | (go_at_call 64; refine hE.mono ?_; rintro e w2 ⟨rfl, hP2, hg2⟩; have hO2 := own_gr hO hg2 hlt; have hs2 := hg2.size) | (at_builtin; refine wpList_append_lies _ rfl _ _ _ rfl w.heap.size 51 i0 (.agg #[.int .i64 0, .int .i64 0, .string ByteArray.empty]) 3 32 Tryz.underlying23 HI.out hz0 hz1 hz2 rfl (by omega) _ j _ rfl (hO2.alloc _) ⟨w2.heap.size, 0, none⟩ 1 1 [.int .i64 Y.o, .int .i64 Y.m, .string Y.s] rfl rfl (World.news_of_block (heap_alloc_new w2 _)) (by intro u hu; simp at hu; rcases hu with rfl | rfl | rfl <;> rfl) (by omega) (by unfold maxLen; omega) (by omega) (by simp; omega) _ rfl ?_; intro g4 cap4 w4 hO4 hgr4 hat4 hlt4))
        have Q6 : w.grownBy w4 (some B) := gjoin (gal (gtrans hG hg2) _) hgr4 (fun i hi => by have e : g = i := Option.some.inj hi; omega)
        have Q7 : PI w4 B s (rep (vlP s) q (j + 1)) := PI.grown (g := g) hgr4 (by omega) (hP2.later (bal _ _))
        go_roundw
        case rel => first | exact ⟨j + 1, g4, cap4, by omega, by go_num, rfl, by rw [HNX.out]; exact hO4, Q7, Q6⟩ | ((repeat apply Exists.intro); exact ⟨⟨j + 1, g4, cap4, by omega, by go_num, rfl, by rw [HNX.out]; exact hO4, Q7, Q6⟩, rfl⟩)
        case measure => simp [intOf]; omega
    · obtain rfl : j = n := by omega
      go_wp2
      go_ret
      exact ⟨j, g, cap, rfl, hO, Nat.le_refl _, Or.inl rfl, hP, hG⟩
set_option maxRecDepth 20000 in
set_option maxHeartbeats 8000000 in
theorem iListCl (B : Nat) (s : ByteArray) (p : Option Nat) (k : Nat) (w : World) (h : PI w B s p) (hk : k ≤ 2) :
    Calls Tryz.prog 61 #[.pointer (some ⟨B, 0, none⟩), .int .i64 k, .func (.func 62) #[] #[]] w fun e w' => ∃ m g cap, e = .returned (.slice (some ⟨g, 0, none⟩) m cap) ∧ w'.ownsRow w.heap.size 49 2 (.slice (some ⟨g, 0, none⟩) m cap) m (flat (fun j => [Value.string (clV s (rep (clP s) (numP s k p) j)).s, Value.int .i64 (clV s (rep (clP s) (numP s k p) j)).t]) m) ∧ m ≤ lenV s k p ∧ (m = lenV s k p ∨ rep (clP s) (numP s k p) m = none) ∧ PI w' B s (rep (clP s) (numP s k p) m) ∧ w.grownBy w' (some B) := by
  have hlt := h.lt
  obtain ⟨i0, hi, hz0, hz1, hz2⟩ := info_parts Tryz.infoCol
  have HI : Hid (Tryz.prog.info? 49 = some i0) := hi
  clear hi
  have hb0 := bal w (.cells #[] 49)
  have hN := iNumP B s p k _ (h.later hb0) (by omega)
  obtain ⟨h1, h2⟩ := numV_small s hk p
  rw [h1] at hN
  obtain ⟨n, hn⟩ : ∃ n, lenV s k p = n := ⟨_, rfl⟩
  rw [hn] at hN h2 ⊢
  clear hn h1
  obtain ⟨q, hq⟩ : ∃ q, numP s k p = q := ⟨_, rfl⟩
  rw [hq] at hN ⊢
  clear hq
  go_enter Tryz.func61, Tryz.ntmps61
  go_wp2_with (go_at_call 59; refine hN.mono ?_; rintro e w1 ⟨rfl, hP1, hg1⟩)
  go_loopw [7, 12] (fun v i wr => ∃ (j g cap : Nat), j ≤ n ∧ i = .int .i64 j ∧ v = .slice (some ⟨g, 0, none⟩) j cap ∧ wr.ownsRow w.heap.size 49 2 (.slice (some ⟨g, 0, none⟩) j cap) j (flat (fun j => [Value.string (clV s (rep (clP s) q j)).s, Value.int .i64 (clV s (rep (clP s) q j)).t]) j) ∧ PI wr B s (rep (clP s) q j) ∧ w.grownBy wr (some B)) (fun _ i _ => n - (intOf i).toNat)
  case atStart =>
    refine ⟨0, w.heap.size, 0, by omega, rfl, rfl, ?_, hP1, gtrans (gbelow hb0 _) hg1⟩
    exact own_gr (World.ownsRow_made w #[] 0 (Nat.le_refl _) (by unfold maxLen; omega) rfl) hg1 hlt
  case round =>
    obtain ⟨j, g, cap, hj, rfl, rfl, hO, hP, hG⟩ := hrel
    by_cases hlj : j < n
    · have hgg := (hO.lt g rfl).1
      have hgl := (hO.lt g rfl).2
      have hcp := own_capN hO
      have hsz := hG.size
      have HNX : Hid (flat (fun j => [Value.string (clV s (rep (clP s) q j)).s, Value.int .i64 (clV s (rep (clP s) q j)).t]) (j + 1) = flat (fun j => [Value.string (clV s (rep (clP s) q j)).s, Value.int .i64 (clV s (rep (clP s) q j)).t]) j ++ [Value.string (clV s (rep (clP s) q j)).s, Value.int .i64 (clV s (rep (clP s) q j)).t]) := rfl
      have c1 := hP.c1
      cases hp : rep (clP s) q j with
      | none =>
        rw [hp] at c1 hP
        go_wp2
        go_ret
        exact ⟨j, g, cap, rfl, hO, hj, Or.inr hp, by rw [hp]; exact hP, hG⟩
      | some a =>
        rw [hp] at c1
        have c1' : wr.cell? ⟨B, 1, none⟩ = some (.bool false) := c1
        clear c1
        have HP : Hid (rep (clP s) q j = some a) := hp
        clear hp
        have hE := iColR B s _ wr hP
        obtain ⟨Y, hY⟩ : ∃ Y, clV s (rep (clP s) q j) = Y := ⟨_, rfl⟩
        rw [hY] at hE HNX
        clear hY
        go_wp2_with (first | (go_at_call 62; refine hE.mono ?_; rintro e w2 ⟨rfl, hP2, hg2⟩; have hO2 := own_gr hO hg2 hlt; have hs2 := hg2.size) | (at_builtin; refine wpList_append_lies _ rfl _ _ _ rfl w.heap.size 49 i0 (.agg #[.string ByteArray.empty, .int .i64 0]) 2 24 Tryz.underlying22 HI.out hz0 hz1 hz2 rfl (by omega) _ j _ rfl (hO2.alloc _) ⟨w2.heap.size, 0, none⟩ 1 1 [.string Y.s, .int .i64 Y.t] rfl rfl (World.news_of_block (heap_alloc_new w2 _)) (by intro u hu; simp at hu; rcases hu with rfl | rfl <;> rfl) (by omega) (by unfold maxLen; omega) (by omega) (by simp; omega) _ rfl ?_; intro g4 cap4 w4 hO4 hgr4 hat4 hlt4))
        have Q6 : w.grownBy w4 (some B) := gjoin (gal (gtrans hG hg2) _) hgr4 (fun i hi => by have e : g = i := Option.some.inj hi; omega)
        have Q7 : PI w4 B s (rep (clP s) q (j + 1)) := PI.grown (g := g) hgr4 (by omega) (hP2.later (bal _ _))
        go_roundw
        case rel => first | exact ⟨j + 1, g4, cap4, by omega, by go_num, rfl, by rw [HNX.out]; exact hO4, Q7, Q6⟩ | ((repeat apply Exists.intro); exact ⟨⟨j + 1, g4, cap4, by omega, by go_num, rfl, by rw [HNX.out]; exact hO4, Q7, Q6⟩, rfl⟩)
        case measure => simp [intOf]; omega
    · obtain rfl : j = n := by omega
      go_wp2
      go_ret
      exact ⟨j, g, cap, rfl, hO, Nat.le_refl _, Or.inl rfl, hP, hG⟩
end Go.Proofs.YtnbgdfhfmbgbhaaGreatDoor
