/-
  Tables: the columns' places, the program's map.
-/
import Derived.Test.YtgeiamgeclbiaaaGreatDoorTk
import Derived.Maps.OwnSet
namespace Go.Proofs.YtgeiamgeclbiaaaGreatDoor
open Go.RowKit Go.Maps Go.WideMaps
theorem run_makeMapH {P : Program} {t k e : TypeId} (ht : P.underlying t = some (.map k e)) (q : IntKind) (n : Int) (w : World) : (Instr.makeMap t (some (.int q n))).run P w = .ok (.map (some w.heap.size)) (w.alloc (.map #[] 0)) := by
  simp [Instr.makeMap, run_underlying ht, asInt, asIntOf, Result.andThen]
/-- Where each of the first k columns stands. -/
def pl (C : Nat → Clm) : Nat → DataW Unit
  | 0 => .map []
  | k + 1 => (pl C k).put (litS (C k).s) (.lit (.int .i64 k))
theorem litS_inj {a b : ByteArray} (h : litS a = litS b) : a = b := by
  unfold litS at h
  injection h with h
  exact bytes_inj2 (by rw [ByteArray.toList_eq, ByteArray.toList_eq]; exact h)
theorem pl_tidy (C : Nat → Clm) : ∀ k, Tidy (pl C k)
  | 0 => tidy_empty
  | k + 1 => (pl_tidy C k).put (show WideAt.IsKeyLit (litS (C k).s) from trivial) _
theorem has_pl (C : Nat → Clm) (s : ByteArray) : ∀ k, Maps.has (pl C k) (litS s) = hasCol C s k
  | 0 => rfl
  | k + 1 => by
    show Maps.has ((pl C k).put (litS (C k).s) (.lit (.int .i64 k))) (litS s) = (hasCol C s k || (C k).s.toList == s.toList)
    by_cases e : (C k).s = s
    · rw [e, has_put_same (pl_tidy C k).isMap (show WideAt.IsKeyLit (litS s) from trivial), eqS_same]
      simp
    · rw [has_put_other (fun h => e (litS_inj h).symm), has_pl C s k, eqS, decide_eq_false e]
      simp
/-- No column bears the name of one before it. -/
def difB (C : Nat → Clm) (n : Nat) : Bool := allN n (fun k => !hasCol C (C k).s k)
theorem size_pl (C : Nat → Clm) : ∀ k, Maps.size (pl C k) ≤ k ∧ (Maps.size (pl C k) = k ↔ ∀ j, j < k → hasCol C (C j).s j = false)
  | 0 => ⟨Nat.le_refl _, ⟨fun _ j hj => by omega, fun _ => rfl⟩⟩
  | k + 1 => by
    obtain ⟨h1, h2⟩ := size_pl C k
    have h3 : Maps.size (pl C (k + 1)) = if Maps.has (pl C k) (litS (C k).s) then Maps.size (pl C k) else Maps.size (pl C k) + 1 := size_put (pl_tidy C k) _
    rw [has_pl] at h3
    rcases hq : hasCol C (C k).s k
    · rw [hq] at h3
      simp only [Bool.false_eq_true, if_false] at h3
      refine ⟨by omega, ⟨fun e j hj => ?_, fun h => ?_⟩⟩
      · by_cases ej : j = k
        · subst ej; exact hq
        · exact h2.1 (by omega) j (by omega)
      · have := h2.2 fun j hj => h j (by omega)
        omega
    · rw [hq] at h3
      simp only [if_true] at h3
      refine ⟨by omega, ⟨fun e => by omega, fun h => ?_⟩⟩
      have := h k (by omega)
      rw [hq] at this
      cases this
theorem difB_size (C : Nat → Clm) (n : Nat) : (((Maps.size (pl C n) : Nat) : Int) == (n : Int)) = difB C n := by
  obtain ⟨-, h⟩ := size_pl C n
  rcases hd : difB C n
  · have : ¬ Maps.size (pl C n) = n := fun e => by
      have ht : difB C n = true := allN_true fun j hj => by rw [h.1 e j hj]; rfl
      rw [hd] at ht
      cases ht
    simp; omega
  · have : Maps.size (pl C n) = n := h.2 fun j hj => by
      rcases hq : hasCol C (C j).s j
      · rfl
      · have : difB C n = false := allN_false hj (by rw [hq]; rfl)
        rw [hd] at this
        cases this
    rw [this]
    simp
theorem rowK {w w' : World} {q b : Nat} {o : Obj} (h : w.heap[q]? = some o) (hg : w.grownBy w' (some b)) (hne : q ≠ b) : w'.heap[q]? = some o :=
  (hg.block q (Array.getElem?_eq_some_iff.1 h).1 (fun e => hne (by cases e; rfl))).trans h
set_option maxRecDepth 20000 in
set_option maxHeartbeats 4000000 in
theorem iScope (a : Option Addr) (n c : Nat) (C : Nat → Clm) (w : World) (h : CL w a n C) (hn : n ≤ 1048576) :
    Calls Tryz.prog 37 #[.slice a n c] w fun e w' => e = .returned (.agg #[.slice a n c, .map (some (w.heap.size + 1))]) ∧ w'.ownsMap Tryz.prog 9 (plainElem (H := Unit) Tryz.prog 3) (w.heap.size + 1) n (pl C n) ∧ Below w.heap.size w w' := by
  have hmm := run_makeMapH (P := Tryz.prog) (t := 77) Tryz.underlying77 .i64 n
  have hW : (w.alloc (.cells #[.slice none 0 0, .map none] 79)).heap.size = w.heap.size + 1 := by simp
  have hbW : Below w.heap.size w ((w.alloc (.cells #[.slice none 0 0, .map none] 79)).alloc (.map #[] 0)) := bstep (bal _ _) (bal _ _)
  go_enter Tryz.func37, Tryz.ntmps37
  go_wp2
  clear hmm
  go_loopw [4, 5, 11] (fun _ _ i wr => ∃ k : Nat, k ≤ n ∧ i = .int .i64 k ∧ wr.ownsMap Tryz.prog 9 (plainElem (H := Unit) Tryz.prog 3) (w.heap.size + 1) k (pl C k) ∧ wr.heap[w.heap.size]? = some (.cells #[.slice none 0 0, .map none] 79 (0, 0)) ∧ Below w.heap.size w wr) (fun _ _ i _ => n - (intOf i).toNat)
  case atStart =>
    refine ⟨0, by omega, rfl, ?_, rowL (heap_alloc_new _ _) (bal _ _), hbW⟩
    have := World.ownsMap_made (w.alloc (.cells #[.slice none 0 0, .map none] 79)) Tryz.prog 9 (plainElem (H := Unit) Tryz.prog 3)
    rw [hW] at this
    exact this
  case round =>
    obtain ⟨k, hk, rfl, hown, hrow, hb⟩ := hrel
    have HR : Hid (wr.heap[w.heap.size]? = some (.cells #[.slice none 0 0, .map none] 79 (0, 0))) := hrow
    clear hrow
    by_cases hlt : k < n
    · obtain ⟨b, off, rfl, d0, d1, hs⟩ := h.later hb k hlt
      have hkey : keyOf Tryz.prog 9 (.string (C k).s) = some (litS (C k).s) := keyOf_string_mk Tryz.underlying9 (by unfold maxLen; omega)
      have hval : plainElem (H := Unit) Tryz.prog 3 (.int .i64 k) = some (.lit (.int .i64 k), []) := plainElem_int Tryz.underlying3 (by have q1 : IntKind.i64.min = -9223372036854775808 := rfl; have q2 : IntKind.i64.max = 9223372036854775807 := rfl; simp [Lit.wf]; omega)
      have HV : Hid (plainElem (H := Unit) Tryz.prog 3 (.int .i64 k) = some (.lit (.int .i64 k), [])) := hval
      clear hval
      go_wp2_with (first | (at_mapUpdate; refine wpList_mapUpdate_own _ rfl _ _ _ 77 rfl 9 3 lawS Tryz.underlying77 (plainElem (H := Unit) Tryz.prog 3) (w.heap.size + 1) k (pl C k) rfl (hown.alloc _) (by unfold maxLen; omega) _ _ _ rfl rfl hkey (.lit (.int .i64 k)) [] HV.out ?_; intro w1 hown1 hgrow1) | go_in)
      go_roundw
      case rel => exact ⟨k + 1, by omega, by go_num, hown1, rowK (rowL HR.out (bal _ _)) hgrow1 (by omega), (bstep hb (bal _ _)).grown hgrow1 (bstep hb (bal _ _)).size (fun j hj => by injection hj with hj; omega)⟩
      case measure => simp [intOf]; omega
    · obtain rfl : k = n := by omega
      have m0 : wr.cell? ⟨w.heap.size, 0, none⟩ = some (.slice none 0 0) := (cell_of_row _ _ 0 _ _ _ HR.out).trans rfl
      have m1 : wr.cell? ⟨w.heap.size, 1, none⟩ = some (.map none) := (cell_of_row _ _ 1 _ _ _ HR.out).trans rfl
      have f0 : wr.frozen? ⟨w.heap.size, 0, none⟩ = false := frozen_of_row _ _ 0 _ _ HR.out
      have f1 : wr.frozen? ⟨w.heap.size, 1, none⟩ = false := frozen_of_row _ _ 1 _ _ HR.out
      go_wp2
      have RV := fun v0 v1 => heap_setCell_same _ _ 1 _ _ v1 (heap_setCell_same _ _ 0 _ _ v0 HR.out)
      refine bodyPost_ret (v := .agg #[.slice a k c, .map (some (w.heap.size + 1))]) (results_cell_row Tryz.results37 _ _ w.heap.size 79 _ (0, 0) _ rfl (RV _ _) Tryz.underlying79 rfl (by kernel_rfl)) rfl ⟨rfl, (hown.setCell (by simp) _).setCell (by simp) _, bset (bset hb (Nat.le_refl _)) (Nat.le_refl _)⟩
set_option maxRecDepth 20000 in
set_option maxHeartbeats 2000000 in
theorem iDifferent (a : Option Addr) (n c : Nat) (C : Nat → Clm) (w : World) (h : CL w a n C) (hn : n ≤ 1048576) :
    Calls Tryz.prog 116 #[.slice a n c] w fun e w' => e = .returned (.bool (difB C n)) ∧ Below w.heap.size w w' := by
  have hD := difB_size C n
  have hfd : ∀ v : World, (Instr.field 79 (.agg #[.slice a n c, .map (some (w.heap.size + 1))]) 1).run Tryz.prog v = .ok (.map (some (w.heap.size + 1))) v := fun _ => by kernel_rfl
  go_enter Tryz.func116, Tryz.ntmps116
  go_wp2_with (first | (go_at_call 37; refine (iScope _ _ _ _ _ h hn).mono ?_; rintro e w1 ⟨rfl, hown, hb1⟩) | (at_len; refine wpList_len_own _ rfl _ 77 rfl 9 3 Tryz.underlying77 _ (w.heap.size + 1) n (pl C n) rfl hown ?_) | go_in)
  go_ret
  exact ⟨rfl, hb1⟩
end Go.Proofs.YtgeiamgeclbiaaaGreatDoor
