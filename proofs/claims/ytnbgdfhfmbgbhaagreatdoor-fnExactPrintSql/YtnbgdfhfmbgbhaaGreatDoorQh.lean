/-
  Expressions and lists as SQL, the program's way.
-/
import Derived.Test.YtnbgdfhfmbgbhaaGreatDoorQg
import Derived.Test.YtnbgdfhfmbgbhaaGreatDoorNt
namespace Go.Proofs.YtnbgdfhfmbgbhaaGreatDoor
open Go.RowKit Go.Maps Go.WideMaps
theorem exp_facts {I : Nat → Itm} {n : Nat} (h : okExp I n = true) : sh I n = some 1 ∧ lf I n = true ∧ 1 ≤ n ∧ n ≤ 100 := by
  simp only [okExp, Bool.and_eq_true, decide_eq_true_eq, ex_sh, btw] at h
  obtain ⟨⟨h1, h2⟩, h3⟩ := h
  by_cases hl : lf I n = true
  · rw [if_pos hl] at h3
    exact ⟨h3, hl, by omega, by omega⟩
  · rw [if_neg hl] at h3
    cases h3
/-- An expression as SQL. -/
def exS (I : Nat → Itm) (n : Nat) : ByteArray := ((stk I n).getD 0 (.num 0)).sql
def whS (I : Nat → Itm) (n : Nat) : ByteArray := if n = 0 then ⟨#[]⟩ else ⟨#[32, 119, 104, 101, 114, 101, 32]⟩ ++ exS I n
theorem exS_size {I : Nat → Itm} {n : Nat} (h : okExp I n = true) (hr : ∀ k, k < n → rng (I k).m) : (exS I n).size ≤ 42000 := by
  obtain ⟨h1, h2, h3, h4⟩ := exp_facts h
  have hl := stk_lenT (by rw [h1]; simp) h2 hr n (Nat.le_refl _)
  have hs := stk_len h1
  have h0 : 0 < (stk I n).length := by omega
  have e : (stk I n).getD 0 (.num 0) = (stk I n)[0] := by simp [h0]
  unfold exS
  rw [e]
  have := lenT_mem (List.getElem_mem h0)
  omega
theorem whS_size {I : Nat → Itm} {n : Nat} (h : okWhere I n = true) (hr : ∀ k, k < n → rng (I k).m) : (whS I n).size ≤ 42007 := by
  unfold whS
  by_cases e : n = 0
  · rw [if_pos e]; exact Nat.zero_le _
  · rw [if_neg e, ByteArray.size_append]
    have e1 : (⟨#[32, 119, 104, 101, 114, 101, 32]⟩ : ByteArray).size = 7 := rfl
    have h2 : okExp I n = true := by
      simp only [okWhere, Bool.or_eq_true, decide_eq_true_eq] at h
      exact h.resolve_left e
    have := exS_size h2 hr
    omega
set_option maxRecDepth 20000 in
set_option maxHeartbeats 2000000 in
theorem iItems (a : Option Addr) (n c : Nat) (I : Nat → Itm) (w : World) (hP : PL w) (h : IL w a n I) (hn : n ≤ 1048576) (hok : okExp I n = true) (hr : ∀ k, k < n → rng (I k).m) :
    Calls Tryz.prog 51 #[.slice a n c] w fun e w' => e = .returned (.string (exS I n)) ∧ Below w.heap.size w w' := by
  have hz := exS_size hok hr
  obtain ⟨h1, -, -, -⟩ := exp_facts hok
  have hrg := stk_rg (I := I) (n := n) (by rw [h1]; simp) hr (fun k hk => by obtain ⟨_, _, _, _, _, _, hs⟩ := h k hk; exact hs) n (Nat.le_refl _)
  go_enter Tryz.func51, Tryz.ntmps51
  go_upto_region 2 with (go_at_call 107; refine (iLift a n c I _ h hn).mono ?_; rintro e w1 ⟨hb1, ⟨rfl, hno⟩ | ⟨t, rfl, hft, hyes, hst⟩⟩)
  · rw [hok] at hno
    cases hno
  · have HE : Hid (exS I n = t.sql) := by show _ = _; unfold exS; rw [hst]; rfl
    have ht : t.rg := hrg t (by rw [hst]; simp)
    have hz' : t.sql.size ≤ 1000000 := by rw [← HE.out]; omega
    have hN := ht w1 hz' (hP.later hb1)
    clear hrg hst hyes hz
    unfold Tr.val
    go_wp2_with (go_at_call 108; refine hN.mono ?_; rintro e w2 ⟨rfl, hb2⟩)
    go_ret
    exact ⟨by rw [HE.out]; rfl, bstep hb1 hb2⟩
set_option maxRecDepth 20000 in
set_option maxHeartbeats 2000000 in
theorem iWhere (a : Option Addr) (n c : Nat) (I : Nat → Itm) (w : World) (hP : PL w) (h : IL w a n I) (hn : n ≤ 1048576) (hok : okWhere I n = true) (hr : ∀ k, k < n → rng (I k).m) :
    Calls Tryz.prog 52 #[.slice a n c] w fun e w' => e = .returned (.string (whS I n)) ∧ Below w.heap.size w w' := by
  by_cases h0 : n = 0
  · subst h0
    go_enter Tryz.func52, Tryz.ntmps52
    go_wp2
    go_ret
    exact ⟨rfl, Below.refl _ _⟩
  · have h0' : ((n : Int) == 0) = false := by simp; omega
    have h2 : okExp I n = true := by
      simp only [okWhere, Bool.or_eq_true, decide_eq_true_eq] at hok
      exact hok.resolve_left h0
    have hz := exS_size h2 hr
    have HE : Hid (whS I n = ⟨#[32, 119, 104, 101, 114, 101, 32]⟩ ++ exS I n) := by show _ = _; unfold whS; rw [if_neg h0]
    have hI := iItems a n c I w hP h hn h2 hr
    clear h2 hok hr
    go_enter Tryz.func52, Tryz.ntmps52
    go_wp2_with (go_at_call 51; refine hI.mono ?_; rintro e w1 ⟨rfl, hb1⟩)
    go_ret
    exact ⟨by rw [HE.out]; rfl, hb1⟩
theorem iJoin (bk n : Nat) (T : Nat → ByteArray) (w : World) (hc : ∀ j, j < n → w.cell? ⟨bk, j, none⟩ = some (.string (T j))) (hbk : bk < w.heap.size) (hn : n ≤ 1000) (hT : ∀ k, k < n → (T k).size ≤ 1000000) :
    Calls Tryz.prog 104 #[.slice (some ⟨bk, 0, none⟩) n n, .string ⟨#[44, 32]⟩] w fun e w' => e = .returned (.string (cm T n)) ∧ Below w.heap.size w w' := by
  have hl : (List.map (fun x : ByteArray => x.data.toList) ((List.range n).map T)) = (List.range n).map fun k => (T k).data.toList := by rw [List.map_map]; rfl
  have hz := cm_size hT n (Nat.le_refl _)
  have hz2 : n * (1000000 + 2) ≤ 1000 * (1000000 + 2) := Nat.mul_le_mul_right _ hn
  have hcj : (cm T n).size = (Lib.join ((List.range n).map fun k => (T k).data.toList) [44, 32]).length := by rw [cm_join]; simp [ByteArray.size]
  have hJ := Any.strings_Join Tryz.lays156 Tryz.Builder_Extra_156 bk 0 n ((List.range n).map T) ⟨#[44, 32]⟩ w (fun j x hx => by
    rw [List.getElem?_map] at hx
    obtain ⟨y, hy, rfl⟩ := Option.map_eq_some_iff.1 hx
    obtain ⟨hj, e⟩ := List.getElem?_eq_some_iff.1 hy
    simp at hj e
    subst e
    rw [Nat.zero_add]
    exact hc _ hj) hbk (by simp; omega) (by simp) (by rw [hl]; show (Lib.join _ [44, 32]).length ≤ _; omega)
  rw [hl, List.length_map, List.length_range] at hJ
  refine (show Calls Tryz.prog 104 #[.slice (some ⟨bk, 0, none⟩) n n, .string ⟨#[44, 32]⟩] w _ from hJ).mono ?_
  rintro e w' ⟨rfl, hb⟩
  exact ⟨by rw [cm_join], hb⟩
theorem Tryz.infoStr : (Tryz.prog.info? 9).map (fun i => (i.zero, i.size, i.bytes)) = some (some (.string ByteArray.empty), 1, 16) := by kernel_rfl
set_option maxRecDepth 20000 in
set_option maxHeartbeats 4000000 in
theorem iListC (a : Option Addr) (n c : Nat) (C : Nat → Clm) (w : World) (h : CL w a n C) (hn : n ≤ 1000) (hz : ∀ k, k < n → (colS (C k).s (C k).t).size ≤ 1000000) :
    Calls Tryz.prog 47 #[.slice a n c, .func (.func 48) #[] #[]] w fun e w' => e = .returned (.string (cm (fun k => colS (C k).s (C k).t) n)) ∧ Below w.heap.size w w' := by
  have hmk := make_any (t := 71) Tryz.underlying71 Tryz.infoStr n (by omega) (by omega)
  have HZ : Hid (∀ k, k < n → (colS (C k).s (C k).t).size ≤ 1000000) := hz
  clear hz
  go_enter Tryz.func47, Tryz.ntmps47
  go_wp2
  clear hmk
  go_loopw [13] (fun i wr => ∃ (k : Nat) (cur : Array Value), k ≤ n ∧ i = .int .i64 k ∧ wr.heap[w.heap.size]? = some (.cells cur 9 (0, 0)) ∧ cur.size = n ∧ (∀ j, j < k → cur[j]? = some (.string ((fun k => colS (C k).s (C k).t) j))) ∧ Below w.heap.size w wr) (fun i _ => n - (intOf i).toNat)
  case atStart => exact ⟨0, _, by omega, rfl, heap_alloc_new _ _, by rw [made_size], fun j hj => by omega, bal _ _⟩
  case round =>
    obtain ⟨k, cur, hk, rfl, hG, hsz, hall, hb⟩ := hrel
    have HG : Hid (wr.heap[w.heap.size]? = some (.cells cur 9 (0, 0))) := hG
    have HA : Hid (∀ j, j < k → cur[j]? = some (.string ((fun k => colS (C k).s (C k).t) j))) := hall
    clear hG hall
    by_cases hlt : k < n
    · obtain ⟨b, off, rfl, d0, d1, hs⟩ := h.later hb k hlt
      obtain ⟨v0, hv0⟩ := there (A := cur) (k := k) (by omega)
      have hlw := (Array.getElem?_eq_some_iff.1 HG.out).1
      go_wp2_with (go_at_call 48; refine (iCol _ _ _ hs).mono ?_; rintro e w1 ⟨rfl, hb1⟩; replace hb1 : Below wr.heap.size wr w1 := bstep (bal wr (.cells #[.string (C k).s, .int .i64 (C k).t] 49)) hb1; have HG1 : Hid (w1.heap[w.heap.size]? = some (.cells cur 9 (0, 0))) := (hb1.block _ hlw).trans HG.out; have e0 : w1.cell? ⟨w.heap.size, k, none⟩ = some v0 := (cell_of_row w1 _ _ _ _ _ HG1.out).trans hv0; have f0 : w1.frozen? ⟨w.heap.size, k, none⟩ = false := frozen_of_row w1 _ _ _ _ HG1.out)
      go_roundw
      case rel =>
        refine ⟨k + 1, cur.setIfInBounds k (.string (colS (C k).s (C k).t)), by omega, by go_num, heap_setCell_same _ _ _ _ _ _ HG1.out, by simpa using hsz, fun j hj => ?_, bset (bstep hb hb1) (Nat.le_refl _)⟩
        by_cases e : j = k
        · subst e
          exact setS (by omega)
        · exact setA (HA.out j (by omega)) (by omega)
      case measure => simp [intOf]; omega
    · obtain rfl : k = n := by omega
      have hJ := iJoin w.heap.size k (fun k => colS (C k).s (C k).t) wr (fun j hj => (cell_of_row wr _ _ _ _ _ HG.out).trans (HA.out j hj)) ((Array.getElem?_eq_some_iff.1 HG.out).1) hn HZ.out
      go_wp2_with (go_at_call 104; refine hJ.mono ?_; rintro e w2 ⟨rfl, hb2⟩)
      go_ret
      exact ⟨rfl, bstep hb hb2⟩
set_option maxRecDepth 20000 in
set_option maxHeartbeats 4000000 in
theorem iListV (a : Option Addr) (n c : Nat) (V : Nat → Itm) (w : World) (hP : PL w) (h : IL w a n V) (hr : ∀ k, k < n → rng (V k).m) (hn : n ≤ 1000) (hz : ∀ k, k < n → (valS (V k).o (V k).m (V k).s).size ≤ 1000000) :
    Calls Tryz.prog 49 #[.slice a n c, .func (.func 50) #[] #[]] w fun e w' => e = .returned (.string (cm (fun k => valS (V k).o (V k).m (V k).s) n)) ∧ Below w.heap.size w w' := by
  have hmk := make_any (t := 71) Tryz.underlying71 Tryz.infoStr n (by omega) (by omega)
  have HZ : Hid (∀ k, k < n → (valS (V k).o (V k).m (V k).s).size ≤ 1000000) := hz
  clear hz
  go_enter Tryz.func49, Tryz.ntmps49
  go_wp2
  clear hmk
  go_loopw [13] (fun i wr => ∃ (k : Nat) (cur : Array Value), k ≤ n ∧ i = .int .i64 k ∧ wr.heap[w.heap.size]? = some (.cells cur 9 (0, 0)) ∧ cur.size = n ∧ (∀ j, j < k → cur[j]? = some (.string ((fun k => valS (V k).o (V k).m (V k).s) j))) ∧ Below w.heap.size w wr) (fun i _ => n - (intOf i).toNat)
  case atStart => exact ⟨0, _, by omega, rfl, heap_alloc_new _ _, by rw [made_size], fun j hj => by omega, bal _ _⟩
  case round =>
    obtain ⟨k, cur, hk, rfl, hG, hsz, hall, hb⟩ := hrel
    have HG : Hid (wr.heap[w.heap.size]? = some (.cells cur 9 (0, 0))) := hG
    have HA : Hid (∀ j, j < k → cur[j]? = some (.string ((fun k => valS (V k).o (V k).m (V k).s) j))) := hall
    clear hG hall
    by_cases hlt : k < n
    · obtain ⟨b, off, rfl, d0, d1, d2, hs⟩ := h.later hb k hlt
      have hrk := hr k hlt
      obtain ⟨v0, hv0⟩ := there (A := cur) (k := k) (by omega)
      have hlw := (Array.getElem?_eq_some_iff.1 HG.out).1
      go_wp2_with (go_at_call 50; refine (iShow _ _ _ _ (hP.later (bstep hb (bal wr (.cells #[.int .i64 (V k).o, .int .i64 (V k).m, .string (V k).s] 51)))) hrk hs).mono ?_; rintro e w1 ⟨rfl, hb1⟩; replace hb1 : Below wr.heap.size wr w1 := bstep (bal wr (.cells #[.int .i64 (V k).o, .int .i64 (V k).m, .string (V k).s] 51)) hb1; have HG1 : Hid (w1.heap[w.heap.size]? = some (.cells cur 9 (0, 0))) := (hb1.block _ hlw).trans HG.out; have e0 : w1.cell? ⟨w.heap.size, k, none⟩ = some v0 := (cell_of_row w1 _ _ _ _ _ HG1.out).trans hv0; have f0 : w1.frozen? ⟨w.heap.size, k, none⟩ = false := frozen_of_row w1 _ _ _ _ HG1.out)
      go_roundw
      case rel =>
        refine ⟨k + 1, cur.setIfInBounds k (.string (valS (V k).o (V k).m (V k).s)), by omega, by go_num, heap_setCell_same _ _ _ _ _ _ HG1.out, by simpa using hsz, fun j hj => ?_, bset (bstep hb hb1) (Nat.le_refl _)⟩
        by_cases e : j = k
        · subst e
          exact setS (by omega)
        · exact setA (HA.out j (by omega)) (by omega)
      case measure => simp [intOf]; omega
    · obtain rfl : k = n := by omega
      have hJ := iJoin w.heap.size k (fun k => valS (V k).o (V k).m (V k).s) wr (fun j hj => (cell_of_row wr _ _ _ _ _ HG.out).trans (HA.out j hj)) ((Array.getElem?_eq_some_iff.1 HG.out).1) hn HZ.out
      go_wp2_with (go_at_call 104; refine hJ.mono ?_; rintro e w2 ⟨rfl, hb2⟩)
      go_ret
      exact ⟨rfl, bstep hb hb2⟩
set_option maxRecDepth 20000 in
set_option maxHeartbeats 4000000 in
theorem iListO (a : Option Addr) (n c : Nat) (m : Nat → Nat) (O : Nat → Nat → Itm) (w : World) (hP : PL w) (h : OL w a n m O) (hok : ∀ k, k < n → okExp (O k) (m k) = true) (hr : ∀ k, k < n → ∀ j, j < m k → rng (O k j).m) (hn : n ≤ 1000) (hz : ∀ k, k < n → (exS (O k) (m k)).size ≤ 1000000) :
    Calls Tryz.prog 53 #[.slice a n c, .func (.func 51) #[] #[]] w fun e w' => e = .returned (.string (cm (fun k => exS (O k) (m k)) n)) ∧ Below w.heap.size w w' := by
  have hmk := make_any (t := 71) Tryz.underlying71 Tryz.infoStr n (by omega) (by omega)
  have HZ : Hid (∀ k, k < n → (exS (O k) (m k)).size ≤ 1000000) := hz
  clear hz
  go_enter Tryz.func53, Tryz.ntmps53
  go_wp2
  clear hmk
  go_loopw [13] (fun i wr => ∃ (k : Nat) (cur : Array Value), k ≤ n ∧ i = .int .i64 k ∧ wr.heap[w.heap.size]? = some (.cells cur 9 (0, 0)) ∧ cur.size = n ∧ (∀ j, j < k → cur[j]? = some (.string ((fun k => exS (O k) (m k)) j))) ∧ Below w.heap.size w wr) (fun i _ => n - (intOf i).toNat)
  case atStart => exact ⟨0, _, by omega, rfl, heap_alloc_new _ _, by rw [made_size], fun j hj => by omega, bal _ _⟩
  case round =>
    obtain ⟨k, cur, hk, rfl, hG, hsz, hall, hb⟩ := hrel
    have HG : Hid (wr.heap[w.heap.size]? = some (.cells cur 9 (0, 0))) := hG
    have HA : Hid (∀ j, j < k → cur[j]? = some (.string ((fun k => exS (O k) (m k)) j))) := hall
    clear hG hall
    by_cases hlt : k < n
    · obtain ⟨b, off, i, c1, rfl, d0, di, dm⟩ := h.later hb k hlt
      have hok1 := hok k hlt
      have HR1 : Hid (∀ j, j < m k → rng (O k j).m) := hr k hlt
      obtain ⟨v0, hv0⟩ := there (A := cur) (k := k) (by omega)
      have hlw := (Array.getElem?_eq_some_iff.1 HG.out).1
      go_wp2_with (go_at_call 51; refine (iItems _ _ _ _ _ (hP.later hb) di dm hok1 HR1.out).mono ?_; rintro e w1 ⟨rfl, hb1⟩; replace hb1 : Below wr.heap.size wr w1 := hb1; have HG1 : Hid (w1.heap[w.heap.size]? = some (.cells cur 9 (0, 0))) := (hb1.block _ hlw).trans HG.out; have e0 : w1.cell? ⟨w.heap.size, k, none⟩ = some v0 := (cell_of_row w1 _ _ _ _ _ HG1.out).trans hv0; have f0 : w1.frozen? ⟨w.heap.size, k, none⟩ = false := frozen_of_row w1 _ _ _ _ HG1.out)
      go_roundw
      case rel =>
        refine ⟨k + 1, cur.setIfInBounds k (.string (exS (O k) (m k))), by omega, by go_num, heap_setCell_same _ _ _ _ _ _ HG1.out, by simpa using hsz, fun j hj => ?_, bset (bstep hb hb1) (Nat.le_refl _)⟩
        by_cases e : j = k
        · subst e
          exact setS (by omega)
        · exact setA (HA.out j (by omega)) (by omega)
      case measure => simp [intOf]; omega
    · obtain rfl : k = n := by omega
      have hJ := iJoin w.heap.size k (fun k => exS (O k) (m k)) wr (fun j hj => (cell_of_row wr _ _ _ _ _ HG.out).trans (HA.out j hj)) ((Array.getElem?_eq_some_iff.1 HG.out).1) hn HZ.out
      go_wp2_with (go_at_call 104; refine hJ.mono ?_; rintro e w2 ⟨rfl, hb2⟩)
      go_ret
      exact ⟨rfl, bstep hb hb2⟩
end Go.Proofs.YtnbgdfhfmbgbhaaGreatDoor
