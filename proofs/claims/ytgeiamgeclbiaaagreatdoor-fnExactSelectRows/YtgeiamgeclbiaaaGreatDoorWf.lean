/-
  The law's marks in the copies of a database and a statement.
-/
import Derived.Test.YtgeiamgeclbiaaaGreatDoorWc
namespace Go.Proofs.YtgeiamgeclbiaaaGreatDoor
open Go.RowKit Go.Maps Go.WideMaps
theorem Dj.symm {a a' : Option Addr} {n n' : Nat} (h : Dj a n a' n') : Dj a' n' a n := by
  unfold Dj at *
  rcases h with h | h
  · cases e : bk a' n' with
    | none => exact Or.inl rfl
    | some x => rw [h]; exact Or.inr (by simp)
  · exact Or.inr (fun e => h e.symm)
/-- The sum of the first lengths. -/
def sm (M : Nat → Nat) : Nat → Nat
  | 0 => 0
  | k + 1 => sm M k + M k
theorem sm_succ (M : Nat → Nat) (k : Nat) : sm M (k + 1) = sm M k + M k := rfl
theorem sm_le (M : Nat → Nat) {k : Nat} : ∀ {n : Nat}, k ≤ n → sm M k ≤ sm M n
  | 0, h => by obtain rfl : k = 0 := by omega
               exact Nat.le_refl _
  | n + 1, h => by
    by_cases e : k = n + 1
    · subst e; exact Nat.le_refl _
    · have := sm_le M (k := k) (n := n) (by omega)
      rw [sm_succ]
      omega
theorem markVlA (lo hi : Nat) (a : Option Addr) (n c z : Nat) (Z : Int) (hZ : Z = (z : Int)) (w : World) (h : WR w lo hi 66 3 a n) (hz0 : 0 < z) (hz : z + 3 * n < 9000000000000000000) :
    Calls Tryz.prog 46 #[.slice a n c, .int .i64 Z] w fun e w' => ∃ K : Int, e = .returned (.int .i64 K) ∧ Hid (K = ((z + 3 * n : Nat) : Int)) ∧ M3 w' 66 a n z ∧ w.grownBy w' (bk a n) := by
  subst hZ
  refine (markVl lo hi a n c z w h hz0 hz).mono ?_
  rintro e w' ⟨rfl, h1, h2⟩
  exact ⟨_, rfl, rfl, h1, h2⟩
theorem heldVlA (a : Option Addr) (n c z : Nat) (Z : Int) (hZ : Z = (z : Int)) (w : World) (h : M3 w 66 a n z) (hz0 : 0 < z) (hz : z + 3 * n < 9000000000000000000) :
    Calls Tryz.prog 49 #[.slice a n c, .int .i64 Z] w fun e w' => ∃ K : Int, e = .returned (.int .i64 K) ∧ Hid (K = ((z + 3 * n : Nat) : Int)) ∧ Below w.heap.size w w' := by
  subst hZ
  refine (heldVl a n c z w h hz0 hz).mono ?_
  rintro e w' ⟨rfl, h1⟩
  exact ⟨_, rfl, rfl, h1⟩
/-- Only the blocks of these lists have turned. -/
structure OutG (n : Nat) (A : Nat → Option Addr) (M : Nat → Nat) (w w' : World) : Prop where
  os : w'.os = w.os
  tape : w'.tape = w.tape
  output : w'.output = w.output
  size : w.heap.size ≤ w'.heap.size
  block : ∀ b, b < w.heap.size → (∀ i, i < n → bk (A i) (M i) ≠ some b) → w'.heap[b]? = w.heap[b]?
theorem OutG.refl (n : Nat) (A : Nat → Option Addr) (M : Nat → Nat) (w : World) : OutG n A M w w := ⟨rfl, rfl, rfl, Nat.le_refl _, fun _ _ _ => rfl⟩
theorem OutG.step {n : Nat} {A : Nat → Option Addr} {M : Nat → Nat} {w a b : World} (h : OutG n A M w a) {j : Nat} (hj : j < n) (g : a.grownBy b (bk (A j) (M j))) : OutG n A M w b :=
  ⟨g.os.trans h.os, g.tape.trans h.tape, g.output.trans h.output, Nat.le_trans h.size g.size, fun k hk hn => (g.block k (Nat.lt_of_lt_of_le hk h.size) (fun e => hn j hj e.symm)).trans (h.block k hk hn)⟩
theorem OutG.row {n : Nat} {A : Nat → Option Addr} {M : Nat → Nat} {w w' : World} (h : OutG n A M w w') {q : Nat} {o : Obj} (hq : w.heap[q]? = some o) (hn : ∀ i, i < n → bk (A i) (M i) ≠ some q) : w'.heap[q]? = some o :=
  (h.block q (Array.getElem?_eq_some_iff.1 hq).1 hn).trans hq
set_option maxRecDepth 20000 in
set_option maxHeartbeats 8000000 in
set_option maxRecDepth 20000 in
set_option maxHeartbeats 8000000 in
theorem markVss (lo hi g n c z : Nat) (Z : Int) (hZ : Z = (z : Int)) (cur : Array Value) (A : Nat → Option Addr) (C M : Nat → Nat) (w : World) (hrow : w.heap[g]? = some (.cells cur 41 (0, 0))) (hat : ∀ i, i < n → cur[i]? = some (.slice (A i) (M i) (C i))) (hw : ∀ i, i < n → WR w lo hi 66 3 (A i) (M i)) (hji : ∀ i, i < n → bk (A i) (M i) ≠ some g) (hjik : ∀ i k, k < i → i < n → Dj (A i) (M i) (A k) (M k)) (hz0 : 0 < z) (hz : z + 3 * sm M n < 9000000000000000000) (hn : n ≤ 1048576) :
    Calls Tryz.prog 16 #[.slice (some ⟨g, 0, none⟩) n c, .int .i64 Z] w fun e w' => ∃ K : Int, e = .returned (.int .i64 K) ∧ Hid (K = ((z + 3 * sm M n : Nat) : Int)) ∧ w'.heap[g]? = some (.cells cur 41 (0, 0)) ∧ (∀ i, i < n → M3 w' 66 (A i) (M i) (z + 3 * sm M i)) ∧ OutG n A M w w' := by
  go_enter Tryz.func16, Tryz.ntmps16
  go_wp2
  go_loopw [1, 5] (fun k i wr => ∃ (j : Nat) (K : Int), k = .int .i64 K ∧ K = ((z + 3 * sm M j : Nat) : Int) ∧ j ≤ n ∧ i = .int .i64 j ∧ wr.heap[g]? = some (.cells cur 41 (0, 0)) ∧ (∀ i, i < j → M3 wr 66 (A i) (M i) (z + 3 * sm M i)) ∧ (∀ i, j ≤ i → i < n → WR wr lo hi 66 3 (A i) (M i)) ∧ OutG n A M w wr) (fun _ i _ => n - (intOf i).toNat)
  case atStart => exact ⟨0, _, rfl, hZ, by omega, rfl, hrow, fun i hi => by omega, fun i _ hi => hw i hi, OutG.refl _ _ _ _⟩
  case round =>
    obtain ⟨j, K, rfl, hK, hj, rfl, hg, hM, hW, hG⟩ := hrel
    have HK : Hid (K = ((z + 3 * sm M j : Nat) : Int)) := hK
    have HM : Hid (∀ i, i < j → M3 wr 66 (A i) (M i) (z + 3 * sm M i)) := hM
    have HW : Hid (∀ i, j ≤ i → i < n → WR wr lo hi 66 3 (A i) (M i)) := hW
    have HG : Hid (wr.heap[g]? = some (.cells cur 41 (0, 0))) := hg
    by_cases hlt : j < n
    · have hjn : (j : Int) < n := by omega
      have c0 : wr.cell? ⟨g, j, none⟩ = some (.slice (A j) (M j) (C j)) := (cell_of_row _ _ _ _ _ _ hg).trans (hat j hlt)
      have hs1 := sm_le M (k := j + 1) (n := n) hlt
      rw [sm_succ] at hs1
      have hC := markVlA lo hi (A j) (M j) (C j) (z + 3 * sm M j) K hK wr (hW j (Nat.le_refl _) hlt) (by omega) (by omega)
      clear hK hM hW hg
      go_wp2_with (go_at_call 46; refine hC.mono ?_; rintro e w2 ⟨K2, rfl, HK2, hM2, hg2⟩)
      go_roundw
      case rel =>
        refine ⟨j + 1, K2, rfl, ?_, by omega, by go_num, rowG' HG.out hg2 (fun e => hji j hlt e.symm), fun i hi => ?_, fun i h1 h2 => (HW.out i (by omega) h2).gr hg2 (hjik i j (by omega) h2), hG.step hlt hg2⟩
        · rw [HK2.out, sm_succ]; omega
        · by_cases e : i = j
          · subst e; exact hM2
          · exact (HM.out i (by omega)).gr hg2 (hjik j i (by omega) hlt).symm
      case measure => simp [intOf]; omega
    · obtain rfl : j = n := by omega
      clear hK hM hW hg
      go_wp2
      go_ret
      exact ⟨K, rfl, HK, HG.out, HM.out, hG⟩
set_option maxRecDepth 20000 in
set_option maxHeartbeats 8000000 in
theorem markVss0 (a : Option Addr) (c : Nat) (Z : Int) (w : World) : Calls Tryz.prog 16 #[.slice a 0 c, .int .i64 Z] w fun e w' => e = .returned (.int .i64 Z) ∧ w' = w := by
  go_enter Tryz.func16, Tryz.ntmps16
  go_wp2
  go_loop [1, 5] (fun k i => k = .int .i64 Z ∧ i = .int .i64 0) (fun _ _ => 0)
  case atStart => exact ⟨rfl, rfl⟩
  case round =>
    obtain ⟨rfl, rfl⟩ := hrel
    go_wp2
    go_ret
    exact ⟨rfl, rfl⟩
set_option maxRecDepth 20000 in
set_option maxHeartbeats 8000000 in
theorem heldVss0 (a : Option Addr) (c : Nat) (Z : Int) (w : World) : Calls Tryz.prog 17 #[.slice a 0 c, .int .i64 Z] w fun e w' => e = .returned (.int .i64 Z) ∧ w' = w := by
  go_enter Tryz.func17, Tryz.ntmps17
  go_wp2
  go_loop [1, 5] (fun k i => k = .int .i64 Z ∧ i = .int .i64 0) (fun _ _ => 0)
  case atStart => exact ⟨rfl, rfl⟩
  case round =>
    obtain ⟨rfl, rfl⟩ := hrel
    go_wp2
    go_ret
    exact ⟨rfl, rfl⟩
set_option maxRecDepth 20000 in
set_option maxHeartbeats 8000000 in
theorem heldVss (g n c z : Nat) (Z : Int) (hZ : Z = (z : Int)) (cur : Array Value) (A : Nat → Option Addr) (C M : Nat → Nat) (w : World) (hrow : w.heap[g]? = some (.cells cur 41 (0, 0))) (hat : ∀ i, i < n → cur[i]? = some (.slice (A i) (M i) (C i))) (hM : ∀ i, i < n → M3 w 66 (A i) (M i) (z + 3 * sm M i)) (hz0 : 0 < z) (hz : z + 3 * sm M n < 9000000000000000000) (hn : n ≤ 1048576) :
    Calls Tryz.prog 17 #[.slice (some ⟨g, 0, none⟩) n c, .int .i64 Z] w fun e w' => ∃ K : Int, e = .returned (.int .i64 K) ∧ Hid (K = ((z + 3 * sm M n : Nat) : Int)) ∧ Below w.heap.size w w' := by
  have hb0 := Below.refl w.heap.size w
  have HM : Hid (∀ i, i < n → M3 w 66 (A i) (M i) (z + 3 * sm M i)) := hM
  have HG : Hid (w.heap[g]? = some (.cells cur 41 (0, 0))) := hrow
  clear hM hrow
  go_enter Tryz.func17, Tryz.ntmps17
  go_wp2
  go_loopw [1, 5] (fun k i wr => ∃ (j : Nat) (K : Int), k = .int .i64 K ∧ K = ((z + 3 * sm M j : Nat) : Int) ∧ j ≤ n ∧ i = .int .i64 j ∧ Below w.heap.size w wr) (fun _ i _ => n - (intOf i).toNat)
  case atStart => exact ⟨0, _, rfl, hZ, by omega, rfl, hb0⟩
  case round =>
    obtain ⟨j, K, rfl, hK, hj, rfl, hb⟩ := hrel
    have HK : Hid (K = ((z + 3 * sm M j : Nat) : Int)) := hK
    by_cases hlt : j < n
    · have hjn : (j : Int) < n := by omega
      have c0 : wr.cell? ⟨g, j, none⟩ = some (.slice (A j) (M j) (C j)) := (cell_of_row _ _ _ _ _ _ (rowL HG.out hb)).trans (hat j hlt)
      have hs1 := sm_le M (k := j + 1) (n := n) hlt
      rw [sm_succ] at hs1
      have hC := heldVlA (A j) (M j) (C j) (z + 3 * sm M j) K hK wr ((HM.out j hlt).later hb) (by omega) (by omega)
      clear hK
      go_wp2_with (go_at_call 49; refine hC.mono ?_; rintro e w2 ⟨K2, rfl, HK2, hb2⟩; have hK2 : 0 ≤ K2 := (by rw [HK2.out]; omega))
      go_roundw
      case rel =>
        refine ⟨j + 1, K2, rfl, ?_, by omega, by go_num, bstep hb hb2⟩
        rw [HK2.out, sm_succ]; omega
      case measure => simp [intOf]; omega
    · obtain rfl : j = n := by omega
      clear hK
      go_wp2
      go_ret
      exact ⟨K, rfl, HK, hb⟩
end Go.Proofs.YtgeiamgeclbiaaaGreatDoor
namespace Go.Proofs.YtgeiamgeclbiaaaGreatDoor
open Go.RowKit Go.Maps Go.WideMaps
theorem WR.ne {w : World} {lo hi : Nat} {t : TypeId} {z : Nat} {a : Option Addr} {n Q : Nat} (h : WR w lo hi t z a n) (hQ : Q < lo ∨ hi ≤ Q) : some Q ≠ bk a n := by
  rcases h with rfl | ⟨g, cur, rfl, h2, h3, -⟩
  · rw [bk_zero]; simp
  · by_cases e : n = 0
    · subst e; rw [bk_zero]; simp
    · rw [bk_some e]
      intro e2
      have e3 : Q = g := Option.some.inj e2
      omega
/-- Which cells of a block marks may turn. -/
def soft (t : TypeId) (i : Nat) : Prop := t = 113 ∨ t = 66 ∨ t = 108 ∨ (t = 62 ∧ i % 3 = 0)
/-- Marks have been laid, in blocks between two marks of the heap. -/
structure Mk (lo hi : Nat) (w w' : World) : Prop where
  os : w'.os = w.os
  tape : w'.tape = w.tape
  output : w'.output = w.output
  size : w.heap.size ≤ w'.heap.size
  out : ∀ b : Nat, b < w.heap.size → b < lo ∨ hi ≤ b → w'.heap[b]? = w.heap[b]?
  ins : ∀ (b : Nat) (cur : Array Value) (t : TypeId), w.heap[b]? = some (.cells cur t (0, 0)) → ∃ cur' : Array Value, w'.heap[b]? = some (.cells cur' t (0, 0)) ∧ cur'.size = cur.size ∧ ∀ i, ¬ soft t i → cur'[i]? = cur[i]?
theorem Mk.refl (lo hi : Nat) (w : World) : Mk lo hi w w := ⟨rfl, rfl, rfl, Nat.le_refl _, fun _ _ _ => rfl, fun _ cur _ h => ⟨cur, h, rfl, fun _ _ => rfl⟩⟩
theorem Mk.below {lo hi : Nat} {w w' : World} (h : Below w.heap.size w w') : Mk lo hi w w' := ⟨h.os, h.tape, h.output, h.size, fun b hb _ => h.block b hb, fun _ cur _ hc => ⟨cur, rowL hc h, rfl, fun _ _ => rfl⟩⟩
theorem Mk.trans {lo hi : Nat} {a b c : World} (h : Mk lo hi a b) (k : Mk lo hi b c) : Mk lo hi a c :=
  ⟨k.os.trans h.os, k.tape.trans h.tape, k.output.trans h.output, Nat.le_trans h.size k.size, fun x hx hn => (k.out x (Nat.lt_of_lt_of_le hx h.size) hn).trans (h.out x hx hn), fun x cur t hc => by
    obtain ⟨c1, h1, h2, h3⟩ := h.ins x cur t hc
    obtain ⟨c2, k1, k2, k3⟩ := k.ins x c1 t h1
    exact ⟨c2, k1, k2.trans h2, fun i hi => (k3 i hi).trans (h3 i hi)⟩⟩
theorem Mk.grown {lo hi g : Nat} {w w' : World} {cur cur' : Array Value} {t : TypeId} (hg : w.grownBy w' (some g)) (h1 : w.heap[g]? = some (.cells cur t (0, 0))) (h2 : w'.heap[g]? = some (.cells cur' t (0, 0))) (hs : cur'.size = cur.size) (ha : lo ≤ g) (hb : g < hi) (ht : ∀ i, soft t i) : Mk lo hi w w' :=
  ⟨hg.os, hg.tape, hg.output, hg.size, fun x hx hn => hg.block x hx (fun e => by have e2 : x = g := Option.some.inj e; omega), fun x c u hc => by
    by_cases e : x = g
    · subst e
      rw [h1] at hc
      simp only [Option.some.injEq, Obj.cells.injEq] at hc
      obtain ⟨rfl, rfl, -⟩ := hc
      exact ⟨cur', h2, hs, fun i hi => absurd (ht i) hi⟩
    · exact ⟨c, rowR hc hg (fun e2 => e (Option.some.inj e2)), rfl, fun _ _ => rfl⟩⟩
theorem Mk.row {lo hi : Nat} {w w' : World} (h : Mk lo hi w w') {q : Nat} {o : Obj} (hq : w.heap[q]? = some o) (hn : q < lo ∨ hi ≤ q) : w'.heap[q]? = some o := (h.out q (Array.getElem?_eq_some_iff.1 hq).1 hn).trans hq
theorem WR.mk {w w' : World} {lo hi : Nat} {t : TypeId} {z : Nat} {a : Option Addr} {n : Nat} (h : WR w lo hi t z a n) (k : Mk lo hi w w') : WR w' lo hi t z a n := by
  rcases h with h | ⟨g, cur, e1, e2, e3, e4, e5⟩
  · exact Or.inl h
  · obtain ⟨c, k1, k2, -⟩ := k.ins g cur t e4
    exact Or.inr ⟨g, c, e1, e2, e3, k1, by omega⟩
/-- A list of lists. -/
def SR (w : World) (lo hi : Nat) (u t : TypeId) (g n : Nat) (m : Nat → Nat) : Prop := lo ≤ g ∧ g < hi ∧ ∃ cur, w.heap[g]? = some (.cells cur u (0, 0)) ∧ ∀ k, k < n → m k ≤ 1048576 ∧ ∃ q, cur[k]? = some (.slice (some ⟨q, 0, none⟩) (m k) (m k)) ∧ WR w lo hi t 3 (some ⟨q, 0, none⟩) (m k)
theorem SR.mk {w w' : World} {lo hi : Nat} {u t : TypeId} {g n : Nat} {m : Nat → Nat} (h : SR w lo hi u t g n m) (k : Mk lo hi w w') (hu : ∀ i, ¬ soft u i) : SR w' lo hi u t g n m := by
  obtain ⟨h1, h2, cur, h3, h4⟩ := h
  obtain ⟨c, k1, k2, k3⟩ := k.ins g cur u h3
  refine ⟨h1, h2, c, k1, fun j hj => ?_⟩
  obtain ⟨hm, q, e1, e2⟩ := h4 j hj
  exact ⟨hm, q, (k3 j (hu j)).trans e1, e2.mk k⟩
/-- Tables. -/
def STb (w : World) (lo hi : Nat) (g n : Nat) (T : Nat → Td) : Prop := lo ≤ g ∧ g < hi ∧ ∃ cur, w.heap[g]? = some (.cells cur 62 (0, 0)) ∧ n * 3 ≤ cur.size ∧ ∀ k, k < n → (T k).n ≤ 1048576 ∧ (T k).r ≤ 1048576 ∧ ∃ g1 g2, cur[k * 3 + 1]? = some (.slice (some ⟨g1, 0, none⟩) (T k).n (T k).n) ∧ cur[k * 3 + 2]? = some (.slice (some ⟨g2, 0, none⟩) (T k).r (T k).r) ∧ WR w lo hi 113 2 (some ⟨g1, 0, none⟩) (T k).n ∧ SR w lo hi 41 66 g2 (T k).r (T k).m
theorem hardV : ∀ i, ¬ soft 41 i := fun i h => by rcases h with h | h | h | ⟨h, -⟩ <;> exact absurd h (by decide)
theorem hardI : ∀ i, ¬ soft 42 i := fun i h => by rcases h with h | h | h | ⟨h, -⟩ <;> exact absurd h (by decide)
theorem STb.mk {w w' : World} {lo hi : Nat} {g n : Nat} {T : Nat → Td} (h : STb w lo hi g n T) (k : Mk lo hi w w') : STb w' lo hi g n T := by
  obtain ⟨h1, h2, cur, h3, h4, h5⟩ := h
  obtain ⟨c, k1, k2, k3⟩ := k.ins g cur _ h3
  refine ⟨h1, h2, c, k1, by omega, fun j hj => ?_⟩
  obtain ⟨e1, e2, g1, g2, e3, e4, e5, e6⟩ := h5 j hj
  exact ⟨e1, e2, g1, g2, (k3 _ (fun h => by rcases h with h | h | h | ⟨-, h⟩ <;> first | omega | exact absurd h (by decide))).trans e3, (k3 _ (fun h => by rcases h with h | h | h | ⟨-, h⟩ <;> first | omega | exact absurd h (by decide))).trans e4, e5.mk k, e6.mk k hardV⟩
theorem softColumn : ∀ i, soft 113 i := fun i => by unfold soft; simp
theorem mkCl (lo hi : Nat) (a : Option Addr) (n c z : Nat) (Z : Int) (hZ : Z = (z : Int)) (w : World) (h : WR w lo hi 113 2 a n) (hz0 : 0 < z) (hz : z + 2 * n < 9000000000000000000) :
    Calls Tryz.prog 45 #[.slice a n c, .int .i64 Z] w fun e w' => ∃ K : Int, e = .returned (.int .i64 K) ∧ Hid (K = ((z + 2 * n : Nat) : Int)) ∧ Mk lo hi w w' := by
  subst hZ
  by_cases e : n = 0
  · subst e
    refine (markCl_zero a c z w).mono ?_
    rintro e w' ⟨rfl, rfl⟩
    exact ⟨_, rfl, (show _ = _ by simp), Mk.refl _ _ _⟩
  · rcases h with h | ⟨g, cur, rfl, h2, h3, h4, h5⟩
    · exact absurd h e
    · refine (markCl_some g n c z cur w h4 h5 hz0 hz).mono ?_
      rintro e' w' ⟨rfl, ⟨cur', k1, ks, k2⟩, k3⟩
      exact ⟨_, rfl, rfl, Mk.grown k3 h4 k1 ks h2 h3 softColumn⟩
theorem softValue : ∀ i, soft 66 i := fun i => by unfold soft; simp
theorem mkVl (lo hi : Nat) (a : Option Addr) (n c z : Nat) (Z : Int) (hZ : Z = (z : Int)) (w : World) (h : WR w lo hi 66 3 a n) (hz0 : 0 < z) (hz : z + 3 * n < 9000000000000000000) :
    Calls Tryz.prog 46 #[.slice a n c, .int .i64 Z] w fun e w' => ∃ K : Int, e = .returned (.int .i64 K) ∧ Hid (K = ((z + 3 * n : Nat) : Int)) ∧ Mk lo hi w w' := by
  subst hZ
  by_cases e : n = 0
  · subst e
    refine (markVl_zero a c z w).mono ?_
    rintro e w' ⟨rfl, rfl⟩
    exact ⟨_, rfl, (show _ = _ by simp), Mk.refl _ _ _⟩
  · rcases h with h | ⟨g, cur, rfl, h2, h3, h4, h5⟩
    · exact absurd h e
    · refine (markVl_some g n c z cur w h4 h5 hz0 hz).mono ?_
      rintro e' w' ⟨rfl, ⟨cur', k1, ks, k2⟩, k3⟩
      exact ⟨_, rfl, rfl, Mk.grown k3 h4 k1 ks h2 h3 softValue⟩
theorem softItem : ∀ i, soft 108 i := fun i => by unfold soft; simp
theorem mkIt (lo hi : Nat) (a : Option Addr) (n c z : Nat) (Z : Int) (hZ : Z = (z : Int)) (w : World) (h : WR w lo hi 108 3 a n) (hz0 : 0 < z) (hz : z + 3 * n < 9000000000000000000) :
    Calls Tryz.prog 47 #[.slice a n c, .int .i64 Z] w fun e w' => ∃ K : Int, e = .returned (.int .i64 K) ∧ Hid (K = ((z + 3 * n : Nat) : Int)) ∧ Mk lo hi w w' := by
  subst hZ
  by_cases e : n = 0
  · subst e
    refine (markIt_zero a c z w).mono ?_
    rintro e w' ⟨rfl, rfl⟩
    exact ⟨_, rfl, (show _ = _ by simp), Mk.refl _ _ _⟩
  · rcases h with h | ⟨g, cur, rfl, h2, h3, h4, h5⟩
    · exact absurd h e
    · refine (markIt_some g n c z cur w h4 h5 hz0 hz).mono ?_
      rintro e' w' ⟨rfl, ⟨cur', k1, ks, k2⟩, k3⟩
      exact ⟨_, rfl, rfl, Mk.grown k3 h4 k1 ks h2 h3 softItem⟩
set_option maxRecDepth 20000 in
set_option maxHeartbeats 8000000 in
theorem mkRows (lo hi g n c z : Nat) (m : Nat → Nat) (Z : Int) (hZ : Z = (z : Int)) (w : World) (h : SR w lo hi 41 66 g n m) (hz0 : 0 < z) (hz : z + 3 * (n * 1048576) < 9000000000000000000) (hn : n ≤ 1048576) :
    Calls Tryz.prog 16 #[.slice (some ⟨g, 0, none⟩) n c, .int .i64 Z] w fun e w' => ∃ (K : Int) (k : Nat), e = .returned (.int .i64 K) ∧ Hid (K = (k : Int)) ∧ z ≤ k ∧ k ≤ z + 3 * (n * 1048576) ∧ Mk lo hi w w' := by
  go_enter Tryz.func16, Tryz.ntmps16
  go_wp2
  go_loopw [1, 5] (fun k i wr => ∃ (j y : Nat) (K : Int), k = .int .i64 K ∧ K = (y : Int) ∧ z ≤ y ∧ y ≤ z + 3 * (j * 1048576) ∧ j ≤ n ∧ i = .int .i64 j ∧ Mk lo hi w wr) (fun _ i _ => n - (intOf i).toNat)
  case atStart => exact ⟨0, z, Z, rfl, hZ, Nat.le_refl _, by omega, by omega, rfl, Mk.refl _ _ _⟩
  case round =>
    obtain ⟨j, y, K, rfl, hK, hy1, hy2, hj, rfl, hM⟩ := hrel
    have HK : Hid (K = (y : Int)) := hK
    have hK0 : 0 < K := by omega
    have hK1 : K < 9000000000000000000 := by
      have : j * 1048576 ≤ n * 1048576 := Nat.mul_le_mul_right _ hj
      omega
    clear hK
    by_cases hlt : j < n
    · obtain ⟨-, -, cur, hr, hall⟩ := h.mk hM hardV
      obtain ⟨hm, q, hq, hw⟩ := hall j hlt
      have c0 : wr.cell? ⟨g, j, none⟩ = some (.slice (some ⟨q, 0, none⟩) (m j) (m j)) := (cell_of_row _ _ _ _ _ _ hr).trans hq
      have hb1 : (j + 1) * 1048576 ≤ n * 1048576 := Nat.mul_le_mul_right _ hlt
      have HM := mkVl lo hi (some ⟨q, 0, none⟩) (m j) (m j) y K HK.out wr hw (by omega) (by omega)
      clear hr hall hq
      have hjn : (j : Int) < n := by omega
      go_wp2_with (go_at_call 46; refine HM.mono ?_; rintro e w1 ⟨K1, rfl, HK1, hM1⟩)
      go_roundw
      case rel => exact ⟨j + 1, y + 3 * m j, K1, rfl, HK1.out, by omega, by omega, by omega, by go_num, hM.trans hM1⟩
      case measure => simp [intOf]; omega
    · obtain rfl : j = n := by omega
      go_wp2
      go_ret
      exact ⟨K, y, rfl, HK, hy1, hy2, hM⟩
set_option maxRecDepth 20000 in
set_option maxHeartbeats 8000000 in
theorem mkOuts (lo hi g n c z : Nat) (m : Nat → Nat) (Z : Int) (hZ : Z = (z : Int)) (w : World) (h : SR w lo hi 42 108 g n m) (hz0 : 0 < z) (hz : z + 3 * (n * 1048576) < 9000000000000000000) (hn : n ≤ 1048576) :
    Calls Tryz.prog 48 #[.slice (some ⟨g, 0, none⟩) n c, .int .i64 Z] w fun e w' => ∃ (K : Int) (k : Nat), e = .returned (.int .i64 K) ∧ Hid (K = (k : Int)) ∧ z ≤ k ∧ k ≤ z + 3 * (n * 1048576) ∧ Mk lo hi w w' := by
  go_enter Tryz.func48, Tryz.ntmps48
  go_wp2
  go_loopw [1, 5] (fun k i wr => ∃ (j y : Nat) (K : Int), k = .int .i64 K ∧ K = (y : Int) ∧ z ≤ y ∧ y ≤ z + 3 * (j * 1048576) ∧ j ≤ n ∧ i = .int .i64 j ∧ Mk lo hi w wr) (fun _ i _ => n - (intOf i).toNat)
  case atStart => exact ⟨0, z, Z, rfl, hZ, Nat.le_refl _, by omega, by omega, rfl, Mk.refl _ _ _⟩
  case round =>
    obtain ⟨j, y, K, rfl, hK, hy1, hy2, hj, rfl, hM⟩ := hrel
    have HK : Hid (K = (y : Int)) := hK
    have hK0 : 0 < K := by omega
    have hK1 : K < 9000000000000000000 := by
      have : j * 1048576 ≤ n * 1048576 := Nat.mul_le_mul_right _ hj
      omega
    clear hK
    by_cases hlt : j < n
    · obtain ⟨-, -, cur, hr, hall⟩ := h.mk hM hardI
      obtain ⟨hm, q, hq, hw⟩ := hall j hlt
      have c0 : wr.cell? ⟨g, j, none⟩ = some (.slice (some ⟨q, 0, none⟩) (m j) (m j)) := (cell_of_row _ _ _ _ _ _ hr).trans hq
      have hb1 : (j + 1) * 1048576 ≤ n * 1048576 := Nat.mul_le_mul_right _ hlt
      have HM := mkIt lo hi (some ⟨q, 0, none⟩) (m j) (m j) y K HK.out wr hw (by omega) (by omega)
      clear hr hall hq
      have hjn : (j : Int) < n := by omega
      go_wp2_with (go_at_call 47; refine HM.mono ?_; rintro e w1 ⟨K1, rfl, HK1, hM1⟩)
      go_roundw
      case rel => exact ⟨j + 1, y + 3 * m j, K1, rfl, HK1.out, by omega, by omega, by omega, by go_num, hM.trans hM1⟩
      case measure => simp [intOf]; omega
    · obtain rfl : j = n := by omega
      go_wp2
      go_ret
      exact ⟨K, y, rfl, HK, hy1, hy2, hM⟩
end Go.Proofs.YtgeiamgeclbiaaaGreatDoor
namespace Go.Proofs.YtgeiamgeclbiaaaGreatDoor
open Go.RowKit Go.Maps Go.WideMaps
theorem Mk.set {lo hi g i : Nat} {w : World} {cur : Array Value} {v : Value} (hr : w.heap[g]? = some (.cells cur 62 (0, 0))) (h1 : lo ≤ g) (h2 : g < hi) (h3 : i % 3 = 0) : Mk lo hi w (w.setCell ⟨g, i, none⟩ v) :=
  ⟨rfl, rfl, rfl, by simp, fun x hx hn => heap_setCell_other _ _ _ _ (by show x ≠ g; omega), fun x c u hc => by
    by_cases e : x = g
    · subst e
      rw [hr] at hc
      simp only [Option.some.injEq, Obj.cells.injEq] at hc
      obtain ⟨rfl, rfl, -⟩ := hc
      refine ⟨_, heap_setCell_same _ _ _ _ _ _ hr, by simp, fun j hj => ?_⟩
      rw [Array.getElem?_setIfInBounds, if_neg (fun e => hj (by subst e; exact Or.inr (Or.inr (Or.inr ⟨rfl, h3⟩))))]
    · exact ⟨c, rowO hc e, rfl, fun _ _ => rfl⟩⟩
theorem Mk.cell {lo hi g i : Nat} {w w' : World} {cur : Array Value} (k : Mk lo hi w w') (hr : w.heap[g]? = some (.cells cur 62 (0, 0))) (h : ¬ i % 3 = 0) : w'.cell? ⟨g, i, none⟩ = cur[i]? := by
  obtain ⟨c, k1, -, k3⟩ := k.ins g cur _ hr
  exact (cell_of_row _ _ _ _ _ _ k1).trans (k3 i (fun h2 => by rcases h2 with h2 | h2 | h2 | ⟨-, h2⟩ <;> first | exact h h2 | exact absurd h2 (by decide)))
set_option maxRecDepth 20000 in
set_option maxHeartbeats 8000000 in
theorem mkTabs (lo hi g n c z : Nat) (T : Nat → Td) (Z : Int) (hZ : Z = (z : Int)) (w : World) (h : STb w lo hi g n T) (hz0 : 0 < z) (hz : z + n * 3298540000000 < 9000000000000000000) (hn : n ≤ 1048576) :
    Calls Tryz.prog 44 #[.slice (some ⟨g, 0, none⟩) n c, .int .i64 Z] w fun e w' => ∃ (K : Int) (k : Nat), e = .returned (.int .i64 K) ∧ Hid (K = (k : Int)) ∧ z ≤ k ∧ k ≤ z + n * 3298540000000 ∧ Mk lo hi w w' := by
  go_enter Tryz.func44, Tryz.ntmps44
  go_wp2
  go_loopw [1, 5] (fun k i wr => ∃ (j y : Nat) (K : Int), k = .int .i64 K ∧ K = (y : Int) ∧ z ≤ y ∧ y ≤ z + j * 3298540000000 ∧ j ≤ n ∧ i = .int .i64 j ∧ Mk lo hi w wr) (fun _ i _ => n - (intOf i).toNat)
  case atStart => exact ⟨0, z, Z, rfl, hZ, Nat.le_refl _, by omega, by omega, rfl, Mk.refl _ _ _⟩
  case round =>
    obtain ⟨j, y, K, rfl, hK, hy1, hy2, hj, rfl, hM⟩ := hrel
    have HK : Hid (K = (y : Int)) := hK
    have hK0 : 0 < K := by omega
    have hK1 : K < 9000000000000000000 := by omega
    clear hK
    by_cases hlt : j < n
    · obtain ⟨hlo, hhi, cur, hr, hcs, hall⟩ := h.mk hM
      obtain ⟨e1, e2, g1, g2, e3, e4, e5, e6⟩ := hall j hlt
      obtain ⟨tn, htn⟩ : ∃ x, (T j).n = x := ⟨_, rfl⟩
      obtain ⟨tr, htr⟩ : ∃ x, (T j).r = x := ⟨_, rfl⟩
      obtain ⟨tm, htm⟩ : ∃ x, (T j).m = x := ⟨_, rfl⟩
      rw [htn] at e1 e3 e5
      rw [htr] at e2 e4 e6
      rw [htm] at e6
      have HR : Hid (wr.heap[g]? = some (.cells cur 62 (0, 0)) ∧ cur[j * 3 + 1]? = some (.slice (some ⟨g1, 0, none⟩) tn tn) ∧ cur[j * 3 + 2]? = some (.slice (some ⟨g2, 0, none⟩) tr tr)) := ⟨hr, e3, e4⟩
      obtain ⟨v0, hv0⟩ := there (A := cur) (k := j * 3) (by omega)
      have HV0 : Hid (cur[j * 3]? = some v0) := hv0
      clear hr e3 e4 hall hv0 htn htr htm
      obtain ⟨y0, hy0⟩ : ∃ x, mtx y = x := ⟨_, rfl⟩
      have HY0 : Hid (mtx y = y0) := hy0
      clear hy0
      have hjn : (j : Int) < n := by omega
      go_upto_region 5 with (go_at_call 96; refine (markText_as y _ _ HK.out (by omega) (by omega) y0 HY0.out).mono ?_; rintro e u0 ⟨rfl, hb0⟩; have K0 : Hid (u0.heap[g]? = some (.cells cur 62 (0, 0))) := rowL HR.out.1 hb0; have c0 : u0.cell? ⟨g, j * 3, none⟩ = some v0 := (cell_of_row _ _ _ _ _ _ K0.out).trans HV0.out; have f0 : u0.frozen? ⟨g, j * 3, none⟩ = false := frozen_of_row _ _ _ _ _ K0.out)
      have hM0 : Mk lo hi wr (u0.setCell ⟨g, j * 3, none⟩ (.string y0)) := (Mk.below hb0).trans (Mk.set K0.out hlo hhi (by omega))
      clear c0 f0
      generalize u0.setCell ⟨g, j * 3, none⟩ (.string y0) = W0 at hM0 ⊢
      have c1 : W0.cell? ⟨g, j * 3 + 1, none⟩ = some (.slice (some ⟨g1, 0, none⟩) tn tn) := (hM0.cell HR.out.1 (by omega)).trans HR.out.2.1
      have HC := mkCl lo hi (some ⟨g1, 0, none⟩) tn tn (y + 1) (K + 1) (by have := HK.out; omega) W0 (e5.mk hM0) (by omega) (by omega)
      go_wp2_with (first | (go_at_call 16; have _h := hM2; refine (mkRows lo hi g2 tr tr (y + 1 + 2 * tn) tm K1 HK1.out _ (e6.mk hM2 hardV) (by omega) (by omega) e2).mono ?_; rintro e w3 ⟨K3, k3, rfl, HK3, hk1, hk2, hM3⟩) | (go_at_call 45; refine HC.mono ?_; rintro e w2 ⟨K1, rfl, HK1, hM1⟩; have hM2 := hM0.trans hM1; have c2 : w2.cell? ⟨g, j * 3 + 2, none⟩ = some (.slice (some ⟨g2, 0, none⟩) tr tr) := (hM2.cell HR.out.1 (by omega)).trans HR.out.2.2))
      go_roundw
      case rel => exact ⟨j + 1, k3, K3, rfl, HK3.out, by omega, by omega, by omega, by go_num, hM.trans (hM2.trans hM3)⟩
      case measure => simp [intOf]; omega
    · obtain rfl : j = n := by omega
      go_wp2
      go_ret
      exact ⟨K, y, rfl, HK, hy1, hy2, hM⟩
set_option maxRecDepth 20000 in
set_option maxHeartbeats 4000000 in
theorem mkDb (lo hi g n c z : Nat) (T : Nat → Td) (Z : Int) (hZ : Z = (z : Int)) (w : World) (h : STb w lo hi g n T) (hz0 : 0 < z) (hz : z + n * 3298540000000 < 9000000000000000000) (hn : n ≤ 1048576) :
    Calls Tryz.prog 14 #[.agg #[.slice (some ⟨g, 0, none⟩) n c], .int .i64 Z] w fun e w' => ∃ (K : Int) (k : Nat), e = .returned (.int .i64 K) ∧ Hid (K = (k : Int)) ∧ z ≤ k ∧ k ≤ z + n * 3298540000000 ∧ Mk lo hi w w' := by
  have hb0 := bal w (.cells #[.slice (some ⟨g, 0, none⟩) n c] 38)
  have hM0 := Mk.below (lo := lo) (hi := hi) hb0
  have HT := mkTabs lo hi g n c z T Z hZ _ (h.mk hM0) hz0 hz hn
  clear hZ h
  have c0 : (w.alloc (.cells #[.slice (some ⟨g, 0, none⟩) n c] 38)).cell? ⟨w.heap.size, 0, none⟩ = some (.slice (some ⟨g, 0, none⟩) n c) := (cell_of_row _ _ 0 _ _ _ (heap_alloc_new w _)).trans rfl
  generalize hW : w.alloc (.cells #[.slice (some ⟨g, 0, none⟩) n c] 38) = W at HT hM0 c0
  subst hW
  go_enter Tryz.func14, Tryz.ntmps14
  go_wp2_with (go_at_call 44; refine HT.mono ?_; rintro e w1 ⟨K, k, rfl, HK, hk1, hk2, hM1⟩)
  go_ret
  exact ⟨K, k, rfl, HK, hk1, hk2, hM0.trans hM1⟩
set_option maxRecDepth 20000 in
set_option maxHeartbeats 8000000 in
theorem mkStm (lo hi z : Nat) (k0 : Int) (tb : ByteArray) (a2 : Option Addr) (n2 c2 : Nat) (a3 : Option Addr) (n3 c3 : Nat) (col : ByteArray) (a5 : Option Addr) (n5 c5 : Nat) (a6 : Option Addr) (n6 c6 g7 n7 c7 : Nat) (m7 : Nat → Nat) (Z : Int) (hZ : Z = (z : Int)) (w : World) (h2 : WR w lo hi 113 2 a2 n2) (h3 : WR w lo hi 66 3 a3 n3) (h5 : WR w lo hi 108 3 a5 n5) (h6 : WR w lo hi 108 3 a6 n6) (h7 : SR w lo hi 42 108 g7 n7 m7) (hhi : hi ≤ w.heap.size) (l2 : n2 ≤ 1048576) (l3 : n3 ≤ 1048576) (l5 : n5 ≤ 1048576) (l6 : n6 ≤ 1048576) (l7 : n7 ≤ 1048576) (hz0 : 0 < z) (hz : z < 8000000000000000000) :
    Calls Tryz.prog 15 #[.agg #[.int .i64 k0, .string tb, .slice a2 n2 c2, .slice a3 n3 c3, .string col, .slice a5 n5 c5, .slice a6 n6 c6, .slice (some ⟨g7, 0, none⟩) n7 c7], .int .i64 Z] w fun e w' => ∃ (K : Int) (k : Nat), e = .returned (.int .i64 K) ∧ Hid (K = (k : Int)) ∧ z ≤ k ∧ Mk lo hi w w' := by
  have HQ : Hid ((w.alloc (.cells #[.int .i64 k0, .string tb, .slice a2 n2 c2, .slice a3 n3 c3, .string col, .slice a5 n5 c5, .slice a6 n6 c6, .slice (some ⟨g7, 0, none⟩) n7 c7] 45)).heap[w.heap.size]? = some (.cells #[.int .i64 k0, .string tb, .slice a2 n2 c2, .slice a3 n3 c3, .string col, .slice a5 n5 c5, .slice a6 n6 c6, .slice (some ⟨g7, 0, none⟩) n7 c7] 45 (0, 0))) := heap_alloc_new w _
  have hM0 := Mk.below (lo := lo) (hi := hi) (bal w (.cells #[.int .i64 k0, .string tb, .slice a2 n2 c2, .slice a3 n3 c3, .string col, .slice a5 n5 c5, .slice a6 n6 c6, .slice (some ⟨g7, 0, none⟩) n7 c7] 45))
  have H1 := mkCl lo hi a2 n2 c2 z Z hZ _ (h2.mk hM0) hz0 (by omega)
  obtain ⟨q0, q1, q2, q3, q4, q5, q6, q7⟩ := box8 HQ.out
  clear hZ
  go_enter Tryz.func15, Tryz.ntmps15
  go_wp2_with (first | (go_at_call 48; have _h := hM4; refine (mkOuts lo hi g7 n7 c7 (z + 2 * n2 + 3 * n3 + 3 * n5 + 3 * n6) m7 K4 HK4.out _ (h7.mk (hM0.trans hM4) hardI) (by omega) (by omega) l7).mono ?_; rintro e w5 ⟨K5, k5, rfl, HK5, hk5, -, hM5⟩) | (go_at_call 47; have _h := hM3; refine (mkIt lo hi a6 n6 c6 (z + 2 * n2 + 3 * n3 + 3 * n5) K3 HK3.out _ (h6.mk (hM0.trans hM3)) (by omega) (by omega)).mono ?_; rintro e w4 ⟨K4, rfl, HK4, hM4'⟩; have hM4 := hM3.trans hM4'; obtain ⟨q0, q1, q2, q3, q4, q5, q6, q7⟩ := box8 (hM4.row HQ.out (Or.inr hhi))) | (go_at_call 47; have _h := hM2; refine (mkIt lo hi a5 n5 c5 (z + 2 * n2 + 3 * n3) K2 HK2.out _ (h5.mk (hM0.trans hM2)) (by omega) (by omega)).mono ?_; rintro e w3 ⟨K3, rfl, HK3, hM3'⟩; have hM3 := hM2.trans hM3'; obtain ⟨q0, q1, q2, q3, q4, q5, q6, q7⟩ := box8 (hM3.row HQ.out (Or.inr hhi))) | (go_at_call 46; have _h := hM1; refine (mkVl lo hi a3 n3 c3 (z + 2 * n2) K1 HK1.out _ (h3.mk (hM0.trans hM1)) (by omega) (by omega)).mono ?_; rintro e w2 ⟨K2, rfl, HK2, hM2'⟩; have hM2 := hM1.trans hM2'; obtain ⟨q0, q1, q2, q3, q4, q5, q6, q7⟩ := box8 (hM2.row HQ.out (Or.inr hhi))) | (go_at_call 45; refine H1.mono ?_; rintro e w1 ⟨K1, rfl, HK1, hM1⟩; obtain ⟨q0, q1, q2, q3, q4, q5, q6, q7⟩ := box8 (hM1.row HQ.out (Or.inr hhi))))
  go_ret
  exact ⟨K5, k5, rfl, HK5, by omega, hM0.trans (hM4.trans hM5)⟩
end Go.Proofs.YtgeiamgeclbiaaaGreatDoor
