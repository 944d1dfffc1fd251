/-
  A tree with one entry more: the law's walk.
-/
import Derived.Test.YtlbackkjjhpljaaDoorGg
namespace Go.Proofs.YtlbackkjjhpljaaDoor
open Go.RowKit Go.ChangeMaps
set_option maxRecDepth 20000 in
set_option maxHeartbeats 2000000 in
theorem implGrow_bad (k z : Int) (a : Option Addr) (n c : Nat) (S : Nat → ByteArray) (x : ByteArray) (w : World) (h : Sl w a n S) (hbad : okB k z n S = false ∨ z = 2000) :
    Calls Tryd.prog 24 #[.int .i64 k, .agg #[.int .i64 z, .slice a n c], .string x] w fun e w' => e = .returned (.agg #[.int .i64 0, .slice none 0 0]) ∧ Below w.heap.size w w' := by
  have hS0 := h.later (below2 w (.cells #[.int .i64 z, .slice a n c] 31) (.cells #[.int .i64 0, .slice none 0 0] 31))
  obtain ⟨p00, q00⟩ := cell_box w (.int .i64 z) (.slice a n c) 31
  have p0 := keep (below1 _ (.cells #[.int .i64 0, .slice none 0 0] 31)) p00
  have q0 := keep (below1 _ (.cells #[.int .i64 0, .slice none 0 0] 31)) q00
  obtain ⟨u0, v0⟩ := cell_box (w.alloc (.cells #[.int .i64 z, .slice a n c] 31)) (.int .i64 0) (.slice none 0 0) 31
  have f0 := frozen_of_row _ _ 0 _ _ (heap_alloc_new (w.alloc (.cells #[.int .i64 z, .slice a n c] 31)) (.cells #[.int .i64 0, .slice none 0 0] 31))
  have f1 := frozen_of_row _ _ 1 _ _ (heap_alloc_new (w.alloc (.cells #[.int .i64 z, .slice a n c] 31)) (.cells #[.int .i64 0, .slice none 0 0] 31))
  simp only [World.size_alloc] at u0 v0 f0 f1
  clear p00 q00
  obtain ⟨o, ho⟩ : ∃ o, okB k z n S = o := ⟨_, rfl⟩
  rw [ho] at hbad
  have HO : Hid (okB k z n S = o) := ho
  clear ho
  have hend : ∀ w1 : World, Below ((w.alloc (.cells #[.int .i64 z, .slice a n c] 31)).alloc (.cells #[.int .i64 0, .slice none 0 0] 31)).heap.size ((w.alloc (.cells #[.int .i64 z, .slice a n c] 31)).alloc (.cells #[.int .i64 0, .slice none 0 0] 31)) w1 → Below w.heap.size w w1 := fun w1 hb => (below2 _ _ _).trans (hb.mono (by simp; omega))
  cases o
  · go_enter Tryd.func24, Tryd.ntmps24
    go_wp2_with (go_at_call 34; refine (implOK_any _ _ _ _ _ S _ hS0).mono ?_; rw [HO.out]; rintro e w1 ⟨rfl, hb1⟩; have p1 := keep hb1 p0; have u1 := keep hb1 u0; have v1 := keep hb1 v0; have g0 := (bcell hb1).2 _ _ (World.block_lt_of_cell? _ _ u0) |>.trans f0; have g1 := (bcell hb1).2 _ _ (World.block_lt_of_cell? _ _ v0) |>.trans f1)
    exact bodyPost_ret (v := .agg #[.int .i64 0, .slice none 0 0]) (by simp [results, Tryd.results24, go_sem, u1, v1]) rfl ⟨rfl, ((hend w1 hb1).setCell (by simp) _).setCell (by simp) _⟩
  · obtain rfl : z = 2000 := by simpa using hbad
    go_enter Tryd.func24, Tryd.ntmps24
    go_wp2_with (go_at_call 34; refine (implOK_any _ _ _ _ _ S _ hS0).mono ?_; rw [HO.out]; rintro e w1 ⟨rfl, hb1⟩; have p1 := keep hb1 p0; have u1 := keep hb1 u0; have v1 := keep hb1 v0; have g0 := (bcell hb1).2 _ _ (World.block_lt_of_cell? _ _ u0) |>.trans f0; have g1 := (bcell hb1).2 _ _ (World.block_lt_of_cell? _ _ v0) |>.trans f1)
    exact bodyPost_ret (v := .agg #[.int .i64 0, .slice none 0 0]) (by simp [results, Tryd.results24, go_sem, u1, v1]) rfl ⟨rfl, ((hend w1 hb1).setCell (by simp) _).setCell (by simp) _⟩
set_option maxRecDepth 20000 in
theorem implGrow_any (k z : Int) (a : Option Addr) (n c : Nat) (S : Nat → ByteArray) (x : ByteArray) (w : World) (h : Sl w a n S) (hc : n ≤ c) (hK : KeysAt w) (hx : x.size ≤ 1048576) :
    Calls Tryd.prog 24 #[.int .i64 k, .agg #[.int .i64 z, .slice a n c], .string x] w fun e w' => ∃ ga cap, e = .returned (.agg #[.int .i64 (gz k z n S), .slice ga (gn k z n S) cap]) ∧ OwnT w' w.heap.size ga (gn k z n S) cap (grownS k S n x (lows z.toNat)) ∧ Below w.heap.size w w' := by
  by_cases hcn : okB k z n S = true ∧ z < 2000
  · have e1 : gz k z n S = z + 1 := by unfold gz; rw [if_pos hcn]
    have e2 : gn k z n S = n - lows z.toNat + 1 := by unfold gn; rw [if_pos hcn]
    rw [e1, e2]
    refine (implGrow_good k z a n c S x w h hc hK hcn.1 hcn.2 hx _ rfl).mono fun e w' ⟨g, cap, he, ho, hb⟩ => ⟨_, cap, he, .inr ⟨g, rfl, own_base ho (by omega)⟩, hb⟩
  · have e1 : gz k z n S = 0 := by unfold gz; rw [if_neg hcn]
    have e2 : gn k z n S = 0 := by unfold gn; rw [if_neg hcn]
    rw [e1, e2]
    have hbad : okB k z n S = false ∨ z = 2000 := by
      cases ho : okB k z n S
      · exact .inl rfl
      · right
        have := (okB_out ho).2.2.1
        have : ¬ z < 2000 := fun h2 => hcn ⟨ho, h2⟩
        omega
    exact (implGrow_bad k z a n c S x w h hbad).mono fun e w' ⟨he, hb⟩ => ⟨none, 0, he, .inl ⟨rfl, rfl⟩, hb⟩
/-- A box of a tree. -/
def Bx (w : World) (A : Nat) (z : Int) (a : Option Addr) (n c : Nat) : Prop := w.cell? ⟨A, 0, none⟩ = some (.int .i64 z) ∧ w.cell? ⟨A, 1, none⟩ = some (.slice a n c)
theorem Bx.later {w w' : World} {A : Nat} {z : Int} {a : Option Addr} {n c : Nat} (h : Bx w A z a n c) (hb : Below w.heap.size w w') : Bx w' A z a n c := ⟨keep hb h.1, keep hb h.2⟩
theorem Bx.other {w w' : World} {A : Nat} {z : Int} {a : Option Addr} {n c : Nat} {r : Option Nat} (h : Bx w A z a n c) (hg : w.grownBy w' r) (hne : some A ≠ r) : Bx w' A z a n c := ⟨hg.cell h.1 hne, hg.cell h.2 hne⟩
theorem sl_other {w w' : World} {a : Option Addr} {n : Nat} {S : Nat → ByteArray} {r : Option Nat} (h : Sl w a n S) (hg : w.grownBy w' r) (hne : ∀ P off, a = some ⟨P, off, none⟩ → 0 < n → some P ≠ r) : Sl w' a n S := by
  refine ⟨h.1, fun k hk => ⟨(h.2 k hk).1, ?_⟩⟩
  obtain ⟨b, o, e, hc⟩ := h.at k hk
  exact ⟨b, o, e, hg.cell hc (hne b o e (by omega))⟩
/-- What stands behind both Grows. -/
structure Sg (w : World) (z : Int) (a : Option Addr) (n c : Nat) (S : Nat → ByteArray) (Z : Int) (N : Nat) (T : Nat → ByteArray) (A8 A9 A10 g4 B5 : Nat) (ga3 ga5 : Option Addr) (cap3 cap5 : Nat) (U4 U5 : Nat → ByteArray) (V : World) : Prop where
  b4 : Bx V w.heap.size z a n c
  b8 : Bx V A8 Z ga3 N cap3
  b9 : Bx V A9 z (some ⟨g4, 0, none⟩) n n
  b10 : Bx V A10 Z ga5 N cap5
  sa : Sl V a n S
  s3 : Sl V ga3 N T
  o4 : V.ownsRow (A8 + 1) 9 1 (.slice (some ⟨g4, 0, none⟩) n n) n (strs U4 n)
  o5 : OwnT V B5 ga5 N cap5 U5
  keys : KeysAt V
  below : Below w.heap.size w V
  ha : ∀ P off, a = some ⟨P, off, none⟩ → 0 < n → P < w.heap.size
  h3 : ∀ P off, ga3 = some ⟨P, off, none⟩ → P < A8
  h8 : w.heap.size < A8
  h4 : A8 < g4
  h9 : g4 < A9
  h5 : A9 < B5
  h5' : ∀ P off, ga5 = some ⟨P, off, none⟩ → P < A10
  h10 : B5 ≤ A10
  hs : A10 < V.heap.size
  h0 : 0 < w.heap.size
theorem Sg.call {w : World} {z : Int} {a : Option Addr} {n c : Nat} {S : Nat → ByteArray} {Z : Int} {N : Nat} {T : Nat → ByteArray} {A8 A9 A10 g4 B5 : Nat} {ga3 ga5 : Option Addr} {cap3 cap5 : Nat} {U4 U5 : Nat → ByteArray} {V V' : World} (h : Sg w z a n c S Z N T A8 A9 A10 g4 B5 ga3 ga5 cap3 cap5 U4 U5 V) (hb : Below V.heap.size V V') : Sg w z a n c S Z N T A8 A9 A10 g4 B5 ga3 ga5 cap3 cap5 U4 U5 V' :=
  ⟨h.b4.later hb, h.b8.later hb, h.b9.later hb, h.b10.later hb, h.sa.later hb, h.s3.later hb, own_later h.o4 hb, h.o5.later hb, keys_later h.keys hb, h.below.trans (hb.mono h.below.size), h.ha, h.h3, h.h8, h.h4, h.h9, h.h5, h.h5', h.h10, Nat.lt_of_lt_of_le h.hs hb.size, h.h0⟩
theorem Sg.drew1 {w : World} {z : Int} {a : Option Addr} {n c : Nat} {S : Nat → ByteArray} {Z : Int} {N : Nat} {T : Nat → ByteArray} {A8 A9 A10 g4 B5 : Nat} {ga3 ga5 : Option Addr} {cap3 cap5 : Nat} {U4 U5 : Nat → ByteArray} {V : World} (h : Sg w z a n c S Z N T A8 A9 A10 g4 B5 ga3 ga5 cap3 cap5 U4 U5 V) : Sg w z a n c S Z N T A8 A9 A10 g4 B5 ga3 ga5 cap3 cap5 U4 U5 V.drew :=
  ⟨h.b4, h.b8, h.b9, h.b10, h.sa, h.s3, h.o4, h.o5, h.keys, h.below.drew, h.ha, h.h3, h.h8, h.h4, h.h9, h.h5, h.h5', h.h10, h.hs, h.h0⟩
theorem Sg.mark4 {w : World} {z : Int} {a : Option Addr} {n c : Nat} {S : Nat → ByteArray} {Z : Int} {N : Nat} {T : Nat → ByteArray} {A8 A9 A10 g4 B5 : Nat} {ga3 ga5 : Option Addr} {cap3 cap5 : Nat} {U4 U5 : Nat → ByteArray} {V V' : World} (h : Sg w z a n c S Z N T A8 A9 A10 g4 B5 ga3 ga5 cap3 cap5 U4 U5 V) (hg : V.grownBy V' (some g4)) (ho : V'.ownsRow (A8 + 1) 9 1 (.slice (some ⟨g4, 0, none⟩) n n) n (strs marks n)) : Sg w z a n c S Z N T A8 A9 A10 g4 B5 ga3 ga5 cap3 cap5 marks U5 V' := by
  have h8 := h.h8
  have h4 := h.h4
  have h9 := h.h9
  have h5 := h.h5
  have h10 := h.h10
  have h0 := h.h0
  exact ⟨h.b4.other hg (by simp; omega), h.b8.other hg (by simp; omega), h.b9.other hg (by simp; omega), h.b10.other hg (by simp; omega), sl_other h.sa hg (fun P off e hn => by have := h.ha P off e hn; simp; omega), sl_other h.s3 hg (fun P off e hn => by have := h.h3 P off e; simp; omega), ho, h.o5.other hg (fun P e => by simp at e; omega), fun i hi => hg.cell (h.keys i hi) (by simp; omega), h.below.grown hg h.below.size (fun j hj => by simp at hj; omega), h.ha, h.h3, h8, h4, h9, h5, h.h5', h10, Nat.lt_of_lt_of_le h.hs hg.size, h0⟩
theorem Sg.mark5 {w : World} {z : Int} {a : Option Addr} {n c : Nat} {S : Nat → ByteArray} {Z : Int} {N : Nat} {T : Nat → ByteArray} {A8 A9 A10 g4 B5 : Nat} {ga3 ga5 : Option Addr} {cap3 cap5 : Nat} {U4 U5 : Nat → ByteArray} {V V' : World} (h : Sg w z a n c S Z N T A8 A9 A10 g4 B5 ga3 ga5 cap3 cap5 U4 U5 V) (hg : V.grownBy V' (ga5.map (·.block))) (ho : OwnT V' B5 ga5 N cap5 marks) (hf : ∀ q, ga5.map (·.block) = some q → ∃ off, ga5 = some ⟨q, off, none⟩) : Sg w z a n c S Z N T A8 A9 A10 g4 B5 ga3 ga5 cap3 cap5 U4 marks V' := by
  have h8 := h.h8
  have h4 := h.h4
  have h9 := h.h9
  have h5 := h.h5
  have h10 := h.h10
  have h0 := h.h0
  have hq : ∀ q, ga5.map (·.block) = some q → B5 ≤ q ∧ q < A10 := fun q e => by
    obtain ⟨off, e2⟩ := hf q e
    exact ⟨(h.o5.at q off e2).1, h.h5' q off e2⟩
  have ne : ∀ A, A < B5 ∨ A10 ≤ A → some A ≠ ga5.map (·.block) := fun A hA e => by have := hq A e.symm; omega
  exact ⟨h.b4.other hg (ne _ (by omega)), h.b8.other hg (ne _ (by omega)), h.b9.other hg (ne _ (by omega)), h.b10.other hg (ne _ (by omega)), sl_other h.sa hg (fun P off e hn => ne _ (by have := h.ha P off e hn; omega)), sl_other h.s3 hg (fun P off e hn => ne _ (by have := h.h3 P off e; omega)), own_other h.o4 hg (ne _ (by omega)), ho, fun i hi => hg.cell (h.keys i hi) (ne _ (by simp; omega)), h.below.grown hg h.below.size (fun j hj => by have := hq j hj; omega), h.ha, h.h3, h8, h4, h9, h5, h.h5', h10, Nat.lt_of_lt_of_le h.hs hg.size, h0⟩
theorem ownT_form {w : World} {B : Nat} {ga : Option Addr} {n cap : Nat} {T : Nat → ByteArray} (h : OwnT w B ga n cap T) : ∀ q, ga.map (·.block) = some q → ∃ off, ga = some ⟨q, off, none⟩ := by
  intro q e
  rcases h with ⟨_, rfl⟩ | ⟨g, rfl, _⟩
  · cases e
  · simp at e
    subst e
    exact ⟨0, rfl⟩
theorem own_of_row (w : World) (B g n : Nat) (S : Nat → ByteArray) (hB : B ≤ g) (hn : n ≤ 1048576) (h : w.heap[g]? = some (.cells (sArr n S n) 9 (0, 0))) : w.ownsRow B 9 1 (.slice (some ⟨g, 0, none⟩) n n) n (strs S n) := by
  refine ⟨by rw [strs_len]; omega, .inr ⟨g, n, _, rfl, hB, h, Nat.le_refl _, by unfold maxLen; omega, by rw [sArr_size]; omega, ?_⟩⟩
  apply List.ext_getElem?
  intro q
  by_cases hq : q < n
  · rw [List.getElem?_take, if_pos (by omega), strs_get _ _ _ hq]
    simpa [hq] using sArr_get n S n q hq
  · rw [List.getElem?_take, if_neg (by omega), List.getElem?_eq_none (by rw [strs_len]; omega)]
end Go.Proofs.YtlbackkjjhpljaaDoor
