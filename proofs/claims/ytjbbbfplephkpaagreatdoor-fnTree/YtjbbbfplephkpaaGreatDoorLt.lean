/-
  The tree grown entry by entry has at every size the root of the entries: the law, walked.
-/
import Derived.Test.YtjbbbfplephkpaaGreatDoorJr
import Derived.Test.YtjbbbfplephkpaaGreatDoorTn
import Derived.Test.YtjbbbfplephkpaaGreatDoorGe
import Derived.Test.YtjbbbfplephkpaaGreatDoorRp
import Derived.Test.YtjbbbfplephkpaaGreatDoorRa
import Derived.Test.YtjbbbfplephkpaaGreatDoorTrd
namespace Go.Proofs.YtjbbbfplephkpaaGreatDoor
open Go.RowKit Go.ChangeMaps
theorem CodeAt.later {w w' : World} {ca : Option Addr} {cn : Nat} (h : CodeAt w ca cn) (hb : Below w.heap.size w w') : CodeAt w' ca cn := fun j hj => by
  obtain ⟨b, off, v, e, hc, h0, h1⟩ := h j hj
  exact ⟨b, off, v, e, keepB hb hc, h0, h1⟩
set_option maxRecDepth 20000 in
set_option maxHeartbeats 2000000 in
theorem hPick_any (ca : Option Addr) (cn cc : Nat) (w : World) (h : CodeAt w ca cn) (hn : cn ≤ 1048576) :
    Calls Tryz.prog 5 #[.slice ca cn cc, .int .i64 0, .int .i64 2] w fun e w' => ∃ k : Int, (k = 0 ∨ k = 1) ∧ e = .returned (.int .i64 k) ∧ w = w' := by
  by_cases h0 : cn = 0
  · subst h0
    go_enter Tryz.func5, Tryz.ntmps5
    go_wp2
    go_ret
    exact ⟨0, Or.inl rfl, rfl, rfl⟩
  · obtain ⟨b, off, v, rfl, hc, hv0, hv1⟩ := h 0 (by omega)
    rw [Nat.add_zero] at hc
    have ht : (0 : Int).tmod (cn : Int) = 0 := by simp
    have hne : ¬ (cn : Int) = 0 := by omega
    have hb0 : ((cn : Int) == 0) = false := by simpa using h0
    clear h0
    go_enter Tryz.func5, Tryz.ntmps5
    go_wp2
    go_ret
    first
      | exact ⟨v % 2, by omega, rfl, rfl⟩
      | exact ⟨v.tmod 2, by rw [Int.tmod_eq_emod_of_nonneg hv0]; omega, rfl, rfl⟩
theorem specRoot_as (k : Int) (n : Nat) (S : Nat → ByteArray) (a : Option Addr) (c : Nat) (w : World) (y : ByteArray) (h : Sl w a n S) (hc : n ≤ c) (hn : n ≤ 1048576) (hsz : ∀ j, j < n → (S j).size ≤ 4194304) (hy : RT k S n = y) :
    Calls Tryz.prog 7 #[.int .i64 k, .slice a n c] w fun e w' => e = .returned (.string y) ∧ Below w.heap.size w w' := by
  subst hy
  exact specRoot_any k n n S a c w (Nat.le_refl _) h hc hn hsz
theorem treeRoot_as (k : Int) (j : Nat) (a : Option Addr) (n c : Nat) (S : Nat → ByteArray) (w : World) (h : Sl w a n S) (hK : KeysAt w) (y : ByteArray) (hy : treeRootD k (j : Int) n S = y) :
    Calls Tryz.prog 6 #[.int .i64 k, .agg #[.int .i64 j, .slice a n c]] w fun e w' => e = .returned (.string y) ∧ Below w.heap.size w w' := by
  subst hy
  exact implTreeRoot_any k j a n c S w h hK
theorem treeOK_as (k : Int) (j : Nat) (a : Option Addr) (n c : Nat) (S : Nat → ByteArray) (w : World) (h : Sl w a n S) (hy : okB k (j : Int) n S = true) :
    Calls Tryz.prog 8 #[.int .i64 k, .agg #[.int .i64 j, .slice a n c]] w fun e w' => e = .returned (.bool true) ∧ Below w.heap.size w w' := by
  rw [← hy]
  exact specOK_any k j a n c S w h
theorem grow_as (k : Int) (j : Nat) (a : Option Addr) (n c : Nat) (S : Nat → ByteArray) (x : ByteArray) (w : World) (h : Sl w a n S) (hc : n ≤ c) (hK : KeysAt w) (hok : okB k (j : Int) n S = true) (hj : j < 2000) (hx : x.size ≤ 1048576) :
    Calls Tryz.prog 9 #[.int .i64 k, .agg #[.int .i64 j, .slice a n c], .string x] w fun e w' => ∃ g cap, e = .returned (.agg #[.int .i64 ((j : Int) + 1), .slice (some ⟨g, 0, none⟩) (n - lows j + 1) cap]) ∧ w'.ownsRow (w.heap.size + 2) 9 1 (.slice (some ⟨g, 0, none⟩) (n - lows j + 1) cap) (n - lows j + 1) (strs (grownS k S n x (lows j)) (n - lows j + 1)) ∧ Below w.heap.size w w' :=
  implGrow_good k j a n c S x w h hc hK hok (by omega) hx (lows j) (by rw [Int.toNat_natCast])
/-- What stands when j entries have grown into the tree. -/
structure Lp (w : World) (k : Int) (E : Nat → ByteArray) (N g3 A j n cp : Nat) (a : Option Addr) (S : Nat → ByteArray) (wr : World) : Prop where
  ti : TI k E j n S
  cap : n ≤ cp
  bx : wr.cell? ⟨A, 0, none⟩ = some (.int .i64 (j : Int)) ∧ wr.cell? ⟨A, 1, none⟩ = some (.slice a n cp)
  f0 : wr.frozen? ⟨A, 0, none⟩ = false
  f1 : wr.frozen? ⟨A, 1, none⟩ = false
  sp : Sl wr a n S
  far : ∀ P off, a = some ⟨P, off, none⟩ → A < P
  se : Sl wr (some ⟨g3, 0, none⟩) N E
  bl : Below w.heap.size w wr
theorem Lp.kk {w : World} {k : Int} {E : Nat → ByteArray} {N g3 A j n cp : Nat} {a : Option Addr} {S : Nat → ByteArray} {wr : World} (h : Lp w k E N g3 A j n cp a S wr) (hK : KeysAt w) : KeysAt wr := keys_later hK h.bl
theorem Lp.call {w : World} {k : Int} {E : Nat → ByteArray} {N g3 A j n cp : Nat} {a : Option Addr} {S : Nat → ByteArray} {wr w' : World} (h : Lp w k E N g3 A j n cp a S wr) (hb : Below wr.heap.size wr w') : Lp w k E N g3 A j n cp a S w' :=
  ⟨h.ti, h.cap, ⟨keepB hb h.bx.1, keepB hb h.bx.2⟩, ((bcell hb).2 _ _ (World.block_lt_of_cell? _ _ h.bx.1)).trans h.f0, ((bcell hb).2 _ _ (World.block_lt_of_cell? _ _ h.bx.2)).trans h.f1, h.sp.later hb, h.far, h.se.later hb, h.bl.trans (hb.mono h.bl.size)⟩
theorem Lp.drew1 {w : World} {k : Int} {E : Nat → ByteArray} {N g3 A j n cp : Nat} {a : Option Addr} {S : Nat → ByteArray} {wr : World} (h : Lp w k E N g3 A j n cp a S wr) : Lp w k E N g3 A j n cp a S wr.drew :=
  ⟨h.ti, h.cap, h.bx, h.f0, h.f1, h.sp, h.far, h.se, bdrew h.bl 1⟩
theorem Lp.lt {w : World} {k : Int} {E : Nat → ByteArray} {N g3 A j n cp : Nat} {a : Option Addr} {S : Nat → ByteArray} {wr : World} (h : Lp w k E N g3 A j n cp a S wr) : A < wr.heap.size := World.block_lt_of_cell? _ _ h.bx.1
theorem Lp.put {w : World} {k : Int} {E : Nat → ByteArray} {N g3 A j n cp : Nat} {a : Option Addr} {S : Nat → ByteArray} {wr : World} (h : Lp w k E N g3 A j n cp a S wr) {g m cq : Nat} {T : Nat → ByteArray} (ht : TI k E (j + 1) m T) (hm : m ≤ cq) (hs : Sl wr (some ⟨g, 0, none⟩) m T) (hg : A < g) (hA : w.heap.size ≤ A) (h3 : g3 < A) :
    Lp w k E N g3 A (j + 1) m cq (some ⟨g, 0, none⟩) T ((wr.setCell ⟨A, 0, none⟩ (.int .i64 ((j : Int) + 1))).setCell ⟨A, 1, none⟩ (.slice (some ⟨g, 0, none⟩) m cq)) := by
  have n01 : (⟨A, 0, none⟩ : Addr) ≠ ⟨A, 1, none⟩ := fun h => by cases h
  have n10 : (⟨A, 1, none⟩ : Addr) ≠ ⟨A, 0, none⟩ := fun h => by cases h
  have gg : wr.grownBy ((wr.setCell ⟨A, 0, none⟩ (.int .i64 ((j : Int) + 1))).setCell ⟨A, 1, none⟩ (.slice (some ⟨g, 0, none⟩) m cq)) (some A) := gtrans (gset _ _ _ _) (gset _ _ _ _)
  have e1 : ((j + 1 : Nat) : Int) = (j : Int) + 1 := by omega
  have c1 : (wr.setCell ⟨A, 0, none⟩ (.int .i64 ((j : Int) + 1))).cell? ⟨A, 1, none⟩ = some (.slice a n cp) := (World.cell?_setCell_other (h := n01) ..).trans h.bx.2
  refine ⟨ht, hm, ⟨?_, World.cell?_setCell_same (h := c1) ..⟩, by simpa using h.f0, by simpa using h.f1, hs.grown gg (by omega), (fun P off e => by cases e; exact hg), h.se.grown gg (by omega), (h.bl.setCell hA _).setCell hA _⟩
  rw [e1]
  exact (World.cell?_setCell_other (h := n10) ..).trans (World.cell?_setCell_same (h := h.bx.1) ..)
theorem news_own {w : World} {B g n cap : Nat} {M : List ByteArray} (h : w.ownsRow B 9 1 (.slice (some ⟨g, 0, none⟩) n cap) n (M.map .string)) : ∀ j u, (M.map Value.string)[j]? = some u → w.cell? ((⟨g, 0, none⟩ : Addr).add j) = some u := fun j u hu => by
  have hl := h.1
  have hj : j < n := by
    have := (List.getElem?_eq_some_iff.1 hu).1
    omega
  rw [addj, h.cellAt j (by omega)]
  exact hu
theorem ones_strs (M : List ByteArray) : ∀ u ∈ M.map Value.string, u.oneCell' = true := fun u hu => by
  obtain ⟨T, _, rfl⟩ := List.mem_map.1 hu
  rfl
theorem es_app {L M : List ByteArray} (h : Es L) (k : Es M) : Es (L ++ M) := fun T hT => (List.mem_append.1 hT).elim (h T) (k T)
theorem sl_list {w : World} {B g n cap : Nat} {L : List ByteArray} (h : w.ownsRow B 9 1 (.slice (some ⟨g, 0, none⟩) n cap) n (L.map .string)) (hL : L.length = n) (hn : n ≤ 1048576) (hs : Es L) : Sl w (some ⟨g, 0, none⟩) n (fun j => L.getD j ⟨#[]⟩) ∧ n ≤ cap ∧ ∀ j, j < n → (L.getD j ⟨#[]⟩).size ≤ 60000 := by
  have hb : ∀ j, j < n → (L.getD j ⟨#[]⟩).size ≤ 60000 := fun j hj => by
    have hj' : j < L.length := by omega
    have e : L.getD j ⟨#[]⟩ = L[j] := by simp [List.getD, hj']
    rw [e]
    exact hs _ (List.getElem_mem hj')
  refine ⟨⟨by omega, fun j hj => ⟨Nat.le_trans (hb j hj) (by omega), g, 0, rfl, ?_⟩⟩, own_capn h, hb⟩
  have hj' : j < L.length := by omega
  rw [Nat.zero_add, h.cellAt j (by omega)]
  simp [List.getD, hj']
set_option maxRecDepth 20000 in
set_option maxHeartbeats 8000000 in
theorem lawTree_any (ca : Option Addr) (cn cc : Nat) (w : World) (h : CodeAt w ca cn) (hcn : cn ≤ 9223372036854775807) (hKy : KeysAt w) :
    Calls Tryz.prog 3 #[.slice ca cn cc] w fun e w' => e = .returned (.bool true) ∧ Below w.heap.size w w' := by
  by_cases hn : cn ≤ 1048576
  · obtain ⟨i0, hi, hi0, hi1, hi2⟩ := info_parts Tryz.info9q
    have HI : Hid (Tryz.prog.info? 9 = some i0) := hi
    clear hi
    go_enter Tryz.func3, Tryz.ntmps3
    go_wp2_with (first | (go_at_call 4; refine (drawWork_any ca cn cc _ h hn).mono ?_; rintro e w1 ⟨L, M, g1, c1, g2, c2, rfl, hL15, hM6, hEL, hEM, hOL, hOM, hb1⟩; have hs1 := hb1.size; obtain ⟨m, hlm⟩ : ∃ m, L.length = m := ⟨_, rfl⟩; have HLm : Hid (L.length = m) := hlm; rw [hlm] at hL15 hOL ⊢; clear hlm; have hg1 := grow_le hOL) | (at_builtin; refine wpList_append_lies _ rfl _ _ _ rfl w.heap.size 9 i0 (.string ⟨#[]⟩) 1 16 Tryz.underlying23 HI.out hi0 hi1 hi2 rfl (by omega) _ m _ rfl hOL ⟨g2, 0, none⟩ 6 c2 (M.map .string) rfl (by simp [hM6]) (news_own hOM) (ones_strs M) (by omega) (by unfold maxLen; omega) (by omega) (by omega) _ rfl ?_; intro g3 c3 w2 hO3 hgr3 hat3 hlt3; replace hgr3 : w1.grownBy w2 (some g1) := hgr3; have hs2 := hgr3.size; have hb2 : Below w.heap.size w w2 := (hb1.trans ⟨hgr3.os, hgr3.tape, hgr3.output, hgr3.size, fun j hj => hgr3.block j (by omega) (fun e => by have e : j = g1 := Option.some.inj e; omega)⟩)) | (go_at_call 5; refine (hPick_any ca cn cc _ (h.later hb2) hn).mono ?_; rintro e w3 ⟨k, hk, rfl, hw3⟩; subst hw3))
    rw [← List.map_append] at hO3
    have hEE := es_app hEL hEM
    have hLN : (L ++ M).length = m + 6 := by rw [List.length_append, HLm.out, hM6]
    obtain ⟨hSE, hc3, hsE⟩ := sl_list hO3 hLN (by omega) hEE
    obtain ⟨E, hE⟩ : ∃ E : Nat → ByteArray, (fun j => (L ++ M).getD j (⟨#[]⟩ : ByteArray)) = E := ⟨_, rfl⟩
    have hsz6 : ∀ j, j < m + 6 → (E j).size ≤ 60000 := by rw [← hE]; exact hsE
    rw [hE] at hSE
    obtain ⟨N, hN⟩ : ∃ N, m + 6 = N := ⟨_, rfl⟩
    rw [hN] at hsz6 hSE hc3 ⊢
    have hN21 : N ≤ 21 := by omega
    have hNi : (m : Int) + 6 = (N : Int) := by omega
    rw [hNi]
    clear hNi
    have hsz : ∀ j, j < N → (E j).size ≤ 4194304 := fun j hj => Nat.le_trans (hsz6 j hj) (by omega)
    have hl0 : Lp w k E N g3 w2.heap.size 0 0 0 none (fun _ => ⟨#[]⟩) (w2.alloc (.cells #[.int .i64 0, .slice none 0 0] 28)) := by
      have hh := heap_alloc_new w2 (.cells #[.int .i64 0, .slice none 0 0] 28)
      have hq := hSE.later (bal w2 (.cells #[.int .i64 0, .slice none 0 0] 28))
      exact ⟨TI.zero k E _ hk, Nat.le_refl _, ⟨(cell_of_row _ _ 0 _ _ _ hh).trans rfl, (cell_of_row _ _ 1 _ _ _ hh).trans rfl⟩, frozen_of_row _ _ 0 _ _ hh, frozen_of_row _ _ 1 _ _ hh, ⟨by omega, fun _ h => absurd h (Nat.not_lt_zero _)⟩, (fun _ _ e => by cases e), hq, hb2.trans ((bal w2 _).mono hb2.size)⟩
    obtain ⟨W0, hW0⟩ : ∃ W0, w2.alloc (.cells #[.int .i64 0, .slice none 0 0] 28) = W0 := ⟨_, rfl⟩
    rw [hW0] at hl0 ⊢
    obtain ⟨A, hA⟩ : ∃ A, w2.heap.size = A := ⟨_, rfl⟩
    rw [hA] at hl0 ⊢
    have hAw : w.heap.size ≤ A := by rw [← hA]; exact hb2.size
    have h3A : g3 < A := by rw [← hA]; exact hlt3
    clear hW0 hA hO3 hE hsE hLN hEE hgr3 hOL hOM hb2 hb1 hs1 hs2 hat3 hlt3 hN hg1
    go_loopw [7, 8, 25] (fun _ _ i wr => ∃ (j n cp : Nat) (a : Option Addr) (S : Nat → ByteArray), j ≤ N ∧ i = .int .i64 j ∧ Lp w k E N g3 A j n cp a S wr) (fun _ _ i _ => N - (intOf i).toNat)
    case atStart => exact ⟨0, 0, 0, none, _, by omega, rfl, hl0⟩
    case round =>
      obtain ⟨j, n, cp, a, S, hj, rfl, hp⟩ := hrel
      clear hl0
      by_cases hlt : j < N
      · obtain ⟨P, off, e, hcE⟩ := hp.se.at j hlt
        obtain ⟨rfl, rfl⟩ : g3 = P ∧ 0 = off := by simpa using e
        clear e
        rw [Nat.zero_add] at hcE
        have hjl : (j : Int) < N := by omega
        have hjc : (j : Int) ≤ c3 := by omega
        have hj0 : (0 : Int) ≤ j := by omega
        obtain ⟨R, hR⟩ : ∃ R, RT k E j = R := ⟨_, rfl⟩
        have HR : Hid (RT k E j = R) := hR
        clear hR
        have d0 := hp.drew1
        go_wp2
        refine wp_region_held_drew (S := fun w' => w'.cell? ⟨A, 0, none⟩ = some (.int .i64 (j : Int)) ∧ w'.cell? ⟨A, 1, none⟩ = some (.slice a n cp)) (by kernel_rfl) ⟨d0.bx.1, d0.bx.2⟩ (fun _ => ?_)
        refine wpAnyH_take (i := 0) (oi := ({ dst := some 30, op := Op.move (Operand.tmp 5), type := 3, pos := "laws.go:324", after := #[], guard := none } : Oper)) (v := .int .i64 k) rfl (by kernel_rfl) (by kernel_rfl) (by kernel_rfl) (fun _ _ _ h => h) (Or.inl ⟨by rfl, fun w hSw => by go_simp⟩) ⟨d0.bx.1, d0.bx.2⟩ ?_
        simp only [Act.put, List.setIfInBounds_toArray, List.set_cons_zero, List.set_cons_succ]
        refine wpAnyH_take (i := 1) (oi := ({ dst := some 31, op := Op.load 28 (Operand.tmp 6), type := 28, pos := "laws.go:324", after := #[], guard := none } : Oper)) (v := .agg #[.int .i64 (j : Int), .slice a n cp]) rfl (by kernel_rfl) (by kernel_rfl) (by kernel_rfl) (fun _ _ _ h => h) (Or.inl ⟨by rfl, fun w hSw => by obtain ⟨hs0, hs1⟩ := hSw; go_simp⟩) ⟨d0.bx.1, d0.bx.2⟩ ?_
        simp only [Act.put, List.setIfInBounds_toArray, List.set_cons_zero, List.set_cons_succ]
        refine wpAnyH_take (i := 3) (oi := ({ dst := some 33, op := Op.move (Operand.tmp 5), type := 3, pos := "laws.go:324", after := #[], guard := none } : Oper)) (v := .int .i64 k) rfl (by kernel_rfl) (by kernel_rfl) (by kernel_rfl) (fun _ _ _ h => h) (Or.inl ⟨by rfl, fun w hSw => by go_simp⟩) ⟨d0.bx.1, d0.bx.2⟩ ?_
        simp only [Act.put, List.setIfInBounds_toArray, List.set_cons_zero, List.set_cons_succ]
        refine wpAnyH_take (i := 4) (oi := ({ dst := some 34, op := Op.move (Operand.tmp 3), type := 23, pos := "laws.go:324", after := #[], guard := none } : Oper)) (v := .slice (some ⟨g3, 0, none⟩) N c3) rfl (by kernel_rfl) (by kernel_rfl) (by kernel_rfl) (fun _ _ _ h => h) (Or.inl ⟨by rfl, fun w hSw => by go_simp⟩) ⟨d0.bx.1, d0.bx.2⟩ ?_
        simp only [Act.put, List.setIfInBounds_toArray, List.set_cons_zero, List.set_cons_succ]
        refine wpAnyH_take (i := 5) (oi := ({ dst := some 35, op := Op.move (Operand.tmp 7), type := 3, pos := "laws.go:324", after := #[], guard := none } : Oper)) (v := .int .i64 (j : Int)) rfl (by kernel_rfl) (by kernel_rfl) (by kernel_rfl) (fun _ _ _ h => h) (Or.inl ⟨by rfl, fun w hSw => by go_simp⟩) ⟨d0.bx.1, d0.bx.2⟩ ?_
        simp only [Act.put, List.setIfInBounds_toArray, List.set_cons_zero, List.set_cons_succ]
        refine wpAnyH_take (i := 6) (oi := ({ dst := some 36, op := Op.slice 23 (Operand.tmp 34) none (some (Operand.tmp 35)) none, type := 23, pos := "laws.go:324", after := #[{ on := 4, ground := Ground.data }, { on := 5, ground := Ground.data }], guard := none } : Oper)) (v := .slice (some ⟨g3, 0, none⟩) j c3) rfl (by kernel_rfl) (by kernel_rfl) (by kernel_rfl) (fun _ _ _ h => h) (Or.inl ⟨by rfl, fun w hSw => by go_simp⟩) ⟨d0.bx.1, d0.bx.2⟩ ?_
        simp only [Act.put, List.setIfInBounds_toArray, List.set_cons_zero, List.set_cons_succ]
        refine wpAnyH_ready (rs := [2]) (by kernel_rfl) (by simp) ?_
        refine AllReadyH.cons (o := ({ dst := some 32, op := Op.call { callee := Callee.value (Operand.func 6), args := #[Operand.tmp 30, Operand.tmp 31], argTypes := #[3, 28] }, type := 9, pos := "laws.go:324", after := #[{ on := 0, ground := Ground.data }, { on := 1, ground := Ground.data }], guard := none } : Oper)) rfl (fun K hK => ?_) AllReadyH.nil
        go_simp
        refine (treeRoot_as k j a n cp S _ d0.sp (d0.kk hKy) R (d0.ti.rootD.trans HR.out)).mono ?_
        rintro e w4 ⟨rfl, hb4⟩
        refine hK.out _ _ ⟨(d0.call hb4).bx.1, (d0.call hb4).bx.2⟩ (fun _ => ?_)
        clear hK K
        have d4 := d0.call hb4
        refine wpAnyH_ready (rs := [7]) (by kernel_rfl) (by simp) ?_
        refine AllReadyH.cons (o := ({ dst := some 37, op := Op.call { callee := Callee.value (Operand.func 7), args := #[Operand.tmp 33, Operand.tmp 36], argTypes := #[3, 23] }, type := 9, pos := "laws.go:324", after := #[{ on := 3, ground := Ground.data }, { on := 6, ground := Ground.data }, { on := 2, ground := Ground.chain }], guard := none } : Oper)) rfl (fun K hK => ?_) AllReadyH.nil
        go_simp
        refine (specRoot_as k j E (some ⟨g3, 0, none⟩) c3 _ R (d4.se.left j (by omega)) (by omega) (by omega) (fun i hi => hsz i (by omega)) HR.out).mono ?_
        rintro e w5 ⟨rfl, hb5⟩
        refine hK.out _ _ ⟨(d4.call hb5).bx.1, (d4.call hb5).bx.2⟩ (fun _ => ?_)
        clear hK K
        have d5 := d4.call hb5
        refine wpAnyH_take (i := 8) (oi := ({ dst := some 38, op := Op.binOp BinOp.neq 9 (Operand.tmp 32) (Operand.tmp 37) 9, type := 4, pos := "laws.go:324", after := #[{ on := 2, ground := Ground.data }, { on := 7, ground := Ground.data }], guard := none } : Oper)) (v := .bool false) rfl (by kernel_rfl) (by kernel_rfl) (by kernel_rfl) (fun _ _ _ h => h) (Or.inl ⟨by rfl, fun w hSw => by go_simp⟩) ⟨d5.bx.1, d5.bx.2⟩ ?_
        simp only [Act.put, List.setIfInBounds_toArray, List.set_cons_zero, List.set_cons_succ]
        refine wpAnyH_take (i := 9) (oi := ({ dst := some 39, op := Op.move (Operand.tmp 38), type := 4, pos := "laws.go:324", after := #[{ on := 8, ground := Ground.data }, { on := 7, ground := Ground.chain }], guard := none } : Oper)) (v := .bool false) rfl (by kernel_rfl) (by kernel_rfl) (by kernel_rfl) (fun _ _ _ h => h) (Or.inl ⟨by rfl, fun w hSw => by go_simp⟩) ⟨d5.bx.1, d5.bx.2⟩ ?_
        simp only [Act.put, List.setIfInBounds_toArray, List.set_cons_zero, List.set_cons_succ]
        refine wpAnyH_take (i := 10) (oi := ({ dst := some 40, op := Op.move (Operand.tmp 5), type := 3, pos := "laws.go:324", after := #[{ on := 9, ground := Ground.guard }], guard := some (9, false) } : Oper)) (v := .int .i64 k) rfl (by kernel_rfl) (by kernel_rfl) (by kernel_rfl) (fun _ _ _ h => h) (Or.inl ⟨by rfl, fun w hSw => by go_simp⟩) ⟨d5.bx.1, d5.bx.2⟩ ?_
        simp only [Act.put, List.setIfInBounds_toArray, List.set_cons_zero, List.set_cons_succ]
        refine wpAnyH_take (i := 11) (oi := ({ dst := some 41, op := Op.load 28 (Operand.tmp 6), type := 28, pos := "laws.go:324", after := #[{ on := 9, ground := Ground.guard }], guard := some (9, false) } : Oper)) (v := .agg #[.int .i64 (j : Int), .slice a n cp]) rfl (by kernel_rfl) (by kernel_rfl) (by kernel_rfl) (fun _ _ _ h => h) (Or.inl ⟨by rfl, fun w hSw => by obtain ⟨hs0, hs1⟩ := hSw; go_simp⟩) ⟨d5.bx.1, d5.bx.2⟩ ?_
        simp only [Act.put, List.setIfInBounds_toArray, List.set_cons_zero, List.set_cons_succ]
        refine wpAnyH_ready (rs := [12]) (by kernel_rfl) (by simp) ?_
        refine AllReadyH.cons (o := ({ dst := some 42, op := Op.call { callee := Callee.value (Operand.func 8), args := #[Operand.tmp 40, Operand.tmp 41], argTypes := #[3, 28] }, type := 4, pos := "laws.go:324", after := #[{ on := 10, ground := Ground.data }, { on := 11, ground := Ground.data }, { on := 9, ground := Ground.chain }, { on := 9, ground := Ground.guard }], guard := some (9, false) } : Oper)) rfl (fun K hK => ?_) AllReadyH.nil
        go_simp
        refine (treeOK_as k j a n cp S _ d5.sp d5.ti.ok).mono ?_
        rintro e w6 ⟨rfl, hb6⟩
        refine hK.out _ _ ⟨(d5.call hb6).bx.1, (d5.call hb6).bx.2⟩ (fun _ => ?_)
        clear hK K
        have d6 := d5.call hb6
        refine wpAnyH_take (i := 13) (oi := ({ dst := some 43, op := Op.unOp UnOp.not 4 (Operand.tmp 42), type := 4, pos := "laws.go:324", after := #[{ on := 12, ground := Ground.data }, { on := 9, ground := Ground.guard }], guard := some (9, false) } : Oper)) (v := .bool false) rfl (by kernel_rfl) (by kernel_rfl) (by kernel_rfl) (fun _ _ _ h => h) (Or.inl ⟨by rfl, fun w hSw => by go_simp⟩) ⟨d6.bx.1, d6.bx.2⟩ ?_
        simp only [Act.put, List.setIfInBounds_toArray, List.set_cons_zero, List.set_cons_succ]
        refine wpAnyH_take (i := 14) (oi := ({ dst := some 44, op := Op.pick (Operand.tmp 39) (Operand.const (Value.bool true)) (Operand.tmp 43), type := 4, pos := "laws.go:324", after := #[{ on := 9, ground := Ground.data }, { on := 13, ground := Ground.data }], guard := none } : Oper)) (v := .bool false) rfl (by kernel_rfl) (by kernel_rfl) (by kernel_rfl) (fun _ _ _ h => h) (Or.inl ⟨by rfl, fun w hSw => by go_simp⟩) ⟨d6.bx.1, d6.bx.2⟩ ?_
        simp only [Act.put, List.setIfInBounds_toArray, List.set_cons_zero, List.set_cons_succ]
        refine wpAnyH_take (i := 15) (oi := ({ dst := some 45, op := Op.move (Operand.tmp 44), type := 4, pos := "laws.go:324", after := #[{ on := 14, ground := Ground.data }, { on := 12, ground := Ground.chain }], guard := none } : Oper)) (v := .bool false) rfl (by kernel_rfl) (by kernel_rfl) (by kernel_rfl) (fun _ _ _ h => h) (Or.inl ⟨by rfl, fun w hSw => by go_simp⟩) ⟨d6.bx.1, d6.bx.2⟩ ?_
        simp only [Act.put, List.setIfInBounds_toArray, List.set_cons_zero, List.set_cons_succ]
        refine wpAnyH_take (i := 16) (oi := ({ dst := some 46, op := Op.fieldAddr 28 (Operand.tmp 6) 0, type := 0, pos := "laws.go:324", after := #[{ on := 15, ground := Ground.guard }], guard := some (15, false) } : Oper)) (v := .pointer (some ⟨A, 0, none⟩)) rfl (by kernel_rfl) (by kernel_rfl) (by kernel_rfl) (fun _ _ _ h => h) (Or.inl ⟨by rfl, fun w hSw => by go_simp⟩) ⟨d6.bx.1, d6.bx.2⟩ ?_
        simp only [Act.put, List.setIfInBounds_toArray, List.set_cons_zero, List.set_cons_succ]
        refine wpAnyH_take (i := 17) (oi := ({ dst := some 47, op := Op.load 3 (Operand.tmp 46), type := 3, pos := "laws.go:324", after := #[{ on := 16, ground := Ground.data }, { on := 15, ground := Ground.guard }], guard := some (15, false) } : Oper)) (v := .int .i64 (j : Int)) rfl (by kernel_rfl) (by kernel_rfl) (by kernel_rfl) (fun _ _ _ h => h) (Or.inl ⟨by rfl, fun w hSw => by obtain ⟨hs0, hs1⟩ := hSw; go_simp⟩) ⟨d6.bx.1, d6.bx.2⟩ ?_
        simp only [Act.put, List.setIfInBounds_toArray, List.set_cons_zero, List.set_cons_succ]
        refine wpAnyH_take (i := 18) (oi := ({ dst := some 48, op := Op.move (Operand.tmp 7), type := 3, pos := "laws.go:324", after := #[{ on := 15, ground := Ground.guard }], guard := some (15, false) } : Oper)) (v := .int .i64 (j : Int)) rfl (by kernel_rfl) (by kernel_rfl) (by kernel_rfl) (fun _ _ _ h => h) (Or.inl ⟨by rfl, fun w hSw => by go_simp⟩) ⟨d6.bx.1, d6.bx.2⟩ ?_
        simp only [Act.put, List.setIfInBounds_toArray, List.set_cons_zero, List.set_cons_succ]
        refine wpAnyH_take (i := 19) (oi := ({ dst := some 49, op := Op.binOp BinOp.neq 3 (Operand.tmp 47) (Operand.tmp 48) 3, type := 4, pos := "laws.go:324", after := #[{ on := 17, ground := Ground.data }, { on := 18, ground := Ground.data }, { on := 15, ground := Ground.guard }], guard := some (15, false) } : Oper)) (v := .bool false) rfl (by kernel_rfl) (by kernel_rfl) (by kernel_rfl) (fun _ _ _ h => h) (Or.inl ⟨by rfl, fun w hSw => by go_simp⟩) ⟨d6.bx.1, d6.bx.2⟩ ?_
        simp only [Act.put, List.setIfInBounds_toArray, List.set_cons_zero, List.set_cons_succ]
        refine wpAnyH_take (i := 20) (oi := ({ dst := some 50, op := Op.pick (Operand.tmp 45) (Operand.const (Value.bool true)) (Operand.tmp 49), type := 4, pos := "laws.go:324", after := #[{ on := 15, ground := Ground.data }, { on := 19, ground := Ground.data }], guard := none } : Oper)) (v := .bool false) rfl (by kernel_rfl) (by kernel_rfl) (by kernel_rfl) (fun _ _ _ h => h) (Or.inl ⟨by rfl, fun w hSw => by go_simp⟩) ⟨d6.bx.1, d6.bx.2⟩ ?_
        simp only [Act.put, List.setIfInBounds_toArray, List.set_cons_zero, List.set_cons_succ]
        refine wpAnyH_done (by kernel_rfl) ?_ _
        obtain ⟨hx0, hx1⟩ := d6.bx
        have y0 := d6.f0
        have y1 := d6.f1
        go_wp2_with (go_at_call 9; refine (grow_as k j a n cp S (E j) _ d6.sp d6.cap (d6.kk hKy) d6.ti.ok (by omega) (Nat.le_trans (hsz6 j hlt) (by omega))).mono ?_; rintro e w7 ⟨g, cq, rfl, hOg, hb7⟩; have d7 := d6.call hb7; obtain ⟨u0, u1⟩ := id d7.bx; have v0 := d7.f0; have v1 := d7.f1)
        have hlt6 := d6.lt
        obtain ⟨q1, q2, q3, q4⟩ := own_cap hOg
        have hti := d7.ti.step (by omega)
        have hon := on_le j
        have hnn := d7.ti.num
        have hsg := own_sl hOg (by omega) (fun i hi => by rw [hti.wd i hi]; have := wid_le k; omega)
        have d8 := d7.put hti q1 hsg (by omega) hAw h3A
        go_roundw
        case rel => exact ⟨j + 1, _, cq, _, _, by omega, by go_num, d8⟩
        case measure => simp [intOf]; omega
      · obtain rfl : j = N := by omega
        obtain ⟨R, hR⟩ : ∃ R, RT k E j = R := ⟨_, rfl⟩
        have HR : Hid (RT k E j = R) := hR
        clear hR
        obtain ⟨hx0, hx1⟩ := id hp.bx
        have hone : True := trivial
        go_wp2_with (first | (go_at_call 6; refine (treeRoot_as k j a n cp S _ hp.sp (hp.kk hKy) R (hp.ti.rootD.trans HR.out)).mono ?_; rintro e w4 ⟨rfl, hb4⟩; have d4 := hp.call hb4) | (go_at_call 10; have _h := hone; refine (implRoot_any k j E (some ⟨g3, 0, none⟩) c3 _ R (by omega) d4.se (d4.kk hKy) hsz HR.out).mono ?_; rintro e w5 ⟨rfl, hb5⟩; have d5 := d4.call hb5; clear hone) | (go_at_call 10; refine (implRoot_any k j E (some ⟨g3, 0, none⟩) c3 _ R (by omega) d5.se (d5.kk hKy) hsz HR.out).mono ?_; rintro e w6 ⟨rfl, hb6⟩; have d6 := d5.call hb6) | (go_at_call 7; refine (specRoot_as k j E (some ⟨g3, 0, none⟩) c3 _ R d6.se (by omega) (by omega) hsz HR.out).mono ?_; rintro e w7 ⟨rfl, hb7⟩; have d7 := d6.call hb7))
        go_ret
        exact ⟨rfl, d7.bl⟩
  · have hn' : (1048576 : Int) < (cn : Int) := by omega
    go_enter Tryz.func3, Tryz.ntmps3
    go_wp2
    go_ret
    exact ⟨rfl, Below.refl _ _⟩
end Go.Proofs.YtjbbbfplephkpaaGreatDoor
