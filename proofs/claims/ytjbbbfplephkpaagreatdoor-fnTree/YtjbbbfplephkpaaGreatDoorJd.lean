/-
  Statements: StmOK (the specification's way): that it answers.
-/
import Derived.Test.YtjbbbfplephkpaaGreatDoorJc
import Derived.Deep.DeepCutAuto
namespace Go.Proofs.YtjbbbfplephkpaaGreatDoor
open Go.RowKit
/-- n columns lie there. -/
def Co (w : World) (a : Option Addr) (n : Nat) : Prop :=
  ∀ k, k < n → ∃ b off m s, a = some ⟨b, off, none⟩ ∧ w.cell? ⟨b, off + k * 2, none⟩ = some (.string s) ∧ w.cell? ⟨b, off + k * 2 + 1, none⟩ = some (.int .i64 m) ∧ s.size ≤ 40
theorem Co.later {w w' : World} {a : Option Addr} {n : Nat} (h : Co w a n) (hb : Below w.heap.size w w') : Co w' a n := fun k hk => by
  obtain ⟨b, off, m, s, e, h0, h1, hs⟩ := h k hk
  exact ⟨b, off, m, s, e, (hb.cell (World.block_lt_of_cell? w _ h0)).trans h0, (hb.cell (World.block_lt_of_cell? w _ h1)).trans h1, hs⟩
/-- n expressions lie there. -/
def Ou (w : World) (a : Option Addr) (n : Nat) : Prop :=
  ∀ k, k < n → ∃ b off i m c, a = some ⟨b, off, none⟩ ∧ w.cell? ⟨b, off + k, none⟩ = some (.slice i m c) ∧ It w i m ∧ m ≤ 100
theorem Ou.later {w w' : World} {a : Option Addr} {n : Nat} (h : Ou w a n) (hb : Below w.heap.size w w') : Ou w' a n := fun k hk => by
  obtain ⟨b, off, i, m, c, e, h0, hi, hm⟩ := h k hk
  exact ⟨b, off, i, m, c, e, (hb.cell (World.block_lt_of_cell? w _ h0)).trans h0, hi.later hb, hm⟩
/-- The parts of a statement. -/
structure SP where
  k : Int
  tb : ByteArray
  a2 : Option Addr
  n2 : Nat
  c2 : Nat
  a3 : Option Addr
  n3 : Nat
  c3 : Nat
  col : ByteArray
  a5 : Option Addr
  n5 : Nat
  c5 : Nat
  a6 : Option Addr
  n6 : Nat
  c6 : Nat
  a7 : Option Addr
  n7 : Nat
  c7 : Nat
/-- Its cells. -/
@[reducible] def SP.cs (p : SP) : Array Value := #[.int .i64 p.k, .string p.tb, .slice p.a2 p.n2 p.c2, .slice p.a3 p.n3 p.c3, .string p.col, .slice p.a5 p.n5 p.c5, .slice p.a6 p.n6 p.c6, .slice p.a7 p.n7 p.c7]
/-- A statement lies there. -/
structure Sm (w : World) (p : SP) : Prop where
  tb : p.tb.size ≤ 40
  col : p.col.size ≤ 40
  co : Co w p.a2 p.n2
  va : It w p.a3 p.n3
  ex : It w p.a5 p.n5
  wh : It w p.a6 p.n6
  ou : Ou w p.a7 p.n7
  l2 : p.n2 ≤ 100
  l3 : p.n3 ≤ 100
  l5 : p.n5 ≤ 100
  l6 : p.n6 ≤ 100
  l7 : p.n7 ≤ 100
theorem Sm.later {w w' : World} {p : SP} (h : Sm w p) (hb : Below w.heap.size w w') : Sm w' p :=
  ⟨h.tb, h.col, h.co.later hb, h.va.later hb, h.ex.later hb, h.wh.later hb, h.ou.later hb, h.l2, h.l3, h.l5, h.l6, h.l7⟩
/-- The eight cells of a statement's own block. -/
structure B8 (w : World) (g : Nat) (p : SP) : Prop where
  c0 : w.cell? ⟨g, 0, none⟩ = some (.int .i64 p.k)
  c1 : w.cell? ⟨g, 1, none⟩ = some (.string p.tb)
  c2 : w.cell? ⟨g, 2, none⟩ = some (.slice p.a2 p.n2 p.c2)
  c3 : w.cell? ⟨g, 3, none⟩ = some (.slice p.a3 p.n3 p.c3)
  c4 : w.cell? ⟨g, 4, none⟩ = some (.string p.col)
  c5 : w.cell? ⟨g, 5, none⟩ = some (.slice p.a5 p.n5 p.c5)
  c6 : w.cell? ⟨g, 6, none⟩ = some (.slice p.a6 p.n6 p.c6)
  c7 : w.cell? ⟨g, 7, none⟩ = some (.slice p.a7 p.n7 p.c7)
theorem B8.new (w : World) (p : SP) (t : TypeId) : B8 (w.alloc (.cells p.cs t)) w.heap.size p :=
  ⟨(cell_of_row _ _ 0 _ _ _ (heap_alloc_new w _)).trans rfl, (cell_of_row _ _ 1 _ _ _ (heap_alloc_new w _)).trans rfl, (cell_of_row _ _ 2 _ _ _ (heap_alloc_new w _)).trans rfl, (cell_of_row _ _ 3 _ _ _ (heap_alloc_new w _)).trans rfl, (cell_of_row _ _ 4 _ _ _ (heap_alloc_new w _)).trans rfl, (cell_of_row _ _ 5 _ _ _ (heap_alloc_new w _)).trans rfl, (cell_of_row _ _ 6 _ _ _ (heap_alloc_new w _)).trans rfl, (cell_of_row _ _ 7 _ _ _ (heap_alloc_new w _)).trans rfl⟩
theorem keepB {w w' : World} {p : Addr} {v : Value} (hb : Below w.heap.size w w') (hc : w.cell? p = some v) : w'.cell? p = some v := (hb.cell (World.block_lt_of_cell? w _ hc)).trans hc
theorem B8.later {w w' : World} {g : Nat} {p : SP} (h : B8 w g p) (hb : Below w.heap.size w w') : B8 w' g p :=
  ⟨keepB hb h.c0, keepB hb h.c1, keepB hb h.c2, keepB hb h.c3, keepB hb h.c4, keepB hb h.c5, keepB hb h.c6, keepB hb h.c7⟩
theorem kept2 {w w2 : World} {x y : Value} {t : TypeId} (hb : Below (w.alloc (.cells #[x, y] t)).heap.size (w.alloc (.cells #[x, y] t)) w2) :
    w2.cell? ⟨w.heap.size, 0, none⟩ = some x ∧ w2.cell? ⟨w.heap.size, 1, none⟩ = some y := by
  have h0 : (w.alloc (.cells #[x, y] t)).cell? ⟨w.heap.size, 0, none⟩ = some x := (cell_of_row _ _ 0 _ _ _ (heap_alloc_new w _)).trans rfl
  have h1 : (w.alloc (.cells #[x, y] t)).cell? ⟨w.heap.size, 1, none⟩ = some y := (cell_of_row _ _ 1 _ _ _ (heap_alloc_new w _)).trans rfl
  exact ⟨(hb.cell (World.block_lt_of_cell? _ _ h0)).trans h0, (hb.cell (World.block_lt_of_cell? _ _ h1)).trans h1⟩
set_option maxRecDepth 20000 in
set_option maxHeartbeats 8000000 in
theorem stmOK_any (p : SP) (w : World) (h : Sm w p) : Calls Tryz.prog 42 #[.agg p.cs] w fun e w' => IsB e ∧ Below w.heap.size w w' := by
  have hb0 := bal w (.cells p.cs 61)
  have H0 := h.later hb0
  have q0 := B8.new w p 61
  obtain ⟨k, tb, a2, n2, c2, a3, n3, c3, col, a5, n5, c5, a6, n6, c6, a7, n7, c7⟩ := p
  obtain ⟨htb, hcol, -, -, -, -, -, -, -, -, -, -⟩ := id h
  dsimp only at htb hcol
  go_enter Tryz.func42, Tryz.ntmps42
  go_upto_region 4 with (go_at_call 64; refine (name_any _ _ (by omega)).mono ?_; rintro e w1 ⟨⟨b, rfl⟩, hb1⟩; have H1 := H0.later hb1; have Q1 := q0.later hb1; obtain ⟨q0, q1, q2, q3, q4, q5, q6, q7⟩ := id Q1; dsimp only at q0 q1 q2 q3 q4 q5 q6 q7; replace hb1 := hb0.trans (hb1.mono hb0.size); cases b)
  · go_ret
    exact ⟨⟨_, rfl⟩, hb1⟩
  go_cut [0, 3, 58] (fun _ v3 v wx => v3 = .int .i64 k ∧ (∃ b, v = .bool b) ∧ wx = w1)
  case first =>
    go_wp2
    all_goals go_meet
    all_goals exact ⟨by first | rfl | simp [*], ⟨_, rfl⟩, rfl⟩
  case rest =>
    obtain ⟨rfl, ⟨b, rfl⟩, rfl⟩ := hcut
    obtain ⟨-, -, hco, hva, hex, hwh, hou, l2, l3, l5, l6, l7⟩ := id H1
    dsimp only at hco hva hex hwh hou l2 l3 l5 l6 l7
    cases b
    · by_cases hk3 : k < 3
      · by_cases e6 : n6 = 0
        · subst e6
          by_cases e1 : k = 1
          · subst e1
            go_wp2
            go_loopw [2, 5, 73] (fun _ _ i wr => ∃ k : Nat, k ≤ n2 ∧ i = .int .i64 k ∧ Below wc.heap.size wc wr) (fun _ _ i _ => n2 - (intOf i).toNat)
            case atStart => exact ⟨0, by omega, rfl, Below.refl _ _⟩
            case round =>
              obtain ⟨j, hj, rfl, hb2⟩ := hrel
              have t2 := keepB hb2 q2
              by_cases hlt : j < n2
              · obtain ⟨b, off, m, s, rfl, d0, d1, hs⟩ := hco.later hb2 j hlt
                have t3 := keepB (bal wr (.cells #[.string s, .int .i64 m] 76)) t2
                go_wp2_with (first | (go_at_call 64; refine (name_any s _ (by omega)).mono ?_; rintro e w3 ⟨⟨b, rfl⟩, hb3⟩; obtain ⟨f0, f1⟩ := kept2 hb3; replace hb3 := bj hb2 hb3; cases b) | (go_at_call 65; refine (type_any m _).mono ?_; rintro e w4 ⟨⟨b, rfl⟩, rfl⟩; cases b))
                all_goals try (go_ret; first | exact ⟨⟨_, rfl⟩, hb1.trans (hb3.mono hb1.size)⟩ | exact ⟨⟨_, rfl⟩, hb1.trans ((hb2.trans ((bal _ _).mono hb2.size)).mono hb1.size)⟩)
                go_roundw
                case rel => exact ⟨j + 1, by omega, by go_num, hb3⟩
                case measure => simp [intOf]; omega
              · go_wp2
                go_ret
                exact ⟨⟨_, rfl⟩, hb1.trans (hb2.mono hb1.size)⟩
          · by_cases e2 : k = 2
            · subst e2
              go_wp2
              go_loopw [2, 7, 103] (fun _ _ i wr => ∃ k : Nat, k ≤ n3 ∧ i = .int .i64 k ∧ Below wc.heap.size wc wr) (fun _ _ i _ => n3 - (intOf i).toNat)
              case atStart => exact ⟨0, by omega, rfl, Below.refl _ _⟩
              case round =>
                obtain ⟨j, hj, rfl, hb2⟩ := hrel
                have t2 := keepB hb2 q3
                by_cases hlt : j < n3
                · obtain ⟨b, off, o, m, s, rfl, d0, d1, d2, hs⟩ := hva.later hb2 j hlt
                  have t3 := keepB (bal wr (.cells #[.int .i64 o, .int .i64 m, .string s] 78)) t2
                  go_wp2_with (go_at_call 66; refine (value_any o m s _ (by omega)).mono ?_; rintro e w3 ⟨⟨b, rfl⟩, hb3⟩; replace hb3 := bj hb2 hb3; cases b)
                  all_goals try (go_ret; first | exact ⟨⟨_, rfl⟩, hb1.trans (hb3.mono hb1.size)⟩ | exact ⟨⟨_, rfl⟩, hb1.trans ((hb2.trans ((bal _ _).mono hb2.size)).mono hb1.size)⟩)
                  go_roundw
                  case rel => exact ⟨j + 1, by omega, by go_num, hb3⟩
                  case measure => simp [intOf]; omega
                · go_wp2
                  go_ret
                  exact ⟨⟨_, rfl⟩, hb1.trans (hb2.mono hb1.size)⟩
            · go_wp2
              go_ret
              exact ⟨⟨_, rfl⟩, hb1⟩
        · have e6i : ¬ (n6 : Int) = 0 := by omega
          go_wp2
          go_ret
          exact ⟨⟨_, rfl⟩, hb1⟩
      · have hk3' : 3 ≤ k := by omega
        go_wp2_with (first | (go_at_call 64; refine (name_any col _ (by omega)).mono ?_; rintro e w2 ⟨⟨b, rfl⟩, hb2⟩; have H2 := H1.later hb2; obtain ⟨-, -, -, -, -, r5, r6, -⟩ := Q1.later hb2; dsimp only at r5 r6; replace hb2 := hb1.trans (hb2.mono hb1.size); cases b) | (go_at_call 67; refine (exp_any a5 n5 c5 _ H2.ex (by omega)).mono ?_; rintro e w3 ⟨⟨b, rfl⟩, hb3⟩; have H3 := H2.later hb3; have s6 := keepB hb3 r6; replace hb3 := hb2.trans (hb3.mono hb2.size); cases b) | (go_at_call 68; have _k := hb3; refine (where_any a6 n6 c6 _ H3.wh (by omega)).mono ?_; rintro e w4 ⟨⟨b, rfl⟩, hb4⟩; replace hb4 := hb3.trans (hb4.mono hb3.size); cases b) | (go_at_call 68; refine (where_any a6 n6 c6 _ hwh (by omega)).mono ?_; rintro e w4 ⟨⟨b, rfl⟩, hb4⟩; replace hb4 := hb1.trans (hb4.mono hb1.size); cases b))
        all_goals try (go_ret; first | exact ⟨⟨_, rfl⟩, hb1⟩ | exact ⟨⟨_, rfl⟩, hb4⟩ | exact ⟨⟨_, rfl⟩, hb3⟩ | exact ⟨⟨_, rfl⟩, hb2⟩)
        go_loopw [2, 9, 146] (fun _ _ i wr => ∃ k : Nat, k ≤ n7 ∧ i = .int .i64 k ∧ Below wc.heap.size wc wr) (fun _ _ i _ => n7 - (intOf i).toNat)
        case atStart => exact ⟨0, by omega, rfl, Below.refl _ _⟩
        case round =>
          obtain ⟨j, hj, rfl, hb2⟩ := hrel
          have t2 := keepB hb2 q7
          have t6 := keepB hb2 q6
          by_cases hlt : j < n7
          · obtain ⟨b, off, i, m, c, rfl, d0, di, dm⟩ := hou.later hb2 j hlt
            go_wp2_with (go_at_call 67; refine (exp_any i m c _ di (by omega)).mono ?_; rintro e w3 ⟨⟨b, rfl⟩, hb3⟩; replace hb3 := hb2.trans (hb3.mono hb2.size); cases b)
            all_goals try (go_ret; first | exact ⟨⟨_, rfl⟩, hb1.trans (hb3.mono hb1.size)⟩ | exact ⟨⟨_, rfl⟩, hb1.trans (hb2.mono hb1.size)⟩)
            go_roundw
            case rel => exact ⟨j + 1, by omega, by go_num, hb3⟩
            case measure => simp [intOf]; omega
          · go_wp2_with (go_at_call 68; refine (where_any a6 n6 c6 _ (hwh.later hb2) (by omega)).mono ?_; rintro e w3 ⟨⟨b, rfl⟩, hb3⟩; replace hb3 := hb2.trans (hb3.mono hb2.size); cases b)
            all_goals
              go_ret
              first
                | exact ⟨⟨_, rfl⟩, hb1.trans (hb3.mono hb1.size)⟩
                | exact ⟨⟨_, rfl⟩, hb1.trans (hb2.mono hb1.size)⟩
    · go_wp2
      go_ret
      exact ⟨⟨_, rfl⟩, hb1⟩
end Go.Proofs.YtjbbbfplephkpaaGreatDoor
