/-
  The tables of an argument, copied by the law.
-/
import Derived.Test.YtgeiamgeclbiaaaGreatDoorNr
namespace Go.Proofs.YtgeiamgeclbiaaaGreatDoor
open Go.RowKit Go.Maps Go.WideMaps
/-- A statement lies there, of whatever length. -/
structure SX (w : World) (d : St) (p : Sa) : Prop where
  tb : d.tb.size ≤ 9223372036854775807
  col : d.col.size ≤ 9223372036854775807
  co : CX w p.a2 d.n2 d.C
  va : IX w p.a3 d.n3 d.V
  ex : IX w p.a5 d.n5 d.E
  wh : IX w p.a6 d.n6 d.W
  ou : OX w p.a7 d.n7 d.m7 d.O
theorem SX.later {w w' : World} {d : St} {p : Sa} (h : SX w d p) (hb : Below w.heap.size w w') : SX w' d p :=
  ⟨h.tb, h.col, h.co.later hb, h.va.later hb, h.ex.later hb, h.wh.later hb, h.ou.later hb⟩
/-- Its measures are small. -/
structure Sm8 (d : St) : Prop where
  tb : d.tb.size ≤ 1048576
  col : d.col.size ≤ 1048576
  co : d.n2 ≤ 1048576 ∧ ∀ k, k < d.n2 → (d.C k).s.size ≤ 1048576
  va : d.n3 ≤ 1048576 ∧ ∀ k, k < d.n3 → (d.V k).s.size ≤ 1048576
  ex : d.n5 ≤ 1048576 ∧ ∀ k, k < d.n5 → (d.E k).s.size ≤ 1048576
  wh : d.n6 ≤ 1048576 ∧ ∀ k, k < d.n6 → (d.W k).s.size ≤ 1048576
  ou : d.n7 ≤ 1048576 ∧ ∀ k, k < d.n7 → d.m7 k ≤ 1048576 ∧ ∀ j, j < d.m7 k → (d.O k j).s.size ≤ 1048576
theorem SX.small {w : World} {d : St} {p : Sa} (h : SX w d p) (s : Sm8 d) : SM w d p :=
  ⟨s.tb, s.col, h.co.small s.co.2, h.va.small s.va.2, h.ex.small s.ex.2, h.wh.small s.wh.2, h.ou.small s.ou.2, s.co.1, s.va.1, s.ex.1, s.wh.1, s.ou.1⟩
set_option maxRecDepth 20000 in
set_option maxHeartbeats 4000000 in
theorem eqStm_any (d : St) (p p' : Sa) (w : World) (h : SM w d p) (h' : SM w d p') : Calls Tryz.prog 13 #[.agg (cs8 d p), .agg (cs8 d p')] w fun e w' => e = .returned (.bool true) ∧ Below w.heap.size w w' := by
  have hb0 := bstep (bal w (.cells (cs8 d p) 45)) (bal _ (.cells (cs8 d p') 45))
  have H0 := h.later hb0
  have K0 := h'.later hb0
  have Q0 := (B8.new w d p 45).later (bal _ (.cells (cs8 d p') 45))
  have P0 := B8.new (w.alloc (.cells (cs8 d p) 45)) d p' 45
  have es : (w.alloc (.cells (cs8 d p) 45)).heap.size = w.heap.size + 1 := by simp
  rw [es] at P0
  go_enter Tryz.func13, Tryz.ntmps13
  go_wp2_with (first | (go_at_call 43; refine (eqOuts _ _ _ _ _ _ _ _ H4.ou K4.ou H4.l7).mono ?_; rintro e w5 ⟨rfl, hb5⟩; have H5 := H4.later hb5; have K5 := K4.later hb5; have Q5 := Q4.later hb5; have P5 := P4.later hb5; replace hb5 := bstep hb4 hb5; obtain ⟨y0_5, y1_5, y2_5, y3_5, y4_5, y5_5, y6_5, y7_5⟩ := id Q5; obtain ⟨z0_5, z1_5, z2_5, z3_5, z4_5, z5_5, z6_5, z7_5⟩ := id P5) | (go_at_call 42; have _h := hb3; refine (eqItms _ _ _ _ _ _ _ H3.wh K3.wh H3.l6).mono ?_; rintro e w4 ⟨rfl, hb4⟩; have H4 := H3.later hb4; have K4 := K3.later hb4; have Q4 := Q3.later hb4; have P4 := P3.later hb4; replace hb4 := bstep hb3 hb4; obtain ⟨y0_4, y1_4, y2_4, y3_4, y4_4, y5_4, y6_4, y7_4⟩ := id Q4; obtain ⟨z0_4, z1_4, z2_4, z3_4, z4_4, z5_4, z6_4, z7_4⟩ := id P4) | (go_at_call 42; refine (eqItms _ _ _ _ _ _ _ H2.ex K2.ex H2.l5).mono ?_; rintro e w3 ⟨rfl, hb3⟩; have H3 := H2.later hb3; have K3 := K2.later hb3; have Q3 := Q2.later hb3; have P3 := P2.later hb3; replace hb3 := bstep hb2 hb3; obtain ⟨y0_3, y1_3, y2_3, y3_3, y4_3, y5_3, y6_3, y7_3⟩ := id Q3; obtain ⟨z0_3, z1_3, z2_3, z3_3, z4_3, z5_3, z6_3, z7_3⟩ := id P3) | (go_at_call 39; refine (eqVals _ _ _ _ _ _ _ H1.va K1.va H1.l3).mono ?_; rintro e w2 ⟨rfl, hb2⟩; have H2 := H1.later hb2; have K2 := K1.later hb2; have Q2 := Q1.later hb2; have P2 := P1.later hb2; replace hb2 := bstep hb1 hb2; obtain ⟨y0_2, y1_2, y2_2, y3_2, y4_2, y5_2, y6_2, y7_2⟩ := id Q2; obtain ⟨z0_2, z1_2, z2_2, z3_2, z4_2, z5_2, z6_2, z7_2⟩ := id P2) | (go_at_call 41; refine (eqCols _ _ _ _ _ _ _ H0.co K0.co H0.l2).mono ?_; rintro e w1 ⟨rfl, hb1⟩; have H1 := H0.later hb1; have K1 := K0.later hb1; have Q1 := Q0.later hb1; have P1 := P0.later hb1; replace hb1 := bstep hb0 hb1; obtain ⟨y0_1, y1_1, y2_1, y3_1, y4_1, y5_1, y6_1, y7_1⟩ := id Q1; obtain ⟨z0_1, z1_1, z2_1, z3_1, z4_1, z5_1, z6_1, z7_1⟩ := id P1))
  go_ret
  exact ⟨rfl, hb5⟩
end Go.Proofs.YtgeiamgeclbiaaaGreatDoor
namespace Go.Proofs.YtgeiamgeclbiaaaGreatDoor
open Go.RowKit Go.Maps Go.WideMaps
theorem rowL {w w' : World} {B : Nat} {o : Obj} (h : w.heap[B]? = some o) (hb : Below w.heap.size w w') : w'.heap[B]? = some o := (hb.block B (Array.getElem?_eq_some_iff.1 h).1).trans h
theorem rowO {w : World} {B B' i : Nat} {o : Obj} {v : Value} (h : w.heap[B']? = some o) (hne : B' ≠ B) : (w.setCell ⟨B, i, none⟩ v).heap[B']? = some o := (heap_setCell_other _ _ _ _ hne).trans h
theorem bset {w V : World} {B i : Nat} {v : Value} (hb : Below w.heap.size w V) (hB : w.heap.size ≤ B) : Below w.heap.size w (V.setCell ⟨B, i, none⟩ v) := hb.setCell hB _
/-- The three boxes of a copying. -/
structure R3 (V : World) (B : Nat) (A Z X : Array Value) : Prop where
  a : V.heap[B]? = some (.cells A 30 (0, 0))
  z : V.heap[B + 1]? = some (.cells Z 45 (0, 0))
  x : V.heap[B + 1 + 1]? = some (.cells X 45 (0, 0))
theorem R3.later {V V' : World} {B : Nat} {A Z X : Array Value} (h : R3 V B A Z X) (hb : Below V.heap.size V V') : R3 V' B A Z X := ⟨rowL h.a hb, rowL h.z hb, rowL h.x hb⟩
theorem R3.set {V : World} {B i : Nat} {A Z X : Array Value} {v : Value} (h : R3 V B A Z X) : R3 (V.setCell ⟨B + 1 + 1, i, none⟩ v) B A Z (X.setIfInBounds i v) := ⟨rowO h.a (by omega), rowO h.z (by omega), heap_setCell_same _ _ _ _ _ _ h.x⟩
theorem R3.new (w : World) (A Z X : Array Value) : R3 (((w.alloc (.cells A 30)).alloc (.cells Z 45)).alloc (.cells X 45)) w.heap.size A Z X := by
  have e1 : (w.alloc (.cells A 30)).heap.size = w.heap.size + 1 := by simp
  have e2 : ((w.alloc (.cells A 30)).alloc (.cells Z 45)).heap.size = w.heap.size + 1 + 1 := by simp
  have h1 := heap_alloc_new w (.cells A 30)
  have h2 := heap_alloc_new (w.alloc (.cells A 30)) (.cells Z 45)
  have h3 := heap_alloc_new ((w.alloc (.cells A 30)).alloc (.cells Z 45)) (.cells X 45)
  rw [e1] at h2
  rw [e2] at h3
  exact ⟨rowL (rowL h1 (bal _ _)) (bal _ _), rowL h2 (bal _ _), h3⟩
end Go.Proofs.YtgeiamgeclbiaaaGreatDoor
namespace Go.Proofs.YtgeiamgeclbiaaaGreatDoor
open Go.RowKit Go.Maps Go.WideMaps
set_option maxRecDepth 20000 in
set_option maxHeartbeats 2000000 in
theorem szRows (a : Option Addr) (n c : Nat) (m : Nat → Nat) (O : Nat → Nat → Itm) (w : World) (h : OX w a n m O) (L : Int) (h0 : 0 ≤ L) (h1 : L ≤ 1048576) :
    Calls Tryz.prog 112 #[.slice a n c, .int .i64 L] w fun e w' => Below w.heap.size w w' ∧ ∃ r : Int, e = .returned (.int .i64 r) ∧ r ≤ 1048576 ∧ (0 ≤ r → n ≤ 1048576 ∧ ∀ k, k < n → m k ≤ 1048576 ∧ ∀ j, j < m k → (O k j).s.size ≤ 1048576) := by
  have hn := h.1
  have hb0 := Below.refl w.heap.size w
  by_cases hs : (n : Int) ≤ L
  · go_enter Tryz.func112, Tryz.ntmps112
    go_wp2
    go_loopw [1, 5] (fun l i wr => ∃ k : Nat, ∃ x : Int, k ≤ n ∧ i = .int .i64 k ∧ l = .int .i64 x ∧ 0 ≤ x ∧ x ≤ 1048576 ∧ (∀ q, q < k → m q ≤ 1048576 ∧ ∀ j, j < m q → (O q j).s.size ≤ 1048576) ∧ Below w.heap.size w wr) (fun _ i _ => n - (intOf i).toNat)
    case atStart => exact ⟨0, _, by omega, rfl, rfl, by omega, by omega, fun j hj => by omega, hb0⟩
    case round =>
      obtain ⟨k, x, hk, rfl, rfl, hx0, hx1, hall, hb⟩ := hrel
      by_cases hlt : k < n
      · obtain ⟨b, off, i, c', rfl, c0, hi⟩ := (h.later hb).2 k hlt
        go_wp2_with (go_at_call 23; refine (szVals i _ c' _ _ hi _ hx0 hx1).mono ?_; rintro e w1 ⟨hb1, r, rfl, hr1, hr2⟩; replace hb1 := bstep hb hb1; by_cases hr : (0 : Int) ≤ r)
        · go_roundw
          case rel => exact ⟨k + 1, r, by omega, by go_num, rfl, hr, hr1, fun j hj => by
            by_cases e : j = k
            · subst e; exact hr2 hr
            · exact hall j (by omega), hb1⟩
          case measure => simp [intOf]; omega
        · go_ret
          exact ⟨hb1, -1, rfl, by omega, fun hh => by omega⟩
      · obtain rfl : k = n := by omega
        go_wp2
        go_ret
        exact ⟨hb, _, rfl, hx1, fun _ => ⟨by omega, hall⟩⟩
  · go_enter Tryz.func112, Tryz.ntmps112
    go_wp2
    go_ret
    exact ⟨hb0, -1, rfl, by omega, fun hh => by omega⟩
theorem Tryz.infoRow : (Tryz.prog.info? 41).map (fun i => (i.zero, i.size, i.bytes)) = some (some (.slice none 0 0), 1, 24) := by kernel_rfl
set_option maxRecDepth 20000 in
set_option maxHeartbeats 4000000 in
theorem eqRows (a a' : Option Addr) (n c c' : Nat) (m : Nat → Nat) (O : Nat → Nat → Itm) (w : World) (h : OL w a n m O) (h' : OL w a' n m O) (hn : n ≤ 1048576) :
    Calls Tryz.prog 11 #[.slice a n c, .slice a' n c'] w fun e w' => e = .returned (.bool true) ∧ Below w.heap.size w w' := by
  have hb0 := Below.refl w.heap.size w
  go_enter Tryz.func11, Tryz.ntmps11
  go_wp2
  go_loopw [5] (fun i wr => ∃ k : Nat, k ≤ n ∧ i = .int .i64 k ∧ Below w.heap.size w wr) (fun i _ => n - (intOf i).toNat)
  case atStart => exact ⟨0, by omega, rfl, hb0⟩
  case round =>
    obtain ⟨k, hk, rfl, hb⟩ := hrel
    by_cases hlt : k < n
    · have hkk : (k : Int) < n := by omega
      obtain ⟨b, off, i, d, rfl, c0, hi, hm⟩ := h.later hb k hlt
      obtain ⟨b', off', i', d', rfl, c0', hi', -⟩ := h'.later hb k hlt
      go_wp2
      go_region_with (go_at_call 39; refine (eqVals i i' _ d d' _ _ hi.drew hi'.drew hm).mono ?_; rintro e w1 ⟨rfl, hb1⟩)
      all_goals
        go_wp2
        go_roundw
        case rel => exact ⟨k + 1, by omega, by go_num, bstep hb (undrew hb1)⟩
        case measure => simp [intOf]; omega
    · obtain rfl : k = n := by omega
      go_wp2
      go_ret
      exact ⟨rfl, hb⟩
end Go.Proofs.YtgeiamgeclbiaaaGreatDoor
namespace Go.Proofs.YtgeiamgeclbiaaaGreatDoor
open Go.RowKit Go.Maps Go.WideMaps
/-- What a table says. -/
structure Td where
  s : ByteArray
  n : Nat
  C : Nat → Clm
  r : Nat
  m : Nat → Nat
  R : Nat → Nat → Itm
/-- Its three cells. -/
abbrev cs3 (d : Td) (ac : Option Addr) (cc : Nat) (ar : Option Addr) (cr : Nat) : Array Value := #[.string d.s, .slice ac d.n cc, .slice ar d.r cr]
/-- Its measures are small. -/
structure Sm3 (d : Td) : Prop where
  s : d.s.size ≤ 1048576
  co : d.n ≤ 1048576 ∧ ∀ k, k < d.n → (d.C k).s.size ≤ 1048576
  ro : d.r ≤ 1048576 ∧ ∀ k, k < d.r → d.m k ≤ 1048576 ∧ ∀ j, j < d.m k → (d.R k j).s.size ≤ 1048576
/-- n tables, of whatever length. -/
def TX (w : World) (a : Option Addr) (n : Nat) (T : Nat → Td) : Prop :=
  n ≤ 9223372036854775807 ∧ ∀ k, k < n → ∃ b off ac cc ar cr, a = some ⟨b, off, none⟩ ∧ w.cell? ⟨b, off + k * 3, none⟩ = some (.string (T k).s) ∧ w.cell? ⟨b, off + k * 3 + 1, none⟩ = some (.slice ac (T k).n cc) ∧ w.cell? ⟨b, off + k * 3 + 2, none⟩ = some (.slice ar (T k).r cr) ∧ (T k).s.size ≤ 9223372036854775807 ∧ CX w ac (T k).n (T k).C ∧ OX w ar (T k).r (T k).m (T k).R
theorem TX.later {w w' : World} {a : Option Addr} {n : Nat} {T : Nat → Td} (h : TX w a n T) (hb : Below w.heap.size w w') : TX w' a n T := ⟨h.1, fun k hk => by
  obtain ⟨b, off, ac, cc, ar, cr, e, h0, h1, h2, hs, hC, hO⟩ := h.2 k hk
  exact ⟨b, off, ac, cc, ar, cr, e, keepB hb h0, keepB hb h1, keepB hb h2, hs, hC.later hb, hO.later hb⟩⟩
/-- n tables. -/
def TL (w : World) (a : Option Addr) (n : Nat) (T : Nat → Td) : Prop :=
  ∀ k, k < n → ∃ b off ac cc ar cr, a = some ⟨b, off, none⟩ ∧ w.cell? ⟨b, off + k * 3, none⟩ = some (.string (T k).s) ∧ w.cell? ⟨b, off + k * 3 + 1, none⟩ = some (.slice ac (T k).n cc) ∧ w.cell? ⟨b, off + k * 3 + 2, none⟩ = some (.slice ar (T k).r cr) ∧ CL w ac (T k).n (T k).C ∧ OL w ar (T k).r (T k).m (T k).R ∧ Sm3 (T k)
theorem TL.later {w w' : World} {a : Option Addr} {n : Nat} {T : Nat → Td} (h : TL w a n T) (hb : Below w.heap.size w w') : TL w' a n T := fun k hk => by
  obtain ⟨b, off, ac, cc, ar, cr, e, h0, h1, h2, hC, hO, hs⟩ := h k hk
  exact ⟨b, off, ac, cc, ar, cr, e, keepB hb h0, keepB hb h1, keepB hb h2, hC.later hb, hO.later hb, hs⟩
theorem TX.small {w : World} {a : Option Addr} {n : Nat} {T : Nat → Td} (h : TX w a n T) (hs : ∀ k, k < n → Sm3 (T k)) : TL w a n T := fun k hk => by
  obtain ⟨b, off, ac, cc, ar, cr, e, h0, h1, h2, -, hC, hO⟩ := h.2 k hk
  exact ⟨b, off, ac, cc, ar, cr, e, h0, h1, h2, hC.small (hs k hk).co.2, hO.small (hs k hk).ro.2, hs k hk⟩
set_option maxRecDepth 20000 in
set_option maxHeartbeats 4000000 in
theorem szTab (s : ByteArray) (n : Nat) (C : Nat → Clm) (r : Nat) (m : Nat → Nat) (R : Nat → Nat → Itm) (ac : Option Addr) (cc : Nat) (ar : Option Addr) (cr : Nat) (w : World) (hs : s.size ≤ 9223372036854775807) (hC : CX w ac n C) (hR : OX w ar r m R) (L : Int) (h0 : 0 ≤ L) (h1 : L ≤ 1048576) :
    Calls Tryz.prog 62 #[.agg #[.string s, .slice ac n cc, .slice ar r cr], .int .i64 L] w fun e w' => Below w.heap.size w w' ∧ ∃ x : Int, e = .returned (.int .i64 x) ∧ x ≤ 1048576 ∧ (0 ≤ x → Sm3 ⟨s, n, C, r, m, R⟩) := by
  have hb0 := bal w (.cells #[.string s, .slice ac n cc, .slice ar r cr] 99)
  obtain ⟨g0, g1, g2⟩ := kept3 (Below.refl (w.alloc (.cells #[.string s, .slice ac n cc, .slice ar r cr] 99)).heap.size (w.alloc (.cells #[.string s, .slice ac n cc, .slice ar r cr] 99)))
  have HC := hC.later hb0
  have HR := hR.later hb0
  by_cases ht : (0 : Int) ≤ L - s.size
  · go_enter Tryz.func62, Tryz.ntmps62
    go_wp2_with (first | (go_at_call 22; refine (szCols _ _ _ _ _ HC _ (by omega) (by omega)).mono ?_; rintro e w1 ⟨hb1, r1, rfl, hr1, hs1⟩; have HR1 := HR.later hb1; have k2 := keepB hb1 g2; replace hb1 := bstep hb0 hb1; by_cases hp1 : (0 : Int) ≤ r1) | (go_at_call 112; refine (szRows _ _ _ _ _ _ HR1 _ hp1 hr1).mono ?_; rintro e w2 ⟨hb2, r2, rfl, hr2, hs2⟩; replace hb2 := bstep hb1 hb2; by_cases hp2 : (0 : Int) ≤ r2))
    all_goals go_ret
    · exact ⟨hb2, r2, rfl, hr2, fun _ => ⟨by show s.size ≤ _; omega, hs1 hp1, hs2 hp2⟩⟩
    · exact ⟨hb2, -1, rfl, by omega, fun hh => by omega⟩
    · exact ⟨hb1, -1, rfl, by omega, fun hh => by omega⟩
  · go_enter Tryz.func62, Tryz.ntmps62
    go_wp2
    go_ret
    exact ⟨hb0, -1, rfl, by omega, fun hh => by omega⟩
set_option maxRecDepth 20000 in
set_option maxHeartbeats 4000000 in
theorem szTabs (a : Option Addr) (n c : Nat) (T : Nat → Td) (w : World) (h : TX w a n T) (L : Int) (h0 : 0 ≤ L) (h1 : L ≤ 1048576) :
    Calls Tryz.prog 21 #[.slice a n c, .int .i64 L] w fun e w' => Below w.heap.size w w' ∧ ∃ r : Int, e = .returned (.int .i64 r) ∧ r ≤ 1048576 ∧ (0 ≤ r → n ≤ 1048576 ∧ ∀ k, k < n → Sm3 (T k)) := by
  have hn := h.1
  have hb0 := Below.refl w.heap.size w
  by_cases hs : (n : Int) ≤ L
  · go_enter Tryz.func21, Tryz.ntmps21
    go_wp2
    go_loopw [1, 5] (fun l i wr => ∃ k : Nat, ∃ x : Int, k ≤ n ∧ i = .int .i64 k ∧ l = .int .i64 x ∧ 0 ≤ x ∧ x ≤ 1048576 ∧ (∀ q, q < k → Sm3 (T q)) ∧ Below w.heap.size w wr) (fun _ i _ => n - (intOf i).toNat)
    case atStart => exact ⟨0, _, by omega, rfl, rfl, by omega, by omega, fun j hj => by omega, hb0⟩
    case round =>
      obtain ⟨k, x, hk, rfl, rfl, hx0, hx1, hall, hb⟩ := hrel
      by_cases hlt : k < n
      · obtain ⟨b, off, ac, cc, ar, cr, rfl, c0, c1, c2, hsz, hC, hO⟩ := (h.later hb).2 k hlt
        go_wp2_with (go_at_call 62; refine (szTab _ _ _ _ _ _ ac cc ar cr _ hsz hC hO _ hx0 hx1).mono ?_; rintro e w1 ⟨hb1, r, rfl, hr1, hr2⟩; replace hb1 := bstep hb hb1; by_cases hr : (0 : Int) ≤ r)
        · go_roundw
          case rel => exact ⟨k + 1, r, by omega, by go_num, rfl, hr, hr1, fun j hj => by
            by_cases e : j = k
            · subst e; exact hr2 hr
            · exact hall j (by omega), hb1⟩
          case measure => simp [intOf]; omega
        · go_ret
          exact ⟨hb1, -1, rfl, by omega, fun hh => by omega⟩
      · obtain rfl : k = n := by omega
        go_wp2
        go_ret
        exact ⟨hb, _, rfl, hx1, fun _ => ⟨by omega, hall⟩⟩
  · go_enter Tryz.func21, Tryz.ntmps21
    go_wp2
    go_ret
    exact ⟨hb0, -1, rfl, by omega, fun hh => by omega⟩
end Go.Proofs.YtgeiamgeclbiaaaGreatDoor
namespace Go.Proofs.YtgeiamgeclbiaaaGreatDoor
open Go.RowKit Go.Maps Go.WideMaps
/-- The three boxes of a copying. -/
structure Q3 (V : World) (B : Nat) (A Z X : Array Value) : Prop where
  a : V.heap[B]? = some (.cells A 99 (0, 0))
  z : V.heap[B + 1]? = some (.cells Z 62 (0, 0))
  x : V.heap[B + 1 + 1]? = some (.cells X 62 (0, 0))
theorem Q3.later {V V' : World} {B : Nat} {A Z X : Array Value} (h : Q3 V B A Z X) (hb : Below V.heap.size V V') : Q3 V' B A Z X := ⟨rowL h.a hb, rowL h.z hb, rowL h.x hb⟩
theorem Q3.set {V : World} {B i : Nat} {A Z X : Array Value} {v : Value} (h : Q3 V B A Z X) : Q3 (V.setCell ⟨B + 1 + 1, i, none⟩ v) B A Z (X.setIfInBounds i v) := ⟨rowO h.a (by omega), rowO h.z (by omega), heap_setCell_same _ _ _ _ _ _ h.x⟩
theorem Q3.new (w : World) (A Z X : Array Value) : Q3 (((w.alloc (.cells A 99)).alloc (.cells Z 62)).alloc (.cells X 62)) w.heap.size A Z X := by
  have e1 : (w.alloc (.cells A 99)).heap.size = w.heap.size + 1 := by simp
  have e2 : ((w.alloc (.cells A 99)).alloc (.cells Z 62)).heap.size = w.heap.size + 1 + 1 := by simp
  have h1 := heap_alloc_new w (.cells A 99)
  have h2 := heap_alloc_new (w.alloc (.cells A 99)) (.cells Z 62)
  have h3 := heap_alloc_new ((w.alloc (.cells A 99)).alloc (.cells Z 62)) (.cells X 62)
  rw [e1] at h2
  rw [e2] at h3
  exact ⟨rowL (rowL h1 (bal _ _)) (bal _ _), rowL h2 (bal _ _), h3⟩
end Go.Proofs.YtgeiamgeclbiaaaGreatDoor
namespace Go.Proofs.YtgeiamgeclbiaaaGreatDoor
open Go.RowKit Go.Maps Go.WideMaps
theorem Tryz.infoTab : (Tryz.prog.info? 62).map (fun i => (i.zero, i.size, i.bytes)) = some (some (.agg #[.string ByteArray.empty, .slice none 0 0, .slice none 0 0]), 3, 64) := by kernel_rfl
theorem Kp.mono {G H : Nat} {w w' : World} (h : Kp G w w') (hG : G ≤ H) : Kp H w w' := fun a v ha hc => h a v (by omega) hc
/-- n tables, all of them in blocks from G on. -/
def TF (G : Nat) (w : World) (g n : Nat) (T : Nat → Td) : Prop :=
  ∀ k, k < n → ∃ g1 g2, G ≤ g1 ∧ G ≤ g2 ∧ w.cell? ⟨g, k * 3, none⟩ = some (.string (T k).s) ∧ w.cell? ⟨g, k * 3 + 1, none⟩ = some (.slice (some ⟨g1, 0, none⟩) (T k).n (T k).n) ∧ w.cell? ⟨g, k * 3 + 2, none⟩ = some (.slice (some ⟨g2, 0, none⟩) (T k).r (T k).r) ∧ CL w (some ⟨g1, 0, none⟩) (T k).n (T k).C ∧ OF G w g2 (T k).r (T k).m (T k).R ∧ Sm3 (T k)
theorem TF.kp {G H g n : Nat} {w w' : World} {T : Nat → Td} (h : TF G w g n T) (k : Kp H w w') (hg : H ≤ g) (hG : H ≤ G) : TF G w' g n T := fun j hj => by
  obtain ⟨g1, g2, h1, h2, c0, c1, c2, hC, hO, hs⟩ := h j hj
  exact ⟨g1, g2, h1, h2, k _ _ hg c0, k _ _ hg c1, k _ _ hg c2, hC.kp k (by omega), hO.kp k (by omega) hG, hs⟩
theorem TF.tl {G g n : Nat} {w : World} {T : Nat → Td} (h : TF G w g n T) : TL w (some ⟨g, 0, none⟩) n T := fun j hj => by
  obtain ⟨g1, g2, h1, h2, c0, c1, c2, hC, hO, hs⟩ := h j hj
  exact ⟨g, 0, _, _, _, _, rfl, by rw [Nat.zero_add]; exact c0, by rw [Nat.zero_add]; exact c1, by rw [Nat.zero_add]; exact c2, hC, hO.ol, hs⟩
set_option maxRecDepth 20000 in
set_option maxHeartbeats 4000000 in
theorem eqTab (s : ByteArray) (n : Nat) (C : Nat → Clm) (r : Nat) (m : Nat → Nat) (R : Nat → Nat → Itm) (ac : Option Addr) (cc : Nat) (ar : Option Addr) (cr : Nat) (ac' : Option Addr) (cc' : Nat) (ar' : Option Addr) (cr' : Nat) (w : World) (hC : CL w ac n C) (hR : OL w ar r m R) (hC' : CL w ac' n C) (hR' : OL w ar' r m R) (hn : n ≤ 1048576) (hr : r ≤ 1048576) :
    Calls Tryz.prog 93 #[.agg #[.string s, .slice ac n cc, .slice ar r cr], .agg #[.string s, .slice ac' n cc', .slice ar' r cr']] w fun e w' => e = .returned (.bool true) ∧ Below w.heap.size w w' := by
  have hss := eqS_same s
  have hb0 := bstep (bal w (.cells #[.string s, .slice ac n cc, .slice ar r cr] 62)) (bal _ (.cells #[.string s, .slice ac' n cc', .slice ar' r cr'] 62))
  have hC0 := hC.later hb0
  have hC0' := hC'.later hb0
  have hR0 := hR.later hb0
  have hR0' := hR'.later hb0
  have es : (w.alloc (.cells #[.string s, .slice ac n cc, .slice ar r cr] 62)).heap.size = w.heap.size + 1 := by simp
  have g2 := keepB (bal _ (.cells #[.string s, .slice ac' n cc', .slice ar' r cr'] 62)) ((cell_of_row _ _ 2 _ _ _ (heap_alloc_new w (.cells #[.string s, .slice ac n cc, .slice ar r cr] 62))).trans (show _ = some (Value.slice ar r cr) from rfl))
  have k2 := (cell_of_row _ _ 2 _ _ _ (heap_alloc_new (w.alloc (.cells #[.string s, .slice ac n cc, .slice ar r cr] 62)) (.cells #[.string s, .slice ac' n cc', .slice ar' r cr'] 62))).trans (show _ = some (Value.slice ar' r cr') from rfl)
  rw [es] at k2
  go_enter Tryz.func93, Tryz.ntmps93
  go_wp2_with (first | (go_at_call 41; refine (eqCols _ _ _ _ _ _ _ hC0 hC0' hn).mono ?_; rintro e w1 ⟨rfl, hb1⟩; have g2' := keepB hb1 g2; have k2' := keepB hb1 k2; have hR1 := hR0.later hb1; have hR1' := hR0'.later hb1; replace hb1 := bstep hb0 hb1) | (go_at_call 11; refine (eqRows _ _ _ _ _ _ _ _ hR1 hR1' hr).mono ?_; rintro e w2 ⟨rfl, hb2⟩; replace hb2 := bstep hb1 hb2))
  go_ret
  exact ⟨rfl, hb2⟩
set_option maxRecDepth 20000 in
set_option maxHeartbeats 4000000 in
theorem eqTabs (a a' : Option Addr) (n c c' : Nat) (T : Nat → Td) (w : World) (h : TL w a n T) (h' : TL w a' n T) (hn : n ≤ 1048576) :
    Calls Tryz.prog 40 #[.slice a n c, .slice a' n c'] w fun e w' => e = .returned (.bool true) ∧ Below w.heap.size w w' := by
  have hb0 := Below.refl w.heap.size w
  go_enter Tryz.func40, Tryz.ntmps40
  go_wp2
  go_loopw [5] (fun i wr => ∃ k : Nat, k ≤ n ∧ i = .int .i64 k ∧ Below w.heap.size w wr) (fun i _ => n - (intOf i).toNat)
  case atStart => exact ⟨0, by omega, rfl, hb0⟩
  case round =>
    obtain ⟨k, hk, rfl, hb⟩ := hrel
    by_cases hlt : k < n
    · have hkk : (k : Int) < n := by omega
      obtain ⟨b, off, ac, cc, ar, cr, rfl, c0, c1, c2, hC, hO, hs⟩ := h.later hb k hlt
      obtain ⟨b', off', ac', cc', ar', cr', rfl, d0, d1, d2, hC', hO', -⟩ := h'.later hb k hlt
      go_wp2
      go_region_with (go_at_call 93; refine (eqTab _ _ _ _ _ _ ac cc ar cr ac' cc' ar' cr' wr.drew hC hO hC' hO' hs.co.1 hs.ro.1).mono ?_; rintro e w1 ⟨rfl, hb1⟩)
      all_goals
        go_wp2
        go_roundw
        case rel => exact ⟨k + 1, by omega, by go_num, bstep hb (undrew hb1)⟩
        case measure => simp [intOf]; omega
    · obtain rfl : k = n := by omega
      go_wp2
      go_ret
      exact ⟨rfl, hb⟩
set_option maxRecDepth 20000 in
set_option maxHeartbeats 4000000 in
theorem eqDb_any (a a' : Option Addr) (n c c' : Nat) (T : Nat → Td) (w : World) (h : TL w a n T) (h' : TL w a' n T) (hn : n ≤ 1048576) :
    Calls Tryz.prog 12 #[.agg #[.slice a n c], .agg #[.slice a' n c']] w fun e w' => e = .returned (.bool true) ∧ Below w.heap.size w w' := by
  have hb0 := bstep (bal w (.cells #[.slice a n c] 38)) (bal _ (.cells #[.slice a' n c'] 38))
  have h0 := h.later hb0
  have h0' := h'.later hb0
  go_enter Tryz.func12, Tryz.ntmps12
  go_wp2_with (go_at_call 40; refine (eqTabs _ _ _ _ _ _ _ h0 h0' hn).mono ?_; rintro e w1 ⟨rfl, hb1⟩; replace hb1 := bstep hb0 hb1)
  go_ret
  exact ⟨rfl, hb1⟩
end Go.Proofs.YtgeiamgeclbiaaaGreatDoor
namespace Go.Proofs.YtgeiamgeclbiaaaGreatDoor
open Go.RowKit Go.Maps Go.WideMaps
/-- The three boxes of a copying. -/
structure D3 (V : World) (B : Nat) (A Z X : Array Value) : Prop where
  a : V.heap[B]? = some (.cells A 24 (0, 0))
  z : V.heap[B + 1]? = some (.cells Z 38 (0, 0))
  x : V.heap[B + 1 + 1]? = some (.cells X 38 (0, 0))
theorem D3.later {V V' : World} {B : Nat} {A Z X : Array Value} (h : D3 V B A Z X) (hb : Below V.heap.size V V') : D3 V' B A Z X := ⟨rowL h.a hb, rowL h.z hb, rowL h.x hb⟩
theorem D3.set {V : World} {B i : Nat} {A Z X : Array Value} {v : Value} (h : D3 V B A Z X) : D3 (V.setCell ⟨B + 1 + 1, i, none⟩ v) B A Z (X.setIfInBounds i v) := ⟨rowO h.a (by omega), rowO h.z (by omega), heap_setCell_same _ _ _ _ _ _ h.x⟩
theorem D3.new (w : World) (A Z X : Array Value) : D3 (((w.alloc (.cells A 24)).alloc (.cells Z 38)).alloc (.cells X 38)) w.heap.size A Z X := by
  have e1 : (w.alloc (.cells A 24)).heap.size = w.heap.size + 1 := by simp
  have e2 : ((w.alloc (.cells A 24)).alloc (.cells Z 38)).heap.size = w.heap.size + 1 + 1 := by simp
  have h1 := heap_alloc_new w (.cells A 24)
  have h2 := heap_alloc_new (w.alloc (.cells A 24)) (.cells Z 38)
  have h3 := heap_alloc_new ((w.alloc (.cells A 24)).alloc (.cells Z 38)) (.cells X 38)
  rw [e1] at h2
  rw [e2] at h3
  exact ⟨rowL (rowL h1 (bal _ _)) (bal _ _), rowL h2 (bal _ _), h3⟩
/-- n tables whose columns fill their room. -/
def TC (w : World) (g n : Nat) (T : Nat → Td) : Prop :=
  ∀ k, k < n → ∃ g1 ar cr, w.cell? ⟨g, k * 3, none⟩ = some (.string (T k).s) ∧ w.cell? ⟨g, k * 3 + 1, none⟩ = some (.slice (some ⟨g1, 0, none⟩) (T k).n (T k).n) ∧ w.cell? ⟨g, k * 3 + 2, none⟩ = some (.slice ar (T k).r cr) ∧ CL w (some ⟨g1, 0, none⟩) (T k).n (T k).C ∧ OL w ar (T k).r (T k).m (T k).R ∧ Sm3 (T k)
theorem TC.later {w w' : World} {g n : Nat} {T : Nat → Td} (h : TC w g n T) (hb : Below w.heap.size w w') : TC w' g n T := fun k hk => by
  obtain ⟨g1, ar, cr, h0, h1, h2, hC, hO, hs⟩ := h k hk
  exact ⟨g1, ar, cr, keepB hb h0, keepB hb h1, keepB hb h2, hC.later hb, hO.later hb, hs⟩
theorem TC.tl {w : World} {g n : Nat} {T : Nat → Td} (h : TC w g n T) : TL w (some ⟨g, 0, none⟩) n T := fun j hj => by
  obtain ⟨g1, ar, cr, c0, c1, c2, hC, hO, hs⟩ := h j hj
  exact ⟨g, 0, _, _, _, _, rfl, by rw [Nat.zero_add]; exact c0, by rw [Nat.zero_add]; exact c1, by rw [Nat.zero_add]; exact c2, hC, hO, hs⟩
theorem TF.tc {G g n : Nat} {w : World} {T : Nat → Td} (h : TF G w g n T) : TC w g n T := fun j hj => by
  obtain ⟨g1, g2, h1, h2, c0, c1, c2, hC, hO, hs⟩ := h j hj
  exact ⟨g1, _, _, c0, c1, c2, hC, hO.ol, hs⟩
end Go.Proofs.YtgeiamgeclbiaaaGreatDoor
