/-
  Tables: measured by the law.
-/
import Derived.Test.YtfodndnkhgijmaaDoorTa
namespace Go.Proofs.YtfodndnkhgijmaaDoor
open Go.RowKit Go.Maps Go.WideMaps
/-- What a table says. -/
structure Td where
  s : ByteArray
  n : Nat
  C : Nat → Clm
  r : Nat
  m : Nat → Nat
  R : Nat → Nat → Itm
/-- Its three cells. -/
abbrev cs3 (d : Td) (ac : Option Addr) (cc : Nat) (ar : Option Addr) (cr : Nat) : Array Value := #[.string d.s, .slice ac d.n cc, .slice ar d.r cr]
/-- Its measures are small. -/
structure Sm3 (d : Td) : Prop where
  s : d.s.size ≤ 1048576
  co : d.n ≤ 1048576 ∧ ∀ k, k < d.n → (d.C k).s.size ≤ 1048576
  ro : d.r ≤ 1048576 ∧ ∀ k, k < d.r → d.m k ≤ 1048576 ∧ ∀ j, j < d.m k → (d.R k j).s.size ≤ 1048576
/-- n tables, of whatever length. -/
def TX (w : World) (a : Option Addr) (n : Nat) (T : Nat → Td) : Prop :=
  n ≤ 9223372036854775807 ∧ ∀ k, k < n → ∃ b off ac cc ar cr, a = some ⟨b, off, none⟩ ∧ w.cell? ⟨b, off + k * 3, none⟩ = some (.string (T k).s) ∧ w.cell? ⟨b, off + k * 3 + 1, none⟩ = some (.slice ac (T k).n cc) ∧ w.cell? ⟨b, off + k * 3 + 2, none⟩ = some (.slice ar (T k).r cr) ∧ (T k).s.size ≤ 9223372036854775807 ∧ CX w ac (T k).n (T k).C ∧ OX w ar (T k).r (T k).m (T k).R
theorem TX.later {w w' : World} {a : Option Addr} {n : Nat} {T : Nat → Td} (h : TX w a n T) (hb : Below w.heap.size w w') : TX w' a n T := ⟨h.1, fun k hk => by
  obtain ⟨b, off, ac, cc, ar, cr, e, h0, h1, h2, hs, hC, hO⟩ := h.2 k hk
  exact ⟨b, off, ac, cc, ar, cr, e, keepB hb h0, keepB hb h1, keepB hb h2, hs, hC.later hb, hO.later hb⟩⟩
/-- n tables. -/
def TL (w : World) (a : Option Addr) (n : Nat) (T : Nat → Td) : Prop :=
  ∀ k, k < n → ∃ b off ac cc ar cr, a = some ⟨b, off, none⟩ ∧ w.cell? ⟨b, off + k * 3, none⟩ = some (.string (T k).s) ∧ w.cell? ⟨b, off + k * 3 + 1, none⟩ = some (.slice ac (T k).n cc) ∧ w.cell? ⟨b, off + k * 3 + 2, none⟩ = some (.slice ar (T k).r cr) ∧ CL w ac (T k).n (T k).C ∧ OL w ar (T k).r (T k).m (T k).R ∧ Sm3 (T k)
theorem TL.later {w w' : World} {a : Option Addr} {n : Nat} {T : Nat → Td} (h : TL w a n T) (hb : Below w.heap.size w w') : TL w' a n T := fun k hk => by
  obtain ⟨b, off, ac, cc, ar, cr, e, h0, h1, h2, hC, hO, hs⟩ := h k hk
  exact ⟨b, off, ac, cc, ar, cr, e, keepB hb h0, keepB hb h1, keepB hb h2, hC.later hb, hO.later hb, hs⟩
theorem TX.small {w : World} {a : Option Addr} {n : Nat} {T : Nat → Td} (h : TX w a n T) (hs : ∀ k, k < n → Sm3 (T k)) : TL w a n T := fun k hk => by
  obtain ⟨b, off, ac, cc, ar, cr, e, h0, h1, h2, -, hC, hO⟩ := h.2 k hk
  exact ⟨b, off, ac, cc, ar, cr, e, h0, h1, h2, hC.small (hs k hk).co.2, hO.small (hs k hk).ro.2, hs k hk⟩
set_option maxRecDepth 20000 in
set_option maxHeartbeats 4000000 in
theorem szTab (s : ByteArray) (n : Nat) (C : Nat → Clm) (r : Nat) (m : Nat → Nat) (R : Nat → Nat → Itm) (ac : Option Addr) (cc : Nat) (ar : Option Addr) (cr : Nat) (w : World) (hs : s.size ≤ 9223372036854775807) (hC : CX w ac n C) (hR : OX w ar r m R) (L : Int) (h0 : 0 ≤ L) (h1 : L ≤ 1048576) :
    Calls Tryd.prog 65 #[.agg #[.string s, .slice ac n cc, .slice ar r cr], .int .i64 L] w fun e w' => Below w.heap.size w w' ∧ ∃ x : Int, e = .returned (.int .i64 x) ∧ x ≤ 1048576 ∧ (0 ≤ x → Sm3 ⟨s, n, C, r, m, R⟩) := by
  have hb0 := bal w (.cells #[.string s, .slice ac n cc, .slice ar r cr] 102)
  obtain ⟨g0, g1, g2⟩ := kept3 (Below.refl (w.alloc (.cells #[.string s, .slice ac n cc, .slice ar r cr] 102)).heap.size (w.alloc (.cells #[.string s, .slice ac n cc, .slice ar r cr] 102)))
  have HC := hC.later hb0
  have HR := hR.later hb0
  by_cases ht : (0 : Int) ≤ L - s.size
  · go_enter Tryd.func65, Tryd.ntmps65
    go_wp2_with (first | (go_at_call 27; refine (szCols _ _ _ _ _ HC _ (by omega) (by omega)).mono ?_; rintro e w1 ⟨hb1, r1, rfl, hr1, hs1⟩; have HR1 := HR.later hb1; have k2 := keepB hb1 g2; replace hb1 := bstep hb0 hb1; by_cases hp1 : (0 : Int) ≤ r1) | (go_at_call 105; refine (szRows _ _ _ _ _ _ HR1 _ hp1 hr1).mono ?_; rintro e w2 ⟨hb2, r2, rfl, hr2, hs2⟩; replace hb2 := bstep hb1 hb2; by_cases hp2 : (0 : Int) ≤ r2))
    all_goals go_ret
    · exact ⟨hb2, r2, rfl, hr2, fun _ => ⟨by show s.size ≤ _; omega, hs1 hp1, hs2 hp2⟩⟩
    · exact ⟨hb2, -1, rfl, by omega, fun hh => by omega⟩
    · exact ⟨hb1, -1, rfl, by omega, fun hh => by omega⟩
  · go_enter Tryd.func65, Tryd.ntmps65
    go_wp2
    go_ret
    exact ⟨hb0, -1, rfl, by omega, fun hh => by omega⟩
set_option maxRecDepth 20000 in
set_option maxHeartbeats 4000000 in
theorem szTabs (a : Option Addr) (n c : Nat) (T : Nat → Td) (w : World) (h : TX w a n T) (L : Int) (h0 : 0 ≤ L) (h1 : L ≤ 1048576) :
    Calls Tryd.prog 18 #[.slice a n c, .int .i64 L] w fun e w' => Below w.heap.size w w' ∧ ∃ r : Int, e = .returned (.int .i64 r) ∧ r ≤ 1048576 ∧ (0 ≤ r → n ≤ 1048576 ∧ ∀ k, k < n → Sm3 (T k)) := by
  have hn := h.1
  have hb0 := Below.refl w.heap.size w
  by_cases hs : (n : Int) ≤ L
  · go_enter Tryd.func18, Tryd.ntmps18
    go_wp2
    go_loopw [1, 5] (fun l i wr => ∃ k : Nat, ∃ x : Int, k ≤ n ∧ i = .int .i64 k ∧ l = .int .i64 x ∧ 0 ≤ x ∧ x ≤ 1048576 ∧ (∀ q, q < k → Sm3 (T q)) ∧ Below w.heap.size w wr) (fun _ i _ => n - (intOf i).toNat)
    case atStart => exact ⟨0, _, by omega, rfl, rfl, by omega, by omega, fun j hj => by omega, hb0⟩
    case round =>
      obtain ⟨k, x, hk, rfl, rfl, hx0, hx1, hall, hb⟩ := hrel
      by_cases hlt : k < n
      · obtain ⟨b, off, ac, cc, ar, cr, rfl, c0, c1, c2, hsz, hC, hO⟩ := (h.later hb).2 k hlt
        go_wp2_with (go_at_call 65; refine (szTab _ _ _ _ _ _ ac cc ar cr _ hsz hC hO _ hx0 hx1).mono ?_; rintro e w1 ⟨hb1, r, rfl, hr1, hr2⟩; replace hb1 := bstep hb hb1; by_cases hr : (0 : Int) ≤ r)
        · go_roundw
          case rel => exact ⟨k + 1, r, by omega, by go_num, rfl, hr, hr1, fun j hj => by
            by_cases e : j = k
            · subst e; exact hr2 hr
            · exact hall j (by omega), hb1⟩
          case measure => simp [intOf]; omega
        · go_ret
          exact ⟨hb1, -1, rfl, by omega, fun hh => by omega⟩
      · obtain rfl : k = n := by omega
        go_wp2
        go_ret
        exact ⟨hb, _, rfl, hx1, fun _ => ⟨by omega, hall⟩⟩
  · go_enter Tryd.func18, Tryd.ntmps18
    go_wp2
    go_ret
    exact ⟨hb0, -1, rfl, by omega, fun hh => by omega⟩
set_option maxRecDepth 20000 in
set_option maxHeartbeats 2000000 in
theorem szDb_any (a : Option Addr) (n c : Nat) (T : Nat → Td) (w : World) (h : TX w a n T) :
    Calls Tryd.prog 6 #[.agg #[.slice a n c], .int .i64 1048576] w fun e w' => Below w.heap.size w w' ∧ ∃ r : Int, e = .returned (.int .i64 r) ∧ (0 ≤ r → n ≤ 1048576 ∧ ∀ k, k < n → Sm3 (T k)) := by
  have hb0 := bal w (.cells #[.slice a n c] 24)
  have H0 := h.later hb0
  go_enter Tryd.func6, Tryd.ntmps6
  go_wp2_with (go_at_call 18; refine (szTabs _ _ _ _ _ H0 _ (by omega) (by omega)).mono ?_; rintro e w1 ⟨hb1, r1, rfl, hr1, hs1⟩; replace hb1 := bstep hb0 hb1; by_cases hp1 : (0 : Int) ≤ r1)
  all_goals go_ret
  · exact ⟨hb1, r1, rfl, hs1⟩
  · exact ⟨hb1, -1, rfl, fun hh => by omega⟩
end Go.Proofs.YtfodndnkhgijmaaDoor
