/-
  FsStep: the specification's small functions.
-/
import Derived.Test.YtngppfjphbodcaaGreatDoorOa
import Derived.Test.YtngppfjphbodcaaGreatDoorKg
namespace Go.Proofs.YtngppfjphbodcaaGreatDoor
open Go.RowKit
theorem less_irr (x : List UInt8) : Op.bytesLess x x = false := by
  induction x with
  | nil => rfl
  | cons a x ih => simp [Op.bytesLess, ih]
theorem less_trans (x y z : List UInt8) (h1 : Op.bytesLess x y = true) (h2 : Op.bytesLess y z = true) : Op.bytesLess x z = true := by
  induction x generalizing y z with
  | nil =>
    cases z with
    | nil => cases y <;> simp [Op.bytesLess] at h2
    | cons c z => rfl
  | cons a x ih =>
    cases y with
    | nil => simp [Op.bytesLess] at h1
    | cons b y =>
      cases z with
      | nil => simp [Op.bytesLess] at h2
      | cons c z =>
        simp only [Op.bytesLess, Bool.or_eq_true, decide_eq_true_eq, Bool.and_eq_true, beq_iff_eq] at h1 h2 ⊢
        rcases h1 with h1 | ⟨rfl, h1⟩
        · rcases h2 with h2 | ⟨rfl, h2⟩
          · exact Or.inl (UInt8.lt_trans h1 h2)
          · exact Or.inl h1
        · rcases h2 with h2 | ⟨rfl, h2⟩
          · exact Or.inl h2
          · exact Or.inr ⟨rfl, ih y z h1 h2⟩
/-- How two names compare. -/
def cmpS (a b : ByteArray) : Int := if Op.bytesLess a.toList b.toList then -1 else if a = b then 0 else 1
set_option maxRecDepth 20000 in
set_option maxHeartbeats 2000000 in
theorem iCompare (a b : ByteArray) (w : World) : Calls Tryz.prog 67 #[.string a, .string b] w fun e w' => e = .returned (.int .i64 (cmpS a b)) ∧ w' = w := by
  have hq := eqS a b
  rcases hl : Op.bytesLess a.toList b.toList
  · by_cases he : a = b
    · have hq1 : (a.toList == b.toList) = true := by rw [hq]; simp [he]
      have hc : Hid (cmpS a b = 0) := by show _ = _; unfold cmpS; rw [hl, if_neg (by simp), if_pos he]
      clear hq he
      go_enter Tryz.func67, Tryz.ntmps67
      go_wp2_with (go_at_call 62; refine (isNaN _ _).mono ?_; rintro e w1 ⟨rfl, rfl⟩)
      go_ret
      exact ⟨by rw [hc.out]; rfl, rfl⟩
    · have hq1 : (a.toList == b.toList) = false := by rw [hq]; simp [he]
      have hc : Hid (cmpS a b = 1) := by show _ = _; unfold cmpS; rw [hl, if_neg (by simp), if_neg he]
      clear hq he
      go_enter Tryz.func67, Tryz.ntmps67
      go_wp2_with (go_at_call 62; refine (isNaN _ _).mono ?_; rintro e w1 ⟨rfl, rfl⟩)
      go_ret
      exact ⟨by rw [hc.out]; rfl, rfl⟩
  · have hc : Hid (cmpS a b = -1) := by show _ = _; unfold cmpS; rw [hl, if_pos rfl]
    clear hq
    go_enter Tryz.func67, Tryz.ntmps67
    go_wp2_with (go_at_call 62; refine (isNaN _ _).mono ?_; rintro e w1 ⟨rfl, rfl⟩)
    go_ret
    exact ⟨by rw [hc.out]; rfl, rfl⟩
set_option maxRecDepth 20000 in
set_option maxHeartbeats 2000000 in
theorem iPlace1 (s d : ByteArray) (y : Int) (nm : ByteArray) (w : World) : Calls Tryz.prog 66 #[.agg #[.string s, .string d, .int .i64 y], .string nm] w fun e w' => e = .returned (.int .i64 (cmpS s nm)) ∧ Below w.heap.size w w' := by
  go_enter Tryz.func66, Tryz.ntmps66
  go_wp2_with (go_at_call 67; refine (iCompare _ _ _).mono ?_; rintro e w1 ⟨rfl, rfl⟩)
  go_ret
  exact ⟨rfl, bal _ _⟩
/-- Where a name belongs. -/
def LoB (F : Nat → Fil) (n : Nat) (nm : ByteArray) (i : Nat) : Prop := i ≤ n ∧ (∀ k, k < i → Op.bytesLess (F k).s.toList nm.toList = true) ∧ (∀ k, i ≤ k → k < n → Op.bytesLess (F k).s.toList nm.toList = false)
def hitB (F : Nat → Fil) (n : Nat) (nm : ByteArray) (i : Nat) : Bool := decide (i < n) && decide ((F i).s = nm)
set_option maxRecDepth 20000 in
set_option maxHeartbeats 4000000 in
theorem iBsearch (a : Option Addr) (n c : Nat) (F : Nat → Fil) (nm : ByteArray) (w : World) (h : FL w a n F) (hn : n ≤ 2097152) (hm : ∀ j k, j < k → k < n → Op.bytesLess (F k).s.toList nm.toList = true → Op.bytesLess (F j).s.toList nm.toList = true) :
    Calls Tryz.prog 65 #[.slice a n c, .string nm, .func (.func 66) #[] #[]] w fun e w' => ∃ i : Nat, e = .returned (.tuple #[.int .i64 i, .bool (hitB F n nm i)]) ∧ LoB F n nm i ∧ Below w.heap.size w w' := by
  have hb0 := Below.refl w.heap.size w
  go_enter Tryz.func65, Tryz.ntmps65
  go_wp2
  go_loopw [9, 10, 11] (fun i j _ wr => ∃ p q : Nat, p ≤ q ∧ q ≤ n ∧ i = .int .i64 p ∧ j = .int .i64 q ∧ (∀ k, k < p → Op.bytesLess (F k).s.toList nm.toList = true) ∧ (∀ k, q ≤ k → k < n → Op.bytesLess (F k).s.toList nm.toList = false) ∧ Below w.heap.size w wr) (fun i j _ _ => (intOf j - intOf i).toNat)
  case atStart => exact ⟨0, n, by omega, by omega, rfl, rfl, fun k hk => by omega, fun k h1 h2 => by omega, hb0⟩
  case round =>
    obtain ⟨p, q, hpq, hqn, rfl, rfl, hlo, hhi, hb⟩ := hrel
    by_cases hlt : p < q
    · have hlt' : (p : Int) < q := by omega
      obtain ⟨m, hmm⟩ : ∃ m : Nat, m = (p + q) / 2 := ⟨_, rfl⟩
      have m1 : ((p : Int) + q) / 2 = (m : Int) := by omega
      have m2 : p ≤ m := by omega
      have m3 : m < q := by omega
      have m4 : (m : Int) < n := by omega
      have m5 : (0 : Int) ≤ (m : Int) := by omega
      obtain ⟨b, off, rfl, c0, c1, c2⟩ := h.later hb m (by omega)
      clear hmm
      rcases hl : Op.bytesLess (F m).s.toList nm.toList
      · have hc : ¬ cmpS (F m).s nm < 0 := by unfold cmpS; rw [hl, if_neg (by simp)]; split <;> omega
        obtain ⟨cr, hcr⟩ : ∃ cr, cmpS (F m).s nm = cr := ⟨_, rfl⟩
        rw [hcr] at hc
        go_wp2_with (go_at_call 66; refine (iPlace1 _ _ _ _ _).mono ?_; rw [hcr]; rintro e w1 ⟨rfl, hb1⟩)
        refine ⟨⟨p, m, m2, by omega, rfl, rfl, hlo, fun k h1 h2 => ?_, hb.trans (hb1.mono hb.size)⟩, by simp only [intOf]; omega⟩
        rcases hk : Op.bytesLess (F k).s.toList nm.toList
        · rfl
        · rcases Nat.lt_or_ge m k with h3 | h3
          · have := hm m k h3 h2 hk; rw [hl] at this; exact this.symm
          · obtain rfl : k = m := by omega
            rw [hl] at hk; exact hk.symm
      · have hc : cmpS (F m).s nm < 0 := by unfold cmpS; rw [hl, if_pos rfl]; omega
        obtain ⟨cr, hcr⟩ : ∃ cr, cmpS (F m).s nm = cr := ⟨_, rfl⟩
        rw [hcr] at hc
        go_wp2_with (go_at_call 66; refine (iPlace1 _ _ _ _ _).mono ?_; rw [hcr]; rintro e w1 ⟨rfl, hb1⟩)
        refine ⟨⟨m + 1, q, by omega, by omega, by rw [Int.natCast_add]; rfl, rfl, fun k hk => ?_, hhi, hb.trans (hb1.mono hb.size)⟩, by simp only [intOf]; omega⟩
        rcases Nat.lt_or_ge k m with h3 | h3
        · exact hm k m h3 (by omega) hl
        · obtain rfl : k = m := by omega
          exact hl
    · obtain rfl : p = q := by omega
      by_cases hpn : p < n
      · have hpn' : (p : Int) < n := by omega
        obtain ⟨b, off, rfl, c0, c1, c2⟩ := h.later hb p (by omega)
        obtain ⟨cr, hcr⟩ : ∃ cr, cmpS (F p).s nm = cr := ⟨_, rfl⟩
        go_wp2_with (go_at_call 66; refine (iPlace1 _ _ _ _ _).mono ?_; rw [hcr]; rintro e w1 ⟨rfl, hb1⟩)
        go_ret2
        refine ⟨p, ?_, ⟨by omega, hlo, hhi⟩, hb.trans (hb1.mono hb.size)⟩
        have hh : hitB F n nm p = (cr == 0) := by
          rw [← hcr]; unfold hitB cmpS; rw [hhi p (Nat.le_refl _) hpn, if_neg (by simp)]
          by_cases he : (F p).s = nm
          · rw [if_pos he]; simp [hpn, he]
          · rw [if_neg he]; simp [he]
        rw [hh]; rfl
      · have hpn' : ¬ (p : Int) < n := by omega
        go_wp2
        go_ret2
        refine ⟨p, ?_, ⟨by omega, hlo, hhi⟩, hb⟩
        have hh : hitB F n nm p = false := by unfold hitB; simp [hpn]
        rw [hh]; rfl
set_option maxRecDepth 20000 in
set_option maxHeartbeats 2000000 in
theorem iPlace (p : Nat) (a : Option Addr) (n c : Nat) (F : Nat → Fil) (nm : ByteArray) (x1 x2 x3 x4 : Int) (x5 : Bool) (w : World) (h : DkAt w p (.slice a n c) x1 x2 x3 x4 x5) (hl : FL w a n F) (hn : n ≤ 2097152) (hm : ∀ j k, j < k → k < n → Op.bytesLess (F k).s.toList nm.toList = true → Op.bytesLess (F j).s.toList nm.toList = true) :
    Calls Tryz.prog 55 #[.pointer (some ⟨p, 0, none⟩), .string nm] w fun e w' => ∃ i : Nat, e = .returned (.tuple #[.int .i64 i, .bool (hitB F n nm i)]) ∧ LoB F n nm i ∧ Below w.heap.size w w' := by
  have c4 := h.box.c4
  go_enter Tryz.func55, Tryz.ntmps55
  go_wp2_with (go_at_call 65; refine (iBsearch a n c F nm _ hl hn hm).mono ?_; rintro e w1 ⟨i, rfl, hlo, hb1⟩)
  go_ret2
  exact ⟨i, rfl, hlo, hb1⟩
set_option maxRecDepth 20000 in
set_option maxHeartbeats 2000000 in
theorem iAdd0 (g o : Nat) (d t : ByteArray) (room : Int) (w : World) (h1 : w.cell? ⟨g, o + 1, none⟩ = some (.string d)) (f1 : w.frozen? ⟨g, o + 1, none⟩ = false) (hr : (t.size : Int) ≤ room) (hd : d.size ≤ 4194304) (ht : t.size ≤ 2097152) :
    Calls Tryz.prog 76 #[.pointer (some ⟨g, o, none⟩), .string t, .int .i64 room] w fun e w' => e = .returned (.int .i64 0) ∧ w' = w.setCell ⟨g, o + 1, none⟩ (.string (d ++ t)) := by
  have z1 : ¬ 9223372036854775807 < d.size + t.size := by omega
  have z2 : ¬ room < (t.size : Int) := by omega
  go_enter Tryz.func76, Tryz.ntmps76
  go_wp2
  go_ret
  exact ⟨rfl, rfl⟩
set_option maxRecDepth 20000 in
set_option maxHeartbeats 2000000 in
theorem iAdd1 (g o : Nat) (d t : ByteArray) (r : Nat) (w : World) (h1 : w.cell? ⟨g, o + 1, none⟩ = some (.string d)) (f1 : w.frozen? ⟨g, o + 1, none⟩ = false) (hr : r < t.size) (hd : d.size ≤ 4194304) (ht : t.size ≤ 2097152) :
    Calls Tryz.prog 76 #[.pointer (some ⟨g, o, none⟩), .string t, .int .i64 (r : Int)] w fun e w' => e = .returned (.int .i64 13) ∧ w' = w.drew.setCell ⟨g, o + 1, none⟩ (.string (d ++ t.extract 0 r)) := by
  have z2 : (r : Int) < (t.size : Int) := by omega
  have z3 : (r : Int) ≤ (t.size : Int) := by omega
  obtain ⟨E, hE⟩ : ∃ E, t.extract 0 r = E := ⟨_, rfl⟩
  have z1 : ¬ 9223372036854775807 < d.size + E.size := by rw [← hE]; simp; omega
  rw [hE]
  go_enter Tryz.func76, Tryz.ntmps76
  go_wp2
  go_region_with (fail)
  all_goals
    go_wp2
    go_ret
    exact ⟨rfl, rfl⟩
set_option maxRecDepth 20000 in
set_option maxHeartbeats 2000000 in
theorem iTrunc0 (g o : Nat) (d : ByteArray) (z : Int) (w : World) (h1 : w.cell? ⟨g, o + 1, none⟩ = some (.string d)) (hz : ¬ (0 ≤ z ∧ z ≤ d.size)) :
    Calls Tryz.prog 78 #[.pointer (some ⟨g, o, none⟩), .int .i64 z] w fun e w' => e = .returned (.int .i64 16) ∧ w' = w := by
  have hbt : btw z 0 d.size = false := by unfold btw; simp; omega
  have hc : ∀ W, Calls Tryz.prog 42 #[.int .i64 z, .int .i64 d.size] W fun e w' => e = .returned (.bool false) ∧ w' = W := fun W => (iUpTo z d.size W).mono (by rintro e w' ⟨rfl, rfl⟩; rw [hbt]; exact ⟨rfl, rfl⟩)
  clear hz hbt
  go_enter Tryz.func78, Tryz.ntmps78
  go_wp2_with (go_at_call 42; refine (hc _).mono ?_; rintro e w1 ⟨rfl, rfl⟩)
  go_ret
  exact ⟨rfl, rfl⟩
set_option maxRecDepth 20000 in
set_option maxHeartbeats 2000000 in
theorem iTrunc1 (g o : Nat) (d : ByteArray) (v : Value) (z : Nat) (w : World) (h1 : w.cell? ⟨g, o + 1, none⟩ = some (.string d)) (h2 : w.cell? ⟨g, o + 2, none⟩ = some v) (f1 : w.frozen? ⟨g, o + 1, none⟩ = false) (f2 : w.frozen? ⟨g, o + 2, none⟩ = false) (hz : z ≤ d.size) :
    Calls Tryz.prog 78 #[.pointer (some ⟨g, o, none⟩), .int .i64 (z : Int)] w fun e w' => e = .returned (.int .i64 0) ∧ w' = (w.setCell ⟨g, o + 1, none⟩ (.string (d.extract 0 z))).setCell ⟨g, o + 2, none⟩ (.int .i64 (z : Int)) := by
  have hbt : btw z 0 d.size = true := by unfold btw; simp; omega
  have hc : ∀ W, Calls Tryz.prog 42 #[.int .i64 (z : Int), .int .i64 d.size] W fun e w' => e = .returned (.bool true) ∧ w' = W := fun W => (iUpTo z d.size W).mono (by rintro e w' ⟨rfl, rfl⟩; rw [hbt]; exact ⟨rfl, rfl⟩)
  clear hbt
  obtain ⟨X, hX⟩ : ∃ X, d.extract 0 z = X := ⟨_, rfl⟩
  have hXs : Hid (X.size = z) := by show _ = _; rw [← hX]; simp; omega
  have z3 : (z : Int) ≤ (d.size : Int) := by omega
  have s1 : (w.setCell ⟨g, o + 1, none⟩ (.string X)).cell? ⟨g, o + 1, none⟩ = some (.string X) := World.cell?_setCell_same' _ _ _ (by rw [h1]; rfl)
  have s2 : (w.setCell ⟨g, o + 1, none⟩ (.string X)).cell? ⟨g, o + 2, none⟩ = some v := (World.cell?_setCell_other _ _ _ _ (by intro e; simp at e)).trans h2
  have s3 : (w.setCell ⟨g, o + 1, none⟩ (.string X)).frozen? ⟨g, o + 2, none⟩ = false := by rw [World.frozen?_setCell]; exact f2
  rw [hX]
  go_enter Tryz.func78, Tryz.ntmps78
  go_wp2_with (first | (go_at_call 42; refine (hc _).mono ?_; rintro e w1 ⟨rfl, rfl⟩) | (go_at_call 77; refine (iSync g o X _ _ s1 s2 s3).mono ?_; rintro e w2 ⟨⟨v, rfl⟩, rfl⟩))
  go_ret
  exact ⟨rfl, by rw [hXs.out]⟩
set_option maxRecDepth 20000 in
set_option maxHeartbeats 4000000 in
theorem sFind (a : Option Addr) (n c : Nat) (F : Nat → Fil) (x1 x2 x3 x4 : Int) (x5 : Bool) (s : ByteArray) (w : World) (h : FL w a n F) (hn : n ≤ 2097152) : Calls Tryz.prog 18 #[.agg #[.slice a n c, .int .i64 x1, .int .i64 x2, .int .i64 x3, .int .i64 x4, .bool x5], .string s] w fun e w' => ∃ r : Int, e = .returned (.int .i64 r) ∧ ((r = -1 ∧ ∀ k, k < n → (F k).s ≠ s) ∨ ∃ k : Nat, k < n ∧ r = (k : Int) ∧ (F k).s = s ∧ ∀ j, j < k → (F j).s ≠ s) ∧ Below w.heap.size w w' := by
  have hb0 := bal w (.cells #[.slice a n c, .int .i64 x1, .int .i64 x2, .int .i64 x3, .int .i64 x4, .bool x5] 28)
  go_enter Tryz.func18, Tryz.ntmps18
  go_wp2
  go_loopw [5, 6, 10] (fun _ _ i wr => ∃ k : Nat, k ≤ n ∧ i = .int .i64 k ∧ (∀ j, j < k → (F j).s ≠ s) ∧ Below w.heap.size w wr) (fun _ _ i _ => n - (intOf i).toNat)
  case atStart => exact ⟨0, by omega, rfl, fun j hj => by omega, hb0⟩
  case round =>
    obtain ⟨k, hk, rfl, hall, hb⟩ := hrel
    by_cases hlt : k < n
    · obtain ⟨b, off, rfl, c0, c1, c2⟩ := h.later hb k hlt
      have hq := eqS (F k).s s
      by_cases he : (F k).s = s
      · have hq1 : ((F k).s.toList == s.toList) = true := by rw [hq]; simp [he]
        clear hq
        go_wp2
        go_ret
        exact ⟨k, rfl, Or.inr ⟨k, hlt, rfl, he, hall⟩, bj hb (Below.refl _ _)⟩
      · have hq1 : ((F k).s.toList == s.toList) = false := by rw [hq]; simp [he]
        clear hq
        go_wp2
        go_roundw
        case rel => exact ⟨k + 1, by omega, by go_num, fun j hj => by
          by_cases e : j = k
          · subst e; exact he
          · exact hall j (by omega), bj hb (Below.refl _ _)⟩
        case measure => simp [intOf]; omega
    · obtain rfl : k = n := by omega
      go_wp2
      go_ret
      exact ⟨-1, rfl, Or.inl ⟨rfl, hall⟩, hb⟩
/-- A list of files, by number. -/
def nthF (L : List Fil) : Nat → Fil := fun k => L.getD k ⟨ByteArray.empty, ByteArray.empty, 0⟩
theorem nthF_at (L : List Fil) (k : Nat) (h : k < L.length) : nthF L k = L[k] := by simp [nthF, h]
def cellsF (f : Fil) : List Value := [.string f.s, .string f.d, .int .i64 f.y]
theorem flatL_take (L : List Fil) (m : Nat) (hm : m ≤ L.length) : flatL m (nthF L) = ((L.take m).map cellsF).flatten := by
  induction m with
  | zero => simp [flatL, flat]
  | succ m ih =>
    rw [← flatL_snoc, ih (by omega), List.take_add_one, List.getElem?_eq_getElem (by omega), nthF_at L m (by omega), List.map_append, List.flatten_append]
    rfl
theorem flatL_list (L : List Fil) : flatL L.length (nthF L) = (L.map cellsF).flatten := by
  rw [flatL_take L L.length (Nat.le_refl _), List.take_length]
/-- A slice of these files in a row of its own. -/
def OwnL (w : World) (B : Nat) (v : Value) (L : List Fil) : Prop := w.ownsRow B 49 3 v L.length ((L.map cellsF).flatten)
theorem OwnL.f {w : World} {B : Nat} {v : Value} {L : List Fil} (h : OwnL w B v L) : OwnF w B v L.length (nthF L) := by unfold OwnF; rw [flatL_list]; exact h
theorem OwnF.l {w : World} {B : Nat} {v : Value} {L : List Fil} (h : OwnF w B v L.length (nthF L)) : OwnL w B v L := by unfold OwnF at h; rw [flatL_list] at h; exact h
/-- Files without the one of a name, and with f. -/
def wth (nm : ByteArray) (f : Fil) : List Fil → Bool → List Fil
  | [], p => if p then [] else [f]
  | g :: r, p => (if (!p && Op.bytesLess f.s.toList g.s.toList) = true then [f] else []) ++ ((if g.s = nm then [] else [g]) ++ wth nm f r (p || Op.bytesLess f.s.toList g.s.toList))
end Go.Proofs.YtngppfjphbodcaaGreatDoor
