/-
  FsStep, the program's side: place, add, truncate.
-/
import Derived.Test.YtdbcihebhgpblaaDoorOb
namespace Go.Proofs.YtdbcihebhgpblaaDoor
open Go.RowKit
set_option maxRecDepth 20000 in
set_option maxHeartbeats 2000000 in
theorem iPlace (p : Nat) (a : Option Addr) (n c : Nat) (F : Nat → Fil) (nm : ByteArray) (x1 x2 x3 x4 : Int) (x5 : Bool) (w : World) (h : DkAt w p (.slice a n c) x1 x2 x3 x4 x5) (hl : FL w a n F) (hn : n ≤ 2097152) (hm : ∀ j k, j < k → k < n → Op.bytesLess (F k).s.toList nm.toList = true → Op.bytesLess (F j).s.toList nm.toList = true) :
    Calls Tryd.prog 65 #[.pointer (some ⟨p, 0, none⟩), .string nm] w fun e w' => ∃ i : Nat, e = .returned (.tuple #[.int .i64 i, .bool (hitB F n nm i)]) ∧ LoB F n nm i ∧ Below w.heap.size w w' := by
  have c4 := h.box.c4
  go_enter Tryd.func65, Tryd.ntmps65
  go_wp2_with (go_at_call 101; refine (iBsearch a n c F nm _ hl hn hm).mono ?_; rintro e w1 ⟨i, rfl, hlo, hb1⟩)
  go_ret2
  exact ⟨i, rfl, hlo, hb1⟩
set_option maxRecDepth 20000 in
set_option maxHeartbeats 2000000 in
theorem iAdd0 (g o : Nat) (d t : ByteArray) (room : Int) (w : World) (h1 : w.cell? ⟨g, o + 1, none⟩ = some (.string d)) (f1 : w.frozen? ⟨g, o + 1, none⟩ = false) (hr : (t.size : Int) ≤ room) (hd : d.size ≤ 4194304) (ht : t.size ≤ 2097152) :
    Calls Tryd.prog 66 #[.pointer (some ⟨g, o, none⟩), .string t, .int .i64 room] w fun e w' => e = .returned (.int .i64 0) ∧ w' = w.setCell ⟨g, o + 1, none⟩ (.string (d ++ t)) := by
  have z1 : ¬ 9223372036854775807 < d.size + t.size := by omega
  have z2 : ¬ room < (t.size : Int) := by omega
  go_enter Tryd.func66, Tryd.ntmps66
  go_wp2
  go_ret
  exact ⟨rfl, rfl⟩
set_option maxRecDepth 20000 in
set_option maxHeartbeats 2000000 in
theorem iAdd1 (g o : Nat) (d t : ByteArray) (r : Nat) (w : World) (h1 : w.cell? ⟨g, o + 1, none⟩ = some (.string d)) (f1 : w.frozen? ⟨g, o + 1, none⟩ = false) (hr : r < t.size) (hd : d.size ≤ 4194304) (ht : t.size ≤ 2097152) :
    Calls Tryd.prog 66 #[.pointer (some ⟨g, o, none⟩), .string t, .int .i64 (r : Int)] w fun e w' => e = .returned (.int .i64 13) ∧ w' = w.drew.setCell ⟨g, o + 1, none⟩ (.string (d ++ t.extract 0 r)) := by
  have z2 : (r : Int) < (t.size : Int) := by omega
  have z3 : (r : Int) ≤ (t.size : Int) := by omega
  obtain ⟨E, hE⟩ : ∃ E, t.extract 0 r = E := ⟨_, rfl⟩
  have z1 : ¬ 9223372036854775807 < d.size + E.size := by rw [← hE]; simp; omega
  rw [hE]
  go_enter Tryd.func66, Tryd.ntmps66
  go_wp2
  go_region_with (fail)
  all_goals
    go_wp2
    go_ret
    exact ⟨rfl, rfl⟩
set_option maxRecDepth 20000 in
set_option maxHeartbeats 2000000 in
theorem iTrunc0 (g o : Nat) (d : ByteArray) (z : Int) (w : World) (h1 : w.cell? ⟨g, o + 1, none⟩ = some (.string d)) (hz : ¬ (0 ≤ z ∧ z ≤ d.size)) :
    Calls Tryd.prog 68 #[.pointer (some ⟨g, o, none⟩), .int .i64 z] w fun e w' => e = .returned (.int .i64 16) ∧ w' = w := by
  have hbt : btw z 0 d.size = false := by unfold btw; simp; omega
  have hc : ∀ W, Calls Tryd.prog 57 #[.int .i64 z, .int .i64 d.size] W fun e w' => e = .returned (.bool false) ∧ w' = W := fun W => (iUpTo z d.size W).mono (by rintro e w' ⟨rfl, rfl⟩; rw [hbt]; exact ⟨rfl, rfl⟩)
  clear hz hbt
  go_enter Tryd.func68, Tryd.ntmps68
  go_wp2_with (go_at_call 57; refine (hc _).mono ?_; rintro e w1 ⟨rfl, rfl⟩)
  go_ret
  exact ⟨rfl, rfl⟩
set_option maxRecDepth 20000 in
set_option maxHeartbeats 2000000 in
theorem iTrunc1 (g o : Nat) (d : ByteArray) (v : Value) (z : Nat) (w : World) (h1 : w.cell? ⟨g, o + 1, none⟩ = some (.string d)) (h2 : w.cell? ⟨g, o + 2, none⟩ = some v) (f1 : w.frozen? ⟨g, o + 1, none⟩ = false) (f2 : w.frozen? ⟨g, o + 2, none⟩ = false) (hz : z ≤ d.size) :
    Calls Tryd.prog 68 #[.pointer (some ⟨g, o, none⟩), .int .i64 (z : Int)] w fun e w' => e = .returned (.int .i64 0) ∧ w' = (w.setCell ⟨g, o + 1, none⟩ (.string (d.extract 0 z))).setCell ⟨g, o + 2, none⟩ (.int .i64 (z : Int)) := by
  have hbt : btw z 0 d.size = true := by unfold btw; simp; omega
  have hc : ∀ W, Calls Tryd.prog 57 #[.int .i64 (z : Int), .int .i64 d.size] W fun e w' => e = .returned (.bool true) ∧ w' = W := fun W => (iUpTo z d.size W).mono (by rintro e w' ⟨rfl, rfl⟩; rw [hbt]; exact ⟨rfl, rfl⟩)
  clear hbt
  obtain ⟨X, hX⟩ : ∃ X, d.extract 0 z = X := ⟨_, rfl⟩
  have hXs : Hid (X.size = z) := by show _ = _; rw [← hX]; simp; omega
  have z3 : (z : Int) ≤ (d.size : Int) := by omega
  have s1 : (w.setCell ⟨g, o + 1, none⟩ (.string X)).cell? ⟨g, o + 1, none⟩ = some (.string X) := World.cell?_setCell_same' _ _ _ (by rw [h1]; rfl)
  have s2 : (w.setCell ⟨g, o + 1, none⟩ (.string X)).cell? ⟨g, o + 2, none⟩ = some v := (World.cell?_setCell_other _ _ _ _ (by intro e; simp at e)).trans h2
  have s3 : (w.setCell ⟨g, o + 1, none⟩ (.string X)).frozen? ⟨g, o + 2, none⟩ = false := by rw [World.frozen?_setCell]; exact f2
  rw [hX]
  go_enter Tryd.func68, Tryd.ntmps68
  go_wp2_with (first | (go_at_call 57; refine (hc _).mono ?_; rintro e w1 ⟨rfl, rfl⟩) | (go_at_call 67; refine (iSync g o X _ _ s1 s2 s3).mono ?_; rintro e w2 ⟨⟨v, rfl⟩, rfl⟩))
  go_ret
  exact ⟨rfl, by rw [hXs.out]⟩
end Go.Proofs.YtdbcihebhgpblaaDoor
