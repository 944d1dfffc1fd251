/-
  A proof's claims: the program's way, the walk down.
-/
import Derived.Test.YtlbackkjjhpljaaGreatDoorIp
import Derived.Test.YtlbackkjjhpljaaGreatDoorCs
import Derived.Test.YtlbackkjjhpljaaGreatDoorTs
import Derived.RegionCalls
import Derived.Laws.ResultCell
import Derived.Deep.RegionHeld3
namespace Go.Proofs.YtlbackkjjhpljaaGreatDoor
open Go.RowKit
/-- The function value and what it has caught: the older root, itself, the kind. -/
structure PQ (w : World) (O C K : Nat) (k : Int) (x : ByteArray) : Prop where
  old : w.cell? ⟨O, 0, none⟩ = some (.string x)
  self : w.cell? ⟨C, 0, none⟩ = some (.func (.func 67) #[] #[.pointer (some ⟨O, 0, none⟩), .pointer (some ⟨C, 0, none⟩), .pointer (some ⟨K, 0, none⟩)])
  kind : w.cell? ⟨K, 0, none⟩ = some (.int .i64 k)
theorem PQ.later {w w' : World} {O C K : Nat} {k : Int} {x : ByteArray} (h : PQ w O C K k x) (hb : Below w.heap.size w w') : PQ w' O C K k x := ⟨keep hb h.old, keep hb h.self, keep hb h.kind⟩
set_option maxRecDepth 20000 in
set_option maxHeartbeats 2000000 in
theorem claimProof_begins (k : Int) (X : ByteArray) (O C K : Nat) (m q : Nat) (a : Option Addr) (c : Nat) (w : World) (hq : q ≤ 1048576) (hP : PQ w O C K k X) (t : Bool) (ht : decide (q = 0) = t) :
    Calls Tryz.prog 67 #[.int .i64 m, .int .i64 m, .slice a q c, .bool true, .pointer (some ⟨O, 0, none⟩), .pointer (some ⟨C, 0, none⟩), .pointer (some ⟨K, 0, none⟩)] w fun e w' => e = .returned (.tuple #[.agg #[.string X, .string X], .bool t]) ∧ Below w.heap.size w w' := by
  obtain ⟨p1, p2, p3⟩ := hP.later (below1 w (.cells #[.string (⟨#[]⟩ : ByteArray), .string (⟨#[]⟩ : ByteArray)] 58))
  by_cases h0 : q = 0
  · subst h0
    obtain rfl : true = t := by simpa using ht
    go_enter Tryz.func67, Tryz.ntmps67
    go_wp2
    exact bodyPost_ret (v := .tuple #[.agg #[.string X, .string X], .bool true]) (by simp [results, Tryz.results67, go_sem]) rfl ⟨rfl, below1 _ _⟩
  · obtain rfl : false = t := by simpa [h0] using ht
    have h0' : ¬ (q : Int) = 0 := by omega
    go_enter Tryz.func67, Tryz.ntmps67
    go_wp2
    exact bodyPost_ret (v := .tuple #[.agg #[.string X, .string X], .bool false]) (by simp [results, Tryz.results67, go_sem, h0]) rfl ⟨rfl, below1 _ _⟩
set_option maxRecDepth 20000 in
set_option maxHeartbeats 2000000 in
theorem claimProof_none (O C K : Nat) (m n : Nat) (b : Bool) (hb : ¬ (m = n ∧ b = true)) (a : Option Addr) (c : Nat) (w : World) :
    Calls Tryz.prog 67 #[.int .i64 m, .int .i64 n, .slice a 0 c, .bool b, .pointer (some ⟨O, 0, none⟩), .pointer (some ⟨C, 0, none⟩), .pointer (some ⟨K, 0, none⟩)] w fun e w' => e = .returned (.tuple #[.agg #[.string ⟨#[]⟩, .string ⟨#[]⟩], .bool false]) ∧ Below w.heap.size w w' := by
  by_cases hmn : m = n
  · subst hmn
    obtain rfl : b = false := by simpa using hb
    go_enter Tryz.func67, Tryz.ntmps67
    go_wp2
    exact bodyPost_ret (v := .tuple #[.agg #[.string ⟨#[]⟩, .string ⟨#[]⟩], .bool false]) (by simp [results, Tryz.results67, go_sem]) rfl ⟨rfl, below1 _ _⟩
  · have hmn' : ¬ (m : Int) = n := by omega
    go_enter Tryz.func67, Tryz.ntmps67
    go_wp2
    exact bodyPost_ret (v := .tuple #[.agg #[.string ⟨#[]⟩, .string ⟨#[]⟩], .bool false]) (by simp [results, Tryz.results67, go_sem]) rfl ⟨rfl, below1 _ _⟩
set_option maxRecDepth 20000 in
set_option maxHeartbeats 2000000 in
theorem claimProof_inside (O C K : Nat) (m p : Nat) (a : Option Addr) (c : Nat) (w : World) (S : Nat → ByteArray) (hq : p + 1 ≤ 1048576) (h : Sl w a (p + 1) S) (hc : p + 1 ≤ c) (t : Bool) (ht : decide (p = 0) = t) :
    Calls Tryz.prog 67 #[.int .i64 m, .int .i64 m, .slice a (p + 1 : Nat) c, .bool false, .pointer (some ⟨O, 0, none⟩), .pointer (some ⟨C, 0, none⟩), .pointer (some ⟨K, 0, none⟩)] w fun e w' => e = .returned (.tuple #[.agg #[.string (S p), .string (S p)], .bool t]) ∧ Below w.heap.size w w' := by
  have hS := h.later (below1 w (.cells #[.string (⟨#[]⟩ : ByteArray), .string (⟨#[]⟩ : ByteArray)] 58))
  have m0 : ¬ (p : Int) + 1 = 0 := by omega
  by_cases h0 : p = 0
  · subst h0
    obtain rfl : true = t := by simpa using ht
    go_enter Tryz.func67, Tryz.ntmps67
    go_wp2_with (go_at_call 58; refine (cutLast_any a 0 c S _ hS hc).mono ?_; rintro e w1 ⟨rfl, rfl⟩)
    exact bodyPost_ret (v := .tuple #[.agg #[.string (S 0), .string (S 0)], .bool true]) (by simp [results, Tryz.results67, go_sem]) rfl ⟨rfl, bdrew (below1 _ _) 1⟩
  · obtain rfl : false = t := by simpa [h0] using ht
    have h0' : ¬ (p : Int) = 0 := by omega
    go_enter Tryz.func67, Tryz.ntmps67
    go_wp2_with (go_at_call 58; refine (cutLast_any a p c S _ hS hc).mono ?_; rintro e w1 ⟨rfl, rfl⟩)
    exact bodyPost_ret (v := .tuple #[.agg #[.string (S p), .string (S p)], .bool false]) (by simp [results, Tryz.results67, go_sem, h0]) rfl ⟨rfl, bdrew (below1 _ _) 1⟩
end Go.Proofs.YtlbackkjjhpljaaGreatDoor
namespace Go.Proofs.YtlbackkjjhpljaaGreatDoor
open Go.RowKit
theorem boxes2 (w : World) (x y : Value) (t : TypeId) : (w.alloc (.cells #[x, y] t)).cell? ⟨w.heap.size, 0, none⟩ = some x ∧ (w.alloc (.cells #[x, y] t)).cell? ⟨w.heap.size, 1, none⟩ = some y :=
  ⟨(cell_of_row _ _ 0 _ _ _ (heap_alloc_new w _)).trans rfl, (cell_of_row _ _ 1 _ _ _ (heap_alloc_new w _)).trans rfl⟩
theorem pair_set (w : World) (g : Nat) (x y x' y' : Value) (h0 : w.cell? ⟨g, 0, none⟩ = some x) (h1 : w.cell? ⟨g, 1, none⟩ = some y) :
    ((w.setCell ⟨g, 0, none⟩ x').setCell ⟨g, 1, none⟩ y').cell? ⟨g, 0, none⟩ = some x' ∧ ((w.setCell ⟨g, 0, none⟩ x').setCell ⟨g, 1, none⟩ y').cell? ⟨g, 1, none⟩ = some y' := by
  have n1 : (⟨g, 0, none⟩ : Addr) ≠ ⟨g, 1, none⟩ := fun h => by cases h
  have n2 : (⟨g, 1, none⟩ : Addr) ≠ ⟨g, 0, none⟩ := fun h => by cases h
  have e1 : (w.setCell ⟨g, 0, none⟩ x').cell? ⟨g, 1, none⟩ = some y := (World.cell?_setCell_other (h := n1) ..).trans h1
  exact ⟨(World.cell?_setCell_other (h := n2) ..).trans (World.cell?_setCell_same (h := h0) ..), World.cell?_setCell_same (h := e1) ..⟩
set_option maxRecDepth 20000 in
set_option maxHeartbeats 4000000 in
theorem claimProof_no (k : Int) (X : ByteArray) (S : Nat → ByteArray) (O C K : Nat) (f : Nat) : ∀ (m n q : Nat) (b : Bool) (x y : Int) (a : Option Addr) (c : Nat) (w : World), f ≤ 31 → 1 ≤ m → m ≤ n → n ≤ 2 ^ f → x = m → y = n → q ≤ 1048576 → ¬ q = ql f m n b → Sl w a q S → q ≤ c → (∀ j, j < q → (S j).size ≤ 2097152) → KeysAt w → PQ w O C K k X →
    Calls Tryz.prog 67 #[.int .i64 x, .int .i64 y, .slice a q c, .bool b, .pointer (some ⟨O, 0, none⟩), .pointer (some ⟨C, 0, none⟩), .pointer (some ⟨K, 0, none⟩)] w fun e w' => (∃ o v : ByteArray, e = .returned (.tuple #[.agg #[.string o, .string v], .bool false])) ∧ Below w.heap.size w w' := by
  have same : ∀ (m q : Nat) (b : Bool) (a : Option Addr) (c : Nat) (w : World), q ≤ 1048576 → (¬ q = if b then 0 else 1) → Sl w a q S → q ≤ c → PQ w O C K k X →
      Calls Tryz.prog 67 #[.int .i64 m, .int .i64 m, .slice a q c, .bool b, .pointer (some ⟨O, 0, none⟩), .pointer (some ⟨C, 0, none⟩), .pointer (some ⟨K, 0, none⟩)] w fun e w' => (∃ o v : ByteArray, e = .returned (.tuple #[.agg #[.string o, .string v], .bool false])) ∧ Below w.heap.size w w' := by
    intro m q b a c w hm hq h hc hP
    cases b
    · cases q with
      | zero => exact (claimProof_none O C K m m false (by simp) a c w).mono fun e w' ⟨he, hb⟩ => ⟨⟨_, _, he⟩, hb⟩
      | succ p => exact (claimProof_inside O C K m p a c w S hm h hc false (by simp at hq; simpa using hq)).mono fun e w' ⟨he, hb⟩ => ⟨⟨_, _, he⟩, hb⟩
    · exact (claimProof_begins k X O C K m q a c w hm hP false (by simpa using hq)).mono fun e w' ⟨he, hb⟩ => ⟨⟨_, _, he⟩, hb⟩
  induction f with
  | zero =>
    intro m n q b x y a c w h31 h1 hmn hf hx hy hm hq h hc hsz hK hP
    obtain rfl : n = 1 := by simp at hf; omega
    obtain rfl : m = 1 := by omega
    subst hx hy
    exact same 1 q b a c w hm hq h hc hP
  | succ f ih =>
    intro m n q b x y a c w h31 h1 hmn hf hx hy hm hq h hc hsz hK hP
    have hcap := cap40 (by omega) hf
    have hcap2 : n ≤ 2147483648 := Nat.le_trans hf (Nat.pow_le_pow_right (by decide) h31)
    by_cases hn : m = n
    · subst hn hx hy
      rw [ql_same] at hq
      exact same m q b a c w hm hq h hc hP
    · rw [ql, if_neg hn] at hq
      have hs := spl_in n (by omega) hcap
      have hh := spl_half f n (by omega) hcap hf
      obtain ⟨s, hsn⟩ : ∃ s, spl n = s := ⟨_, rfl⟩
      have HSP : Hid (spl n = s) := hsn
      rw [hsn] at hq hs hh
      obtain ⟨hs1, hs2, hs3⟩ := hs
      have HF : Hid (s ≤ 2 ^ f) := hh
      have m1 : ¬ (m : Int) = n := by omega
      subst hx hy
      clear hf hh hsn same
      cases q with
      | zero => exact (claimProof_none O C K m n b (fun e => hn e.1) a c w).mono fun e w' ⟨he, hb⟩ => ⟨⟨_, _, he⟩, hb⟩
      | succ p =>
        by_cases hlt : m ≤ s
        · rw [if_pos hlt] at hq
          have HP : Hid (¬ p = ql f m s b) := fun e => hq (by omega)
          clear hq
          have mlt : (m : Int) ≤ s := by omega
          have m0 : ¬ (p : Int) + 1 = 0 := by omega
          have hzq := hsz p (by omega)
          have hS := h.later (below1 w (.cells #[.string (⟨#[]⟩ : ByteArray), .string ⟨#[]⟩] 58))
          have hb0 : Below w.heap.size w (World.drew (w.alloc (.cells #[.string (⟨#[]⟩ : ByteArray), .string ⟨#[]⟩] 58))) := bdrew (below1 w _) 1
          have hA := (h.later hb0).left p (by omega)
          have hK0 := keys_later hK hb0
          have hP0 := hP.later hb0
          have p3 := hP0.kind
          have p2 := (hP.later (below1 w (.cells #[.string (⟨#[]⟩ : ByteArray), .string ⟨#[]⟩] 58))).self
          have p2d := hP0.self
          have u0 : World.cell? (World.drew (w.alloc (.cells #[.string (⟨#[]⟩ : ByteArray), .string ⟨#[]⟩] 58))) ⟨w.heap.size, 0, none⟩ = some (.string ⟨#[]⟩) := (boxes2 w _ _ _).1
          have v0 : World.cell? (World.drew (w.alloc (.cells #[.string (⟨#[]⟩ : ByteArray), .string ⟨#[]⟩] 58))) ⟨w.heap.size, 1, none⟩ = some (.string ⟨#[]⟩) := (boxes2 w _ _ _).2
          have f0 : World.frozen? (World.drew (w.alloc (.cells #[.string (⟨#[]⟩ : ByteArray), .string ⟨#[]⟩] 58))) ⟨w.heap.size, 0, none⟩ = false := frozen_of_row _ _ 0 _ _ (heap_alloc_new w (.cells #[.string (⟨#[]⟩ : ByteArray), .string ⟨#[]⟩] 58))
          have f1 : World.frozen? (World.drew (w.alloc (.cells #[.string (⟨#[]⟩ : ByteArray), .string ⟨#[]⟩] 58))) ⟨w.heap.size, 1, none⟩ = false := frozen_of_row _ _ 1 _ _ (heap_alloc_new w (.cells #[.string (⟨#[]⟩ : ByteArray), .string ⟨#[]⟩] 58))
          go_enter Tryz.func67, Tryz.ntmps67
          go_wp2_with (first | (go_at_call 57; refine (splitOf_as n _ _ (by rfl) (by omega) (by omega) s HSP.out).mono ?_; rintro e w' ⟨rfl, rfl⟩) | (go_at_call 58; refine (cutLast_any a p c S _ hS hc).mono ?_; rintro e w' ⟨rfl, rfl⟩) | (go_at_call 67; refine (ih m s p b _ _ _ _ _ (by omega) (by omega) (by omega) (by have := HF.out; omega) (by omega) (by omega) (by omega) HP.out hA (by omega) (fun j hj => hsz j (by omega)) hK0 hP0).mono ?_; rintro e w1 ⟨⟨o1, v1, rfl⟩, hb1⟩; have p4 := keep hb1 p3; have u1 := keep hb1 u0; have v1' := keep hb1 v0; have g0 := (bcell hb1).2 _ _ (World.block_lt_of_cell? _ _ u0) |>.trans f0; have g1 := (bcell hb1).2 _ _ (World.block_lt_of_cell? _ _ v0) |>.trans f1; have hl1 : w.heap.size < w1.heap.size := Nat.lt_of_lt_of_le (World.block_lt_of_cell? _ _ u0) hb1.size))
          obtain ⟨c0, c1⟩ := pair_set w1 w.heap.size _ _ (.string (⟨#[]⟩ : ByteArray)) (.string ⟨#[]⟩) u1 v1'
          have hl2 : w.heap.size < ((w1.setCell ⟨w.heap.size, 0, none⟩ (.string (⟨#[]⟩ : ByteArray))).setCell ⟨w.heap.size, 1, none⟩ (.string ⟨#[]⟩)).heap.size := World.block_lt_of_cell? _ _ c0
          have d0 := (World.cell?_alloc_lt _ (.cells #[.string o1, .string v1] 58) ⟨w.heap.size, 0, none⟩ hl2).trans c0
          have d1 := (World.cell?_alloc_lt _ (.cells #[.string o1, .string v1] 58) ⟨w.heap.size, 1, none⟩ hl2).trans c1
          exact bodyPost_ret (v := .tuple #[.agg #[.string ⟨#[]⟩, .string ⟨#[]⟩], .bool false]) (by simp [results, Tryz.results67, go_sem, d0, d1]) rfl ⟨⟨_, _, rfl⟩, ((((hb0.trans (hb1.mono hb0.size)).setCell (Nat.le_refl _) _).setCell (Nat.le_refl _) _).trans ((below1 _ _).mono (Nat.le_of_lt hl2)))⟩
        · rw [if_neg hlt] at hq
          have HP : Hid (¬ p = ql f (m - s) (n - s) false) := fun e => hq (by omega)
          clear hq
          have mlt : ¬ (m : Int) ≤ s := by omega
          have m0 : ¬ (p : Int) + 1 = 0 := by omega
          have hzq := hsz p (by omega)
          have hS := h.later (below1 w (.cells #[.string (⟨#[]⟩ : ByteArray), .string ⟨#[]⟩] 58))
          have hb0 : Below w.heap.size w (World.drew (w.alloc (.cells #[.string (⟨#[]⟩ : ByteArray), .string ⟨#[]⟩] 58))) := bdrew (below1 w _) 1
          have hA := (h.later hb0).left p (by omega)
          have hK0 := keys_later hK hb0
          have hP0 := hP.later hb0
          have p3 := hP0.kind
          have p2 := (hP.later (below1 w (.cells #[.string (⟨#[]⟩ : ByteArray), .string ⟨#[]⟩] 58))).self
          have p2d := hP0.self
          have u0 : World.cell? (World.drew (w.alloc (.cells #[.string (⟨#[]⟩ : ByteArray), .string ⟨#[]⟩] 58))) ⟨w.heap.size, 0, none⟩ = some (.string ⟨#[]⟩) := (boxes2 w _ _ _).1
          have v0 : World.cell? (World.drew (w.alloc (.cells #[.string (⟨#[]⟩ : ByteArray), .string ⟨#[]⟩] 58))) ⟨w.heap.size, 1, none⟩ = some (.string ⟨#[]⟩) := (boxes2 w _ _ _).2
          have f0 : World.frozen? (World.drew (w.alloc (.cells #[.string (⟨#[]⟩ : ByteArray), .string ⟨#[]⟩] 58))) ⟨w.heap.size, 0, none⟩ = false := frozen_of_row _ _ 0 _ _ (heap_alloc_new w (.cells #[.string (⟨#[]⟩ : ByteArray), .string ⟨#[]⟩] 58))
          have f1 : World.frozen? (World.drew (w.alloc (.cells #[.string (⟨#[]⟩ : ByteArray), .string ⟨#[]⟩] 58))) ⟨w.heap.size, 1, none⟩ = false := frozen_of_row _ _ 1 _ _ (heap_alloc_new w (.cells #[.string (⟨#[]⟩ : ByteArray), .string ⟨#[]⟩] 58))
          go_enter Tryz.func67, Tryz.ntmps67
          go_wp2_with (first | (go_at_call 57; refine (splitOf_as n _ _ (by rfl) (by omega) (by omega) s HSP.out).mono ?_; rintro e w' ⟨rfl, rfl⟩) | (go_at_call 58; refine (cutLast_any a p c S _ hS hc).mono ?_; rintro e w' ⟨rfl, rfl⟩) | (go_at_call 67; refine (ih (m - s) (n - s) p false _ _ _ _ _ (by omega) (by omega) (by omega) (by have := HF.out; omega) (by omega) (by omega) (by omega) HP.out hA (by omega) (fun j hj => hsz j (by omega)) hK0 hP0).mono ?_; rintro e w1 ⟨⟨o1, v1, rfl⟩, hb1⟩; have p4 := keep hb1 p3; have u1 := keep hb1 u0; have v1' := keep hb1 v0; have g0 := (bcell hb1).2 _ _ (World.block_lt_of_cell? _ _ u0) |>.trans f0; have g1 := (bcell hb1).2 _ _ (World.block_lt_of_cell? _ _ v0) |>.trans f1; have hl1 : w.heap.size < w1.heap.size := Nat.lt_of_lt_of_le (World.block_lt_of_cell? _ _ u0) hb1.size))
          obtain ⟨c0, c1⟩ := pair_set w1 w.heap.size _ _ (.string (⟨#[]⟩ : ByteArray)) (.string ⟨#[]⟩) u1 v1'
          have hl2 : w.heap.size < ((w1.setCell ⟨w.heap.size, 0, none⟩ (.string (⟨#[]⟩ : ByteArray))).setCell ⟨w.heap.size, 1, none⟩ (.string ⟨#[]⟩)).heap.size := World.block_lt_of_cell? _ _ c0
          have d0 := (World.cell?_alloc_lt _ (.cells #[.string o1, .string v1] 58) ⟨w.heap.size, 0, none⟩ hl2).trans c0
          have d1 := (World.cell?_alloc_lt _ (.cells #[.string o1, .string v1] 58) ⟨w.heap.size, 1, none⟩ hl2).trans c1
          exact bodyPost_ret (v := .tuple #[.agg #[.string ⟨#[]⟩, .string ⟨#[]⟩], .bool false]) (by simp [results, Tryz.results67, go_sem, d0, d1]) rfl ⟨⟨_, _, rfl⟩, ((((hb0.trans (hb1.mono hb0.size)).setCell (Nat.le_refl _) _).setCell (Nat.le_refl _) _).trans ((below1 _ _).mono (Nat.le_of_lt hl2)))⟩
set_option maxRecDepth 20000 in
set_option maxHeartbeats 4000000 in
theorem claimProof_yes (k : Int) (X : ByteArray) (S : Nat → ByteArray) (hX : X.size ≤ 2097152) (O C K : Nat) (f : Nat) : ∀ (m n q : Nat) (b : Bool) (x y : Int) (a : Option Addr) (c : Nat) (w : World) (o v : ByteArray), f ≤ 31 → 1 ≤ m → m ≤ n → n ≤ 2 ^ f → x = m → y = n → q ≤ 1048576 → q = ql f m n b → Sl w a q S → q ≤ c → (∀ j, j < q → (S j).size ≤ 2097152) → KeysAt w → PQ w O C K k X → cq k X S f m n q b = (o, v) →
    Calls Tryz.prog 67 #[.int .i64 x, .int .i64 y, .slice a q c, .bool b, .pointer (some ⟨O, 0, none⟩), .pointer (some ⟨C, 0, none⟩), .pointer (some ⟨K, 0, none⟩)] w fun e w' => e = .returned (.tuple #[.agg #[.string o, .string v], .bool true]) ∧ Below w.heap.size w w' := by
  have same : ∀ (m q : Nat) (b : Bool) (a : Option Addr) (c : Nat) (w : World) (o v : ByteArray), q ≤ 1048576 → (q = if b then 0 else 1) → Sl w a q S → q ≤ c → PQ w O C K k X → (if b then (X, X) else (S 0, S 0)) = (o, v) →
      Calls Tryz.prog 67 #[.int .i64 m, .int .i64 m, .slice a q c, .bool b, .pointer (some ⟨O, 0, none⟩), .pointer (some ⟨C, 0, none⟩), .pointer (some ⟨K, 0, none⟩)] w fun e w' => e = .returned (.tuple #[.agg #[.string o, .string v], .bool true]) ∧ Below w.heap.size w w' := by
    intro m q b a c w o v hm hq h hc hP hr
    cases b
    · obtain ⟨rfl, rfl⟩ : S 0 = o ∧ S 0 = v := by simpa using hr
      obtain rfl : q = 1 := by simpa using hq
      exact claimProof_inside O C K m 0 a c w S hm h hc true rfl
    · obtain ⟨rfl, rfl⟩ : X = o ∧ X = v := by simpa using hr
      obtain rfl : q = 0 := by simpa using hq
      exact claimProof_begins k X O C K m 0 a c w hm hP true rfl
  induction f with
  | zero =>
    intro m n q b x y a c w o v h31 h1 hmn hf hx hy hm hq h hc hsz hK hP hr
    obtain rfl : n = 1 := by simp at hf; omega
    obtain rfl : m = 1 := by omega
    subst hx hy
    exact same 1 q b a c w o v hm hq h hc hP hr
  | succ f ih =>
    intro m n q b x y a c w o v h31 h1 hmn hf hx hy hm hq h hc hsz hK hP hr
    have hcap := cap40 (by omega) hf
    have hcap2 : n ≤ 2147483648 := Nat.le_trans hf (Nat.pow_le_pow_right (by decide) h31)
    by_cases hn : m = n
    · subst hn hx hy
      rw [ql_same] at hq
      rw [cq_same] at hr
      exact same m q b a c w o v hm hq h hc hP hr
    · rw [ql, if_neg hn] at hq
      rw [cq, if_neg hn] at hr
      have hs := spl_in n (by omega) hcap
      have hh := spl_half f n (by omega) hcap hf
      obtain ⟨s, hsn⟩ : ∃ s, spl n = s := ⟨_, rfl⟩
      have HSP : Hid (spl n = s) := hsn
      rw [hsn] at hq hs hh hr
      obtain ⟨hs1, hs2, hs3⟩ := hs
      have HF : Hid (s ≤ 2 ^ f) := hh
      have m1 : ¬ (m : Int) = n := by omega
      subst hx hy
      clear hf hh hsn same
      by_cases hlt : m ≤ s
      · rw [if_pos hlt] at hq hr
        have hle := ql_le f m s b
        obtain ⟨p, hp⟩ : ∃ p, ql f m s b = p := ⟨_, rfl⟩
        rw [hp] at hq hle
        obtain rfl : q = p + 1 := by omega
        rw [Nat.add_sub_cancel] at hr
        have hB := cq_le k X S hX f m s p b (by omega) (by omega) (by have := HF.out; omega) (by omega) hp.symm (fun j hj => hsz j (by omega))
        have HP : Hid (p = ql f m s b) := hp.symm
        obtain ⟨⟨o1, v1⟩, hu⟩ : ∃ u, cq k X S f m s p b = u := ⟨_, rfl⟩
        have HU : Hid (cq k X S f m s p b = (o1, v1)) := hu
        rw [hu] at hr hB
        obtain ⟨rfl, hr2⟩ : o1 = o ∧ nodeD k v1 (S p) = v := by simpa using hr
        have HR : Hid (nodeD k v1 (S p) = v) := hr2
        clear hq hp hu hr hr2
        obtain ⟨ho1, hv1⟩ := hB
        have mlt : (m : Int) ≤ s := by omega
        have m0 : ¬ (p : Int) + 1 = 0 := by omega
        have hzq := hsz p (by omega)
        have hS := h.later (below1 w (.cells #[.string (⟨#[]⟩ : ByteArray), .string ⟨#[]⟩] 58))
        have hb0 : Below w.heap.size w (World.drew (w.alloc (.cells #[.string (⟨#[]⟩ : ByteArray), .string ⟨#[]⟩] 58))) := bdrew (below1 w _) 1
        have hA := (h.later hb0).left p (by omega)
        have hK0 := keys_later hK hb0
        have hP0 := hP.later hb0
        have p3 := hP0.kind
        have p2 := (hP.later (below1 w (.cells #[.string (⟨#[]⟩ : ByteArray), .string ⟨#[]⟩] 58))).self
        have p2d := hP0.self
        have u0 : World.cell? (World.drew (w.alloc (.cells #[.string (⟨#[]⟩ : ByteArray), .string ⟨#[]⟩] 58))) ⟨w.heap.size, 0, none⟩ = some (.string ⟨#[]⟩) := (boxes2 w _ _ _).1
        have v0 : World.cell? (World.drew (w.alloc (.cells #[.string (⟨#[]⟩ : ByteArray), .string ⟨#[]⟩] 58))) ⟨w.heap.size, 1, none⟩ = some (.string ⟨#[]⟩) := (boxes2 w _ _ _).2
        have f0 : World.frozen? (World.drew (w.alloc (.cells #[.string (⟨#[]⟩ : ByteArray), .string ⟨#[]⟩] 58))) ⟨w.heap.size, 0, none⟩ = false := frozen_of_row _ _ 0 _ _ (heap_alloc_new w (.cells #[.string (⟨#[]⟩ : ByteArray), .string ⟨#[]⟩] 58))
        have f1 : World.frozen? (World.drew (w.alloc (.cells #[.string (⟨#[]⟩ : ByteArray), .string ⟨#[]⟩] 58))) ⟨w.heap.size, 1, none⟩ = false := frozen_of_row _ _ 1 _ _ (heap_alloc_new w (.cells #[.string (⟨#[]⟩ : ByteArray), .string ⟨#[]⟩] 58))
        go_enter Tryz.func67, Tryz.ntmps67
        go_wp2_with (first | (go_at_call 57; refine (splitOf_as n _ _ (by rfl) (by omega) (by omega) s HSP.out).mono ?_; rintro e w' ⟨rfl, rfl⟩) | (go_at_call 58; refine (cutLast_any a p c S _ hS hc).mono ?_; rintro e w' ⟨rfl, rfl⟩) | (go_at_call 67; refine (ih m s p b _ _ _ _ _ o1 v1 (by omega) (by omega) (by omega) (by have := HF.out; omega) (by omega) (by omega) (by omega) HP.out hA (by omega) (fun j hj => hsz j (by omega)) hK0 hP0 HU.out).mono ?_; rintro e w1 ⟨rfl, hb1⟩; have p4 := keep hb1 p3; have u1 := keep hb1 u0; have v1' := keep hb1 v0; have g0 := (bcell hb1).2 _ _ (World.block_lt_of_cell? _ _ u0) |>.trans f0; have g1 := (bcell hb1).2 _ _ (World.block_lt_of_cell? _ _ v0) |>.trans f1; have hl1 : w.heap.size < w1.heap.size := Nat.lt_of_lt_of_le (World.block_lt_of_cell? _ _ u0) hb1.size))
        have hl : w.heap.size ≤ w1.heap.size := Nat.le_of_lt hl1
        have hbV : Below w.heap.size w (w1.alloc (.cells #[.string o1, .string v1] 58)) := (hb0.trans (hb1.mono hb0.size)).trans ((below1 w1 _).mono hl)
        have a0 := (boxes2 w1 (.string o1) (.string v1) 58).1
        have a1 := (boxes2 w1 (.string o1) (.string v1) 58).2
        have p5 := keep (below1 w1 (.cells #[.string o1, .string v1] 58)) p4
        have u2 := keep (below1 w1 (.cells #[.string o1, .string v1] 58)) u1
        have v2 := keep (below1 w1 (.cells #[.string o1, .string v1] 58)) v1'
        have g2 := (World.frozen?_alloc_old w1 (.cells #[.string o1, .string v1] 58) ⟨w.heap.size, 0, none⟩ (by show w.heap.size ≠ _; omega)).trans g0
        have g3 := (World.frozen?_alloc_old w1 (.cells #[.string o1, .string v1] 58) ⟨w.heap.size, 1, none⟩ (by show w.heap.size ≠ _; omega)).trans g1
        have hKV := keys_later hK hbV
        have hKl : K < w.heap.size := World.block_lt_of_cell? _ _ hP.kind
        clear hb1 hb0 u0 v0 f0 f1 u1 v1' g0 g1 p4 p3 p2 p2d hA hS hK0 hP0 hP hK h ih
        generalize w1.alloc (.cells #[.string o1, .string v1] 58) = V at *
        generalize w1.heap.size = G at *
        have hne1 : ¬ w.heap.size = G := by omega
        have hne2 : ¬ w.heap.size = K := by omega
        go_region_held3 (fun w' => w'.cell? ⟨G, 0, none⟩ = some (.string o1) ∧ w'.cell? ⟨G, 1, none⟩ = some (.string v1) ∧ w'.cell? ⟨K, 0, none⟩ = some (.int .i64 k)) (first | exact ⟨a0x, a1x, p5x⟩ | exact ⟨a0, a1, p5⟩ | go_keep) (first | (go_at_call 59; refine (implNode_as k v1 (S p) _ (by first | exact hKV | exact hKV.drew1 | exact hKV.drew1.drew1) hv1 hzq v HR.out).mono ?_; rintro e w2 ⟨rfl, hb2⟩; replace hb2 : Below V.heap.size V w2 := (by first | exact hb2 | exact undrew hb2 | exact undrew (undrew hb2)); have a0x := keep hb2 a0; have a1x := keep hb2 a1; have p5x := keep hb2 p5; have u3x := keep hb2 u2; have v3x := keep hb2 v2; have g4x := (bcell hb2).2 _ _ (World.block_lt_of_cell? _ _ u2) |>.trans g2; have g5x := (bcell hb2).2 _ _ (World.block_lt_of_cell? _ _ v2) |>.trans g3))
        all_goals
          obtain ⟨c0, c1⟩ := pair_set w2 w.heap.size _ _ (.string o1) (.string v) u3x v3x
          try go_wp2
          exact bodyPost_ret (v := .tuple #[.agg #[.string o1, .string v], .bool true]) (by simp [results, Tryz.results67, go_sem, c0, c1]) rfl ⟨rfl, ((hbV.trans (hb2.mono hbV.size)).setCell (Nat.le_refl _) _).setCell (Nat.le_refl _) _⟩
      · rw [if_neg hlt] at hq hr
        have hle := ql_le f (m - s) (n - s) false
        obtain ⟨p, hp⟩ : ∃ p, ql f (m - s) (n - s) false = p := ⟨_, rfl⟩
        rw [hp] at hq hle
        obtain rfl : q = p + 1 := by omega
        rw [Nat.add_sub_cancel] at hr
        have hB := cq_le k X S hX f (m - s) (n - s) p false (by omega) (by omega) (by have := HF.out; omega) (by omega) hp.symm (fun j hj => hsz j (by omega))
        have HP : Hid (p = ql f (m - s) (n - s) false) := hp.symm
        obtain ⟨⟨o1, v1⟩, hu⟩ : ∃ u, cq k X S f (m - s) (n - s) p false = u := ⟨_, rfl⟩
        have HU : Hid (cq k X S f (m - s) (n - s) p false = (o1, v1)) := hu
        rw [hu] at hr hB
        obtain ⟨ho, hv⟩ : nodeD k (S p) o1 = o ∧ nodeD k (S p) v1 = v := by simpa using hr
        have HO' : Hid (nodeD k (S p) o1 = o) := ho
        have HV' : Hid (nodeD k (S p) v1 = v) := hv
        clear hq hp hu hr ho hv
        obtain ⟨ho1, hv1⟩ := hB
        have mlt : ¬ (m : Int) ≤ s := by omega
        have m0 : ¬ (p : Int) + 1 = 0 := by omega
        have hzq := hsz p (by omega)
        have hS := h.later (below1 w (.cells #[.string (⟨#[]⟩ : ByteArray), .string ⟨#[]⟩] 58))
        have hb0 : Below w.heap.size w (World.drew (w.alloc (.cells #[.string (⟨#[]⟩ : ByteArray), .string ⟨#[]⟩] 58))) := bdrew (below1 w _) 1
        have hA := (h.later hb0).left p (by omega)
        have hK0 := keys_later hK hb0
        have hP0 := hP.later hb0
        have p3 := hP0.kind
        have p2 := (hP.later (below1 w (.cells #[.string (⟨#[]⟩ : ByteArray), .string ⟨#[]⟩] 58))).self
        have p2d := hP0.self
        have u0 : World.cell? (World.drew (w.alloc (.cells #[.string (⟨#[]⟩ : ByteArray), .string ⟨#[]⟩] 58))) ⟨w.heap.size, 0, none⟩ = some (.string ⟨#[]⟩) := (boxes2 w _ _ _).1
        have v0 : World.cell? (World.drew (w.alloc (.cells #[.string (⟨#[]⟩ : ByteArray), .string ⟨#[]⟩] 58))) ⟨w.heap.size, 1, none⟩ = some (.string ⟨#[]⟩) := (boxes2 w _ _ _).2
        have f0 : World.frozen? (World.drew (w.alloc (.cells #[.string (⟨#[]⟩ : ByteArray), .string ⟨#[]⟩] 58))) ⟨w.heap.size, 0, none⟩ = false := frozen_of_row _ _ 0 _ _ (heap_alloc_new w (.cells #[.string (⟨#[]⟩ : ByteArray), .string ⟨#[]⟩] 58))
        have f1 : World.frozen? (World.drew (w.alloc (.cells #[.string (⟨#[]⟩ : ByteArray), .string ⟨#[]⟩] 58))) ⟨w.heap.size, 1, none⟩ = false := frozen_of_row _ _ 1 _ _ (heap_alloc_new w (.cells #[.string (⟨#[]⟩ : ByteArray), .string ⟨#[]⟩] 58))
        go_enter Tryz.func67, Tryz.ntmps67
        go_wp2_with (first | (go_at_call 57; refine (splitOf_as n _ _ (by rfl) (by omega) (by omega) s HSP.out).mono ?_; rintro e w' ⟨rfl, rfl⟩) | (go_at_call 58; refine (cutLast_any a p c S _ hS hc).mono ?_; rintro e w' ⟨rfl, rfl⟩) | (go_at_call 67; refine (ih (m - s) (n - s) p false _ _ _ _ _ o1 v1 (by omega) (by omega) (by omega) (by have := HF.out; omega) (by omega) (by omega) (by omega) HP.out hA (by omega) (fun j hj => hsz j (by omega)) hK0 hP0 HU.out).mono ?_; rintro e w1 ⟨rfl, hb1⟩; have p4 := keep hb1 p3; have u1 := keep hb1 u0; have v1' := keep hb1 v0; have g0 := (bcell hb1).2 _ _ (World.block_lt_of_cell? _ _ u0) |>.trans f0; have g1 := (bcell hb1).2 _ _ (World.block_lt_of_cell? _ _ v0) |>.trans f1; have hl1 : w.heap.size < w1.heap.size := Nat.lt_of_lt_of_le (World.block_lt_of_cell? _ _ u0) hb1.size))
        have hl : w.heap.size ≤ w1.heap.size := Nat.le_of_lt hl1
        have hbV : Below w.heap.size w (w1.alloc (.cells #[.string o1, .string v1] 58)) := (hb0.trans (hb1.mono hb0.size)).trans ((below1 w1 _).mono hl)
        have a0 := (boxes2 w1 (.string o1) (.string v1) 58).1
        have a1 := (boxes2 w1 (.string o1) (.string v1) 58).2
        have p5 := keep (below1 w1 (.cells #[.string o1, .string v1] 58)) p4
        have u2 := keep (below1 w1 (.cells #[.string o1, .string v1] 58)) u1
        have v2 := keep (below1 w1 (.cells #[.string o1, .string v1] 58)) v1'
        have g2 := (World.frozen?_alloc_old w1 (.cells #[.string o1, .string v1] 58) ⟨w.heap.size, 0, none⟩ (by show w.heap.size ≠ _; omega)).trans g0
        have g3 := (World.frozen?_alloc_old w1 (.cells #[.string o1, .string v1] 58) ⟨w.heap.size, 1, none⟩ (by show w.heap.size ≠ _; omega)).trans g1
        have hKV := keys_later hK hbV
        have hKl : K < w.heap.size := World.block_lt_of_cell? _ _ hP.kind
        clear hb1 hb0 u0 v0 f0 f1 u1 v1' g0 g1 p4 p3 p2 p2d hA hS hK0 hP0 hP hK h ih
        generalize w1.alloc (.cells #[.string o1, .string v1] 58) = V at *
        generalize w1.heap.size = G at *
        have hne1 : ¬ w.heap.size = G := by omega
        have hne2 : ¬ w.heap.size = K := by omega
        go_region_held3 (fun w' => w'.cell? ⟨G, 0, none⟩ = some (.string o1) ∧ w'.cell? ⟨G, 1, none⟩ = some (.string v1) ∧ w'.cell? ⟨K, 0, none⟩ = some (.int .i64 k)) (first | exact ⟨a0y, a1y, p5y⟩ | exact ⟨a0x, a1x, p5x⟩ | exact ⟨a0, a1, p5⟩ | go_keep) (first | (go_at_call 59; have _h := hb2; refine (implNode_as k (S p) v1 _ (by first | exact keys_later hKV hb2 | exact (keys_later hKV hb2).drew1 | exact (keys_later hKV hb2).drew1.drew1) hzq hv1 v HV'.out).mono ?_; rintro e w3 ⟨rfl, hb3⟩; replace hb3 : Below w2.heap.size w2 w3 := (by first | exact hb3 | exact undrew hb3 | exact undrew (undrew hb3)); have a0y := keep hb3 a0x; have a1y := keep hb3 a1x; have p5y := keep hb3 p5x; have u3y := keep hb3 u3x; have v3y := keep hb3 v3x; have g4y := (bcell hb3).2 _ _ (World.block_lt_of_cell? _ _ u3x) |>.trans g4x; have g5y := (bcell hb3).2 _ _ (World.block_lt_of_cell? _ _ v3x) |>.trans g5x) | (go_at_call 59; refine (implNode_as k (S p) o1 _ (by first | exact hKV | exact hKV.drew1 | exact hKV.drew1.drew1) hzq ho1 o HO'.out).mono ?_; rintro e w2 ⟨rfl, hb2⟩; replace hb2 : Below V.heap.size V w2 := (by first | exact hb2 | exact undrew hb2 | exact undrew (undrew hb2)); have a0x := keep hb2 a0; have a1x := keep hb2 a1; have p5x := keep hb2 p5; have u3x := keep hb2 u2; have v3x := keep hb2 v2; have g4x := (bcell hb2).2 _ _ (World.block_lt_of_cell? _ _ u2) |>.trans g2; have g5x := (bcell hb2).2 _ _ (World.block_lt_of_cell? _ _ v2) |>.trans g3))
        all_goals
          obtain ⟨c0, c1⟩ := pair_set w3 w.heap.size _ _ (.string o) (.string v) u3y v3y
          try go_wp2
          exact bodyPost_ret (v := .tuple #[.agg #[.string o, .string v], .bool true]) (by simp [results, Tryz.results67, go_sem, c0, c1]) rfl ⟨rfl, (((hbV.trans (hb2.mono hbV.size)).trans (hb3.mono (Nat.le_trans hbV.size hb2.size))).setCell (Nat.le_refl _) _).setCell (Nat.le_refl _) _⟩
end Go.Proofs.YtlbackkjjhpljaaGreatDoor
