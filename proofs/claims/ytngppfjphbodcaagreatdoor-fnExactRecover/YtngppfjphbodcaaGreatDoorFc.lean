/-
  Files: what a list of them is, the law's own functions over it.
-/
import Derived.Test.YtngppfjphbodcaaGreatDoorProg
import Derived.WalkKit
import Derived.ProofKit
import Derived.Laws.CopyOwn
import Derived.Deep.QuietTactic
import Derived.BigQuiet
import Derived.Deep.OwnRows
import Derived.Deep.RegionWith
import Derived.Deep.AppendLies
import Derived.Laws.Cover1
import Derived.KernelRfl
import Derived.OrdersHeld
namespace Go.Proofs.YtngppfjphbodcaaGreatDoor
open Go.RowKit
/-- A box of six cells, of two; what is not frozen. -/
structure B6 (V : World) (B : Nat) (v0 v1 v2 v3 v4 v5 : Value) : Prop where
  c0 : V.cell? ⟨B, 0, none⟩ = some v0
  c1 : V.cell? ⟨B, 1, none⟩ = some v1
  c2 : V.cell? ⟨B, 2, none⟩ = some v2
  c3 : V.cell? ⟨B, 3, none⟩ = some v3
  c4 : V.cell? ⟨B, 4, none⟩ = some v4
  c5 : V.cell? ⟨B, 5, none⟩ = some v5
structure F6 (V : World) (B : Nat) : Prop where
  c0 : V.frozen? ⟨B, 0, none⟩ = false
  c1 : V.frozen? ⟨B, 1, none⟩ = false
  c2 : V.frozen? ⟨B, 2, none⟩ = false
  c3 : V.frozen? ⟨B, 3, none⟩ = false
  c4 : V.frozen? ⟨B, 4, none⟩ = false
  c5 : V.frozen? ⟨B, 5, none⟩ = false
structure B2 (V : World) (B : Nat) (v0 v1 : Value) : Prop where
  c0 : V.cell? ⟨B, 0, none⟩ = some v0
  c1 : V.cell? ⟨B, 1, none⟩ = some v1
structure F2 (V : World) (B : Nat) : Prop where
  c0 : V.frozen? ⟨B, 0, none⟩ = false
  c1 : V.frozen? ⟨B, 1, none⟩ = false
theorem B6.of {V : World} {B : Nat} {t : TypeId} {fr : Nat × Nat} {v0 v1 v2 v3 v4 v5 : Value} (h : V.heap[B]? = some (.cells #[v0, v1, v2, v3, v4, v5] t fr)) : B6 V B v0 v1 v2 v3 v4 v5 :=
  ⟨cell_of_row _ _ 0 _ _ _ h, cell_of_row _ _ 1 _ _ _ h, cell_of_row _ _ 2 _ _ _ h, cell_of_row _ _ 3 _ _ _ h, cell_of_row _ _ 4 _ _ _ h, cell_of_row _ _ 5 _ _ _ h⟩
theorem F6.of {V : World} {B : Nat} {t : TypeId} {v0 v1 v2 v3 v4 v5 : Value} (h : V.heap[B]? = some (.cells #[v0, v1, v2, v3, v4, v5] t (0, 0))) : F6 V B :=
  ⟨frozen_of_row _ _ 0 _ _ h, frozen_of_row _ _ 1 _ _ h, frozen_of_row _ _ 2 _ _ h, frozen_of_row _ _ 3 _ _ h, frozen_of_row _ _ 4 _ _ h, frozen_of_row _ _ 5 _ _ h⟩
theorem B2.of {V : World} {B : Nat} {t : TypeId} {fr : Nat × Nat} {v0 v1 : Value} (h : V.heap[B]? = some (.cells #[v0, v1] t fr)) : B2 V B v0 v1 := ⟨cell_of_row _ _ 0 _ _ _ h, cell_of_row _ _ 1 _ _ _ h⟩
theorem F2.of {V : World} {B : Nat} {t : TypeId} {v0 v1 : Value} (h : V.heap[B]? = some (.cells #[v0, v1] t (0, 0))) : F2 V B := ⟨frozen_of_row _ _ 0 _ _ h, frozen_of_row _ _ 1 _ _ h⟩
/-- An operation taken first, its closed facts by the kernel. -/
theorem takeF {P : Program} {ops : Array Oper} {Q : Exit → Act → World → Prop} {md : Region.Mode} {S : World → Prop} {i : Nat} {oi : Oper} {v : Value} {fuel : Nat} {listed : Array Bool} {a : Act} {w : World} (hi : ops[i]? = some oi)
    (hy : Region.wanted oi (yielded ops a.tmps) = true ∧ ∀ w, S w → (execOp a.eval oi).run P w = .ok (.value v) w) (hS : S w)
    (h : wpAnyH P md ops Q S fuel (listed.setIfInBounds i true) (a.put oi.dst v) w)
    (hs : Region.noSelect ops = true := by kernel_rfl) (hf : Region.free md ops listed i = true := by kernel_rfl) (hr : (Region.ready md ops listed).contains i = true := by kernel_rfl)
    (hQ : ∀ c a w, Q (.panic c) (a.put oi.dst v) w → Q (.panic c) a w := by exact fun _ _ _ h => h) : wpAnyH P md ops Q S (fuel + 1) listed a w :=
  wpAnyH_take hi hs hf hr hQ (Or.inl hy) hS h
theorem retB {b b' : Bool} (h : b = b') : Ending.returned (.bool b) = .returned (.bool b') := by rw [h]
def isLet (c : Int) : Bool := decide (97 ≤ c) && decide (c ≤ 122)
def isDig (c : Int) : Bool := decide (48 ≤ c) && decide (c ≤ 57)
def btw (x lo hi : Int) : Bool := decide (lo ≤ x) && decide (x ≤ hi)
def allB (p : Int → Bool) (s : ByteArray) : Bool := s.data.toList.all fun c => p c.toNat
theorem allB_true {p : Int → Bool} {s : ByteArray} (h : ∀ j (hj : j < s.size), p s[j].toNat = true) : allB p s = true := by
  unfold allB
  rw [List.all_eq_true]
  intro c hc
  obtain ⟨j, hj, rfl⟩ := List.getElem_of_mem hc
  exact h j (by simpa using hj)
theorem allB_false {p : Int → Bool} {s : ByteArray} {j : Nat} (hj : j < s.size) (h : p s[j].toNat = false) : allB p s = false := by
  unfold allB
  rw [List.all_eq_false]
  exact ⟨s[j], List.getElem_mem (l := s.data.toList) (n := j) (by simpa using hj), by simp [h]⟩
set_option maxRecDepth 20000 in
set_option maxHeartbeats 1000000 in
theorem sLetter (c : Int) (w : World) : Calls Tryz.prog 48 #[.int .u8 c] w fun e w' => e = .returned (.bool (isLet c)) ∧ w' = w := by
  go_enter Tryz.func48, Tryz.ntmps48
  go_wp2
  all_goals
    go_ret
    exact ⟨retB (by simp [isLet]; omega), rfl⟩
set_option maxRecDepth 20000 in
set_option maxHeartbeats 1000000 in
theorem iLetter (c : Int) (w : World) : Calls Tryz.prog 63 #[.int .u8 c] w fun e w' => e = .returned (.bool (isLet c)) ∧ w' = w := by
  go_enter Tryz.func63, Tryz.ntmps63
  go_wp2
  all_goals
    go_ret
    exact ⟨retB (by simp [isLet]; omega), rfl⟩
set_option maxRecDepth 20000 in
set_option maxHeartbeats 1000000 in
theorem iDigit (c : Int) (w : World) : Calls Tryz.prog 64 #[.int .u8 c] w fun e w' => e = .returned (.bool (isDig c)) ∧ w' = w := by
  go_enter Tryz.func64, Tryz.ntmps64
  go_wp2
  all_goals
    go_ret
    exact ⟨retB (by simp [isDig]; omega), rfl⟩
set_option maxRecDepth 20000 in
set_option maxHeartbeats 1000000 in
theorem sBetween (x lo hi : Int) (w : World) : Calls Tryz.prog 33 #[.int .i64 x, .int .i64 lo, .int .i64 hi] w fun e w' => e = .returned (.bool (btw x lo hi)) ∧ w' = w := by
  go_enter Tryz.func33, Tryz.ntmps33
  go_wp2
  all_goals
    go_ret
    exact ⟨retB (by simp [btw]; omega), rfl⟩
theorem wr8 (c : UInt8) : wrap64 (c.toNat : Int) = c.toNat := by
  have := c.toNat_lt
  unfold wrap64
  omega
theorem bytes_inj2 {a b : ByteArray} (h : a.toList = b.toList) : a = b := by
  rw [ByteArray.toList_eq, ByteArray.toList_eq] at h
  obtain ⟨⟨a⟩⟩ := a
  obtain ⟨⟨b⟩⟩ := b
  simp at h
  rw [h]
theorem eqS (a b : ByteArray) : (a.toList == b.toList) = decide (a = b) := by
  by_cases h : a = b
  · subst h; simp
  · simp [h]
    exact fun e => h (bytes_inj2 e)
theorem empty_iff (s : ByteArray) : s.toList = [] ↔ s.size = 0 := by
  rw [ByteArray.toList_eq]
  constructor
  · intro h
    have := congrArg List.length h
    simpa using this
  · intro h
    exact List.length_eq_zero_iff.1 (by simpa using h)
theorem bal (w : World) (o : Obj) : Below w.heap.size w (w.alloc o) := (Below.refl _ _).alloc (Nat.le_refl _) _
theorem bal2 {w w1 : World} {o : Obj} (h : Below (w.alloc o).heap.size (w.alloc o) w1) : Below w.heap.size w w1 := (bal w o).trans (h.mono (bal w o).size)
theorem bstep {a b c : World} (h : Below a.heap.size a b) (k : Below b.heap.size b c) : Below a.heap.size a c := h.trans (k.mono h.size)
theorem keepB {w w' : World} {p : Addr} {v : Value} (hb : Below w.heap.size w w') (hc : w.cell? p = some v) : w'.cell? p = some v := (hb.cell (World.block_lt_of_cell? w _ hc)).trans hc
theorem undrew {w w' : World} (h : Below w.drew.heap.size w.drew w') : Below w.heap.size w w' := ⟨h.os, h.tape, h.output, h.size, h.block⟩
theorem bj {w wr w2 : World} {o : Obj} (hb : Below w.heap.size w wr) (h : Below (wr.alloc o).heap.size (wr.alloc o) w2) : Below w.heap.size w w2 := hb.trans ((bal2 h).mono hb.size)
theorem grow_le {w : World} {B : Nat} {e : TypeId} {size g n cap : Nat} {xs : List Value} (h : w.ownsRow B e size (.slice (some ⟨g, 0, none⟩) n cap) n xs) : B ≤ g :=
  (h.lt g rfl).1
theorem ones (v : Value) (h : v.oneCell' = true) : ∀ u ∈ [v], u.oneCell' = true := by
  intro u hu; simp at hu; subst hu; exact h
theorem below3 (w : World) (a b c : Obj) : Below w.heap.size w (((w.alloc a).alloc b).alloc c) := bstep (bal w a) (bstep (bal _ b) (bal _ c))
theorem make_any {t e : TypeId} {z : Value} {size bytes : Nat} (ht : Tryz.prog.underlying t = some (.slice e)) (hinfo : (Tryz.prog.info? e).map (fun i => (i.zero, i.size, i.bytes)) = some (some z, size, bytes)) (n : Nat) (hn : n ≤ 2097152) (hb : bytes ≤ 1000) (w : World) :
    (Instr.makeSlice t (.int .i64 (n : Int)) (.int .i64 (n : Int))).run Tryz.prog w = .ok (.slice (some ⟨w.heap.size, 0, none⟩) n n) (w.alloc (.cells (madeCells z.cells (n * size)) e)) := by
  obtain ⟨i, hi, hzz⟩ := Option.map_eq_some_iff.1 hinfo
  simp only [Prod.mk.injEq] at hzz
  obtain ⟨hz, hs, hbb⟩ := hzz
  have h1 : ((i.bytes : Int) * (n : Int)) ≤ 281474976710656 := by
    rw [hbb]
    have : bytes * n ≤ 1000 * 2097152 := Nat.mul_le_mul hb hn
    have h2 : ((bytes : Int) * (n : Int)) = ((bytes * n : Nat) : Int) := by simp
    omega
  have := run_make (P := Tryz.prog) w t e i z ht hi hz .i64 .i64 n n (by omega) (by omega) h1 (by omega)
  rw [hs] at this
  simpa using this
theorem made_size (z : Array Value) (n : Nat) : (madeCells z n).size = n := by simp [size_madeCells]
theorem there {A : Array Value} {k : Nat} (h : k < A.size) : ∃ v, A[k]? = some v := ⟨A[k], by simp [h]⟩
theorem setA {A : Array Value} {k i : Nat} {v u : Value} (h : A[i]? = some u) (hne : k ≠ i) : (A.setIfInBounds k v)[i]? = some u := by
  rw [Array.getElem?_setIfInBounds, if_neg hne]; exact h
theorem setS {A : Array Value} {k : Nat} {v : Value} (h : k < A.size) : (A.setIfInBounds k v)[k]? = some v := by
  rw [Array.getElem?_setIfInBounds]; simp [h]
theorem eqS_same (s : ByteArray) : (s.toList == s.toList) = true := by simp
/-- p holds at all numbers below n. -/
def allN (n : Nat) (p : Nat → Bool) : Bool := (List.range n).all p
theorem allN_true {n : Nat} {p : Nat → Bool} (h : ∀ j, j < n → p j = true) : allN n p = true := by
  unfold allN
  rw [List.all_eq_true]
  exact fun j hj => h j (List.mem_range.1 hj)
theorem allN_false {n j : Nat} {p : Nat → Bool} (hj : j < n) (h : p j = false) : allN n p = false := by
  unfold allN
  rw [List.all_eq_false]
  exact ⟨j, List.mem_range.2 hj, by simp [h]⟩
/-- A byte of a file's name; a file's name. -/
def isFnb (c : Int) : Bool := isLet c || isDig c || c == 45
def okFn (s : ByteArray) : Bool := btw s.size 1 30 && allB isFnb s
set_option maxRecDepth 20000 in
set_option maxHeartbeats 1000000 in
theorem iFnb (c : Int) (w : World) : Calls Tryz.prog 54 #[.int .u8 c] w fun e w' => e = .returned (.bool (isFnb c)) ∧ w' = w := by
  go_enter Tryz.func54, Tryz.ntmps54
  go_wp2_with (first | (go_at_call 63; refine (iLetter c _).mono ?_; rintro e w1 ⟨rfl, rfl⟩; rcases hb : isLet c) | (go_at_call 64; refine (iDigit c _).mono ?_; rintro e w1 ⟨rfl, rfl⟩; rcases hd : isDig c))
  all_goals
    go_ret
    exact ⟨retB (by simp [isFnb, *]), rfl⟩
set_option maxRecDepth 20000 in
set_option maxHeartbeats 2000000 in
theorem begFn (s : ByteArray) (w : World) (hs : s.size ≤ 2097152) : Calls Tryz.prog 53 #[.string s, .func (.func 54) #[] #[]] w fun e w' => ∃ n : Nat, e = .returned (.int .i64 n) ∧ w' = w ∧ (n = s.size ↔ allB isFnb s = true) := by
  go_enter Tryz.func53, Tryz.ntmps53
  go_wp2
  go_loop [5] (fun i => ∃ k : Nat, k ≤ s.size ∧ i = .int .i64 k ∧ ∀ j (h : j < s.size), j < k → isFnb s[j].toNat = true) (fun i => s.size - (intOf i).toNat)
  case atStart => exact ⟨0, by omega, rfl, fun j _ h => by omega⟩
  case round =>
    obtain ⟨k, hk, rfl, hall⟩ := hrel
    by_cases hlt : k < s.size
    · go_wp2_with (go_at_call 54; refine (iFnb _ _).mono ?_; rintro e w1 ⟨rfl, rfl⟩; rcases hb : isFnb s[k].toNat)
      · go_ret
        exact ⟨k, rfl, rfl, by rw [allB_false (p := isFnb) hlt hb]; simp; omega⟩
      · go_round
        case rel => exact ⟨k + 1, by omega, by go_num, fun j h hj => by
          by_cases e : j = k
          · subst e; exact hb
          · exact hall j h (by omega)⟩
        case measure => simp [intOf]; omega
    · go_wp2
      go_ret
      exact ⟨k, rfl, rfl, by rw [allB_true (p := isFnb) (fun j h => hall j h (by omega))]; simp; omega⟩
set_option maxRecDepth 20000 in
set_option maxHeartbeats 2000000 in
theorem iFileName (s : ByteArray) (w : World) (hs : s.size ≤ 2097152) : Calls Tryz.prog 41 #[.string s] w fun e w' => e = .returned (.bool (okFn s)) ∧ w' = w := by
  go_enter Tryz.func41, Tryz.ntmps41
  go_wp2_with (go_at_call 53; refine (begFn s _ hs).mono ?_; rintro e w1 ⟨n, rfl, rfl, hn⟩)
  all_goals
    go_ret
    refine ⟨retB (Bool.eq_iff_iff.2 ?_), rfl⟩
    first
      | (rcases ha : allB isFnb s <;> simp [ha] at hn <;> simp [okFn, btw, ha] <;> omega)
      | (simp [okFn, btw] <;> omega)
set_option maxRecDepth 20000 in
set_option maxHeartbeats 2000000 in
theorem sFileName (s : ByteArray) (w : World) (hs : s.size ≤ 2097152) : Calls Tryz.prog 35 #[.string s] w fun e w' => e = .returned (.bool (okFn s)) ∧ w' = w := by
  go_enter Tryz.func35, Tryz.ntmps35
  go_wp2_with (go_at_call 33; refine (sBetween _ 1 30 _).mono ?_; rintro e w1 ⟨rfl, rfl⟩; rcases hb : btw s.size 1 30)
  · go_ret
    exact ⟨retB (by simp [okFn, hb]), rfl⟩
  · go_loop [3] (fun i => ∃ k : Nat, k ≤ s.size ∧ i = .int .i64 k ∧ ∀ j (h : j < s.size), j < k → isFnb s[j].toNat = true) (fun i => s.size - (intOf i).toNat)
    case atStart => exact ⟨0, by omega, rfl, fun j _ h => by omega⟩
    case round =>
      obtain ⟨k, hk, rfl, hall⟩ := hrel
      by_cases hlt : k < s.size
      · have hq : isFnb s[k].toNat = (isLet s[k].toNat || btw s[k].toNat 48 57 || !((s[k].toNat : Int) != 45)) := by
          unfold isFnb
          rw [show isDig s[k].toNat = btw s[k].toNat 48 57 from rfl]
          simp [bne]
        rcases hm : ((s[k].toNat : Int) != 45)
        all_goals
          go_wp2_with (first | (go_at_call 48; refine (sLetter _ _).mono ?_; rintro e w1 ⟨rfl, rfl⟩; rcases hl : isLet s[k].toNat) | (go_at_call 33; refine (sBetween _ 48 57 _).mono ?_; rw [wr8]; rintro e w1 ⟨rfl, rfl⟩; rcases hd : btw s[k].toNat 48 57))
        all_goals
          first
            | (go_round
               case rel => exact ⟨k + 1, by omega, by go_num, fun j h hj => by
                 by_cases e : j = k
                 · subst e
                   rw [hq]
                   simp [*]
                 · exact hall j h (by omega)⟩
               case measure => simp [intOf]; omega)
            | (go_ret
               refine ⟨retB ?_, rfl⟩
               have hx : isFnb s[k].toNat = false := by rw [hq]; simp [*]
               simp [okFn, hb, allB_false (p := isFnb) hlt hx])
      · go_wp2
        go_ret
        exact ⟨retB (by simp [okFn, hb, allB_true (p := isFnb) (fun j h => hall j h (by omega))]), rfl⟩
set_option maxRecDepth 20000 in
set_option maxHeartbeats 1000000 in
theorem iUpTo (x hi : Int) (w : World) : Calls Tryz.prog 42 #[.int .i64 x, .int .i64 hi] w fun e w' => e = .returned (.bool (btw x 0 hi)) ∧ w' = w := by
  go_enter Tryz.func42, Tryz.ntmps42
  go_wp2
  all_goals
    go_ret
    exact ⟨retB (by simp [btw]; omega), rfl⟩
structure Fil where
  s : ByteArray
  d : ByteArray
  y : Int
/-- n files, of whatever length. -/
def FX (w : World) (a : Option Addr) (n : Nat) (F : Nat → Fil) : Prop :=
  n ≤ 9223372036854775807 ∧ ∀ k, k < n → ∃ b off, a = some ⟨b, off, none⟩ ∧ w.cell? ⟨b, off + k * 3, none⟩ = some (.string (F k).s) ∧ w.cell? ⟨b, off + k * 3 + 1, none⟩ = some (.string (F k).d) ∧ w.cell? ⟨b, off + k * 3 + 2, none⟩ = some (.int .i64 (F k).y) ∧ (F k).s.size ≤ 9223372036854775807 ∧ (F k).d.size ≤ 9223372036854775807
theorem FX.later {w w' : World} {a : Option Addr} {n : Nat} {F : Nat → Fil} (h : FX w a n F) (hb : Below w.heap.size w w') : FX w' a n F := ⟨h.1, fun k hk => by
  obtain ⟨b, off, e, h0, h1, h2, hs⟩ := h.2 k hk
  exact ⟨b, off, e, keepB hb h0, keepB hb h1, keepB hb h2, hs⟩⟩
/-- n files; what they hold together. -/
def sumS (F : Nat → Fil) : Nat → Nat
  | 0 => 0
  | k + 1 => sumS F k + (F k).s.size
def sumD (F : Nat → Fil) : Nat → Nat
  | 0 => 0
  | k + 1 => sumD F k + (F k).d.size
theorem sumS_le (F : Nat → Fil) (k n : Nat) (h : k < n) : (F k).s.size ≤ sumS F n := by
  induction n with
  | zero => omega
  | succ n ih =>
    rw [sumS]
    by_cases e : k = n
    · subst e; omega
    · have := ih (by omega); omega
theorem sumD_mono (F : Nat → Fil) (k n : Nat) (h : k ≤ n) : sumD F k ≤ sumD F n := by
  induction n with
  | zero => obtain rfl : k = 0 := by omega
            exact Nat.le_refl _
  | succ n ih =>
    by_cases e : k = n + 1
    · subst e; exact Nat.le_refl _
    · rw [sumD]; have := ih (by omega); omega
theorem sumD_le (F : Nat → Fil) (k n : Nat) (h : k < n) : (F k).d.size ≤ sumD F n := by
  have := sumD_mono F (k + 1) n h
  rw [sumD] at this
  omega
def Small (n : Nat) (F : Nat → Fil) : Prop := n + sumS F n + sumD F n ≤ 2097152
theorem Small.n {n : Nat} {F : Nat → Fil} (h : Small n F) : n ≤ 2097152 := by unfold Small at h; omega
theorem Small.s {n : Nat} {F : Nat → Fil} (h : Small n F) (k : Nat) (hk : k < n) : (F k).s.size ≤ 2097152 := by have := sumS_le F k n hk; unfold Small at h; omega
theorem Small.d {n : Nat} {F : Nat → Fil} (h : Small n F) (k : Nat) (hk : k < n) : (F k).d.size ≤ 2097152 := by have := sumD_le F k n hk; unfold Small at h; omega
theorem Small.sum {n : Nat} {F : Nat → Fil} (h : Small n F) (k : Nat) (hk : k ≤ n) : sumD F k ≤ 2097152 := by have := sumD_mono F k n hk; unfold Small at h; omega
def FL (w : World) (a : Option Addr) (n : Nat) (F : Nat → Fil) : Prop :=
  ∀ k, k < n → ∃ b off, a = some ⟨b, off, none⟩ ∧ w.cell? ⟨b, off + k * 3, none⟩ = some (.string (F k).s) ∧ w.cell? ⟨b, off + k * 3 + 1, none⟩ = some (.string (F k).d) ∧ w.cell? ⟨b, off + k * 3 + 2, none⟩ = some (.int .i64 (F k).y)
theorem FL.later {w w' : World} {a : Option Addr} {n : Nat} {F : Nat → Fil} (h : FL w a n F) (hb : Below w.heap.size w w') : FL w' a n F := fun k hk => by
  obtain ⟨b, off, e, h0, h1, h2⟩ := h k hk
  exact ⟨b, off, e, keepB hb h0, keepB hb h1, keepB hb h2⟩
theorem FX.fl {w : World} {a : Option Addr} {n : Nat} {F : Nat → Fil} (h : FX w a n F) : FL w a n F := fun k hk => by
  obtain ⟨b, off, e, h0, h1, h2, _⟩ := h.2 k hk
  exact ⟨b, off, e, h0, h1, h2⟩
/-- The cells of n files. -/
def flat (n : Nat) (F : Nat → Fil) : Array Value := Array.ofFn (n := n * 3) fun i => if i.val % 3 = 0 then .string (F (i.val / 3)).s else if i.val % 3 = 1 then .string (F (i.val / 3)).d else .int .i64 (F (i.val / 3)).y
theorem flat_size (n : Nat) (F : Nat → Fil) : (flat n F).size = n * 3 := by simp [flat]
theorem flat0 {n k : Nat} (F : Nat → Fil) (h : k < n) : (flat n F)[k * 3]? = some (.string (F k).s) := by
  simp [flat, show k * 3 < n * 3 by omega]
theorem flat1 {n k : Nat} (F : Nat → Fil) (h : k < n) : (flat n F)[k * 3 + 1]? = some (.string (F k).d) := by
  have e1 : (k * 3 + 1) % 3 = 1 := by omega
  have e2 : (k * 3 + 1) / 3 = k := by omega
  simp [flat, show k * 3 + 1 < n * 3 by omega, e1, e2]
theorem flat2 {n k : Nat} (F : Nat → Fil) (h : k < n) : (flat n F)[k * 3 + 2]? = some (.int .i64 (F k).y) := by
  have e1 : (k * 3 + 2) % 3 = 2 := by omega
  have e2 : (k * 3 + 2) / 3 = k := by omega
  simp [flat, show k * 3 + 2 < n * 3 by omega, e1, e2]
theorem flat_of {n : Nat} {F : Nat → Fil} {A : Array Value} (hs : A.size = n * 3) (h : ∀ k, k < n → A[k * 3]? = some (.string (F k).s) ∧ A[k * 3 + 1]? = some (.string (F k).d) ∧ A[k * 3 + 2]? = some (.int .i64 (F k).y)) : A = flat n F := by
  apply Array.ext_getElem?
  intro i
  by_cases hi : i < n * 3
  · obtain ⟨h0, h1, h2⟩ := h (i / 3) (by omega)
    rcases (show i = i / 3 * 3 ∨ i = i / 3 * 3 + 1 ∨ i = i / 3 * 3 + 2 by omega) with e | e | e
    · rw [e, flat0 F (by omega)]; exact h0
    · rw [e, flat1 F (by omega)]; exact h1
    · rw [e, flat2 F (by omega)]; exact h2
  · rw [Array.getElem?_eq_none (by omega), Array.getElem?_eq_none (by rw [flat_size]; omega)]
/-- They lie in a block of their own. -/
def FR (w : World) (g n : Nat) (F : Nat → Fil) : Prop := w.heap[g]? = some (.cells (flat n F) 49 (0, 0))
theorem FR.later {w w' : World} {g n : Nat} {F : Nat → Fil} (h : FR w g n F) (hb : Below w.heap.size w w') : FR w' g n F :=
  (hb.block _ (Array.getElem?_eq_some_iff.1 h).1).trans h
theorem FR.fl {w : World} {g n : Nat} {F : Nat → Fil} (h : FR w g n F) : FL w (some ⟨g, 0, none⟩) n F := fun k hk =>
  ⟨g, 0, rfl, by rw [Nat.zero_add, cell_of_row w _ _ _ _ _ h]; exact flat0 F hk, by rw [Nat.zero_add, cell_of_row w _ _ _ _ _ h]; exact flat1 F hk, by rw [Nat.zero_add, cell_of_row w _ _ _ _ _ h]; exact flat2 F hk⟩
set_option maxRecDepth 20000 in
set_option maxHeartbeats 2000000 in
theorem szFil (s d : ByteArray) (y : Int) (w : World) (L : Int) (h0 : 0 ≤ L) (h1 : L ≤ 2097152) (hs : s.size ≤ 9223372036854775807) (hd : d.size ≤ 9223372036854775807) :
    Calls Tryz.prog 32 #[.agg #[.string s, .string d, .int .i64 y], .int .i64 L] w fun e w' => Below w.heap.size w w' ∧ ∃ r : Int, e = .returned (.int .i64 r) ∧ (0 ≤ r → r = L - s.size - d.size) := by
  go_enter Tryz.func32, Tryz.ntmps32
  by_cases hneg : (0 : Int) ≤ L - s.size
  · by_cases hneg2 : (0 : Int) ≤ L - s.size - d.size
    · go_wp2
      go_ret
      exact ⟨bal _ _, _, rfl, fun _ => rfl⟩
    · go_wp2
      go_ret
      exact ⟨bal _ _, -1, rfl, fun hh => by omega⟩
  · go_wp2
    go_ret
    exact ⟨bal _ _, -1, rfl, fun hh => by omega⟩
set_option maxRecDepth 20000 in
set_option maxHeartbeats 2000000 in
theorem szFils (a : Option Addr) (n c : Nat) (F : Nat → Fil) (w : World) (h : FX w a n F) (L : Int) (h0 : 0 ≤ L) (h1 : L ≤ 2097152) :
    Calls Tryz.prog 15 #[.slice a n c, .int .i64 L] w fun e w' => Below w.heap.size w w' ∧ ∃ r : Int, e = .returned (.int .i64 r) ∧ (0 ≤ r → r + n + sumS F n + sumD F n = L) := by
  have hn := h.1
  have hb0 := Below.refl w.heap.size w
  by_cases hs : (n : Int) ≤ L
  · go_enter Tryz.func15, Tryz.ntmps15
    go_wp2
    go_loopw [1, 5] (fun l i wr => ∃ k : Nat, ∃ x : Int, k ≤ n ∧ i = .int .i64 k ∧ l = .int .i64 x ∧ 0 ≤ x ∧ x + n + sumS F k + sumD F k = L ∧ Below w.heap.size w wr) (fun _ i _ => n - (intOf i).toNat)
    case atStart => exact ⟨0, _, by omega, rfl, rfl, by omega, by simp [sumS, sumD] <;> omega, hb0⟩
    case round =>
      obtain ⟨k, x, hk, rfl, rfl, hx0, hall, hb⟩ := hrel
      by_cases hlt : k < n
      · obtain ⟨b, off, rfl, c0, c1, c2, hsz, hdz⟩ := (h.later hb).2 k hlt
        have HS : Hid (sumS F (k + 1) = sumS F k + (F k).s.size) := rfl
        have HD : Hid (sumD F (k + 1) = sumD F k + (F k).d.size) := rfl
        go_wp2_with (go_at_call 32; refine (szFil _ _ _ _ _ hx0 (by omega) hsz hdz).mono ?_; rintro e w1 ⟨hb1, r, rfl, hr2⟩; replace hb1 := bstep hb hb1; by_cases hr : (0 : Int) ≤ r)
        · have := hr2 hr
          go_roundw
          case rel => exact ⟨k + 1, r, by omega, by go_num, rfl, hr, by rw [HS.out, HD.out]; omega, hb1⟩
          case measure => simp [intOf]; omega
        · go_ret
          exact ⟨hb1, -1, rfl, fun hh => by omega⟩
      · obtain rfl : k = n := by omega
        go_wp2
        go_ret
        exact ⟨hb, _, rfl, fun _ => hall⟩
  · go_enter Tryz.func15, Tryz.ntmps15
    go_wp2
    go_ret
    exact ⟨hb0, -1, rfl, fun hh => by omega⟩
set_option maxRecDepth 20000 in
set_option maxHeartbeats 2000000 in
theorem toFil (s d : ByteArray) (y : Int) (w : World) : Calls Tryz.prog 38 #[.agg #[.string s, .string d, .int .i64 y]] w fun e w' => e = .returned (.agg #[.string s, .string d, .int .i64 y]) ∧ Below w.heap.size w w' := by
  go_enter Tryz.func38, Tryz.ntmps38
  go_wp2
  exact bodyPost_ret (v := .agg #[.string s, .string d, .int .i64 y]) (by simp [results, Tryz.results38, go_sem]) rfl ⟨rfl, below3 _ _ _ _⟩
theorem Tryz.infoFil : (Tryz.prog.info? 49).map (fun i => (i.zero, i.size, i.bytes)) = some (some (.agg #[.string ByteArray.empty, .string ByteArray.empty, .int .i64 0]), 3, 40) := by kernel_rfl
set_option maxRecDepth 20000 in
set_option maxHeartbeats 4000000 in
theorem toFils (a : Option Addr) (n c : Nat) (F : Nat → Fil) (w : World) (h : FL w a n F) (hn : n ≤ 2097152) :
    Calls Tryz.prog 23 #[.slice a n c] w fun e w' => ∃ g, w.heap.size ≤ g ∧ e = .returned (.slice (some ⟨g, 0, none⟩) n n) ∧ FR w' g n F ∧ Below w.heap.size w w' := by
  have hmk := make_any (t := 26) Tryz.underlying26 Tryz.infoFil n hn (by omega)
  go_enter Tryz.func23, Tryz.ntmps23
  go_wp2
  clear hmk
  go_loopw [4] (fun i wr => ∃ (k : Nat) (cur : Array Value), k ≤ n ∧ i = .int .i64 k ∧ wr.heap[w.heap.size]? = some (.cells cur 49 (0, 0)) ∧ cur.size = n * 3 ∧ (∀ j, j < k → cur[j * 3]? = some (.string (F j).s) ∧ cur[j * 3 + 1]? = some (.string (F j).d) ∧ cur[j * 3 + 2]? = some (.int .i64 (F j).y)) ∧ Below w.heap.size w wr) (fun i _ => n - (intOf i).toNat)
  case atStart => exact ⟨0, _, by omega, rfl, heap_alloc_new _ _, made_size _ _, fun j hj => by omega, bal _ _⟩
  case round =>
    obtain ⟨k, cur, hk, rfl, hG, hsz, hall, hb⟩ := hrel
    have HG : Hid (wr.heap[w.heap.size]? = some (.cells cur 49 (0, 0))) := hG
    clear hG
    by_cases hlt : k < n
    · obtain ⟨b, off, rfl, c0, c1, c2⟩ := h.later hb k hlt
      obtain ⟨v0, hv0⟩ := there (A := cur) (k := k * 3) (by omega)
      obtain ⟨v1, hv1⟩ := there (A := cur) (k := k * 3 + 1) (by omega)
      obtain ⟨v2, hv2⟩ := there (A := cur) (k := k * 3 + 2) (by omega)
      go_wp2_with (go_at_call 38; refine (toFil _ _ _ _).mono ?_; rintro e w1 ⟨rfl, hb1⟩; have HG1 : Hid (w1.heap[w.heap.size]? = some (.cells cur 49 (0, 0))) := (hb1.block _ (Array.getElem?_eq_some_iff.1 HG.out).1).trans HG.out; have g0 : w1.cell? ⟨w.heap.size, k * 3, none⟩ = some v0 := (cell_of_row w1 _ _ _ _ _ HG1.out).trans hv0; have f0 : w1.frozen? ⟨w.heap.size, k * 3, none⟩ = false := frozen_of_row w1 _ _ _ _ HG1.out; have g1 : w1.cell? ⟨w.heap.size, k * 3 + 1, none⟩ = some v1 := (cell_of_row w1 _ _ _ _ _ HG1.out).trans hv1; have f1 : w1.frozen? ⟨w.heap.size, k * 3 + 1, none⟩ = false := frozen_of_row w1 _ _ _ _ HG1.out; have g2 : w1.cell? ⟨w.heap.size, k * 3 + 2, none⟩ = some v2 := (cell_of_row w1 _ _ _ _ _ HG1.out).trans hv2; have f2 : w1.frozen? ⟨w.heap.size, k * 3 + 2, none⟩ = false := frozen_of_row w1 _ _ _ _ HG1.out; replace hb1 := bstep hb hb1)
      go_roundw
      case rel =>
        refine ⟨k + 1, (((cur.setIfInBounds (k * 3) (.string (F k).s)).setIfInBounds (k * 3 + 1) (.string (F k).d)).setIfInBounds (k * 3 + 2) (.int .i64 (F k).y)), by omega, by go_num, (heap_setCell_same _ _ _ _ _ _ (heap_setCell_same _ _ _ _ _ _ (heap_setCell_same _ _ _ _ _ _ HG1.out))), by simpa using hsz, fun j hj => ?_, (((hb1.setCell (by simp) _).setCell (by simp) _).setCell (by simp) _)⟩
        by_cases e : j = k
        · subst e
          exact ⟨(setA (setA (setS (by omega)) (by omega)) (by omega)), (setA (setS (by simp only [Array.size_setIfInBounds]; omega)) (by omega)), (setS (by simp only [Array.size_setIfInBounds]; omega))⟩
        · exact ⟨(setA (setA (setA (hall j (by omega)).1 (by omega)) (by omega)) (by omega)), (setA (setA (setA (hall j (by omega)).2.1 (by omega)) (by omega)) (by omega)), (setA (setA (setA (hall j (by omega)).2.2 (by omega)) (by omega)) (by omega))⟩
      case measure => simp [intOf]; omega
    · obtain rfl : k = n := by omega
      go_wp2
      go_ret
      refine ⟨_, Nat.le_refl _, rfl, ?_, hb⟩
      unfold FR
      rw [← flat_of hsz hall]
      exact HG.out
set_option maxRecDepth 20000 in
set_option maxHeartbeats 2000000 in
theorem eqFil (s d : ByteArray) (y : Int) (w : World) : Calls Tryz.prog 47 #[.agg #[.string s, .string d, .int .i64 y], .agg #[.string s, .string d, .int .i64 y]] w fun e w' => e = .returned (.bool true) ∧ Below w.heap.size w w' := by
  have hq := eqS_same s
  have hq2 := eqS_same d
  go_enter Tryz.func47, Tryz.ntmps47
  go_wp2
  go_ret
  exact ⟨rfl, bstep (bal _ _) (bal _ _)⟩
set_option maxRecDepth 20000 in
set_option maxHeartbeats 4000000 in
theorem eqFils (a a' : Option Addr) (n c c' : Nat) (F : Nat → Fil) (w : World) (h : FL w a n F) (h' : FL w a' n F) (hn : n ≤ 2097152) :
    Calls Tryz.prog 28 #[.slice a n c, .slice a' n c'] w fun e w' => e = .returned (.bool true) ∧ Below w.heap.size w w' := by
  have hb0 := Below.refl w.heap.size w
  go_enter Tryz.func28, Tryz.ntmps28
  go_wp2
  go_loopw [5] (fun i wr => ∃ k : Nat, k ≤ n ∧ i = .int .i64 k ∧ Below w.heap.size w wr) (fun i _ => n - (intOf i).toNat)
  case atStart => exact ⟨0, by omega, rfl, hb0⟩
  case round =>
    obtain ⟨k, hk, rfl, hb⟩ := hrel
    by_cases hlt : k < n
    · have hkk : (k : Int) < n := by omega
      obtain ⟨b, off, rfl, c0, c1, c2⟩ := h.later hb k hlt
      obtain ⟨b', off', rfl, e0, e1, e2⟩ := h'.later hb k hlt
      go_wp2
      go_region_with (go_at_call 47; refine (eqFil _ _ _ _).mono ?_; rintro e w1 ⟨rfl, hb1⟩)
      all_goals
        go_wp2
        go_roundw
        case rel => exact ⟨k + 1, by omega, by go_num, bstep hb (undrew hb1)⟩
        case measure => simp [intOf]; omega
    · obtain rfl : k = n := by omega
      go_wp2
      go_ret
      exact ⟨rfl, hb⟩
end Go.Proofs.YtngppfjphbodcaaGreatDoor
