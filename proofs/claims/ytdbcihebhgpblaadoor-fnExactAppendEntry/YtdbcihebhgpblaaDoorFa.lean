/-
  Files and file systems: small things, names of files.
-/
import Derived.Test.YtdbcihebhgpblaaDoorRows
import Derived.WalkKit
import Derived.ProofKit
import Derived.Laws.CopyOwn
import Derived.Deep.QuietTactic
import Derived.BigQuiet
import Derived.Deep.OwnRows
import Derived.Deep.RegionWith
import Derived.Deep.AppendLies
import Derived.Laws.Cover1
import Derived.KernelRfl
import Derived.OrdersHeld
namespace Go.Proofs.YtdbcihebhgpblaaDoor
open Go.RowKit
/-- A box of six cells, of two; what is not frozen. -/
structure B6 (V : World) (B : Nat) (v0 v1 v2 v3 v4 v5 : Value) : Prop where
  c0 : V.cell? ⟨B, 0, none⟩ = some v0
  c1 : V.cell? ⟨B, 1, none⟩ = some v1
  c2 : V.cell? ⟨B, 2, none⟩ = some v2
  c3 : V.cell? ⟨B, 3, none⟩ = some v3
  c4 : V.cell? ⟨B, 4, none⟩ = some v4
  c5 : V.cell? ⟨B, 5, none⟩ = some v5
structure F6 (V : World) (B : Nat) : Prop where
  c0 : V.frozen? ⟨B, 0, none⟩ = false
  c1 : V.frozen? ⟨B, 1, none⟩ = false
  c2 : V.frozen? ⟨B, 2, none⟩ = false
  c3 : V.frozen? ⟨B, 3, none⟩ = false
  c4 : V.frozen? ⟨B, 4, none⟩ = false
  c5 : V.frozen? ⟨B, 5, none⟩ = false
structure B2 (V : World) (B : Nat) (v0 v1 : Value) : Prop where
  c0 : V.cell? ⟨B, 0, none⟩ = some v0
  c1 : V.cell? ⟨B, 1, none⟩ = some v1
structure F2 (V : World) (B : Nat) : Prop where
  c0 : V.frozen? ⟨B, 0, none⟩ = false
  c1 : V.frozen? ⟨B, 1, none⟩ = false
theorem B6.of {V : World} {B : Nat} {t : TypeId} {fr : Nat × Nat} {v0 v1 v2 v3 v4 v5 : Value} (h : V.heap[B]? = some (.cells #[v0, v1, v2, v3, v4, v5] t fr)) : B6 V B v0 v1 v2 v3 v4 v5 :=
  ⟨cell_of_row _ _ 0 _ _ _ h, cell_of_row _ _ 1 _ _ _ h, cell_of_row _ _ 2 _ _ _ h, cell_of_row _ _ 3 _ _ _ h, cell_of_row _ _ 4 _ _ _ h, cell_of_row _ _ 5 _ _ _ h⟩
theorem F6.of {V : World} {B : Nat} {t : TypeId} {v0 v1 v2 v3 v4 v5 : Value} (h : V.heap[B]? = some (.cells #[v0, v1, v2, v3, v4, v5] t (0, 0))) : F6 V B :=
  ⟨frozen_of_row _ _ 0 _ _ h, frozen_of_row _ _ 1 _ _ h, frozen_of_row _ _ 2 _ _ h, frozen_of_row _ _ 3 _ _ h, frozen_of_row _ _ 4 _ _ h, frozen_of_row _ _ 5 _ _ h⟩
theorem B2.of {V : World} {B : Nat} {t : TypeId} {fr : Nat × Nat} {v0 v1 : Value} (h : V.heap[B]? = some (.cells #[v0, v1] t fr)) : B2 V B v0 v1 := ⟨cell_of_row _ _ 0 _ _ _ h, cell_of_row _ _ 1 _ _ _ h⟩
theorem F2.of {V : World} {B : Nat} {t : TypeId} {v0 v1 : Value} (h : V.heap[B]? = some (.cells #[v0, v1] t (0, 0))) : F2 V B := ⟨frozen_of_row _ _ 0 _ _ h, frozen_of_row _ _ 1 _ _ h⟩
/-- An operation taken first, its closed facts by the kernel. -/
theorem takeF {P : Program} {ops : Array Oper} {Q : Exit → Act → World → Prop} {md : Region.Mode} {S : World → Prop} {i : Nat} {oi : Oper} {v : Value} {fuel : Nat} {listed : Array Bool} {a : Act} {w : World} (hi : ops[i]? = some oi)
    (hy : Region.wanted oi (yielded ops a.tmps) = true ∧ ∀ w, S w → (execOp a.eval oi).run P w = .ok (.value v) w) (hS : S w)
    (h : wpAnyH P md ops Q S fuel (listed.setIfInBounds i true) (a.put oi.dst v) w)
    (hs : Region.noSelect ops = true := by kernel_rfl) (hf : Region.free md ops listed i = true := by kernel_rfl) (hr : (Region.ready md ops listed).contains i = true := by kernel_rfl)
    (hQ : ∀ c a w, Q (.panic c) (a.put oi.dst v) w → Q (.panic c) a w := by exact fun _ _ _ h => h) : wpAnyH P md ops Q S (fuel + 1) listed a w :=
  wpAnyH_take hi hs hf hr hQ (Or.inl hy) hS h
theorem retB {b b' : Bool} (h : b = b') : Ending.returned (.bool b) = .returned (.bool b') := by rw [h]
def isLet (c : Int) : Bool := decide (97 ≤ c) && decide (c ≤ 122)
def isDig (c : Int) : Bool := decide (48 ≤ c) && decide (c ≤ 57)
def btw (x lo hi : Int) : Bool := decide (lo ≤ x) && decide (x ≤ hi)
def allB (p : Int → Bool) (s : ByteArray) : Bool := s.data.toList.all fun c => p c.toNat
theorem allB_true {p : Int → Bool} {s : ByteArray} (h : ∀ j (hj : j < s.size), p s[j].toNat = true) : allB p s = true := by
  unfold allB
  rw [List.all_eq_true]
  intro c hc
  obtain ⟨j, hj, rfl⟩ := List.getElem_of_mem hc
  exact h j (by simpa using hj)
theorem allB_false {p : Int → Bool} {s : ByteArray} {j : Nat} (hj : j < s.size) (h : p s[j].toNat = false) : allB p s = false := by
  unfold allB
  rw [List.all_eq_false]
  exact ⟨s[j], List.getElem_mem (l := s.data.toList) (n := j) (by simpa using hj), by simp [h]⟩
set_option maxRecDepth 20000 in
set_option maxHeartbeats 1000000 in
theorem sLetter (c : Int) (w : World) : Calls Tryd.prog 93 #[.int .u8 c] w fun e w' => e = .returned (.bool (isLet c)) ∧ w' = w := by
  go_enter Tryd.func93, Tryd.ntmps93
  go_wp2
  all_goals
    go_ret
    exact ⟨retB (by simp [isLet]; omega), rfl⟩
set_option maxRecDepth 20000 in
set_option maxHeartbeats 1000000 in
theorem iLetter (c : Int) (w : World) : Calls Tryd.prog 125 #[.int .u8 c] w fun e w' => e = .returned (.bool (isLet c)) ∧ w' = w := by
  go_enter Tryd.func125, Tryd.ntmps125
  go_wp2
  all_goals
    go_ret
    exact ⟨retB (by simp [isLet]; omega), rfl⟩
set_option maxRecDepth 20000 in
set_option maxHeartbeats 1000000 in
theorem iDigit (c : Int) (w : World) : Calls Tryd.prog 126 #[.int .u8 c] w fun e w' => e = .returned (.bool (isDig c)) ∧ w' = w := by
  go_enter Tryd.func126, Tryd.ntmps126
  go_wp2
  all_goals
    go_ret
    exact ⟨retB (by simp [isDig]; omega), rfl⟩
set_option maxRecDepth 20000 in
set_option maxHeartbeats 1000000 in
theorem sBetween (x lo hi : Int) (w : World) : Calls Tryd.prog 21 #[.int .i64 x, .int .i64 lo, .int .i64 hi] w fun e w' => e = .returned (.bool (btw x lo hi)) ∧ w' = w := by
  go_enter Tryd.func21, Tryd.ntmps21
  go_wp2
  all_goals
    go_ret
    exact ⟨retB (by simp [btw]; omega), rfl⟩
theorem wr8 (c : UInt8) : wrap64 (c.toNat : Int) = c.toNat := by
  have := c.toNat_lt
  unfold wrap64
  omega
theorem bytes_inj2 {a b : ByteArray} (h : a.toList = b.toList) : a = b := by
  rw [ByteArray.toList_eq, ByteArray.toList_eq] at h
  obtain ⟨⟨a⟩⟩ := a
  obtain ⟨⟨b⟩⟩ := b
  simp at h
  rw [h]
theorem eqS (a b : ByteArray) : (a.toList == b.toList) = decide (a = b) := by
  by_cases h : a = b
  · subst h; simp
  · simp [h]
    exact fun e => h (bytes_inj2 e)
theorem empty_iff (s : ByteArray) : s.toList = [] ↔ s.size = 0 := by
  rw [ByteArray.toList_eq]
  constructor
  · intro h
    have := congrArg List.length h
    simpa using this
  · intro h
    exact List.length_eq_zero_iff.1 (by simpa using h)
theorem bal (w : World) (o : Obj) : Below w.heap.size w (w.alloc o) := (Below.refl _ _).alloc (Nat.le_refl _) _
theorem bal2 {w w1 : World} {o : Obj} (h : Below (w.alloc o).heap.size (w.alloc o) w1) : Below w.heap.size w w1 := (bal w o).trans (h.mono (bal w o).size)
theorem bstep {a b c : World} (h : Below a.heap.size a b) (k : Below b.heap.size b c) : Below a.heap.size a c := h.trans (k.mono h.size)
theorem keepB {w w' : World} {p : Addr} {v : Value} (hb : Below w.heap.size w w') (hc : w.cell? p = some v) : w'.cell? p = some v := (hb.cell (World.block_lt_of_cell? w _ hc)).trans hc
theorem undrew {w w' : World} (h : Below w.drew.heap.size w.drew w') : Below w.heap.size w w' := ⟨h.os, h.tape, h.output, h.size, h.block⟩
theorem bj {w wr w2 : World} {o : Obj} (hb : Below w.heap.size w wr) (h : Below (wr.alloc o).heap.size (wr.alloc o) w2) : Below w.heap.size w w2 := hb.trans ((bal2 h).mono hb.size)
theorem grow_le {w : World} {B : Nat} {e : TypeId} {size g n cap : Nat} {xs : List Value} (h : w.ownsRow B e size (.slice (some ⟨g, 0, none⟩) n cap) n xs) : B ≤ g :=
  (h.lt g rfl).1
theorem ones (v : Value) (h : v.oneCell' = true) : ∀ u ∈ [v], u.oneCell' = true := by
  intro u hu; simp at hu; subst hu; exact h
theorem below3 (w : World) (a b c : Obj) : Below w.heap.size w (((w.alloc a).alloc b).alloc c) := bstep (bal w a) (bstep (bal _ b) (bal _ c))
theorem make_any {t e : TypeId} {z : Value} {size bytes : Nat} (ht : Tryd.prog.underlying t = some (.slice e)) (hinfo : (Tryd.prog.info? e).map (fun i => (i.zero, i.size, i.bytes)) = some (some z, size, bytes)) (n : Nat) (hn : n ≤ 2097152) (hb : bytes ≤ 1000) (w : World) :
    (Instr.makeSlice t (.int .i64 (n : Int)) (.int .i64 (n : Int))).run Tryd.prog w = .ok (.slice (some ⟨w.heap.size, 0, none⟩) n n) (w.alloc (.cells (madeCells z.cells (n * size)) e)) := by
  obtain ⟨i, hi, hzz⟩ := Option.map_eq_some_iff.1 hinfo
  simp only [Prod.mk.injEq] at hzz
  obtain ⟨hz, hs, hbb⟩ := hzz
  have h1 : ((i.bytes : Int) * (n : Int)) ≤ 281474976710656 := by
    rw [hbb]
    have : bytes * n ≤ 1000 * 2097152 := Nat.mul_le_mul hb hn
    have h2 : ((bytes : Int) * (n : Int)) = ((bytes * n : Nat) : Int) := by simp
    omega
  have := run_make (P := Tryd.prog) w t e i z ht hi hz .i64 .i64 n n (by omega) (by omega) h1 (by omega)
  rw [hs] at this
  simpa using this
theorem made_size (z : Array Value) (n : Nat) : (madeCells z n).size = n := by simp [size_madeCells]
theorem there {A : Array Value} {k : Nat} (h : k < A.size) : ∃ v, A[k]? = some v := ⟨A[k], by simp [h]⟩
theorem setA {A : Array Value} {k i : Nat} {v u : Value} (h : A[i]? = some u) (hne : k ≠ i) : (A.setIfInBounds k v)[i]? = some u := by
  rw [Array.getElem?_setIfInBounds, if_neg hne]; exact h
theorem setS {A : Array Value} {k : Nat} {v : Value} (h : k < A.size) : (A.setIfInBounds k v)[k]? = some v := by
  rw [Array.getElem?_setIfInBounds]; simp [h]
theorem eqS_same (s : ByteArray) : (s.toList == s.toList) = true := by simp
/-- p holds at all numbers below n. -/
def allN (n : Nat) (p : Nat → Bool) : Bool := (List.range n).all p
theorem allN_true {n : Nat} {p : Nat → Bool} (h : ∀ j, j < n → p j = true) : allN n p = true := by
  unfold allN
  rw [List.all_eq_true]
  exact fun j hj => h j (List.mem_range.1 hj)
theorem allN_false {n j : Nat} {p : Nat → Bool} (hj : j < n) (h : p j = false) : allN n p = false := by
  unfold allN
  rw [List.all_eq_false]
  exact ⟨j, List.mem_range.2 hj, by simp [h]⟩
/-- A byte of a file's name; a file's name. -/
def isFnb (c : Int) : Bool := isLet c || isDig c || c == 45
def okFn (s : ByteArray) : Bool := btw s.size 1 30 && allB isFnb s
set_option maxRecDepth 20000 in
set_option maxHeartbeats 1000000 in
theorem iFnb (c : Int) (w : World) : Calls Tryd.prog 99 #[.int .u8 c] w fun e w' => e = .returned (.bool (isFnb c)) ∧ w' = w := by
  go_enter Tryd.func99, Tryd.ntmps99
  go_wp2_with (first | (go_at_call 125; refine (iLetter c _).mono ?_; rintro e w1 ⟨rfl, rfl⟩; rcases hb : isLet c) | (go_at_call 126; refine (iDigit c _).mono ?_; rintro e w1 ⟨rfl, rfl⟩; rcases hd : isDig c))
  all_goals
    go_ret
    exact ⟨retB (by simp [isFnb, *]), rfl⟩
set_option maxRecDepth 20000 in
set_option maxHeartbeats 2000000 in
theorem begFn (s : ByteArray) (w : World) (hs : s.size ≤ 2097152) : Calls Tryd.prog 98 #[.string s, .func (.func 99) #[] #[]] w fun e w' => ∃ n : Nat, e = .returned (.int .i64 n) ∧ w' = w ∧ (n = s.size ↔ allB isFnb s = true) := by
  go_enter Tryd.func98, Tryd.ntmps98
  go_wp2
  go_loop [5] (fun i => ∃ k : Nat, k ≤ s.size ∧ i = .int .i64 k ∧ ∀ j (h : j < s.size), j < k → isFnb s[j].toNat = true) (fun i => s.size - (intOf i).toNat)
  case atStart => exact ⟨0, by omega, rfl, fun j _ h => by omega⟩
  case round =>
    obtain ⟨k, hk, rfl, hall⟩ := hrel
    by_cases hlt : k < s.size
    · go_wp2_with (go_at_call 99; refine (iFnb _ _).mono ?_; rintro e w1 ⟨rfl, rfl⟩; rcases hb : isFnb s[k].toNat)
      · go_ret
        exact ⟨k, rfl, rfl, by rw [allB_false (p := isFnb) hlt hb]; simp; omega⟩
      · go_round
        case rel => exact ⟨k + 1, by omega, by go_num, fun j h hj => by
          by_cases e : j = k
          · subst e; exact hb
          · exact hall j h (by omega)⟩
        case measure => simp [intOf]; omega
    · go_wp2
      go_ret
      exact ⟨k, rfl, rfl, by rw [allB_true (p := isFnb) (fun j h => hall j h (by omega))]; simp; omega⟩
set_option maxRecDepth 20000 in
set_option maxHeartbeats 2000000 in
theorem iFileName (s : ByteArray) (w : World) (hs : s.size ≤ 2097152) : Calls Tryd.prog 61 #[.string s] w fun e w' => e = .returned (.bool (okFn s)) ∧ w' = w := by
  go_enter Tryd.func61, Tryd.ntmps61
  go_wp2_with (go_at_call 98; refine (begFn s _ hs).mono ?_; rintro e w1 ⟨n, rfl, rfl, hn⟩)
  all_goals
    go_ret
    refine ⟨retB (Bool.eq_iff_iff.2 ?_), rfl⟩
    first
      | (rcases ha : allB isFnb s <;> simp [ha] at hn <;> simp [okFn, btw, ha] <;> omega)
      | (simp [okFn, btw] <;> omega)
set_option maxRecDepth 20000 in
set_option maxHeartbeats 2000000 in
theorem sFileName (s : ByteArray) (w : World) (hs : s.size ≤ 2097152) : Calls Tryd.prog 52 #[.string s] w fun e w' => e = .returned (.bool (okFn s)) ∧ w' = w := by
  go_enter Tryd.func52, Tryd.ntmps52
  go_wp2_with (go_at_call 21; refine (sBetween _ 1 30 _).mono ?_; rintro e w1 ⟨rfl, rfl⟩; rcases hb : btw s.size 1 30)
  · go_ret
    exact ⟨retB (by simp [okFn, hb]), rfl⟩
  · go_loop [3] (fun i => ∃ k : Nat, k ≤ s.size ∧ i = .int .i64 k ∧ ∀ j (h : j < s.size), j < k → isFnb s[j].toNat = true) (fun i => s.size - (intOf i).toNat)
    case atStart => exact ⟨0, by omega, rfl, fun j _ h => by omega⟩
    case round =>
      obtain ⟨k, hk, rfl, hall⟩ := hrel
      by_cases hlt : k < s.size
      · have hq : isFnb s[k].toNat = (isLet s[k].toNat || btw s[k].toNat 48 57 || !((s[k].toNat : Int) != 45)) := by
          unfold isFnb
          rw [show isDig s[k].toNat = btw s[k].toNat 48 57 from rfl]
          simp [bne]
        rcases hm : ((s[k].toNat : Int) != 45)
        all_goals
          go_wp2_with (first | (go_at_call 93; refine (sLetter _ _).mono ?_; rintro e w1 ⟨rfl, rfl⟩; rcases hl : isLet s[k].toNat) | (go_at_call 21; refine (sBetween _ 48 57 _).mono ?_; rw [wr8]; rintro e w1 ⟨rfl, rfl⟩; rcases hd : btw s[k].toNat 48 57))
        all_goals
          first
            | (go_round
               case rel => exact ⟨k + 1, by omega, by go_num, fun j h hj => by
                 by_cases e : j = k
                 · subst e
                   rw [hq]
                   simp [*]
                 · exact hall j h (by omega)⟩
               case measure => simp [intOf]; omega)
            | (go_ret
               refine ⟨retB ?_, rfl⟩
               have hx : isFnb s[k].toNat = false := by rw [hq]; simp [*]
               simp [okFn, hb, allB_false (p := isFnb) hlt hx])
      · go_wp2
        go_ret
        exact ⟨retB (by simp [okFn, hb, allB_true (p := isFnb) (fun j h => hall j h (by omega))]), rfl⟩
set_option maxRecDepth 20000 in
set_option maxHeartbeats 1000000 in
theorem iUpTo (x hi : Int) (w : World) : Calls Tryd.prog 57 #[.int .i64 x, .int .i64 hi] w fun e w' => e = .returned (.bool (btw x 0 hi)) ∧ w' = w := by
  go_enter Tryd.func57, Tryd.ntmps57
  go_wp2
  all_goals
    go_ret
    exact ⟨retB (by simp [btw]; omega), rfl⟩
end Go.Proofs.YtdbcihebhgpblaaDoor
