/-
  The program's iterator over frames.
-/
import Derived.Test.YtlilmbeehmjpkaaHc
import Derived.Test.YtlilmbeehmjpkaaShelf
import Derived.RangeFuncNested
import Derived.RangeFuncBox
import Derived.RangeFuncBound
import Derived.RangeFuncCalls
import Derived.RangeFuncLeaves
import Derived.Shelf.Abstract
import Derived.Shelf.RegionOpen
import Derived.OwnWalkIn
import Derived.TacticsInMore
import Derived.LoopNIn
import Derived.LoopIn
import Derived.Maps.AppendAt
namespace Go.Proofs.Ytlilmbeehmjpkaa
open Go.RowKit Go.Shelf
attribute [local go_sem] Oper.semAt_some
theorem Ch.ext {s : ByteArray} {L L' : List ByteArray} {a b b' : Nat} (h : Ch s a L b) (h' : Ch s a L' b') (e : (fst (rst s b)).size ≠ 0) (e' : (fst (rst s b')).size = 0) : ∃ r, L' = L ++ fst (rst s b) :: r := by
  induction L generalizing a L' with
  | nil =>
    obtain rfl : a = b := h
    cases L' with
    | nil =>
      obtain rfl : a = b' := h'
      exact absurd e' e
    | cons y ys => exact ⟨ys, by rw [h'.1]; rfl⟩
  | cons x xs ih =>
    obtain ⟨h1, h2, h3⟩ := h
    cases L' with
    | nil =>
      obtain rfl : a = b' := h'
      rw [h1] at h2
      exact absurd e' h2
    | cons y ys =>
      obtain ⟨k1, k2, k3⟩ := h'
      obtain rfl : x = y := h1.trans k1.symm
      obtain ⟨r, hr⟩ := ih h3 k3
      exact ⟨r, by rw [hr]; rfl⟩
theorem Ch.there (s : ByteArray) (a : Nat) (h : a ≤ s.size) : ∃ L b, Ch s a L b ∧ (fst (rst s b)).size = 0 ∧ b ≤ s.size ∧ L.length + a ≤ b := by
  have key : ∀ m a, s.size - a ≤ m → a ≤ s.size → ∃ L b, Ch s a L b ∧ (fst (rst s b)).size = 0 ∧ b ≤ s.size ∧ L.length + a ≤ b := by
    intro m
    induction m with
    | zero =>
      intro a hm ha
      by_cases h0 : (fst (rst s a)).size = 0
      · exact ⟨[], a, rfl, h0, ha, by simp⟩
      · have := rst_fits ha h0
        omega
    | succ m ih =>
      intro a hm ha
      by_cases h0 : (fst (rst s a)).size = 0
      · exact ⟨[], a, rfl, h0, ha, by simp⟩
      · have := rst_fits ha h0
        obtain ⟨L, b, h1, h2, h3, h4⟩ := ih (a + (8 + (fst (rst s a)).size)) (by omega) this
        exact ⟨_ :: L, b, ⟨rfl, h0, h1⟩, h2, h3, by simp; omega⟩
  exact key _ a (Nat.le_refl _) h
/-- What a round must keep: the tables. -/
def KT (A B : World) : Prop := ∀ (b : Nat) X, A.heap[b]? = some (.cells X 56 (0, 0)) → B.heap[b]? = some (.cells X 56 (0, 0))
theorem KT.t {A B C : World} (h : KT A B) (k : KT B C) : KT A C := fun b X hX => k b X (h b X hX)
theorem KT.of {A B : World} (h : Below A.heap.size A B) : KT A B := fun _ _ hX => rowL' hX h
  where rowL' {w w' : World} {B : Nat} {o : Obj} (h : w.heap[B]? = some o) (hb : Below w.heap.size w w') : w'.heap[B]? = some o := (hb.block B (Array.getElem?_eq_some_iff.1 h).1).trans h
theorem below_gr {A B : World} (h : Below A.heap.size A B) : A.grownBy B none := ⟨h.os, h.tape, h.output, h.size, fun k hk _ => h.block k hk⟩
theorem lrow {P : Program} {F : Fence} {n : Nat} {ops : Array Oper} {rest : List Oper} {o : Oper} {a : Act} {w : World} {Q : Exit → Act → World → Prop} (hgd : o.guard = none) (ty : TypeId) (x : Operand) (ho : o.op = .load ty x)
    (g : Nat) (hx : a.eval x = .pointer (some ⟨g, 0, none⟩)) (t : TypeId) (cs : Array Value) (fr : Nat × Nat) (d : TypeDesc) (hg : w.heap[g]? = some (.cells cs t fr))
    (hu : P.underlying ty = some d) (hd : (match d with | .struct _ | .array _ _ => true | _ => false) = true) (hi : (P.info? ty).map (·.size) = some cs.size)
    (h : wpListIn F n P ops Q rest (a.put o.dst (.agg cs)) w) : wpListIn F n P ops Q (o :: rest) a w := by
  refine wpListIn_plain hgd fun K hK => ?_
  unfold Oper.wpIn
  refine ⟨?_, ?_⟩
  · simp [Oper.about, ho]
  · rw [Oper.semAt_plain F _ _ (by rw [ho]; intro c hc'; cases hc')]
    unfold execOp
    simp only [ho, hx, Instr.loadAt, Instr.sureAddr, Sem.run_bind, Sem.run_pure, Result.andThen_ok, run_loadVar_row w g t ty cs fr d hg hu hd hi]
    exact hK _ _ h
theorem srow {P : Program} {F : Fence} {n : Nat} {ops : Array Oper} {rest : List Oper} {o : Oper} {a : Act} {w : World} {Q : Exit → Act → World → Prop} (hgd : o.guard = none) (ty : TypeId) (x y : Operand) (ho : o.op = .store ty x y)
    (g : Nat) (cells : Array Value) (hx : a.eval x = .pointer (some ⟨g, 0, none⟩)) (hy : a.eval y = .agg cells)
    (t : TypeId) (old : Array Value) (hg : w.heap[g]? = some (.cells old t (0, 0))) (hi : (P.info? ty).map (·.size) = some cells.size)
    (hold : old.size = cells.size) (h1 : cells.all (·.oneCell') = true)
    (h : wpListIn F n P ops Q rest (a.put o.dst undef) (w.setRow g cells)) : wpListIn F n P ops Q (o :: rest) a w := by
  refine wpListIn_plain hgd fun K hK => ?_
  unfold Oper.wpIn
  refine ⟨?_, ?_⟩
  · simp [Oper.about, ho]
  · rw [Oper.semAt_plain F _ _ (by rw [ho]; intro c hc'; cases hc')]
    unfold execOp
    simp only [ho, hx, hy, Instr.storeAt, Instr.sureAddr, Sem.run_bind, Sem.run_pure, Result.andThen_ok, run_storeVar_row w g t ty old cells hg hi hold h1]
    exact hK _ _ h
theorem iClone (s : ByteArray) (w : World) (hs : s.size ≤ 1048576) : Calls Try.prog 22 #[.string s] w fun e w' => e = .returned (.string s) ∧ Below w.heap.size w w' := by
  go_enter Try.func22, Try.ntmps22
  go_wp2_with (go_at_call 35; refine (Try.stringslite_Clone s _ (by omega)).mono ?_; rintro e w1 ⟨rfl, hb1⟩)
  go_ret
  exact ⟨rfl, hb1⟩
def szOf : Value → Nat
  | .string x => x.size
  | _ => 0
theorem tableSize : (Try.prog.info? 56).map (·.size) = some (tab 256).size := by
  rw [tab_size]
  kernel_rfl
set_option maxRecDepth 100000 in
set_option maxHeartbeats 4000000 in
theorem frames1 (n : Nat) (hn : 2 ≤ n) (l Bn : Nat) (s : ByteArray) (hs : s.size ≤ 1048576) (xs : List ByteArray) (bE : Nat) (hC : Ch s 0 xs bE) (hE : (fst (rst s bE)).size = 0) (J Jx : List ByteArray → World → Prop) (W : World) (hJ : AbidesFrom W.heap.size J)
    (hY : ∀ pre x W1, J pre W1 → pre.length < xs.length → YieldAt Fence.wide (n - 1) Try.prog l #[.string x] W1 fun e W' =>
      (e = .returned (.bool true) ∧ J (pre ++ [x]) W' ∧ KT W1 W') ∨ (e = .returned (.bool false) ∧ Jx (pre ++ [x]) W'))
    (hBn : W.cell? ⟨Bn, 0, none⟩ = some (.string s)) (h0 : J [] W) :
    CallsIn Fence.wide n Try.prog 20 #[.func (.yield l) #[] #[], .pointer (some ⟨Bn, 0, none⟩)] W fun e W' => (∃ v, e = .returned v) ∧
      ((∃ ys, ys = xs ∧ J ys W') ∨ (∃ pre, pre <+: xs ∧ Jx pre W')) := by
  obtain ⟨hz, hi⟩ := zero_of_info info26
  have HI := tableSize
  have HTI : Hid ((Try.prog.info? 56).map (·.size) = some (tab 256).size) := HI
  clear HI hi
  refine callsIn_of_wp Try.func20 rfl trivial ?_ rfl
  simp only [Try.ntmps20, List.size_toArray, List.length_cons, List.length_nil, Nat.reduceAdd, Nat.reduceSub, Array.replicate_succ, Array.replicate_zero, List.push_toArray, List.append_toArray, List.nil_append, List.cons_append]
  gi_wp2_with (first | (refine ⟨trivial, fun _ => by omega, ?_⟩; gi_at_call 18; refine (callsIn_wide.2 (table_any _)).mono ?_; rintro e w1 ⟨rfl, hb1⟩; have hA1 := heap_alloc_new w1 (.cells (tab 0) 56); have hc1 := keepB (bstep hb1 (bal w1 (.cells (tab 0) 56))) hBn) | (refine srow rfl 56 _ _ rfl _ _ rfl rfl 56 _ hA1 HTI.out (by rw [tab_size, tab_size]) (tab_one _) ?_; have hBV : Below W.heap.size W ((w1.alloc (.cells (tab 0) 56)).setRow w1.heap.size (tab 256)) := below_setRow (bstep hb1 (bal w1 _)) hb1.size _; have hTV : ((w1.alloc (.cells (tab 0) 56)).setRow w1.heap.size (tab 256)).heap[w1.heap.size]? = some (.cells (tab 256) 56 (0, 0)) := setRow_heap _ _ _ _ _ _ hA1; have hcV := keepB hBV hBn))
  obtain ⟨V, hV⟩ : ∃ V, (w1.alloc (.cells (tab 0) 56)).setRow w1.heap.size (tab 256) = V := ⟨_, rfl⟩
  rw [hV] at hBV hTV hcV ⊢
  have hJ0 : J [] V := hJ [] W V none h0 (below_gr hBV) (fun r e => by cases e)
  clear hV hc1 hA1 hcV
  gi_loopw [4, 5] (fun r _ wr => ∃ (pre : List ByteArray) (b : Nat), r = .string (rst s b) ∧ Ch s 0 pre b ∧ b ≤ s.size ∧ J pre wr ∧ wr.heap[w1.heap.size]? = some (.cells (tab 256) 56 (0, 0))) (fun r _ _ => szOf r)
  case atStart => exact ⟨[], 0, by rw [rst_zero], rfl, by omega, hJ0, hTV⟩
  case round =>
    obtain ⟨pre, b, rfl, hCp, hbs, hJp, hT⟩ := hrel
    have HT : Hid (wr.heap[w1.heap.size]? = some (.cells (tab 256) 56 (0, 0))) := hT
    clear hT
    obtain ⟨R, hR⟩ : ∃ R, rst s b = R := ⟨_, rfl⟩
    have HR : Hid (rst s b = R) := hR
    have HRs : Hid (R.size = s.size - b) := by show R.size = _; rw [← hR]; exact rst_size s b hbs
    rw [hR]
    clear hR
    have hN := nilS (fst R)
    by_cases h0 : (fst R).size = 0
    · have hQ : ((fst R).toList == ([] : List UInt8)) = true := by rw [hN]; simp [h0]
      have hQ' : (fst R).toList = [] := by simpa using hQ
      gi_wp2_with (first | (refine lrow rfl 56 _ rfl _ rfl 56 _ _ _ HT.out Try.underlying56 rfl HTI.out ?_) | (refine ⟨trivial, fun _ => by omega, ?_⟩; gi_at_call 21; refine (callsIn_wide.2 (iFirst R _ (by have := HRs.out; omega))).mono ?_; rintro e w2 ⟨rfl, hb2⟩))
      refine ⟨trivial, ?_⟩
      gi_wp2
      refine ⟨fun _ h => (by cases h), ?_⟩
      gi_wp2
      refine bodyPost_ret (results_none rfl _ _ _) rfl ?_
      have hsame := hCp.same hC (by rw [HR.out]; exact h0) hE
      exact ⟨⟨_, rfl⟩, .inl ⟨pre, hsame.1, hJ pre wr w2 none hJp (below_gr hb2) (fun r e => by cases e)⟩⟩
    · have hQ : ((fst R).toList == ([] : List UInt8)) = false := by rw [hN]; simp [h0]
      have hQ' : ¬ (fst R).toList = [] := by simpa using hQ
      obtain ⟨rr, hrr⟩ := hCp.ext hC (by rw [HR.out]; exact h0) hE
      rw [HR.out] at hrr
      have hfit := rst_fits hbs (by rw [HR.out]; exact h0)
      rw [HR.out] at hfit
      have hsn := hCp.snoc (fst R) (by rw [HR.out]) h0
      have hrs := rst_rst s b (8 + (fst R).size) hfit
      rw [HR.out] at hrs
      have hlen : pre.length < xs.length := by rw [hrr]; simp
      obtain ⟨x, hx⟩ : ∃ x, fst R = x := ⟨_, rfl⟩
      rw [hx] at hfit h0 hQ hQ' hN hrr hsn hrs
      have q0 : (0 : Int) ≤ 8 + (x.size : Int) := by omega
      have q1 : 8 + (x.size : Int) ≤ (R.size : Int) := by have := HRs.out; omega
      have q2 : (8 + (x.size : Int)).toNat = 8 + x.size := by omega
      have q3 : IntKind.i64.wrap (8 + (x.size : Int)) = 8 + (x.size : Int) := by rw [IntKind.wrap_i64]; omega
      gi_wp2_with (first | (refine lrow rfl 56 _ rfl _ rfl 56 _ _ _ HT.out Try.underlying56 rfl HTI.out ?_) | (refine ⟨trivial, fun _ => by omega, ?_⟩; gi_at_call 21; refine (callsIn_wide.2 (iFirst R _ (by have := HRs.out; omega))).mono ?_; rw [hx]; rintro e w2 ⟨rfl, hb2⟩) | (refine ⟨trivial, fun _ => by omega, ?_⟩; gi_at_call 22; refine (callsIn_wide.2 (iClone x _ (by omega))).mono ?_; rintro e w3 ⟨rfl, hb3⟩; obtain ⟨fn, tmps, assign, body, hy, hRd⟩ := hY pre x w3 (hJ pre wr w3 none hJp (below_gr (bstep hb2 hb3)) (fun r e => by cases e)) hlen))
      refine ⟨fun _ => by omega, ?_⟩
      refine hRd.mono ?_
      rintro e w4 (⟨rfl, hJ4, hk4⟩ | ⟨rfl, hJx4⟩)
      · have hT3 : w3.heap[w1.heap.size]? = some (.cells (tab 256) 56 (0, 0)) := (KT.of (bstep hb2 hb3)) _ _ HT.out
        have hT4 := hk4 _ _ hT3
        have HT4 : Hid (w4.heap[w1.heap.size]? = some (.cells (tab 256) 56 (0, 0))) := hT4
        clear hT4 hT3
        gi_wp2
        go_roundw
        case rel => exact ⟨pre ++ [x], b + (8 + x.size), by rw [← hrs], hsn, hfit, hJ4, HT4.out⟩
        case measure =>
          have := HRs.out
          simp only [szOf]
          rw [rst_size s _ hfit]
          omega
      · gi_wp2
        refine bodyPost_ret (results_none rfl _ _ _) rfl ?_
        exact ⟨⟨_, rfl⟩, .inr ⟨pre ++ [x], ⟨rr, by rw [hrr]; simp⟩, hJx4⟩⟩
end Go.Proofs.Ytlilmbeehmjpkaa
