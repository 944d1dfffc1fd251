/-
  The program's round function over one block.
-/
import Derived.Test.YtlbackkjjhpljaaGreatDoorWc
namespace Go.Proofs.YtlbackkjjhpljaaGreatDoor
open Go.RowKit
/-- The package's table of keys lies in block 0. -/
def KeysAt (w : World) : Prop := ∀ i, i < 64 → w.cell? ⟨1, i, none⟩ = some (.int .u32 (key i : Nat))
theorem KeysAt.lt {w : World} (h : KeysAt w) : 1 < w.heap.size := block_lt_of_cell (h 0 (by omega))
theorem KeysAt.below {B : Nat} {w w' : World} (h : KeysAt w) (hb : Below B w w') (hB : 1 < B) : KeysAt w' :=
  fun i hi => (hb.cell (p := ⟨1, i, none⟩) hB).trans (h i hi)
def zeros8 : Array Value := Array.ofFn (n := 8) fun _ => .int .u32 0
set_option maxRecDepth 20000 in
theorem Tryz.info131 : (Tryz.prog.info? 131).map (fun i => (i.zero, i.size)) = some (some (.agg zeros8), 8) := by kernel_rfl
theorem zeros8_size : zeros8.size = 8 := rfl
theorem w_not' (a : Nat) (ha : a < 4294967296) : bits .xor .u32 (if IntKind.u32.signed = true then -1 else IntKind.u32.max) (a : Int) = ((no a : Nat) : Int) := w_not a ha
theorem wr_add (a b : Nat) : IntKind.u32.wrap ((a : Int) + (b : Int)) = ((add a b : Nat) : Int) := by rw [IntKind.wrap_u32, w_add]
attribute [local go_sem ↓] Go.wp_at_zero Go.wp_at_succ
theorem heap_three (w : World) (A B C : Obj) : (((w.alloc A).alloc B).alloc C).heap[w.heap.size]? = some A ∧ (((w.alloc A).alloc B).alloc C).heap[w.heap.size + 1]? = some B ∧ (((w.alloc A).alloc B).alloc C).heap[w.heap.size + 2]? = some C := by
  have e1 : (w.alloc A).heap.size = w.heap.size + 1 := by simp
  have e2 : ((w.alloc A).alloc B).heap.size = w.heap.size + 2 := by simp
  refine ⟨?_, ?_, ?_⟩
  · rw [_root_.Go.heap_alloc_old _ _ (by omega), heap_alloc2_old]
  · rw [_root_.Go.heap_alloc_old _ _ (by omega), heap_alloc2_new]
  · have := heap_alloc_new ((w.alloc A).alloc B) C
    rwa [e2] at this
set_option maxHeartbeats 2000000 in
set_option maxRecDepth 20000 in
theorem block_any (s : St) (blk : ByteArray) (w : World) (hs : s.ok) (hk : KeysAt w) :
    Calls Tryz.prog 110 #[.agg s.vals, .agg (wArr blk 64)] w fun e w' => e = .returned (.agg (comp s blk).vals) ∧ Below w.heap.size w w' := by
  obtain ⟨hz, hi⟩ := zero_of_info Tryz.info131
  have HI : Hid ((Tryz.prog.info? 131).map (·.size) = some 8) := hi
  clear hi
  have HK : Hid (KeysAt w) := hk
  clear hk
  go_enter Tryz.func110, Tryz.ntmps110
  go_wp2
  clear hz
  obtain ⟨W, hW⟩ : ∃ W, W = ((w.alloc (.cells s.vals 131)).alloc (.cells (wArr blk 64) 167)).alloc (.cells zeros8 131) := ⟨_, rfl⟩
  rw [← hW]
  obtain ⟨b0, b1, b2⟩ := heap_three w (.cells s.vals 131) (.cells (wArr blk 64) 167) (.cells zeros8 131)
  have hb : Below w.heap.size w W := by rw [hW]; exact (((Below.refl _ _).alloc (Nat.le_refl _) _).alloc (by simp) _).alloc (by simp; omega) _
  rw [← hW] at b0 b1 b2
  clear hW
  have v0 : W.cell? ⟨w.heap.size, 0, none⟩ = some (.int .u32 (s.a : Nat)) := (cell_of_row W _ 0 _ _ _ b0).trans (vals_get s 0 (by omega))
  have v1 : W.cell? ⟨w.heap.size, 1, none⟩ = some (.int .u32 (s.b : Nat)) := (cell_of_row W _ 1 _ _ _ b0).trans (vals_get s 1 (by omega))
  have v2 : W.cell? ⟨w.heap.size, 2, none⟩ = some (.int .u32 (s.c : Nat)) := (cell_of_row W _ 2 _ _ _ b0).trans (vals_get s 2 (by omega))
  have v3 : W.cell? ⟨w.heap.size, 3, none⟩ = some (.int .u32 (s.d : Nat)) := (cell_of_row W _ 3 _ _ _ b0).trans (vals_get s 3 (by omega))
  have v4 : W.cell? ⟨w.heap.size, 4, none⟩ = some (.int .u32 (s.e : Nat)) := (cell_of_row W _ 4 _ _ _ b0).trans (vals_get s 4 (by omega))
  have v5 : W.cell? ⟨w.heap.size, 5, none⟩ = some (.int .u32 (s.f : Nat)) := (cell_of_row W _ 5 _ _ _ b0).trans (vals_get s 5 (by omega))
  have v6 : W.cell? ⟨w.heap.size, 6, none⟩ = some (.int .u32 (s.g : Nat)) := (cell_of_row W _ 6 _ _ _ b0).trans (vals_get s 6 (by omega))
  have v7 : W.cell? ⟨w.heap.size, 7, none⟩ = some (.int .u32 (s.h : Nat)) := (cell_of_row W _ 7 _ _ _ b0).trans (vals_get s 7 (by omega))
  have B0 : Hid (W.heap[w.heap.size]? = some (.cells s.vals 131 (0, 0))) := b0
  have B1 : Hid (W.heap[w.heap.size + 1]? = some (.cells (wArr blk 64) 167 (0, 0))) := b1
  have B2 : Hid (W.heap[w.heap.size + 2]? = some (.cells zeros8 131 (0, 0))) := b2
  clear b0 b1 b2
  go_quiet (fail)
  obtain ⟨n1, rfl⟩ : ∃ n1, n1 = nq := ⟨_, rfl⟩
  go_wp2
  go_quiet (fail)
  go_wp2
  go_loopw [5, 6, 7, 8, 9, 10, 11, 12, 32] (fun a b c d e f g h i wr => ∃ k : Nat, k ≤ 64 ∧ i = .int .i64 k ∧ (∃ q, wr = W.drewN q) ∧ a = .int .u32 ((rds s blk k).a : Nat) ∧ b = .int .u32 ((rds s blk k).b : Nat) ∧ c = .int .u32 ((rds s blk k).c : Nat) ∧ d = .int .u32 ((rds s blk k).d : Nat) ∧ e = .int .u32 ((rds s blk k).e : Nat) ∧ f = .int .u32 ((rds s blk k).f : Nat) ∧ g = .int .u32 ((rds s blk k).g : Nat) ∧ h = .int .u32 ((rds s blk k).h : Nat)) (fun _ _ _ _ _ _ _ _ i _ => 64 - (intOf i).toNat)
  case atStart => exact ⟨0, by omega, rfl, ⟨n1 + nq, by rw [World.drewN_drewN]⟩, rfl, rfl, rfl, rfl, rfl, rfl, rfl, rfl⟩
  case round =>
    obtain ⟨k, hk, rfl, ⟨q, rfl⟩, rfl, rfl, rfl, rfl, rfl, rfl, rfl, rfl⟩ := hrel
    obtain ⟨l0, l1, l2, l3, l4, l5, l6, l7⟩ := rds_ok s blk k hs
    by_cases hlt : k < 64
    · have HR : Hid (rds s blk (k + 1) = rnd (rds s blk k) (key k) (wd blk k)) := rfl
      have ck : W.cell? ⟨1, k, none⟩ = some (.int .u32 (key k : Nat)) := (hb.cell (p := ⟨1, k, none⟩) HK.out.lt).trans (HK.out k hlt)
      have cw : W.cell? ⟨w.heap.size + 1, k, none⟩ = some (.int .u32 (wd blk k : Nat)) := (cell_of_row W _ k _ _ _ B1.out).trans (by rw [wArr_get _ _ _ hlt, if_pos hlt])
      have lk := key_lt k
      have lw := wd_lt blk k
      obtain ⟨K, eK⟩ : ∃ x, key k = x := ⟨_, rfl⟩
      obtain ⟨X, eX⟩ : ∃ x, wd blk k = x := ⟨_, rfl⟩
      rw [eK] at ck lk HR
      rw [eX] at cw lw HR
      clear eK eX v0 v1 v2 v3 v4 v5 v6 v7
      obtain ⟨r, hr⟩ : ∃ r, rds s blk k = r := ⟨_, rfl⟩
      rw [hr] at HR l0 l1 l2 l3 l4 l5 l6 l7 ⊢
      clear hr
      obtain ⟨a, b, c, d, e, f, g, h⟩ := r
      simp only at l0 l1 l2 l3 l4 l5 l6 l7 ⊢
      have p0 : (k : Int) < 64 := by omega
      obtain ⟨V, hV⟩ : ∃ V, V = W.drewN q := ⟨_, rfl⟩
      rw [← hV]
      replace ck : V.cell? ⟨1, k, none⟩ = some (.int .u32 (K : Nat)) := by rw [hV]; exact ck
      replace cw : V.cell? ⟨w.heap.size + 1, k, none⟩ = some (.int .u32 (X : Nat)) := by rw [hV]; exact cw
      have HV : Hid (V = W.drewN q) := hV
      clear hV
      have x1 := wr_add h (S1 e)
      have x2 := w_and e f l4 l5
      have x3 := w_not' e l4
      have x4 := w_and (no e) g (no_lt e l4) l6
      have x5 := w_xor (an e f) (an (no e) g) (an_lt _ _ l5) (an_lt _ _ l6)
      have x6 := wr_add (add h (S1 e)) (xo (an e f) (an (no e) g))
      have x7 := wr_add (add (add h (S1 e)) (xo (an e f) (an (no e) g))) K
      have x8 := wr_add (add (add (add h (S1 e)) (xo (an e f) (an (no e) g))) K) X
      go_wp2
      go_quiet ((go_at_call 134; exact Calls.quiet_of_same (S1_any _ _ (by assumption))))
      have HT : Hid (add (add (add (add h (S1 e)) (xo (an e f) (an (no e) g))) K) X = t1 ⟨a, b, c, d, e, f, g, h⟩ K X) := rfl
      obtain ⟨T1, eT⟩ : ∃ x, add (add (add (add h (S1 e)) (xo (an e f) (an (no e) g))) K) X = x := ⟨_, rfl⟩
      rw [eT] at HT ⊢
      clear eT x1 x2 x3 x4 x5 x6 x7 x8
      have y1 := w_and a b l0 l1
      have y2 := w_and a c l0 l2
      have y3 := w_and b c l1 l2
      have y4 := w_xor (an a b) (an a c) (an_lt _ _ l1) (an_lt _ _ l2)
      have y5 := w_xor (xo (an a b) (an a c)) (an b c) (xo_lt _ _ (an_lt _ _ l1) (an_lt _ _ l2)) (an_lt _ _ l2)
      have y6 := w_add (S0 a) (xo (xo (an a b) (an a c)) (an b c))
      have y7 := w_add d T1
      have y8 := w_add T1 (add (S0 a) (xo (xo (an a b) (an a c)) (an b c)))
      go_wp2_with (go_at_call 135; refine (S0_any _ _ (by assumption)).mono ?_; rintro e w' ⟨rfl, rfl⟩)
      go_roundw
      case rel =>
        refine ⟨k + 1, by omega, by go_num, ⟨q + nq, by rw [HV.out, World.drewN_drewN]⟩, ?_⟩
        rw [HR.out]
        refine ⟨?_, rfl, rfl, rfl, ?_, rfl, rfl, rfl⟩
        · rw [w_add, HT.out]; rfl
        · rw [w_add, HT.out]; rfl
      case measure => simp [intOf]; omega
    · obtain rfl : k = 64 := by omega
      have HC : Hid (comp s blk = ⟨add s.a (rds s blk 64).a, add s.b (rds s blk 64).b, add s.c (rds s blk 64).c, add s.d (rds s blk 64).d, add s.e (rds s blk 64).e, add s.f (rds s blk 64).f, add s.g (rds s blk 64).g, add s.h (rds s blk 64).h⟩) := rfl
      obtain ⟨r, hr⟩ : ∃ r, rds s blk 64 = r := ⟨_, rfl⟩
      rw [hr] at HC l0 l1 l2 l3 l4 l5 l6 l7 ⊢
      clear hr
      have HB : Hid (Below w.heap.size w (W.drewN q)) := bdrew hb q
      clear hb
      have z0 := w_add s.a r.a
      have z1 := w_add s.b r.b
      have z2 := w_add s.c r.c
      have z3 := w_add s.d r.d
      have z4 := w_add s.e r.e
      have z5 := w_add s.f r.f
      have z6 := w_add s.g r.g
      have z7 := w_add s.h r.h
      have B3 : Hid ((W.drewN q).heap[w.heap.size + 1 + 1]? = some (.cells zeros8 131 (0, 0))) := B2.out
      go_wp2_with (refine wpList_store_row rfl 131 (.tmp 4) (.tmp 115) rfl (w.heap.size + 1 + 1) (St.vals ⟨add s.a r.a, add s.b r.b, add s.c r.c, add s.d r.d, add s.e r.e, add s.f r.f, add s.g r.g, add s.h r.h⟩) rfl (by unfold St.vals; rfl) 131 _ B3.out (by rw [vals_size]; exact HI.out) (by rw [vals_size, zeros8_size]) (vals_one _) ?_)
      rw [HC.out]
      exact bodyPost_ret (v := .agg (St.vals ⟨add s.a r.a, add s.b r.b, add s.c r.c, add s.d r.d, add s.e r.e, add s.f r.f, add s.g r.g, add s.h r.h⟩)) (results_cell_row Tryz.results110 _ _ (w.heap.size + 1 + 1) 131 _ (0, 0) (.array 8 127) rfl (setRow_heap _ _ _ _ _ _ B3.out) Tryz.underlying131 rfl (by rw [vals_size]; exact HI.out)) rfl ⟨rfl, below_setRow HB.out (by omega) _⟩
end Go.Proofs.YtlbackkjjhpljaaGreatDoor
