/-
  Create carried out: the specification's way.
-/
import Derived.Test.YtgeiamgeclbiaaaGreatDoorUj
namespace Go.Proofs.YtgeiamgeclbiaaaGreatDoor
open Go.RowKit Go.Maps Go.WideMaps
def tlL (T : Nat → Td) (n : Nat) : List Td := (List.range n).map T
theorem tlL_len (T : Nat → Td) (n : Nat) : (tlL T n).length = n := by simp [tlL]
theorem tlL_get (T : Nat → Td) {n i : Nat} (h : i < n) : (tlL T n).getD i t0 = T i := by simp [tlL, h]
/-- A statement's answer: tables in new memory, and a code. -/
def Ans (w : World) (A : List Td) (cd : Int) (e : Ending) (w' : World) : Prop := ∃ a' c', e = .returned (.tuple #[.agg #[.slice a' A.length c'], .int .i64 cd]) ∧ Liv (fun b => w.heap.size ≤ b) w' (fun v => TL v a' A.length (fun i => A.getD i t0)) ∧ Below w.heap.size w w'
theorem TL.congr {w : World} {a : Option Addr} {n : Nat} {T T' : Nat → Td} (h : TL w a n T) (e : ∀ k, k < n → T' k = T k) : TL w a n T' := fun k hk => by
  rw [e k hk]
  exact h k hk
theorem TL.list {w : World} {a : Option Addr} {n : Nat} {T : Nat → Td} (h : TL w a n T) : TL w a (tlL T n).length (fun i => (tlL T n).getD i t0) := by
  rw [tlL_len]
  exact h.congr (fun k hk => tlL_get T hk)
theorem results_cell_tmp {P : Program} {fn : Func} {p t0 : Tmp} {ty : TypeId} (h : fn.results = #[.cell p ty, .tmp t0]) (tmps : Array Value) (w : World) (g : Nat) (t : TypeId) (cs : Array Value) (fr : Nat × Nat) (d : TypeDesc)
    (hp : tmps.getD p undef = .pointer (some ⟨g, 0, none⟩)) (hg : w.heap[g]? = some (.cells cs t fr))
    (hu : P.underlying ty = some d) (hd : (match d with | .struct _ | .array _ _ => true | _ => false) = true) (hi : (P.info? ty).map (·.size) = some cs.size) :
    (results fn tmps).run P w = .ok (.tuple #[.agg cs, tmps.getD t0 undef]) w := by
  have hp' : tmps[p]?.getD undef = .pointer (some ⟨g, 0, none⟩) := by simpa using hp
  simp [results, h, hp', asAddr, run_loadVar_row w g t ty cs fr d hg hu hd hi]
/-- The answer out of l5Same, stored in a box. -/
theorem ans_same {w W w2 : World} {a' : Option Addr} {c' R n : Nat} {T : Nat → Td} {v : Value} (hW : Below w.heap.size w W) (hL : Liv (fun b => W.heap.size ≤ b) w2 (fun v => TL v a' n T)) (hb : Below W.heap.size W w2) (hR : w.heap.size ≤ R) (hR2 : R < W.heap.size) (cd : Int) : Ans w (tlL T n) cd (.returned (.tuple #[.agg #[.slice a' n c'], .int .i64 cd])) (w2.setCell ⟨R, 0, none⟩ v) :=
  ⟨a', c', by rw [tlL_len], ((hL.set (B := R) (by omega)).wide (fun b hb' _ => by have := hW.size; omega)).imp (fun _ h => h.list), bset (bstep hW hb) hR⟩
theorem ans_with {w W w2 : World} {a' : Option Addr} {c' R : Nat} {A : List Td} {v : Value} (hW : Below w.heap.size w W) (hL : Liv (fun b => W.heap.size ≤ b) w2 (fun v => TL v a' A.length (fun i => A.getD i t0))) (hb : Below W.heap.size W w2) (hR : w.heap.size ≤ R) (hR2 : R < W.heap.size) (cd : Int) : Ans w A cd (.returned (.tuple #[.agg #[.slice a' A.length c'], .int .i64 cd])) (w2.setCell ⟨R, 0, none⟩ v) :=
  ⟨a', c', rfl, (hL.set (B := R) (by omega)).wide (fun b hb' _ => by have := hW.size; omega), bset (bstep hW hb) hR⟩
/-- What Create answers. -/
def crA (T : Nat → Td) (n : Nat) (tb : ByteArray) (n2 : Nat) (C : Nat → Clm) : List Td × Int :=
  if (tabI T tb n).isSome = true then (tlL T n, 2) else if difB C n2 = false then (tlL T n, 3) else if n = 100 then (tlL T n, 6) else (wtL T ⟨tb, n2, C, 0, fun _ => 0, fun _ _ => d0⟩ n, 0)
theorem difB_no {C : Nat → Clm} {n j : Nat} (hj : j < n) (h : hasCol C (C j).s j = true) : difB C n = false := allN_false hj (by rw [h]; rfl)
theorem box8 {W : World} {R : Nat} {x0 x1 x2 x3 x4 x5 x6 x7 : Value} {t : TypeId} (h : W.heap[R]? = some (.cells #[x0, x1, x2, x3, x4, x5, x6, x7] t (0, 0))) : W.cell? ⟨R, 0, none⟩ = some x0 ∧ W.cell? ⟨R, 1, none⟩ = some x1 ∧ W.cell? ⟨R, 2, none⟩ = some x2 ∧ W.cell? ⟨R, 3, none⟩ = some x3 ∧ W.cell? ⟨R, 4, none⟩ = some x4 ∧ W.cell? ⟨R, 5, none⟩ = some x5 ∧ W.cell? ⟨R, 6, none⟩ = some x6 ∧ W.cell? ⟨R, 7, none⟩ = some x7 :=
  ⟨cell_of_row _ _ 0 _ _ _ h, cell_of_row _ _ 1 _ _ _ h, cell_of_row _ _ 2 _ _ _ h, cell_of_row _ _ 3 _ _ _ h, cell_of_row _ _ 4 _ _ _ h, cell_of_row _ _ 5 _ _ _ h, cell_of_row _ _ 6 _ _ _ h, cell_of_row _ _ 7 _ _ _ h⟩
set_option maxRecDepth 20000 in
set_option maxHeartbeats 16000000 in
theorem sCreate (a : Option Addr) (n c : Nat) (T : Nat → Td) (k0 : Int) (tb : ByteArray) (a2 : Option Addr) (n2 c2 : Nat) (a3 : Option Addr) (n3 c3 : Nat) (col : ByteArray) (a5 : Option Addr) (n5 c5 : Nat) (a6 : Option Addr) (n6 c6 : Nat) (a7 : Option Addr) (n7 c7 : Nat) (C : Nat → Clm) (w : World) (h : TL w a n T) (hC : CL w a2 n2 C) (hn : n ≤ 1000000) (hF : Fil n T) (h20 : 0 < n2) (h2m : n2 ≤ 1048576) (hcap : n2 ≤ c2) (htb : tb.size ≤ 1048576) :
    Calls Tryz.prog 52 #[.agg #[.slice a n c], .agg #[.int .i64 k0, .string tb, .slice a2 n2 c2, .slice a3 n3 c3, .string col, .slice a5 n5 c5, .slice a6 n6 c6, .slice a7 n7 c7]] w (Ans w (crA T n tb n2 C).1 (crA T n tb n2 C).2) := by
  have HF : Hid (Fil n T) := hF
  clear hF
  have hbU : Below w.heap.size w (((w.alloc (.cells #[.slice a n c] 38)).alloc (.cells #[.int .i64 k0, .string tb, .slice a2 n2 c2, .slice a3 n3 c3, .string col, .slice a5 n5 c5, .slice a6 n6 c6, .slice a7 n7 c7] 45)).alloc (.cells #[.slice none 0 0] 38)) := below3 _ _ _ _
  have hsU : (((w.alloc (.cells #[.slice a n c] 38)).alloc (.cells #[.int .i64 k0, .string tb, .slice a2 n2 c2, .slice a3 n3 c3, .string col, .slice a5 n5 c5, .slice a6 n6 c6, .slice a7 n7 c7] 45)).alloc (.cells #[.slice none 0 0] 38)).heap.size = w.heap.size + 3 := by rw [World.size_alloc, World.size_alloc, World.size_alloc]
  have hq0 : (((w.alloc (.cells #[.slice a n c] 38)).alloc (.cells #[.int .i64 k0, .string tb, .slice a2 n2 c2, .slice a3 n3 c3, .string col, .slice a5 n5 c5, .slice a6 n6 c6, .slice a7 n7 c7] 45)).alloc (.cells #[.slice none 0 0] 38)).heap[w.heap.size]? = some (.cells #[.slice a n c] 38 (0, 0)) := rowL (rowL (heap_alloc_new w _) (bal _ _)) (bal _ _)
  have hq1 : (((w.alloc (.cells #[.slice a n c] 38)).alloc (.cells #[.int .i64 k0, .string tb, .slice a2 n2 c2, .slice a3 n3 c3, .string col, .slice a5 n5 c5, .slice a6 n6 c6, .slice a7 n7 c7] 45)).alloc (.cells #[.slice none 0 0] 38)).heap[w.heap.size + 1]? = some (.cells #[.int .i64 k0, .string tb, .slice a2 n2 c2, .slice a3 n3 c3, .string col, .slice a5 n5 c5, .slice a6 n6 c6, .slice a7 n7 c7] 45 (0, 0)) := by
    have q := heap_alloc_new (w.alloc (.cells #[.slice a n c] 38)) (.cells #[.int .i64 k0, .string tb, .slice a2 n2 c2, .slice a3 n3 c3, .string col, .slice a5 n5 c5, .slice a6 n6 c6, .slice a7 n7 c7] 45)
    rw [World.size_alloc] at q
    exact rowL q (bal _ _)
  have hq2 : (((w.alloc (.cells #[.slice a n c] 38)).alloc (.cells #[.int .i64 k0, .string tb, .slice a2 n2 c2, .slice a3 n3 c3, .string col, .slice a5 n5 c5, .slice a6 n6 c6, .slice a7 n7 c7] 45)).alloc (.cells #[.slice none 0 0] 38)).heap[w.heap.size + 1 + 1]? = some (.cells #[.slice none 0 0] 38 (0, 0)) := by
    have q := heap_alloc_new ((w.alloc (.cells #[.slice a n c] 38)).alloc (.cells #[.int .i64 k0, .string tb, .slice a2 n2 c2, .slice a3 n3 c3, .string col, .slice a5 n5 c5, .slice a6 n6 c6, .slice a7 n7 c7] 45)) (.cells #[.slice none 0 0] 38)
    rw [World.size_alloc, World.size_alloc] at q
    exact q
  rcases ht : tabI T tb n with _ | j
  rotate_left
  · have HA : Hid (crA T n tb n2 C = (tlL T n, 2)) := by show _ = _; unfold crA; rw [ht]; rfl
    have hz : colZ (tabI T tb n) = (j : Int) := by rw [ht]; rfl
    clear ht
    have hj0 : (0 : Int) ≤ (j : Int) := by omega
    go_enter Tryz.func52, Tryz.ntmps52
    go_wp2_with (first | (go_at_call 26; refine (sTable a n c T tb _ (h.later hbU) (by omega)).mono ?_; rintro e w1 ⟨rfl, hb1⟩; rw [hz]; have r0 := rowL hq0 hb1; have r2 := rowL hq2 hb1; obtain ⟨m0, -⟩ := box1 r0) | (go_at_call 53; refine (sSame a n c T _ (h.later (bstep hbU hb1)) (by omega) HF.out).mono ?_; rintro e w2 ⟨a8, c8, rfl, hL8, hb8⟩; have s2 := rowL r2 hb8; obtain ⟨m2, f2⟩ := box1 s2))
    refine bodyPost_ret (results_cell_tmp Tryz.results52 _ _ (w.heap.size + 1 + 1) 38 _ (0, 0) _ rfl (row1 s2 _) Tryz.underlying38 rfl (by kernel_rfl)) rfl ?_
    rw [HA.out]
    exact ans_same (bstep hbU hb1) hL8 hb8 (by omega) (by have := hb1.size; omega) 2
  have HT : Hid (tabI T tb n = none) := ht
  have hz : colZ (tabI T tb n) = -1 := by rw [ht]; rfl
  clear ht
  obtain ⟨b2, off2, rfl, -⟩ := hC 0 h20
  go_enter Tryz.func52, Tryz.ntmps52
  go_wp2_with (first | (go_at_call 26; refine (sTable a n c T tb _ (h.later hbU) (by omega)).mono ?_; rintro e w1 ⟨rfl, hb1⟩; rw [hz]; have r0 := rowL hq0 hb1; have r1 := rowL hq1 hb1; have r2 := rowL hq2 hb1; obtain ⟨m0, -⟩ := box1 r0; obtain ⟨-, m1, m2, -⟩ := box8 r1))
  have hb10 := bstep hbU hb1
  have hs1 := hb1.size
  go_loopw [6, 7, 18] (fun _ _ i wr => ∃ k : Nat, k ≤ n2 ∧ i = .int .i64 k ∧ (∀ j, j < k → hasCol C (C j).s j = false) ∧ Below w1.heap.size w1 wr) (fun _ _ i _ => n2 - (intOf i).toNat)
  case atStart => exact ⟨0, by omega, rfl, fun j hj => by omega, Below.refl _ _⟩
  case round =>
    obtain ⟨k, hk, rfl, hno, hbr⟩ := hrel
    have HNO : Hid (∀ j, j < k → hasCol C (C j).s j = false) := hno
    clear hno
    have q0 := rowL r0 hbr
    have q1 := rowL r1 hbr
    have q2 := rowL r2 hbr
    obtain ⟨u0, -⟩ := box1 q0
    obtain ⟨-, u1, u2, -⟩ := box8 q1
    have hbw := bstep hb10 hbr
    have hsr := hbr.size
    by_cases hlt : k < n2
    · obtain ⟨b3, off3, e3, c0, c1, hs3⟩ := hC.later hbw k hlt
      obtain ⟨rfl, rfl⟩ : b2 = b3 ∧ off2 = off3 := by simpa using e3
      clear e3
      have hkn : (k : Int) < n2 := by omega
      have hkc : (k : Int) ≤ c2 := by omega
      have hkc2 : k ≤ c2 := by omega
      have hk0 : (0 : Int) ≤ k := by omega
      have v2 := keepB (bal wr (.cells #[.string (C k).s, .int .i64 (C k).t] 113)) u2
      have hnew := (cell_of_row _ _ 0 _ _ _ (heap_alloc_new wr (.cells #[.string (C k).s, .int .i64 (C k).t] 113)))
      have hCk := hC.later (bstep hbw (bal wr (.cells #[.string (C k).s, .int .i64 (C k).t] 113)))
      go_upto_region 6 with (go_at_call 67; fail)
      refine wp_region_held_drew (S := fun x => Below (wr.alloc (.cells #[.string (C k).s, .int .i64 (C k).t] 113)).heap.size (wr.alloc (.cells #[.string (C k).s, .int .i64 (C k).t] 113)) x) (by kernel_rfl) (bdrew _) (fun hHeld => ?_)
      refine' takeF (i := 0) (oi := ({ dst := some 23, op := Op.fieldAddr 45 (Operand.tmp 3) 2, type := 0, pos := "l5_replay.go:266", after := #[], guard := none } : Oper)) rfl ⟨by rfl, fun x hSw => ?h1⟩ hHeld ?r1
      case h1 =>
        go_simp
        try with_reducible rfl
      try simp only [Act.put, List.setIfInBounds_toArray, List.set_cons_zero, List.set_cons_succ]
      refine' takeF (i := 1) (oi := ({ dst := some 24, op := Op.load 40 (Operand.tmp 23), type := 40, pos := "l5_replay.go:266", after := #[{ on := 0, ground := Ground.data }], guard := none } : Oper)) rfl ⟨by rfl, fun x hSw => ?h2⟩ hHeld ?r2
      case h2 =>
        have k0 := keepB hSw v2; have k1 := keepB hSw hnew
        go_simp
        try with_reducible rfl
      try simp only [Act.put, List.setIfInBounds_toArray, List.set_cons_zero, List.set_cons_succ]
      refine' takeF (i := 2) (oi := ({ dst := some 25, op := Op.move (Operand.tmp 6), type := 3, pos := "l5_replay.go:266", after := #[], guard := none } : Oper)) rfl ⟨by rfl, fun x hSw => ?h3⟩ hHeld ?r3
      case h3 =>
        go_simp
        try with_reducible rfl
      try simp only [Act.put, List.setIfInBounds_toArray, List.set_cons_zero, List.set_cons_succ]
      refine' takeF (i := 3) (oi := ({ dst := some 26, op := Op.slice 40 (Operand.tmp 24) none (some (Operand.tmp 25)) none, type := 40, pos := "l5_replay.go:266", after := #[{ on := 1, ground := Ground.data }, { on := 2, ground := Ground.data }], guard := none } : Oper)) rfl ⟨by rfl, fun x hSw => ?h4⟩ hHeld ?r4
      case h4 =>
        go_simp
        try with_reducible rfl
      try simp only [Act.put, List.setIfInBounds_toArray, List.set_cons_zero, List.set_cons_succ]
      refine' takeF (i := 4) (oi := ({ dst := some 27, op := Op.fieldAddr 113 (Operand.tmp 7) 0, type := 0, pos := "l5_replay.go:266", after := #[], guard := none } : Oper)) rfl ⟨by rfl, fun x hSw => ?h5⟩ hHeld ?r5
      case h5 =>
        go_simp
        try with_reducible rfl
      try simp only [Act.put, List.setIfInBounds_toArray, List.set_cons_zero, List.set_cons_succ]
      refine' takeF (i := 5) (oi := ({ dst := some 28, op := Op.load 9 (Operand.tmp 27), type := 9, pos := "l5_replay.go:266", after := #[{ on := 4, ground := Ground.data }], guard := none } : Oper)) rfl ⟨by rfl, fun x hSw => ?h6⟩ hHeld ?r6
      case h6 =>
        have k0 := keepB hSw v2; have k1 := keepB hSw hnew
        go_simp
        try with_reducible rfl
      try simp only [Act.put, List.setIfInBounds_toArray, List.set_cons_zero, List.set_cons_succ]
      refine wpAnyH_ready (rs := [6]) (by kernel_rfl) (by simp) ?_
      refine AllReadyH.cons (o := ({ dst := some 29, op := Op.call { callee := Callee.value (Operand.func 67), args := #[Operand.tmp 26, Operand.tmp 28], argTypes := #[40, 9] }, type := 3, pos := "l5_replay.go:266", after := #[{ on := 3, ground := Ground.data }, { on := 5, ground := Ground.data }], guard := none } : Oper)) rfl (fun K hK => ?_) AllReadyH.nil
      go_simp
      refine (sCol (some ⟨b2, off2, none⟩) k c2 C (C k).s _ ((hCk.later hHeld).take (by omega)) (by omega)).mono ?_
      rintro e w4 ⟨r4, rfl, hr4, hb4⟩
      refine hK.out _ _ (bstep hHeld hb4) (fun hHeld => ?_)
      clear hK K
      try simp only [Act.put, List.setIfInBounds_toArray, List.set_cons_zero, List.set_cons_succ]
      refine' takeF (i := 7) (oi := ({ dst := some 30, op := Op.binOp BinOp.geq 3 (Operand.tmp 29) (Operand.const (Value.int IntKind.i64 0)) 3, type := 4, pos := "l5_replay.go:266", after := #[{ on := 6, ground := Ground.data }], guard := none } : Oper)) rfl ⟨by rfl, fun x hSw => ?h7⟩ hHeld ?r7
      case h7 =>
        go_simp
        try with_reducible rfl
      try simp only [Act.put, List.setIfInBounds_toArray, List.set_cons_zero, List.set_cons_succ]
      refine wpAnyH_done (by kernel_rfl) ?_ _
      have hb5 := bstep (bal wr (.cells #[.string (C k).s, .int .i64 (C k).t] 113)) hHeld
      clear hHeld
      rcases hh : hasCol C (C k).s k
      · have hr5 : ¬ (0 : Int) ≤ r4 := by rw [hr4, hh]; simp
        go_wp2
        go_roundw
        case rel => exact ⟨k + 1, by omega, by go_num, fun j hj => by
          by_cases e : j = k
          · rw [e]; exact hh
          · exact HNO.out j (by omega), bstep hbr hb5⟩
        case measure => simp [intOf]; omega
      · have hr5 : (0 : Int) ≤ r4 := hr4.2 hh
        have HA : Hid (crA T n tb n2 C = (tlL T n, 3)) := by show _ = _; unfold crA; rw [HT.out, difB_no hlt hh]; rfl
        have s0 := rowL q0 hb5
        have s1 := rowL q2 hb5
        obtain ⟨y0, -⟩ := box1 s0
        have hs5 := hb5.size
        go_wp2_with (first | (go_at_call 53; refine (sSame a n c T _ (h.later (bstep hbw hb5)) (by omega) HF.out).mono ?_; rintro e w2 ⟨a8, c8, rfl, hL8, hb8⟩; have s2 := rowL s1 hb8; obtain ⟨y2, f2⟩ := box1 s2))
        refine bodyPost_ret (results_cell_tmp Tryz.results52 _ _ (w.heap.size + 1 + 1) 38 _ (0, 0) _ rfl (row1 s2 _) Tryz.underlying38 rfl (by kernel_rfl)) rfl ?_
        rw [HA.out]
        exact ans_same (bstep hbw hb5) hL8 hb8 (by omega) (by omega) 3
    · obtain rfl : k = n2 := by omega
      have HDF : Hid (difB C k = true) := allN_true (fun j hj => by rw [HNO.out j hj]; rfl)
      by_cases hN : n = 100
      · subst hN
        have HA : Hid (crA T 100 tb k C = (tlL T 100, 6)) := by show _ = _; unfold crA; rw [HT.out, HDF.out]; rfl
        go_wp2_with (first | (go_at_call 53; refine (sSame a 100 c T _ (h.later hbw) (by omega) HF.out).mono ?_; rintro e w2 ⟨a8, c8, rfl, hL8, hb8⟩; have s2 := rowL q2 hb8; obtain ⟨y2, f2⟩ := box1 s2))
        refine bodyPost_ret (results_cell_tmp Tryz.results52 _ _ (w.heap.size + 1 + 1) 38 _ (0, 0) _ rfl (row1 s2 _) Tryz.underlying38 rfl (by kernel_rfl)) rfl ?_
        rw [HA.out]
        exact ans_same hbw hL8 hb8 (by omega) (by omega) 6
      · have nN : ((n : Int) == 100) = false := by simp; omega
        have HA : Hid (crA T n tb k C = (wtL T ⟨tb, k, C, 0, fun _ => 0, fun _ _ => d0⟩ n, 0)) := by show _ = _; unfold crA; rw [HT.out, HDF.out, if_neg (by simp), if_neg (by simp), if_neg hN]
        clear hN
        have HSM : Hid (Sm3 ⟨tb, k, C, 0, fun _ => 0, fun _ _ => d0⟩) := ⟨htb, ⟨h2m, fun j hj => by obtain ⟨_, _, _, _, _, hz⟩ := hC j hj; exact hz⟩, ⟨by show (0 : Nat) ≤ _; omega, fun j hj => absurd hj (Nat.not_lt_zero j)⟩⟩
        go_wp2_with (first | (go_at_call 103; refine (sWith_as a n c T tb k C 0 (fun _ => 0) (fun _ _ => d0) (some ⟨b2, off2, none⟩) c2 none 0 _ rfl _ (h.later hbw) (hC.later hbw) (fun j hj => absurd hj (Nat.not_lt_zero j)) HSM.out hn HF.out ⟨h20, fun j hj => absurd hj (Nat.not_lt_zero j)⟩).mono ?_; rintro e w2 ⟨a8, c8, rfl, hL8, hb8⟩; have s2 := rowL q2 hb8; obtain ⟨y2, f2⟩ := box1 s2))
        refine bodyPost_ret (results_cell_tmp Tryz.results52 _ _ (w.heap.size + 1 + 1) 38 _ (0, 0) _ rfl (row1 s2 _) Tryz.underlying38 rfl (by kernel_rfl)) rfl ?_
        rw [HA.out]
        exact ans_with hbw hL8 hb8 (by omega) (by omega) 0
end Go.Proofs.YtgeiamgeclbiaaaGreatDoor
