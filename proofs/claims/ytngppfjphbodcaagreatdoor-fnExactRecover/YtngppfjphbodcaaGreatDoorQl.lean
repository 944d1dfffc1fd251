/-
  Recovery: one answer of both sides.
-/
import Derived.Test.YtngppfjphbodcaaGreatDoorQg
import Derived.Test.YtngppfjphbodcaaGreatDoorHm
import Derived.Test.YtngppfjphbodcaaGreatDoorQk
import Derived.Test.YtngppfjphbodcaaGreatDoorQd
namespace Go.Proofs.YtngppfjphbodcaaGreatDoor
open Go.RowKit
set_option maxRecDepth 20000 in
set_option maxHeartbeats 8000000 in
theorem sRecDown (b off n c : Nat) (L : List Fil) (hL : L.length = n) (x1 x2 x3 x4 : Int) (w : World) (h : FL w (some ⟨b, off, none⟩) n (nthF L)) (hok : okFs n (nthF L) x1 x2 x3 x4 = true) (hs : sumL L ≤ 1048576) :
    Calls Tryz.prog 5 #[.agg #[.slice (some ⟨b, off, none⟩) n c, .int .i64 x1, .int .i64 x2, .int .i64 x3, .int .i64 x4, .bool true]] w fun e w' => RDone w w' x1 x3 x4 ⟨L, x2, true, 0, 0, [], 11⟩ e := by
  obtain ⟨hG, -⟩ := (okFs_iff L x1 x2 x3 x4).1 (by rw [hL]; exact hok)
  have hn : n ≤ 300 := by rw [← hL]; exact hG.len
  have hsm : Small n (nthF L) := by rw [← hL]; exact hG.small (by omega)
  have HL : Hid (L.length = n) := hL
  clear hL
  have hN := SW.new w (.slice (some ⟨b, off, none⟩) n c) x1 x2 x3 x4 true
  obtain ⟨k0, k1, k2, k3, k4, k5⟩ := B6.of hN.fs
  go_enter Tryz.func5, Tryz.ntmps5
  go_upto_region 4 with (go_at_call 16; refine (sValid _ n c (nthF L) x1 x2 x3 x4 true _ (h.later hN.b) hsm).mono ?_; rw [hok]; rintro e w1 ⟨rfl, hb1⟩)
  have hN1 := hN.later hb1
  clear k0 k1 k2 k3 k4 k5
  obtain ⟨k0, k1, k2, k3, k4, k5⟩ := B6.of hN1.fs
  obtain ⟨kf0, kf1, kf2, kf3, kf4, kf5⟩ := F6.of hN1.fs
  go_upto_region 5 with (go_at_call 17; refine (sCopy b off n c (nthF L) x1 x2 x3 x4 true _ (h.later hN1.b) (by omega)).mono ?_; rintro e w2 ⟨gM, cM, rfl, hM2, hb2⟩; have hN2 := hN1.later hb2; clear k0 k1 k2 k3 k4 k5 kf0 kf1 kf2 kf3 kf4 kf5; obtain ⟨k0, k1, k2, k3, k4, k5⟩ := B6.of hN2.fs; obtain ⟨kf0, kf1, kf2, kf3, kf4, kf5⟩ := F6.of hN2.fs)
  have hO2 : OwnL w2 w.heap.size (.slice (some ⟨gM, 0, none⟩) n cM) L := by
    have h1 := OwnF.wk hM2 hN1.b.size
    have h2 := HL.out
    subst h2
    exact h1.l
  have hS3 := hN2.set (.slice (some ⟨gM, 0, none⟩) n cM) x1 x2 x3 x4 true
  have hO3 : OwnL ((((((w2.setCell ⟨w.heap.size, 0, none⟩ (.slice (some ⟨gM, 0, none⟩) n cM)).setCell ⟨w.heap.size, 1, none⟩ (.int .i64 x1)).setCell ⟨w.heap.size, 2, none⟩ (.int .i64 x2)).setCell ⟨w.heap.size, 3, none⟩ (.int .i64 x3)).setCell ⟨w.heap.size, 4, none⟩ (.int .i64 x4)).setCell ⟨w.heap.size, 5, none⟩ (.bool true)) w.heap.size (.slice (some ⟨gM, 0, none⟩) n cM) L := keep6 hO2 hN2.fs
  clear hO2 hM2 hN2 hN1 hN hb2 hb1 k0 k1 k2 k3 k4 k5 kf0 kf1 kf2 kf3 kf4 kf5
  generalize ((((((w2.setCell ⟨w.heap.size, 0, none⟩ (.slice (some ⟨gM, 0, none⟩) n cM)).setCell ⟨w.heap.size, 1, none⟩ (.int .i64 x1)).setCell ⟨w.heap.size, 2, none⟩ (.int .i64 x2)).setCell ⟨w.heap.size, 3, none⟩ (.int .i64 x3)).setCell ⟨w.heap.size, 4, none⟩ (.int .i64 x4)).setCell ⟨w.heap.size, 5, none⟩ (.bool true)) = w3 at hS3 hO3 ⊢
  obtain ⟨k0, k1, k2, k3, k4, k5⟩ := B6.of hS3.fs
  obtain ⟨p0, p1, p2, p3, p4, p5⟩ := B6.of hS3.r1
  obtain ⟨q0, q1, q2, q3, q4, q5⟩ := F6.of hS3.r1
  obtain ⟨r0, r1⟩ := B2.of hS3.r2
  obtain ⟨s0, s1⟩ := F2.of hS3.r2
  go_wp2
  refine bodyPost_ret (results_c2t2 Tryz.results5 _ _ (w.heap.size + 1) 28 _ (0, 0) _ rfl (fin8 _ _ _ _ _ _ _ _ hS3.r1 (by omega)) Tryz.underlying28 rfl (by kernel_rfl) (w.heap.size + 1 + 1) 30 _ (0, 0) _ rfl (fin9 _ _ _ _ _ _ _ _ hS3.r2 (by omega)) Tryz.underlying30 rfl (by kernel_rfl)) rfl ?_
  have hL := HL.out
  subst hL
  exact hS3.done hO3 hS3.no 0 0 11 _ _ _ _ _ _ _ _
def mkz (z : Nat) : Nat → ByteArray := fun j => mtx (z + j)
set_option maxRecDepth 20000 in
set_option maxHeartbeats 2000000 in
theorem markStrs_rz (z B g n cap : Nat) (xs : List Value) (w : World) (h : w.ownsRow B 9 1 (.slice (some ⟨g, 0, none⟩) n cap) n xs) (hn : n ≤ 1048576) (hz0 : 0 < z) (hz : z ≤ 5000000) :
    Calls Tryz.prog 12 #[.slice (some ⟨g, 0, none⟩) n cap, .int .i64 (z : Int)] w fun e w' => e = .returned (.int .i64 ((z + n : Nat) : Int)) ∧ w'.ownsRow B 9 1 (.slice (some ⟨g, 0, none⟩) n cap) n (strs (mkz z) n) ∧ w.grownBy w' (some g) := by
  obtain ⟨cur0, hg0, hnc, hcm, hcs⟩ : ∃ cur, w.heap[g]? = some (.cells cur 9 (0, 0)) ∧ n ≤ cap ∧ cap ≤ maxLen ∧ cur.size = cap := by
    rcases h.2 with ⟨h0, _⟩ | ⟨g', cap', cur, hv, hb, hg, hn, hc, hs, ht⟩
    · simp at h0
    · simp at hv
      obtain ⟨rfl, rfl⟩ := hv
      exact ⟨cur, hg, hn, hc, by omega⟩
  have hBg := (own_cap h).2.1
  have HG0 : Hid (w.heap[g]? = some (.cells cur0 9 (0, 0))) := hg0
  clear h hg0
  go_enter Tryz.func12, Tryz.ntmps12
  go_wp2
  go_loopw [1, 5] (fun k i wr => ∃ (j : Nat) (cur : Array Value), j ≤ n ∧ k = .int .i64 ((z + j : Nat) : Int) ∧ i = .int .i64 j ∧ wr.heap[g]? = some (.cells cur 9 (0, 0)) ∧ cur.size = cap ∧ (∀ q, q < j → cur[q]? = some (.string (mkz z q))) ∧ (∀ q, q < cap → ∃ s, cur[q]? = some s) ∧ w.grownBy wr (some g)) (fun _ i _ => n - (intOf i).toNat)
  case atStart => exact ⟨0, cur0, by omega, rfl, rfl, HG0.out, hcs, fun q hq => by omega, fun q hq => ⟨_, Array.getElem?_eq_getElem (by omega)⟩, ⟨rfl, rfl, rfl, Nat.le_refl _, fun _ _ _ => rfl⟩⟩
  case round =>
    obtain ⟨j, cur, hj, rfl, rfl, hg, hsz, hall, hany, hgr⟩ := hrel
    have HG : Hid (wr.heap[g]? = some (.cells cur 9 (0, 0))) := hg
    have HSZ : Hid (cur.size = cap) := hsz
    have HALL : Hid (∀ q, q < j → cur[q]? = some (.string (mkz z q))) := hall
    have HANY : Hid (∀ q, q < cap → ∃ s, cur[q]? = some s) := hany
    clear hg hsz hall hany
    by_cases hlt : j < n
    · obtain ⟨y, hy⟩ : ∃ y, mtx (z + j) = y := ⟨_, rfl⟩
      have HY : Hid (mtx (z + j) = y) := hy
      clear hy
      obtain ⟨s0, hs0⟩ := HANY.out j (by omega)
      have hc : wr.cell? ⟨g, j, none⟩ = some s0 := by rw [cell_of_row wr g j _ _ _ HG.out]; exact hs0
      have hf : wr.frozen? ⟨g, j, none⟩ = false := frozen_of_row wr g j _ _ HG.out
      clear hs0
      go_wp2_with (go_at_call 30; refine (markText_as (z + j) _ _ (by first | rfl | omega) (by omega) (by omega) y HY.out).mono ?_; rintro e w2 ⟨rfl, hb2⟩; have hc2 := keep hb2 hc; have hf2 := ((bcell hb2).2 _ _ (World.block_lt_of_cell? _ _ hc)).trans hf)
      go_roundw
      case rel =>
        have hg2 : w2.heap[g]? = some (.cells cur 9 (0, 0)) := (hb2.block g (World.block_lt_of_cell? _ _ hc)).trans HG.out
        have R : ∃ (j' : Nat) (cur' : Array Value), j' ≤ n ∧ Value.int .i64 ((z + j : Nat) + 1 : Int) = .int .i64 ((z + j' : Nat) : Int) ∧ Value.int .i64 ((j : Int) + 1) = .int .i64 j' ∧ (w2.setCell ⟨g, j, none⟩ (.string y)).heap[g]? = some (.cells cur' 9 (0, 0)) ∧ cur'.size = cap ∧ (∀ q, q < j' → cur'[q]? = some (.string (mkz z q))) ∧ (∀ q, q < cap → ∃ s, cur'[q]? = some s) ∧ w.grownBy (w2.setCell ⟨g, j, none⟩ (.string y)) (some g) := by
          refine ⟨j + 1, cur.setIfInBounds j (.string y), by omega, by congr 1, by go_num, heap_setCell_same w2 g j _ _ _ hg2, by simp; exact HSZ.out, ?_, ?_, ?_⟩
          · intro q hq
            rw [Array.getElem?_setIfInBounds]
            by_cases e : j = q
            · subst e
              rw [if_pos rfl, if_pos (by have := HSZ.out; omega)]
              show _ = some (Value.string (mtx (z + j)))
              rw [HY.out]
            · rw [if_neg e]; exact HALL.out q (by omega)
          · intro q hq
            rw [Array.getElem?_setIfInBounds]
            by_cases e : j = q
            · subst e; rw [if_pos rfl, if_pos (by have := HSZ.out; omega)]; exact ⟨_, rfl⟩
            · rw [if_neg e]; exact HANY.out q hq
          · exact ⟨hb2.os.trans hgr.os, hb2.tape.trans hgr.tape, hb2.output.trans hgr.output, by have := hb2.size; have := hgr.size; simp; omega, fun i hi hne => (heap_setCell_other _ _ _ _ (by simpa using fun e => hne (by rw [e]))).trans ((hb2.block i (Nat.lt_of_lt_of_le hi hgr.size)).trans (hgr.block i hi hne))⟩
        first | exact R | exact ⟨_, _, R, rfl⟩
      case measure => simp [intOf]; omega
    · obtain rfl : j = n := by omega
      go_wp2
      go_ret
      refine ⟨rfl, ⟨by rw [strs_len]; omega, .inr ⟨g, cap, cur, rfl, hBg, HG.out, hnc, hcm, by rw [HSZ.out]; omega, ?_⟩⟩, hgr⟩
      apply List.ext_getElem?
      intro q
      by_cases hq : q < j
      · rw [List.getElem?_take, if_pos (by omega), strs_get _ _ _ hq]
        simpa using HALL.out q hq
      · rw [List.getElem?_take, if_neg (by omega), List.getElem?_eq_none (by rw [strs_len]; omega)]
set_option maxRecDepth 20000 in
set_option maxHeartbeats 2000000 in
theorem heldStrs_z (z : Nat) (a : Option Addr) (n c : Nat) (w : World) (h : Sl w a n (mkz z)) (hn : n ≤ 1048576) (hz0 : 0 < z) (hz : z ≤ 5000000) :
    Calls Tryz.prog 14 #[.slice a n c, .int .i64 (z : Int)] w fun e w' => e = .returned (.int .i64 ((z + n : Nat) : Int)) ∧ Below w.heap.size w w' := by
  go_enter Tryz.func14, Tryz.ntmps14
  go_wp2
  go_loopw [1, 5] (fun k i wr => ∃ j : Nat, j ≤ n ∧ k = .int .i64 ((z + j : Nat) : Int) ∧ i = .int .i64 j ∧ Below w.heap.size w wr) (fun _ i _ => n - (intOf i).toNat)
  case atStart => exact ⟨0, by omega, rfl, rfl, Below.refl _ _⟩
  case round =>
    obtain ⟨j, hj, rfl, rfl, hb⟩ := hrel
    by_cases hlt : j < n
    · obtain ⟨P, off, rfl, hct0⟩ := (h.later hb).at j hlt
      obtain ⟨y, hy⟩ : ∃ y, mtx (z + j) = y := ⟨_, rfl⟩
      have hct : wr.drew.cell? ⟨P, off + j, none⟩ = some (.string y) := by rw [← hy]; exact hct0
      have HY : Hid (mtx (z + j) = y) := hy
      have hjn : (j : Int) < n := by omega
      clear hy hct0
      go_wp2
      refine wp_region_held_drew (S := fun w' => w'.cell? ⟨P, off + j, none⟩ = some (.string y)) (by kernel_rfl) hct (fun hHeld => ?_)
      refine wpAnyH_take (i := 0) (oi := ({ dst := some 12, op := Op.move (Operand.tmp 0), type := 31, pos := "exact.go:184", after := #[], guard := none } : Oper)) (v := .slice (some ⟨P, off, none⟩) n c) rfl (by kernel_rfl) (by kernel_rfl) (by kernel_rfl) (fun _ _ _ h => h) (Or.inl ⟨by rfl, fun w hSw => by go_simp⟩) hHeld ?_
      simp only [Act.put, List.setIfInBounds_toArray, List.set_cons_zero, List.set_cons_succ]
      refine wpAnyH_take (i := 1) (oi := ({ dst := some 13, op := Op.move (Operand.tmp 5), type := 3, pos := "exact.go:184", after := #[], guard := none } : Oper)) (v := .int .i64 (j : Int)) rfl (by kernel_rfl) (by kernel_rfl) (by kernel_rfl) (fun _ _ _ h => h) (Or.inl ⟨by rfl, fun w hSw => by go_simp⟩) hHeld ?_
      simp only [Act.put, List.setIfInBounds_toArray, List.set_cons_zero, List.set_cons_succ]
      refine wpAnyH_take (i := 2) (oi := ({ dst := some 14, op := Op.indexAddr 31 (Operand.tmp 12) (Operand.tmp 13), type := 0, pos := "exact.go:184", after := #[{ on := 0, ground := Ground.data }, { on := 1, ground := Ground.data }], guard := none } : Oper)) (v := .pointer (some ⟨P, off + j, none⟩)) rfl (by kernel_rfl) (by kernel_rfl) (by kernel_rfl) (fun _ _ _ h => h) (Or.inl ⟨by rfl, fun w hSw => by go_simp⟩) hHeld ?_
      simp only [Act.put, List.setIfInBounds_toArray, List.set_cons_zero, List.set_cons_succ]
      refine wpAnyH_take (i := 3) (oi := ({ dst := some 15, op := Op.load 9 (Operand.tmp 14), type := 9, pos := "exact.go:184", after := #[{ on := 2, ground := Ground.data }], guard := none } : Oper)) (v := .string y) rfl (by kernel_rfl) (by kernel_rfl) (by kernel_rfl) (fun _ _ _ h => h) (Or.inl ⟨by rfl, fun w hSw => by go_simp⟩) hHeld ?_
      simp only [Act.put, List.setIfInBounds_toArray, List.set_cons_zero, List.set_cons_succ]
      refine wpAnyH_take (i := 4) (oi := ({ dst := some 16, op := Op.move (Operand.tmp 1), type := 3, pos := "exact.go:184", after := #[], guard := none } : Oper)) (v := .int .i64 ((z + j : Nat) : Int)) rfl (by kernel_rfl) (by kernel_rfl) (by kernel_rfl) (fun _ _ _ h => h) (Or.inl ⟨by rfl, fun w hSw => by go_simp⟩) hHeld ?_
      simp only [Act.put, List.setIfInBounds_toArray, List.set_cons_zero, List.set_cons_succ]
      refine wpAnyH_ready (rs := [5]) (by kernel_rfl) (by simp) ?_
      refine AllReadyH.cons (o := ({ dst := some 17, op := Op.call { callee := Callee.value (Operand.func 30), args := #[Operand.tmp 16], argTypes := #[3] }, type := 9, pos := "exact.go:184", after := #[{ on := 4, ground := Ground.data }], guard := none } : Oper)) rfl (fun K hK => ?_) AllReadyH.nil
      go_simp
      refine (markText_any (z + j) _ (by omega) (by omega) y HY.out).mono ?_
      rintro e w2 ⟨rfl, hb2⟩
      refine hK.out _ _ (keep hb2 hHeld) (fun hHeld => ?_)
      clear hK K
      refine wpAnyH_take (i := 6) (oi := ({ dst := some 18, op := Op.binOp BinOp.neq 9 (Operand.tmp 15) (Operand.tmp 17) 9, type := 4, pos := "exact.go:184", after := #[{ on := 3, ground := Ground.data }, { on := 5, ground := Ground.data }], guard := none } : Oper)) (v := .bool false) rfl (by kernel_rfl) (by kernel_rfl) (by kernel_rfl) (fun _ _ _ h => h) (Or.inl ⟨by rfl, fun w hSw => by go_simp⟩) hHeld ?_
      simp only [Act.put, List.setIfInBounds_toArray, List.set_cons_zero, List.set_cons_succ]
      refine wpAnyH_done (by kernel_rfl) ?_ _
      go_wp2
      go_roundw
      case rel =>
        have R : ∃ j' : Nat, j' ≤ n ∧ Value.int .i64 ((z + j : Nat) + 1 : Int) = .int .i64 ((z + j' : Nat) : Int) ∧ Value.int .i64 ((j : Int) + 1) = .int .i64 j' ∧ Below w.heap.size w w2 := ⟨j + 1, by omega, by congr 1, by go_num, hb.drew.trans (hb2.mono hb.size)⟩
        first | exact R | exact ⟨_, _, R, rfl⟩
      case measure => simp [intOf]; omega
    · obtain rfl : j = n := by omega
      go_wp2
      go_ret
      exact ⟨rfl, hb⟩
def nth (L : List ByteArray) : Nat → ByteArray := fun k => L.getD k ByteArray.empty
theorem Ch.small {s : ByteArray} {L : List ByteArray} {a b : Nat} (h : Ch s a L b) (hb : b ≤ s.size) : a ≤ b ∧ ∀ x ∈ L, x.size ≤ s.size := by
  induction L generalizing a with
  | nil =>
    obtain rfl : a = b := h
    exact ⟨Nat.le_refl _, fun x hx => by cases hx⟩
  | cons y ys ih =>
    obtain ⟨_, _, h3⟩ := h
    obtain ⟨h4, h5⟩ := ih h3
    refine ⟨by omega, fun x hx => ?_⟩
    rcases List.mem_cons.1 hx with rfl | hx
    · omega
    · exact h5 x hx
theorem OwnS.sl {w : World} {B g cap : Nat} {L : List ByteArray} (h : OwnS w B g cap L) (hl : L.length ≤ 1048576) (hs : ∀ x ∈ L, x.size ≤ 1048576) : Sl w (some ⟨g, 0, none⟩) L.length (nth L) := by
  refine ⟨by omega, fun k hk => ?_⟩
  have e : nth L k = L[k] := by simp [nth, hk]
  rw [e]
  refine ⟨by have := hs L[k] (List.getElem_mem hk); omega, g, 0, rfl, ?_⟩
  rw [Nat.zero_add]
  exact own_cell h k _ (by simp [hk])
theorem strs_nth (L : List ByteArray) : strs (nth L) L.length = L.map Value.string := by
  apply List.ext_getElem
  · simp [strs]
  · intro i h1 h2
    simp at h2
    simp [strs, nth, h2]
theorem scn_small (d : ByteArray) : ∀ x ∈ (scn d).1, x.size ≤ d.size := by
  have h := scn_ch d
  exact (h.1.small h.2.2.1).2
theorem rdF_small (L : List Fil) (N : Nat) (hs : sumL L ≤ N) : ∀ (f l : Nat) (E : List ByteArray) (g : Nat), (∀ x ∈ E, x.size ≤ N) → ∀ x ∈ (rdF L f l E g).2.1, x.size ≤ N := by
  intro f
  induction f with
  | zero => intro l E g h; exact h
  | succ f ih =>
    intro l E g h
    have key : fdN L (seg (l + 1)) < L.length → ∀ x ∈ E ++ (scn (nthF L (fdN L (seg (l + 1)))).d).1, x.size ≤ N := fun hf x hx => by
      rcases List.mem_append.1 hx with hx | hx
      · exact h x hx
      · exact Nat.le_trans (scn_small _ x hx) (Nat.le_trans (sumL_one L _ hf) hs)
    rw [rdF]
    split
    · rename_i hf
      split
      · exact key hf
      · exact ih _ _ _ (key hf)
    · exact h
theorem run_ok6 (x1 x3 x4 : Int) (N : Nat) : ∀ (O : List Op3) (L : List Fil) (x2 : Int) (x5 : Bool), Ok6 L x1 x2 N → OkO O → Ok6 (runO x1 x3 x4 O L x2 x5).1 x1 (runO x1 x3 x4 O L x2 x5).2.1 N := by
  intro O
  induction O with
  | nil => intro L x2 x5 h _; exact h
  | cons o r ih =>
    intro L x2 x5 h hO
    have h1 := h.step (x3 := x3) (x4 := x4) (x5 := x5) (kd := o.kd) (dt := ⟨#[]⟩) (sz := o.sz) (fd_at L o.nm) (hO o (by simp)).2.2 rfl
    have h2 : Ok6 (stS L x1 x2 x3 x4 x5 o.kd o.nm ⟨#[]⟩ o.sz (fdI L o.nm)).1 x1 (stS L x1 x2 x3 x4 x5 o.kd o.nm ⟨#[]⟩ o.sz (fdI L o.nm)).2.1 N := h1
    rw [runO]
    split
    · exact ih _ _ _ h2 (fun p hp => hO p (by simp [hp]))
    · exact h2
/-- What both sides answer. -/
def RE4 (M : List Fil) (z1 z2 z3 z4 : Int) (z5 : Bool) (l g : Int) (E : List ByteArray) (zc : Int) (w : World) (e : Ending) (w' : World) : Prop := ∃ av cv ge ce, e = .returned (.tuple #[.agg #[.slice av M.length cv, .int .i64 z1, .int .i64 z2, .int .i64 z3, .int .i64 z4, .bool z5], .agg #[.int .i64 l, .int .i64 g], .slice (some ⟨ge, 0, none⟩) E.length ce, .int .i64 zc]) ∧ OwnF w' w.heap.size (.slice av M.length cv) M.length (nthF M) ∧ OwnS w' w.heap.size ge ce E ∧ Below w.heap.size w w'
theorem RDone.re {w w' : World} {x1 x3 x4 : Int} {A : An} {e : Ending} (h : RDone w w' x1 x3 x4 A e) : RE4 A.M x1 A.z2 x3 x4 A.z5 A.l A.g A.E A.c w e w' := by
  obtain ⟨gm, cp, ge, ce, rfl, h1, h2, h3⟩ := h
  exact ⟨some ⟨gm, 0, none⟩, cp, ge, ce, rfl, h1.f, h2, h3⟩
/-- The answer is small. -/
structure Sm4 (M : List Fil) (E : List ByteArray) : Prop where
  m : M.length ≤ 300
  e : E.length ≤ 2000
  s : ∀ x ∈ E, x.size ≤ 1048576
theorem recA_small {L : List Fil} {x1 x2 x3 x4 : Int} {x5 : Bool} (hok : Ok6 L x1 x2 1048576) : Sm4 (recA L x1 x2 x3 x4 x5).M (recA L x1 x2 x3 x4 x5).E := by
  have hO : OkO (delO L (rd L).1 ++ tailO L (rd L).1 (rd L).2.2) := (del_ok hok.good _).app (tail_ok _ _ _)
  have h1 := (run_ok6 x1 x3 x4 1048576 _ L x2 false hok hO).good.len
  have h0 := hok.good.len
  unfold recA
  split
  · exact ⟨h0, by simp, fun x hx => by cases hx⟩
  · split
    · exact ⟨h0, by simp, fun x hx => by cases hx⟩
    · rename_i h2
      split
      · exact ⟨h1, by show (rd L).2.1.length ≤ 2000; omega, rdF_small L 1048576 hok.sum 301 0 [] 0 (fun x hx => by cases hx)⟩
      · exact ⟨h1, by simp, fun x hx => by cases hx⟩
theorem bothR (L : List Fil) (x1 x2 x3 x4 : Int) (x5 : Bool) (hsm : Small L.length (nthF L)) (hs : sumL L ≤ 1048576) : ∃ (M : List Fil) (z1 z2 z3 z4 : Int) (z5 : Bool) (l g : Int) (E : List ByteArray) (zc : Int), Sm4 M E ∧
    (∀ w b c, FL w (some ⟨b, 0, none⟩) L.length (nthF L) → Calls Tryz.prog 5 #[.agg #[.slice (some ⟨b, 0, none⟩) L.length c, .int .i64 x1, .int .i64 x2, .int .i64 x3, .int .i64 x4, .bool x5]] w (RE4 M z1 z2 z3 z4 z5 l g E zc w)) ∧
    (∀ w b c, T10 w → FL w (some ⟨b, 0, none⟩) L.length (nthF L) → Calls Tryz.prog 7 #[.agg #[.slice (some ⟨b, 0, none⟩) L.length c, .int .i64 x1, .int .i64 x2, .int .i64 x3, .int .i64 x4, .bool x5]] w (RE4 M z1 z2 z3 z4 z5 l g E zc w)) := by
  cases hv : okFs L.length (nthF L) x1 x2 x3 x4 with
  | true =>
    obtain ⟨hG, ⟨_, hx11⟩, ⟨hx20, hx21⟩, _, _⟩ := (okFs_iff L x1 x2 x3 x4).1 hv
    have hok : Ok6 L x1 x2 1048576 := ⟨hG, hx11, hx20, hx21, hs⟩
    refine ⟨(recA L x1 x2 x3 x4 x5).M, x1, (recA L x1 x2 x3 x4 x5).z2, x3, x4, (recA L x1 x2 x3 x4 x5).z5, (recA L x1 x2 x3 x4 x5).l, (recA L x1 x2 x3 x4 x5).g, (recA L x1 x2 x3 x4 x5).E, (recA L x1 x2 x3 x4 x5).c, recA_small hok, fun w b c hf => ?_, fun w b c hT hf => ?_⟩
    · cases x5 with
      | true => exact (sRecDown b 0 L.length c L rfl x1 x2 x3 x4 w hf hv hs).mono fun e w' h => RDone.re h
      | false => exact (sRecGo b 0 L.length c L rfl x1 x2 x3 x4 w hf hv hs _ rfl).mono fun e w' h => h.re
    · exact (iRec b 0 L.length c L rfl x1 x2 x3 x4 x5 w hf hv hs hT _ rfl).mono fun e w' h => h.re
  | false =>
    have key : ∀ {w w' : World} {e : Ending}, (∃ ge ce, e = .returned (.tuple #[.agg #[.slice none 0 0, .int .i64 0, .int .i64 0, .int .i64 0, .int .i64 0, .bool false], .agg #[.int .i64 0, .int .i64 0], .slice (some ⟨ge, 0, none⟩) 0 ce, .int .i64 16]) ∧ OwnS w' w.heap.size ge ce [] ∧ Below w.heap.size w w') → RE4 [] 0 0 0 0 false 0 0 [] 16 w e w' := by
      rintro w w' e ⟨ge, ce, rfl, h1, h2⟩
      exact ⟨none, 0, ge, ce, rfl, ⟨rfl, .inl ⟨rfl, rfl⟩⟩, h1, h2⟩
    exact ⟨[], 0, 0, 0, 0, false, 0, 0, [], 16, ⟨by simp, by simp, fun x hx => by cases hx⟩, fun w b c hf => (sRecBad _ _ c _ x1 x2 x3 x4 x5 w hf hsm hv).mono fun e w' h => key h, fun w b c _ hf => (iRecBad _ _ c _ x1 x2 x3 x4 x5 w hf hsm hv).mono fun e w' h => key h⟩
/-- An answer, and where it lies. -/
structure AN (V : World) (lo hi : Nat) (av : Option Addr) (cv ge ce : Nat) (M : List Fil) (E : List ByteArray) : Prop where
  f : OwnF V lo (.slice av M.length cv) M.length (nthF M)
  s : OwnS V lo ge ce E
  hf : ∀ k, (Value.slice av M.length cv).ownBlock = some k → lo ≤ k ∧ k < hi
  hs : lo ≤ ge ∧ ge < hi
theorem ownB {V : World} {B e size n : Nat} {v : Value} {xs : List Value} (h : V.ownsRow B e size v n xs) : ∀ k, v.ownBlock = some k → B ≤ k ∧ k < V.heap.size ∧ ∃ cur, V.heap[k]? = some (.cells cur e (0, 0)) := by
  intro k hk
  rcases h.2 with ⟨rfl, _⟩ | ⟨g, cap, cur, rfl, hB, hg, _⟩
  · cases hk
  · obtain rfl : g = k := Option.some.inj hk
    exact ⟨hB, (Array.getElem?_eq_some_iff.1 hg).1, cur, hg⟩
theorem own_gr {V V' : World} {B e size n : Nat} {v : Value} {xs : List Value} {r : Option Nat} (h : V.ownsRow B e size v n xs) (hg : V.grownBy V' r) (hne : ∀ k, v.ownBlock = some k → some k ≠ r) : V'.ownsRow B e size v n xs := by
  refine ⟨h.1, ?_⟩
  rcases h.2 with h1 | ⟨g, cap, cur, rfl, hB, hc, h4⟩
  · exact .inl h1
  · exact .inr ⟨g, cap, cur, rfl, hB, rowGr hc hg (hne g rfl), h4⟩
theorem AN.of {V : World} {lo : Nat} {av : Option Addr} {cv ge ce : Nat} {M : List Fil} {E : List ByteArray} (hf : OwnF V lo (.slice av M.length cv) M.length (nthF M)) (hs : OwnS V lo ge ce E) : AN V lo V.heap.size av cv ge ce M E :=
  ⟨hf, hs, fun k hk => ⟨(ownB hf k hk).1, (ownB hf k hk).2.1⟩, ⟨(orw_in hs).1, orw_lt hs⟩⟩
theorem AN.later {V V' : World} {lo hi : Nat} {av : Option Addr} {cv ge ce : Nat} {M : List Fil} {E : List ByteArray} (h : AN V lo hi av cv ge ce M E) (hb : Below V.heap.size V V') : AN V' lo hi av cv ge ce M E := ⟨own_below h.f hb, h.s.later hb, h.hf, h.hs⟩
theorem AN.grown {V V' : World} {lo hi : Nat} {av : Option Addr} {cv ge ce : Nat} {M : List Fil} {E : List ByteArray} {r : Option Nat} (h : AN V lo hi av cv ge ce M E) (hg : V.grownBy V' r) (hr : ∀ k, r = some k → k < lo ∨ hi ≤ k) : AN V' lo hi av cv ge ce M E :=
  ⟨own_gr h.f hg (fun k hk e => by have h1 := h.hf k hk; have h2 := hr k e.symm; omega), own_gr h.s hg (fun k hk e => by
    have h1 := h.hs
    have h2 := hr k e.symm
    have h3 : ge = k := Option.some.inj hk
    omega), h.hf, h.hs⟩
end Go.Proofs.YtngppfjphbodcaaGreatDoor
