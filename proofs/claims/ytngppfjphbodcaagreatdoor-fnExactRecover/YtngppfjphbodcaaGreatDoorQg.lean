/-
  Recovery, the program's side: deleteAbove.
-/
import Derived.Test.YtngppfjphbodcaaGreatDoorQc
namespace Go.Proofs.YtngppfjphbodcaaGreatDoor
open Go.RowKit
theorem Tryz.infoOp : (Tryz.prog.info? 53).map (fun i => (i.zero, i.size, i.bytes)) = some (some (.agg #[.int .i64 0, .string ByteArray.empty, .string ByteArray.empty, .int .i64 0]), 4, 48) := by kernel_rfl
def cellsO (o : Op3) : List Value := [.int .i64 o.kd, .string o.nm, .string ByteArray.empty, .int .i64 o.sz]
def OwnO (w : World) (B g cap : Nat) (O : List Op3) : Prop := w.ownsRow B 53 4 (.slice (some ⟨g, 0, none⟩) O.length cap) O.length ((O.map cellsO).flatten)
theorem OwnO.later {w w' : World} {B g cap : Nat} {O : List Op3} (h : OwnO w B g cap O) (hb : Below w.heap.size w w') : OwnO w' B g cap O := own_below h hb
theorem OwnO.new (w : World) : OwnO (w.alloc (.cells #[] 53)) w.heap.size w.heap.size 0 [] := World.ownsRow_lit w #[] 0 (Nat.le_refl _) (by simp [maxLen]) rfl
theorem OwnO.snoc {w : World} {B g cap : Nat} {O : List Op3} {o : Op3} (h : w.ownsRow B 53 4 (.slice (some ⟨g, 0, none⟩) (O.length + 1) cap) (O.length + 1) ((O.map cellsO).flatten ++ cellsO o)) : OwnO w B g cap (O ++ [o]) := by
  unfold OwnO
  simpa using h
theorem flatO_get (O : List Op3) (q : Nat) (hq : q < O.length) (j : Nat) (hj : j < 4) : ((O.map cellsO).flatten)[q * 4 + j]? = (cellsO O[q])[j]? := by
  induction O generalizing q with
  | nil => simp at hq
  | cons o r ih =>
    have h4 : (cellsO o).length = 4 := rfl
    rw [List.map_cons, List.flatten_cons]
    cases q with
    | zero =>
      rw [List.getElem?_append_left (by omega)]
      simp
    | succ q =>
      rw [List.getElem?_append_right (by omega), h4, show (q + 1) * 4 + j - 4 = q * 4 + j by omega]
      exact ih q (by simpa using hq)
theorem own_op {w : World} {B g cap : Nat} {O : List Op3} (h : OwnO w B g cap O) (q : Nat) (hq : q < O.length) : w.cell? ⟨g, q * 4, none⟩ = some (.int .i64 O[q].kd) ∧ w.cell? ⟨g, q * 4 + 1, none⟩ = some (.string O[q].nm) ∧ w.cell? ⟨g, q * 4 + 2, none⟩ = some (.string ByteArray.empty) ∧ w.cell? ⟨g, q * 4 + 3, none⟩ = some (.int .i64 O[q].sz) := by
  have hc := World.ownsRow.cells h (g := g) rfl
  have hadd : ∀ j, (⟨g, 0, none⟩ : Addr).add j = ⟨g, j, none⟩ := fun j => by unfold Addr.add; split <;> simp_all
  have hk : ∀ j v, j < 4 → (cellsO O[q])[j]? = some v → w.cell? ⟨g, q * 4 + j, none⟩ = some v := fun j v hj hv => by
    rw [← hadd]
    exact hc _ _ (by rw [flatO_get O q hq j hj]; exact hv)
  exact ⟨hk 0 _ (by omega) rfl, hk 1 _ (by omega) rfl, hk 2 _ (by omega) rfl, hk 3 _ (by omega) rfl⟩
theorem del_all (L : List Fil) (l : Nat) : delO (L.take L.length) l = delO L l := by rw [List.take_length]
theorem del_zero (L : List Fil) (l : Nat) : delO (L.take 0) l = [] := rfl
theorem del_len (L : List Fil) (l : Nat) : (delO L l).length ≤ L.length := by
  unfold delO
  rw [List.length_map]
  exact Nat.le_trans (List.length_filter_le _ _) (by simp)
/-- The operations are such as a step takes. -/
def OkO (O : List Op3) : Prop := ∀ o ∈ O, 1 ≤ o.kd ∧ o.kd ≤ 5 ∧ okFn o.nm = true
theorem del_ok {L : List Fil} {x1 : Int} (h : Good L x1) (l : Nat) : OkO (delO L l) := by
  intro o ho
  unfold delO at ho
  obtain ⟨f, hf, rfl⟩ := List.mem_map.1 ho
  have hm : f ∈ L := List.mem_reverse.1 (List.mem_filter.1 hf).1
  exact ⟨by show (1 : Int) ≤ 5; omega, by show (5 : Int) ≤ 5; omega, (h.each f hm).1⟩
theorem tail_ok (L : List Fil) (l g : Nat) : OkO (tailO L l g) := by
  intro o ho
  unfold tailO at ho
  split at ho
  · simp at ho; subst ho; exact ⟨by show (1 : Int) ≤ 1; omega, by show (1 : Int) ≤ 5; omega, seg_ok 1⟩
  · split at ho
    · simp at ho; subst ho; exact ⟨by show (1 : Int) ≤ 4; omega, by show (4 : Int) ≤ 5; omega, seg_ok l⟩
    · split at ho
      · simp at ho; subst ho; exact ⟨by show (1 : Int) ≤ 3; omega, by show (3 : Int) ≤ 5; omega, seg_ok l⟩
      · cases ho
theorem OkO.app {A B : List Op3} (h : OkO A) (k : OkO B) : OkO (A ++ B) := fun o ho => (List.mem_append.1 ho).elim (h o) (k o)
theorem tail_len (L : List Fil) (l g : Nat) : (tailO L l g).length ≤ 1 := by
  unfold tailO
  repeat' split
  all_goals simp
structure B4 (V : World) (B : Nat) (v0 v1 v2 v3 : Value) : Prop where
  c0 : V.cell? ⟨B, 0, none⟩ = some v0
  c1 : V.cell? ⟨B, 1, none⟩ = some v1
  c2 : V.cell? ⟨B, 2, none⟩ = some v2
  c3 : V.cell? ⟨B, 3, none⟩ = some v3
theorem B4.of {V : World} {B : Nat} {t : TypeId} {fr : Nat × Nat} {v0 v1 v2 v3 : Value} (h : V.heap[B]? = some (.cells #[v0, v1, v2, v3] t fr)) : B4 V B v0 v1 v2 v3 :=
  ⟨cell_of_row _ _ 0 _ _ _ h, cell_of_row _ _ 1 _ _ _ h, cell_of_row _ _ 2 _ _ _ h, cell_of_row _ _ 3 _ _ _ h⟩
structure B3 (V : World) (B : Nat) (v0 v1 v2 : Value) : Prop where
  c0 : V.cell? ⟨B, 0, none⟩ = some v0
  c1 : V.cell? ⟨B, 1, none⟩ = some v1
  c2 : V.cell? ⟨B, 2, none⟩ = some v2
theorem B3.of {V : World} {B : Nat} {t : TypeId} {fr : Nat × Nat} {v0 v1 v2 : Value} (h : V.heap[B]? = some (.cells #[v0, v1, v2] t fr)) : B3 V B v0 v1 v2 :=
  ⟨cell_of_row _ _ 0 _ _ _ h, cell_of_row _ _ 1 _ _ _ h, cell_of_row _ _ 2 _ _ _ h⟩
theorem set3_row {V : World} {Q : Nat} {t : TypeId} {z0 z1 z2 : Value} (v0 v1 v2 : Value) (h : V.heap[Q]? = some (.cells #[z0, z1, z2] t (0, 0))) : (((V.setCell ⟨Q, 0, none⟩ v0).setCell ⟨Q, 1, none⟩ v1).setCell ⟨Q, 2, none⟩ v2).heap[Q]? = some (.cells #[v0, v1, v2] t (0, 0)) :=
  heap_setCell_same _ _ 2 _ _ _ (heap_setCell_same _ _ 1 _ _ _ (heap_setCell_same _ _ 0 _ _ _ h))
/-- The walk's state: the boxes and the files. -/
structure HS (w x : World) (gM n cM : Nat) (L : List Fil) (x1 x2 x3 x4 : Int) (x5 : Bool) : Prop where
  sw : SW w x (.slice (some ⟨gM, 0, none⟩) n cM) x1 x2 x3 x4 x5
  own : OwnL x w.heap.size (.slice (some ⟨gM, 0, none⟩) n cM) L
theorem HS.later {w x y : World} {gM n cM : Nat} {L : List Fil} {x1 x2 x3 x4 : Int} {x5 : Bool} (h : HS w x gM n cM L x1 x2 x3 x4 x5) (hb : Below x.heap.size x y) : HS w y gM n cM L x1 x2 x3 x4 x5 := ⟨h.sw.later hb, own_below h.own hb⟩
theorem HS.fl {w x : World} {gM n cM : Nat} {L : List Fil} {x1 x2 x3 x4 : Int} {x5 : Bool} (h : HS w x gM n cM L x1 x2 x3 x4 x5) (hL : L.length = n) : FL x (some ⟨gM, 0, none⟩) n (nthF L) := by
  have h1 := h.own
  subst hL
  exact h1.f.fl
theorem HS.grown {w x y : World} {gM n cM q : Nat} {L : List Fil} {x1 x2 x3 x4 : Int} {x5 : Bool} (h : HS w x gM n cM L x1 x2 x3 x4 x5) (hg : x.grownBy y (some q)) (hq : w.heap.size + 1 + 1 + 1 < q) {X : Array Value} {t : TypeId} {fr : Nat × Nat} (hr : x.heap[q]? = some (.cells X t fr)) (ht : t ≠ 49) : HS w y gM n cM L x1 x2 x3 x4 x5 :=
  ⟨h.sw.grown hg hq, orw_grown h.own hg (fun e => orw_ne h.own hr ht (Option.some.inj e))⟩
theorem HS.file {w x : World} {gM n cM : Nat} {L : List Fil} {x1 x2 x3 x4 : Int} {x5 : Bool} (h : HS w x gM n cM L x1 x2 x3 x4 x5) (hL : L.length = n) (k : Nat) (hk : k < n) : x.cell? ⟨gM, k * 3, none⟩ = some (.string (nthF L k).s) ∧ x.cell? ⟨gM, k * 3 + 1, none⟩ = some (.string (nthF L k).d) ∧ x.cell? ⟨gM, k * 3 + 2, none⟩ = some (.int .i64 (nthF L k).y) := by
  obtain ⟨b, off, e, c0, c1, c2⟩ := h.fl hL k hk
  injection e with e
  injection e with e1 e2
  subst e1 e2
  simp only [Nat.zero_add] at c0 c1 c2
  exact ⟨c0, c1, c2⟩
theorem w64n {z : Int} {k : Nat} (h : z = (k : Int)) (hk : k ≤ 1000000000) : wrap64 z = (k : Int) := by
  subst h
  unfold wrap64
  omega
theorem kw64 {z : Int} {k : Nat} (h : z = (k : Int)) (hk : k ≤ 1000000000) : IntKind.i64.wrap z = (k : Int) := by
  rw [IntKind.wrap_i64]
  subst h
  omega
theorem sSegZ (n : Nat) (z : Int) (hz : z = (n : Int)) (w : World) (hn : n ≤ 10000) : Calls Tryz.prog 19 #[.int .i64 (IntKind.i64.wrap z)] w fun e w' => e = .returned (.string (seg n)) ∧ Below w.heap.size w w' := by
  rw [kw64 hz (by omega)]
  exact sSegment n w hn (seg n) rfl
theorem cut2 {F : World → Nat → Prop} {Q : Prop} (G : World → Nat → Prop) (main : (∀ v b, F v b → G v b) → Q) (rest : ∀ v b, F v b → G v b) : Q := main rest
theorem less_self (x : List UInt8) : Op.bytesLess x x = false := by
  cases h : Op.bytesLess x x with
  | false => rfl
  | true => exact absurd (less_asym x x h) (by rw [h]; decide)
theorem lo_self {M : List Fil} (hs : Srt M) (j : Nat) (hj : j < M.length) : LoB (nthF M) M.length (nthF M j).s j := by
  refine ⟨by omega, fun k hk => hs k j hk hj, fun k hk hk2 => ?_⟩
  by_cases e : k = j
  · subst e; exact less_self _
  · exact less_asym _ _ (hs j k (by omega) hk2)
theorem hit_self {M : List Fil} (j : Nat) (hj : j < M.length) : hitB (nthF M) M.length (nthF M j).s j = true := by
  unfold hitB
  simp [hj]
theorem st_code {L M : List Fil} {x1 x2 x3 x4 : Int} {x5 : Bool} {kd : Int} {nm dt : ByteArray} {sz r z2 : Int} {z5 : Bool} (he : stS L x1 x2 x3 x4 x5 kd nm dt sz r = (M, z2, z5, 0)) : M = (doS L x1 kd nm dt sz r).1 ∧ (doS L x1 kd nm dt sz r).2 = 0 ∧ z5 = x5 := by
  unfold stS at he
  repeat' split at he
  all_goals simp at he
  exact ⟨he.1.symm, he.2.2.2, he.2.2.1.symm⟩
theorem st_del {L M : List Fil} {l j : Nat} (hj : j < L.length) (hn : l < segN (nthF L j).s) {x1 x2 x3 x4 : Int} {x5 : Bool} (hs : Srt (sv L l (j + 1))) {z2 : Int} {z5 : Bool} (he : stS (sv L l (j + 1)) x1 x2 x3 x4 x5 5 (nthF L j).s ⟨#[]⟩ 0 (fdI (sv L l (j + 1)) (nthF L j).s) = (M, z2, z5, 0)) : M = sv L l j := by
  obtain ⟨h1, -, -⟩ := st_code he
  have hlen := (sv_len L l (j + 1) (by omega)).1
  have hnth := sv_nth L l (j + 1) j (by omega) (by omega)
  have hlo := lo_self hs j (by omega)
  have hhi := hit_self (M := sv L l (j + 1)) j (by omega)
  rw [hnth] at hlo hhi
  have hr : fdI (sv L l (j + 1)) (nthF L j).s = (j : Int) := fd_same (fd_at _ _) (fd_hit hlo hhi)
  rw [h1, hr]
  unfold doS
  rw [if_neg (by decide), if_neg (by omega), if_neg (by decide), if_neg (by decide), if_neg (by decide)]
  show wth _ _ _ true = _
  rw [wth_del hlo hhi hs, sv_del L l j hj hn]
set_option maxRecDepth 20000 in
set_option maxHeartbeats 8000000 in
theorem iDelAbove (p B : Nat) (L : List Fil) (x1 x2 x3 x4 : Int) (x5 : Bool) (l : Nat) (w : World) (h : Dk w p B L x1 x2 x3 x4 x5) (hok : Ok6 L x1 x2 1048576) (M : List Fil) (y2 : Int) (y5 : Bool) (yc : Int) (hR : runO x1 x3 x4 (delO L l) L x2 x5 = (M, y2, y5, yc)) :
    Calls Tryz.prog 58 #[.pointer (some ⟨p, 0, none⟩), .int .i64 (l : Int)] w fun e w' => e = .returned (.int .i64 yc) ∧ Dk w' p B M x1 y2 x3 x4 y5 ∧ BK B p w w' ∧ (yc = 0 → M = sv L l 0 ∧ Ok6 M x1 y2 1048576) := by
  have HR : Hid (runO x1 x3 x4 (delO L l) L x2 x5 = (M, y2, y5, yc)) := hR
  clear hR
  have hBw : B ≤ w.heap.size := by
    have := h.lt
    omega
  have hn := hok.good.len
  obtain ⟨n, hL⟩ : ∃ n, L.length = n := ⟨_, rfl⟩
  have HL : Hid (L.length = n) := hL
  obtain ⟨g, cap, hD, hO, hBp⟩ := id h
  rw [hL] at hD hn
  have c4 := hD.box.c4
  clear hL
  go_enter Tryz.func58, Tryz.ntmps58
  go_wp2
  go_loopw [5, 6, 7] (fun iv _ _ wr => ∃ (i : Nat) (z2 : Int) (z5 : Bool), i ≤ n ∧ iv = .int .i64 ((i : Int) - 1) ∧ Dk wr p B (sv L l i) x1 z2 x3 x4 z5 ∧ Ok6 (sv L l i) x1 z2 1048576 ∧ Hid (runO x1 x3 x4 (delO (L.take i) l) (sv L l i) z2 z5 = (M, y2, y5, yc)) ∧ BK B p w wr) (fun iv _ _ _ => (intOf iv + 1).toNat)
  case atStart => exact ⟨n, x2, x5, Nat.le_refl _, by go_num, by rw [← HL.out, sv_all]; exact h, by rw [← HL.out, sv_all]; exact hok, by
    show _ = _
    rw [← HL.out, sv_all, List.take_length]
    exact HR.out, BK.of (Below.refl _ _) hBw⟩
  case round =>
    clear h hok hD hO c4
    obtain ⟨i, z2, z5, hi, rfl, hD, hok, HRun, hK⟩ := hrel
    cases i with
    | zero =>
      have hrun := HRun.out
      rw [del_zero] at hrun
      simp only [runO, Prod.mk.injEq] at hrun
      obtain ⟨rfl, rfl, rfl, rfl⟩ := hrun
      go_wp2
      go_ret
      first | exact ⟨rfl, hD, hK⟩ | exact ⟨rfl, hD, hK, fun _ => ⟨rfl, hok⟩⟩
    | succ j =>
      obtain ⟨g, cap, hA, hO, hBp⟩ := id hD
      have hlen := sv_len L l (j + 1) (by rw [HL.out]; exact hi)
      have hnth := sv_nth L l (j + 1) j (by omega) (by rw [HL.out]; exact hi)
      obtain ⟨b', off', e, c0, c1, c2⟩ := hO.f.fl j (by omega)
      injection e with e
      injection e with e1 e2
      subst e1 e2
      simp only [Nat.zero_add] at c0
      rw [hnth] at c0
      clear c1 c2
      have c4 := hA.box.c4
      have hgd := hok.good.each _ (nth_mem (sv L l (j + 1)) j (by omega))
      rw [hnth] at hgd
      have htk := del_take L l j (by rw [HL.out]; omega)
      have HDl : Hid (∀ {M' : List Fil} {q2 : Int} {q5 : Bool}, l < segN (nthF L j).s → stS (sv L l (j + 1)) x1 z2 x3 x4 z5 5 (nthF L j).s ⟨#[]⟩ 0 (fdI (sv L l (j + 1)) (nthF L j).s) = (M', q2, q5, 0) → M' = sv L l j) := fun hh he => st_del (by rw [HL.out]; omega) hh hok.good.pw.srt he
      have HKp : Hid (segN (nthF L j).s ≤ l → sv L l (j + 1) = sv L l j) := fun hh => sv_keep L l j (by rw [HL.out]; omega) hh
      obtain ⟨nm, hnm⟩ : ∃ nm, (nthF L j).s = nm := ⟨_, rfl⟩
      rw [hnm] at c0 hgd htk HDl HKp
      obtain ⟨y, hy⟩ : ∃ y, segN nm = y := ⟨_, rfl⟩
      have HY : Hid (segN nm = y) := hy
      rw [hy] at htk HDl HKp
      have HTK : Hid (delO (L.take (j + 1)) l = (if l < y then [⟨5, nm, 0⟩] else []) ++ delO (L.take j) l) := htk
      have hns := okFn_size hgd.1
      obtain ⟨mm, hmm⟩ : ∃ mm, (sv L l (j + 1)).length = mm := ⟨_, rfl⟩
      rw [hmm] at c4 hlen
      have hj0 : (0 : Int) ≤ (j : Int) := by omega
      have hj1 : (j : Int) < (mm : Int) := by omega
      have hje : (((j + 1 : Nat) : Int) - 1) = (j : Int) := by omega
      rw [hje]
      clear htk hy hnth hA hO hmm hnm hje
      have hszw : B ≤ wr.heap.size := by
        have := hD.lt
        omega
      by_cases hyl : y ≤ l
      · have hyi : (y : Int) ≤ (l : Int) := by omega
        go_wp2_with (go_at_call 73; refine (iNumber nm _ y HY.out (by omega)).mono ?_; rintro e w1 ⟨rfl, hb1⟩)
        go_roundw
        case rel =>
          have e := HKp.out hyl
          rw [e] at hD hok HRun
          exact ⟨j, z2, z5, by omega, by go_num, hD.later hb1, hok, by
            show _ = _
            rw [← HRun.out, HTK.out, if_neg (by omega), List.nil_append], hK.trans (BK.of hb1 hszw)⟩
        case measure => first | (simp [intOf]; done) | (simp [intOf]; omega)
      · have hyi : ¬ (y : Int) ≤ (l : Int) := by omega
        obtain ⟨M', q2, q5, qc, hst⟩ : ∃ M' q2 q5 qc, stS (sv L l (j + 1)) x1 z2 x3 x4 z5 5 nm ByteArray.empty 0 (fdI (sv L l (j + 1)) nm) = (M', q2, q5, qc) := ⟨_, _, _, _, rfl⟩
        have hOk2 : Ok6 M' x1 q2 1048576 := hok.step (fd_at _ nm) hgd.1 hst
        have HST : Hid (stS (sv L l (j + 1)) x1 z2 x3 x4 z5 5 nm ByteArray.empty 0 (fdI (sv L l (j + 1)) nm) = (M', q2, q5, qc)) := hst
        clear hst
        have hrun := HRun.out
        rw [HTK.out, if_pos (by omega), List.singleton_append] at hrun
        have HRn : Hid (runO x1 x3 x4 (⟨5, nm, 0⟩ :: delO (L.take j) l) (sv L l (j + 1)) z2 z5 = (M, y2, y5, yc)) := hrun
        clear hrun
        go_upto_region 7 with (first | (go_at_call 73; refine (iNumber nm _ y HY.out (by omega)).mono ?_; rintro e w1 ⟨rfl, hb1⟩; have hsz1 := hb1.size) | (go_at_call 59; refine (iStepE p B (sv L l (j + 1)) x1 z2 x3 x4 z5 5 nm ByteArray.empty 0 (fdI (sv L l (j + 1)) nm) M' q2 q5 qc 1048576 _ (hD.later hb1) hok (by omega) (by omega) (by omega) hgd.1 (by decide) (fd_at _ nm) HST.out).mono ?_; rintro e w2 ⟨rfl, hD2, hK2⟩))
        have hK3 := (hK.trans (BK.of hb1 hszw)).trans hK2
        by_cases hc : qc = 0
        · subst hc
          go_wp2
          go_roundw
          case rel =>
            have e := HDl.out (by omega) HST.out
            subst e
            exact ⟨j, q2, q5, by omega, by go_num, hD2, hOk2, by
              show _ = _
              rw [← HRn.out]
              exact (run_go (o := ⟨5, nm, 0⟩) HST.out).symm, hK3⟩
          case measure => first | (simp [intOf]; done) | (simp [intOf]; omega)
        · have hrun := HRn.out
          rw [run_stop (o := ⟨5, nm, 0⟩) HST.out hc] at hrun
          simp only [Prod.mk.injEq] at hrun
          obtain ⟨rfl, rfl, rfl, rfl⟩ := hrun
          go_wp2
          go_ret
          first | exact ⟨rfl, hD2, hK3⟩ | exact ⟨rfl, hD2, hK3, fun e => absurd e hc⟩
end Go.Proofs.YtngppfjphbodcaaGreatDoor
