/-
  AppendEntry, the specification's side: what its walks share.
-/
import Derived.Test.YtngppfjphbodcaaGreatDoorHm
import Derived.Test.YtngppfjphbodcaaGreatDoorShelf
import Derived.Lib.AppendIntMem
import Derived.Test.YtngppfjphbodcaaGreatDoorPa
namespace Go.Proofs.YtngppfjphbodcaaGreatDoor
open Go.RowKit
/-- The library's table of powers lies there. -/
def T10 (w : World) : Prop := Lib.TabIs Tryz.prog w "internal/strconv.uint64pow10" .u64 Lib.pow10Tab
theorem T10.later {w w' : World} (h : T10 w) (hb : Below w.heap.size w w') : T10 w' := Lib.tabBelow_of_tabIs h w' hb
def pd : Nat → Nat → ByteArray → ByteArray
  | 0, _, acc => acc
  | f + 1, i, acc => pd f (i / 10) (⟨#[UInt8.ofNat (48 + i % 10)]⟩ ++ acc)
/-- The name of a segment. -/
def seg (n : Nat) : ByteArray := ⟨#[115, 101, 103, 45]⟩ ++ pd 4 n ⟨#[]⟩
theorem pd_step (k j : Nat) (acc : ByteArray) (h : k < 4) : pd (4 - k) j acc = pd (4 - (k + 1)) (j / 10) (⟨#[UInt8.ofNat (48 + j % 10)]⟩ ++ acc) := by
  rw [show 4 - k = (4 - (k + 1)) + 1 by omega, pd]
set_option maxRecDepth 20000 in
set_option maxHeartbeats 2000000 in
theorem sSegment (n : Nat) (w : World) (hn : n ≤ 10000) (y : ByteArray) (hy : seg n = y) : Calls Tryz.prog 19 #[.int .i64 n] w fun e w' => e = .returned (.string y) ∧ Below w.heap.size w w' := by
  have HY : Hid (seg n = y) := hy
  clear hy
  go_enter Tryz.func19, Tryz.ntmps19
  go_wp2
  go_loopw [0, 3, 4] (fun x s i wr => ∃ (j : Nat) (acc : ByteArray) (k : Nat), k ≤ 4 ∧ j ≤ 10000 ∧ acc.size ≤ k ∧ x = .int .i64 j ∧ s = .string acc ∧ i = .int .i64 k ∧ pd (4 - k) j acc = pd 4 n ⟨#[]⟩ ∧ Below w.heap.size w wr) (fun _ _ i _ => 4 - (intOf i).toNat)
  case atStart => exact ⟨n, ⟨#[]⟩, 0, by omega, hn, Nat.le_refl _, rfl, rfl, rfl, rfl, Below.refl _ _⟩
  case round =>
    obtain ⟨j, acc, k, hk, hj, hsz, rfl, rfl, rfl, hd, hb⟩ := hrel
    have HD : Hid (pd (4 - k) j acc = pd 4 n ⟨#[]⟩) := hd
    clear hd
    by_cases hlt : k < 4
    · have HS : Hid (pd (4 - k) j acc = pd (4 - (k + 1)) (j / 10) (⟨#[UInt8.ofNat (48 + j % 10)]⟩ ++ acc)) := pd_step k j acc hlt
      have hlt' : (k : Int) < 4 := by omega
      have hx1 : (48 : Int) ≤ 48 + (j : Int) % 10 := by omega
      have hx2 : 48 + (j : Int) % 10 ≤ 57 := by omega
      have hcv := conv1 wr (48 + (j : Int) % 10) hx1 hx2
      have e : (48 + (j : Int) % 10).toNat = 48 + j % 10 := by omega
      rw [e] at hcv
      have hw8 : IntKind.u8.wrap (48 + (j : Int) % 10) = 48 + (j : Int) % 10 := by rw [IntKind.wrap_u8']; omega
      clear e
      obtain ⟨c8, hc8⟩ : ∃ c, UInt8.ofNat (48 + j % 10) = c := ⟨_, rfl⟩
      rw [hc8] at hcv HS
      clear hc8
      go_wp2
      go_roundw
      case rel => exact ⟨j / 10, _, k + 1, by omega, by omega, by have := size1 c8 acc; omega, by go_num, rfl, by go_num, by rw [← HS.out]; exact HD.out, hb.alloc hb.size _⟩
      case measure => simp [intOf]; omega
    · obtain rfl : k = 4 := by omega
      have HE : Hid (⟨#[115, 101, 103, 45]⟩ ++ acc = y) := by show ⟨#[115, 101, 103, 45]⟩ ++ acc = y; rw [← HY.out]; unfold seg; rw [← HD.out]; rfl
      go_wp2
      go_ret
      exact ⟨by rw [← HE.out]; rfl, hb⟩
theorem dec5 (n : Nat) (h : n ≤ 9999) : Lib.decDigits (10000 + n) = 49 :: [UInt8.ofNat (48 + n / 10 / 10 / 10 % 10), UInt8.ofNat (48 + n / 10 / 10 % 10), UInt8.ofNat (48 + n / 10 % 10), UInt8.ofNat (48 + n % 10)] := by
  rw [Lib.decDigits, dif_neg (by omega), show (10000 + n) / 10 = 1000 + n / 10 by omega, show (10000 + n) % 10 = n % 10 by omega]
  rw [Lib.decDigits, dif_neg (by omega), show (1000 + n / 10) / 10 = 100 + n / 10 / 10 by omega, show (1000 + n / 10) % 10 = n / 10 % 10 by omega]
  rw [Lib.decDigits, dif_neg (by omega), show (100 + n / 10 / 10) / 10 = 10 + n / 10 / 10 / 10 by omega, show (100 + n / 10 / 10) % 10 = n / 10 / 10 % 10 by omega]
  rw [Lib.decDigits, dif_neg (by omega), show (10 + n / 10 / 10 / 10) / 10 = 1 by omega, show (10 + n / 10 / 10 / 10) % 10 = n / 10 / 10 / 10 % 10 by omega]
  rw [Lib.decDigits_one (by omega)]
  rfl
theorem pd4 (n : Nat) : pd 4 n ⟨#[]⟩ = ⟨#[UInt8.ofNat (48 + n / 10 / 10 / 10 % 10), UInt8.ofNat (48 + n / 10 / 10 % 10), UInt8.ofNat (48 + n / 10 % 10), UInt8.ofNat (48 + n % 10)]⟩ := rfl
theorem seg_size (n : Nat) : (seg n).size = 8 := rfl
theorem dig_ok (n : Nat) : isFnb (UInt8.ofNat (48 + n % 10)).toNat = true := by
  have h : (UInt8.ofNat (48 + n % 10)).toNat = 48 + n % 10 := by simp; omega
  rw [h]
  unfold isFnb isDig
  simp only [Bool.or_eq_true, Bool.and_eq_true, decide_eq_true_eq]
  omega
theorem seg_ok (n : Nat) : okFn (seg n) = true := by
  have e : (seg n).data.toList = [115, 101, 103, 45, UInt8.ofNat (48 + n / 10 / 10 / 10 % 10), UInt8.ofNat (48 + n / 10 / 10 % 10), UInt8.ofNat (48 + n / 10 % 10), UInt8.ofNat (48 + n % 10)] := rfl
  unfold okFn
  rw [Bool.and_eq_true]
  refine ⟨by rw [seg_size]; rfl, ?_⟩
  unfold allB
  rw [e]
  simp only [List.all_cons, List.all_nil, Bool.and_true, dig_ok]
  rfl
theorem iSegment (n : Nat) (w : World) (hn : n ≤ 9999) (hT : T10 w) (y : ByteArray) (hy : seg n = y) : Calls Tryz.prog 56 #[.int .i64 n] w fun e w' => e = .returned (.string y) ∧ Below w.heap.size w w' := by
  have HY : Hid (⟨#[115, 101, 103, 45]⟩ ++ (⟨(Lib.itoa (10000 + (n : Int))).toArray⟩ : ByteArray).extract 1 (⟨(Lib.itoa (10000 + (n : Int))).toArray⟩ : ByteArray).size = y) := by
    show _ = _
    rw [← hy, show (10000 + (n : Int)) = ((10000 + n : Nat) : Int) by omega, Lib.itoa_nonneg, dec5 n hn]
    rfl
  have hsz : (⟨(Lib.itoa (10000 + (n : Int))).toArray⟩ : ByteArray).size = 5 := by
    rw [show (10000 + (n : Int)) = ((10000 + n : Nat) : Int) by omega, Lib.itoa_nonneg, dec5 n hn]
    rfl
  clear hy
  obtain ⟨S, hS⟩ : ∃ S : ByteArray, S = ⟨(Lib.itoa (10000 + (n : Int))).toArray⟩ := ⟨_, rfl⟩
  have hItoa := Tryz.strconv_Itoa (10000 + (n : Int)) (by omega) (by omega) w hT
  rw [← hS] at HY hsz hItoa
  clear hS
  have h1 : (1 : Int) ≤ S.size := by omega
  go_enter Tryz.func56, Tryz.ntmps56
  go_wp2_with (go_at_call 68; refine hItoa.mono ?_; rintro e w1 ⟨rfl, kk, os, hw1⟩)
  go_ret
  exact ⟨by rw [← HY.out, hsz]; rfl, Lib.below_grow _ _ (Nat.le_refl _) _ _⟩
def logB (l s : Int) : Bool := btw l 1 9999 && btw s 0 1000000000
theorem frm_size (s : ByteArray) : (frm s).size = 0 ∨ (1 ≤ s.size ∧ s.size ≤ 60000 ∧ (frm s).size = 8 + s.size) := by
  rcases h : btw s.size 1 60000
  · rw [frm_no h]; exact .inl rfl
  · rw [frm_yes h]
    unfold btw at h
    simp only [Bool.and_eq_true, decide_eq_true_eq] at h
    refine .inr ⟨by omega, by omega, ?_⟩
    rw [ByteArray.size_append, ByteArray.size_append, bs_size, bs_size, numI_len, numI_len]
theorem eqLog (l s : Int) (w : World) : Calls Tryz.prog 9 #[.agg #[.int .i64 l, .int .i64 s], .agg #[.int .i64 l, .int .i64 s]] w fun e w' => e = .returned (.bool true) ∧ Below w.heap.size w w' := by
  go_enter Tryz.func9, Tryz.ntmps9
  go_wp2
  go_ret
  exact ⟨rfl, bstep (bal _ _) (bal _ _)⟩
structure Ok6 (L : List Fil) (x1 x2 : Int) (N : Nat) : Prop where
  good : Good L x1
  x1m : x1 ≤ 1000000000
  lo : 0 ≤ x2
  hi : x2 ≤ 1000000000000000
  sum : sumL L ≤ N
theorem Ok6.step {L M : List Fil} {x1 x2 x3 x4 : Int} {x5 : Bool} {kd : Int} {nm dt : ByteArray} {sz r z2 : Int} {z5 : Bool} {zc : Int} {N : Nat} (h : Ok6 L x1 x2 N) (hr : FdAt L nm r) (hnm : okFn nm = true) (he : stS L x1 x2 x3 x4 x5 kd nm dt sz r = (M, z2, z5, zc)) : Ok6 M x1 z2 (N + dt.size) := by
  have h1 := st_good (x3 := x3) (x4 := x4) (x5 := x5) h.good h.lo h.hi kd nm dt sz r hr hnm
  rw [he] at h1
  have h2 := h.sum
  refine ⟨h1.1, h.x1m, h1.2.2.1, h1.2.2.2, ?_⟩
  have h3 := h1.2.1
  dsimp only at h3
  split at h3 <;> omega
theorem Ok6.wk {L : List Fil} {x1 x2 : Int} {N N' : Nat} (h : Ok6 L x1 x2 N) (hN : N ≤ N') : Ok6 L x1 x2 N' := ⟨h.good, h.x1m, h.lo, h.hi, Nat.le_trans h.sum hN⟩
theorem Ok6.fit {L : List Fil} {x1 x2 : Int} {N : Nat} (h : Ok6 L x1 x2 N) (hN : N ≤ 1179648) {kd : Int} {nm dt : ByteArray} (h1 : 1 ≤ kd) (h5 : kd ≤ 5) (hnm : okFn nm = true) (hdt : dt.size ≤ 131072) : Fit L x1 kd nm dt := by
  have hz := okFn_size hnm
  have hs := h.sum
  refine ⟨h.good.small (by omega), h1, h5, by omega, by omega, by omega, ?_, h.x1m⟩
  rw [sumD_list]
  exact h.good.sum
theorem Ok6.ok {L : List Fil} {x1 x2 : Int} {N : Nat} (h : Ok6 L x1 x2 N) (x3 x4 : Int) (h3 : 0 ≤ x3 ∧ x3 ≤ 1000000000000000) (h4 : 0 ≤ x4 ∧ x4 ≤ 1000000000000000) : okFs L.length (nthF L) x1 x2 x3 x4 = true := by
  have h1 := h.good.sum
  exact (okFs_iff L x1 x2 x3 x4).2 ⟨h.good, ⟨by omega, h.x1m⟩, ⟨h.lo, h.hi⟩, h3, h4⟩
theorem Dk.later {w w' : World} {p B : Nat} {L : List Fil} {x1 x2 x3 x4 : Int} {x5 : Bool} (h : Dk w p B L x1 x2 x3 x4 x5) (hb : Below w.heap.size w w') : Dk w' p B L x1 x2 x3 x4 x5 := by
  obtain ⟨g, cap, h1, h2, h3⟩ := h
  exact ⟨g, cap, h1.later hb, h2.later hb, h3⟩
theorem Dk.lt {w : World} {p B : Nat} {L : List Fil} {x1 x2 x3 x4 : Int} {x5 : Bool} (h : Dk w p B L x1 x2 x3 x4 x5) : p < w.heap.size ∧ B ≤ p := by
  obtain ⟨g, cap, h1, h2, h3⟩ := h
  exact ⟨(Array.getElem?_eq_some_iff.1 h1).1, h3⟩
/-- A step, told by what it answers. -/
theorem iStepE (p B : Nat) (L : List Fil) (x1 x2 x3 x4 : Int) (x5 : Bool) (kd : Int) (nm dt : ByteArray) (sz r : Int) (M : List Fil) (z2 : Int) (z5 : Bool) (zc : Int) (N : Nat) (w : World) (h : Dk w p B L x1 x2 x3 x4 x5) (hok : Ok6 L x1 x2 N) (hN : N ≤ 1179648) (h1 : 1 ≤ kd) (h5 : kd ≤ 5) (hnm : okFn nm = true) (hdt : dt.size ≤ 131072) (hr : FdAt L nm r) (he : stS L x1 x2 x3 x4 x5 kd nm dt sz r = (M, z2, z5, zc)) :
    Calls Tryz.prog 59 #[.pointer (some ⟨p, 0, none⟩), .agg #[.int .i64 kd, .string nm, .string dt, .int .i64 sz]] w fun e w' => e = .returned (.int .i64 zc) ∧ Dk w' p B M x1 z2 x3 x4 z5 ∧ BK B p w w' := by
  have h2 := iStep p B L x1 x2 x3 x4 x5 kd nm dt sz r w h hok.lo hok.hi (hok.fit hN h1 h5 hnm hdt) hok.good.pw.srt hok.good.ne hok.good.len hr
  rw [he] at h2
  exact h2
theorem results_cell2_tmp {P : Program} {fn : Func} {p p' t0 : Tmp} {ty ty' : TypeId} (h : fn.results = #[.cell p ty, .cell p' ty', .tmp t0]) (tmps : Array Value) (w : World) (g : Nat) (t : TypeId) (cs : Array Value) (fr : Nat × Nat) (d : TypeDesc)
    (hp : tmps.getD p undef = .pointer (some ⟨g, 0, none⟩)) (hg : w.heap[g]? = some (.cells cs t fr))
    (hu : P.underlying ty = some d) (hd : (match d with | .struct _ | .array _ _ => true | _ => false) = true) (hi : (P.info? ty).map (·.size) = some cs.size)
    (g' : Nat) (t' : TypeId) (cs' : Array Value) (fr' : Nat × Nat) (d' : TypeDesc)
    (hp' : tmps.getD p' undef = .pointer (some ⟨g', 0, none⟩)) (hg' : w.heap[g']? = some (.cells cs' t' fr'))
    (hu' : P.underlying ty' = some d') (hd' : (match d' with | .struct _ | .array _ _ => true | _ => false) = true) (hi' : (P.info? ty').map (·.size) = some cs'.size) :
    (results fn tmps).run P w = .ok (.tuple #[.agg cs, .agg cs', tmps.getD t0 undef]) w := by
  have hp1 : tmps[p]?.getD undef = .pointer (some ⟨g, 0, none⟩) := by simpa using hp
  have hp2 : tmps[p']?.getD undef = .pointer (some ⟨g', 0, none⟩) := by simpa using hp'
  simp [results, h, hp1, hp2, asAddr, run_loadVar_row w g t ty cs fr d hg hu hd hi, run_loadVar_row w g' t' ty' cs' fr' d' hg' hu' hd' hi']
theorem four (w : World) (a b c d : Obj) : ((((w.alloc a).alloc b).alloc c).alloc d).heap[w.heap.size]? = some a ∧ ((((w.alloc a).alloc b).alloc c).alloc d).heap[w.heap.size + 1]? = some b ∧ ((((w.alloc a).alloc b).alloc c).alloc d).heap[w.heap.size + 1 + 1]? = some c ∧ ((((w.alloc a).alloc b).alloc c).alloc d).heap[w.heap.size + 1 + 1 + 1]? = some d ∧ Below w.heap.size w ((((w.alloc a).alloc b).alloc c).alloc d) := by
  have h1 := heap_alloc_new w a
  have h2 := heap_alloc_new (w.alloc a) b
  have h3 := heap_alloc_new ((w.alloc a).alloc b) c
  have h4 := heap_alloc_new (((w.alloc a).alloc b).alloc c) d
  simp only [World.size_alloc] at h2 h3 h4
  exact ⟨rowL h1 (bstep (bal _ _) (bstep (bal _ _) (bal _ _))), rowL h2 (bstep (bal _ _) (bal _ _)), rowL h3 (bal _ _), h4, bstep (bal _ _) (bstep (bal _ _) (bstep (bal _ _) (bal _ _)))⟩
theorem set2_row {V : World} {Q : Nat} {t : TypeId} {z0 z1 : Value} (v0 v1 : Value) (h : V.heap[Q]? = some (.cells #[z0, z1] t (0, 0))) : ((V.setCell ⟨Q, 0, none⟩ v0).setCell ⟨Q, 1, none⟩ v1).heap[Q]? = some (.cells #[v0, v1] t (0, 0)) :=
  heap_setCell_same _ _ 1 _ _ _ (heap_setCell_same _ _ 0 _ _ _ h)
theorem set2_oth {V : World} {Q P : Nat} {o : Obj} (v0 v1 : Value) (h : V.heap[P]? = some o) (hne : P ≠ Q) : ((V.setCell ⟨Q, 0, none⟩ v0).setCell ⟨Q, 1, none⟩ v1).heap[P]? = some o := rowO (rowO h hne) hne
theorem set2_below {w V : World} {Q : Nat} (v0 v1 : Value) (h : Below w.heap.size w V) (hQ : w.heap.size ≤ Q) : Below w.heap.size w ((V.setCell ⟨Q, 0, none⟩ v0).setCell ⟨Q, 1, none⟩ v1) := bset (bset h hQ) hQ
theorem keep2 {W : World} {Bo Q : Nat} {v : Value} {L : List Fil} {X : Array Value} {fr : Nat × Nat} {v0 v1 : Value} (h : OwnL W Bo v L) (hQ : W.heap[Q]? = some (.cells X 30 fr)) : OwnL ((W.setCell ⟨Q, 0, none⟩ v0).setCell ⟨Q, 1, none⟩ v1) Bo v L := by
  rcases h.2 with ⟨e, h0⟩ | ⟨g, cap', cur, e, hB, hg, h4⟩
  · exact ⟨h.1, Or.inl ⟨e, h0⟩⟩
  · exact ⟨h.1, Or.inr ⟨g, cap', cur, e, hB, set2_oth _ _ hg (fun e' => by subst e'; rw [hQ] at hg; simp at hg), h4⟩⟩
/-- The boxes of the arguments lie there. -/
structure Kx (w y : World) (cX cL : Array Value) : Prop where
  b : Below w.heap.size w y
  xr : y.heap[w.heap.size]? = some (.cells cX 28 (0, 0))
  lr : y.heap[w.heap.size + 1]? = some (.cells cL 30 (0, 0))
theorem Kx.later {w x y : World} {cX cL : Array Value} (h : Kx w x cX cL) (hb : Below x.heap.size x y) : Kx w y cX cL := ⟨bstep h.b hb, rowL h.xr hb, rowL h.lr hb⟩
theorem Kx.set8 {w x : World} {cX cL : Array Value} (h : Kx w x cX cL) (v0 v1 v2 v3 v4 v5 : Value) : Kx w ((((((x.setCell ⟨w.heap.size + 1 + 1, 0, none⟩ v0).setCell ⟨w.heap.size + 1 + 1, 1, none⟩ v1).setCell ⟨w.heap.size + 1 + 1, 2, none⟩ v2).setCell ⟨w.heap.size + 1 + 1, 3, none⟩ v3).setCell ⟨w.heap.size + 1 + 1, 4, none⟩ v4).setCell ⟨w.heap.size + 1 + 1, 5, none⟩ v5) cX cL := ⟨set6_below _ _ _ _ _ _ h.b (by omega), set6_oth _ _ _ _ _ _ h.xr (by omega), set6_oth _ _ _ _ _ _ h.lr (by omega)⟩
theorem Kx.set9 {w x : World} {cX cL : Array Value} (h : Kx w x cX cL) (v0 v1 : Value) : Kx w ((x.setCell ⟨w.heap.size + 1 + 1 + 1, 0, none⟩ v0).setCell ⟨w.heap.size + 1 + 1 + 1, 1, none⟩ v1) cX cL := ⟨set2_below _ _ h.b (by omega), set2_oth _ _ h.xr (by omega), set2_oth _ _ h.lr (by omega)⟩
/-- What both sides answer. -/
def RE (M : List Fil) (z1 z2 z3 z4 : Int) (z5 : Bool) (l' s' zc : Int) (w : World) (e : Ending) (w' : World) : Prop := ∃ av cv, e = .returned (.tuple #[.agg #[.slice av M.length cv, .int .i64 z1, .int .i64 z2, .int .i64 z3, .int .i64 z4, .bool z5], .agg #[.int .i64 l', .int .i64 s'], .int .i64 zc]) ∧ OwnF w' w.heap.size (.slice av M.length cv) M.length (nthF M) ∧ Below w.heap.size w w'
theorem sFrameE (s f : ByteArray) (hf : frm s = f) (w : World) (hs : s.size ≤ 1048576) : Calls Tryz.prog 50 #[.string s] w fun e w' => e = .returned (.string f) ∧ Below w.heap.size w w' := by subst hf; exact sFrame s w hs
theorem fin8 {w5 : World} {Q Q' : Nat} {t : TypeId} {z0 z1 z2 z3 z4 z5 : Value} (v0 v1 v2 v3 v4 v5 l0 l1 : Value) (h : w5.heap[Q]? = some (.cells #[z0, z1, z2, z3, z4, z5] t (0, 0))) (hne : Q ≠ Q') :
    ((((((((w5.setCell ⟨Q, 0, none⟩ v0).setCell ⟨Q, 1, none⟩ v1).setCell ⟨Q, 2, none⟩ v2).setCell ⟨Q, 3, none⟩ v3).setCell ⟨Q, 4, none⟩ v4).setCell ⟨Q, 5, none⟩ v5).setCell ⟨Q', 0, none⟩ l0).setCell ⟨Q', 1, none⟩ l1).heap[Q]? = some (.cells #[v0, v1, v2, v3, v4, v5] t (0, 0)) := set2_oth _ _ (set6_row _ _ _ _ _ _ h) hne
theorem fin9 {w5 : World} {Q Q' : Nat} {t : TypeId} {z0 z1 : Value} (v0 v1 v2 v3 v4 v5 l0 l1 : Value) (h : w5.heap[Q']? = some (.cells #[z0, z1] t (0, 0))) (hne : Q' ≠ Q) :
    ((((((((w5.setCell ⟨Q, 0, none⟩ v0).setCell ⟨Q, 1, none⟩ v1).setCell ⟨Q, 2, none⟩ v2).setCell ⟨Q, 3, none⟩ v3).setCell ⟨Q, 4, none⟩ v4).setCell ⟨Q, 5, none⟩ v5).setCell ⟨Q', 0, none⟩ l0).setCell ⟨Q', 1, none⟩ l1).heap[Q']? = some (.cells #[l0, l1] t (0, 0)) := set2_row _ _ (set6_oth _ _ _ _ _ _ h hne)
theorem finO {w5 : World} {Bo Q Q' : Nat} {v : Value} {L : List Fil} {X Y : Array Value} {fr fr' : Nat × Nat} {v0 v1 v2 v3 v4 v5 l0 l1 : Value} (h : OwnL w5 Bo v L) (hQ : w5.heap[Q]? = some (.cells X 28 fr)) (hQ' : w5.heap[Q']? = some (.cells Y 30 fr')) (hne : Q' ≠ Q) :
    OwnL ((((((((w5.setCell ⟨Q, 0, none⟩ v0).setCell ⟨Q, 1, none⟩ v1).setCell ⟨Q, 2, none⟩ v2).setCell ⟨Q, 3, none⟩ v3).setCell ⟨Q, 4, none⟩ v4).setCell ⟨Q, 5, none⟩ v5).setCell ⟨Q', 0, none⟩ l0).setCell ⟨Q', 1, none⟩ l1) Bo v L := keep2 (keep6 h hQ) (set6_oth _ _ _ _ _ _ hQ' hne)
theorem OwnL.wk {w : World} {B B' : Nat} {v : Value} {L : List Fil} (h : OwnL w B v L) (hB : B' ≤ B) : OwnL w B' v L :=
  ⟨h.1, h.2.imp id (fun ⟨g, cap, cur, e1, e2, e3⟩ => ⟨g, cap, cur, e1, Nat.le_trans hB e2, e3⟩)⟩
theorem Dk.set2 {w : World} {p B q : Nat} {L : List Fil} {x1 x2 x3 x4 : Int} {x5 : Bool} {X : Array Value} {fr : Nat × Nat} (h : Dk w p B L x1 x2 x3 x4 x5) (hq : w.heap[q]? = some (.cells X 30 fr)) (hne : p ≠ q) (v0 v1 : Value) : Dk ((w.setCell ⟨q, 0, none⟩ v0).setCell ⟨q, 1, none⟩ v1) p B L x1 x2 x3 x4 x5 := by
  obtain ⟨g, cap, h1, h2, h3⟩ := h
  exact ⟨g, cap, set2_oth _ _ h1 hne, keep2 h2 hq, h3⟩
theorem Dk.set1 {w : World} {p B q o : Nat} {L : List Fil} {x1 x2 x3 x4 : Int} {x5 : Bool} {X : Array Value} {fr : Nat × Nat} (h : Dk w p B L x1 x2 x3 x4 x5) (hq : w.heap[q]? = some (.cells X 30 fr)) (hne : p ≠ q) (v0 : Value) : Dk (w.setCell ⟨q, o, none⟩ v0) p B L x1 x2 x3 x4 x5 := by
  obtain ⟨g, cap, h1, h2, h3⟩ := h
  refine ⟨g, cap, rowO h1 hne, ?_, h3⟩
  rcases h2.2 with ⟨e, h0⟩ | ⟨g, cap', cur, e, hB, hg, h4⟩
  · exact ⟨h2.1, Or.inl ⟨e, h0⟩⟩
  · exact ⟨h2.1, Or.inr ⟨g, cap', cur, e, hB, rowO hg (fun e' => by subst e'; rw [hq] at hg; simp at hg), h4⟩⟩
theorem new2 (w5 : World) (z0 z1 v0 v1 : Value) (t : TypeId) : (((w5.alloc (.cells #[z0, z1] t)).setCell ⟨w5.heap.size, 0, none⟩ v0).setCell ⟨w5.heap.size, 1, none⟩ v1).heap[w5.heap.size]? = some (.cells #[v0, v1] t (0, 0)) ∧ Below w5.heap.size w5 (((w5.alloc (.cells #[z0, z1] t)).setCell ⟨w5.heap.size, 0, none⟩ v0).setCell ⟨w5.heap.size, 1, none⟩ v1) :=
  ⟨set2_row _ _ (heap_alloc_new w5 _), set2_below _ _ (bal _ _) (Nat.le_refl _)⟩
theorem iSegmentE (n : Nat) (z : Int) (hz : z = n) (w : World) (hn : n ≤ 9999) (hT : T10 w) (y : ByteArray) (hy : seg n = y) : Calls Tryz.prog 56 #[.int .i64 z] w fun e w' => e = .returned (.string y) ∧ Below w.heap.size w w' := by subst hz; exact iSegment n w hn hT y hy
theorem sSegmentE (n : Nat) (z : Int) (hz : z = n) (w : World) (hn : n ≤ 10000) (y : ByteArray) (hy : seg n = y) : Calls Tryz.prog 19 #[.int .i64 z] w fun e w' => e = .returned (.string y) ∧ Below w.heap.size w w' := by subst hz; exact sSegment n w hn y hy
theorem own_some {w : World} {B m cp : Nat} {ad : Addr} {L : List Fil} (h : OwnL w B (.slice (some ad) m cp) L) : ∃ g, ad = ⟨g, 0, none⟩ ∧ m = L.length := by
  have h1 := h.1
  rcases h.2 with ⟨e, _⟩ | ⟨g, cap', cur, e, _⟩
  · simp at e
  · simp at e
    exact ⟨g, e.1, e.2.1⟩
/-- A step, told by what it answers. -/
theorem sStepE (b off c : Nat) (L : List Fil) (x1 x2 x3 x4 : Int) (x5 : Bool) (kd : Int) (nm dt : ByteArray) (sz r : Int) (M : List Fil) (z2 : Int) (z5 : Bool) (zc : Int) (N : Nat) (w : World) (h : FL w (some ⟨b, off, none⟩) L.length (nthF L)) (hok : Ok6 L x1 x2 N) (hN : N ≤ 1179648) (h1 : 1 ≤ kd) (h5 : kd ≤ 5) (hnm : okFn nm = true) (hdt : dt.size ≤ 131072) (h3 : 0 ≤ x3 ∧ x3 ≤ 1000000000000000) (h4 : 0 ≤ x4 ∧ x4 ≤ 1000000000000000) (hr : FdAt L nm r) (he : stS L x1 x2 x3 x4 x5 kd nm dt sz r = (M, z2, z5, zc)) :
    Calls Tryz.prog 22 #[.agg #[.slice (some ⟨b, off, none⟩) L.length c, .int .i64 x1, .int .i64 x2, .int .i64 x3, .int .i64 x4, .bool x5], .agg #[.int .i64 kd, .string nm, .string dt, .int .i64 sz]] w fun e w' => ∃ g cp, e = .returned (.tuple #[.agg #[.slice (some ⟨g, 0, none⟩) M.length cp, .int .i64 x1, .int .i64 z2, .int .i64 x3, .int .i64 x4, .bool z5], .int .i64 zc]) ∧ OwnL w' w.heap.size (.slice (some ⟨g, 0, none⟩) M.length cp) M ∧ Below w.heap.size w w' := by
  have h2 := sStep b off L.length c L rfl x1 x2 x3 x4 x5 kd nm dt sz r w h (hok.fit hN h1 h5 hnm hdt) hr (hok.ok x3 x4 h3 h4) (by unfold btw; simp; omega) hnm hok.lo hok.hi
  rw [he] at h2
  refine h2.mono ?_
  rintro e w' ⟨ad, m, cp, rfl, hO, hb⟩
  obtain ⟨g, rfl, rfl⟩ := own_some hO
  exact ⟨g, cp, rfl, hO, hb⟩
/-- The boxes of the arguments and one more. -/
structure Ky (w y : World) (cX cL : Array Value) (Q : Nat) (cQ : Array Value) : Prop where
  k : Kx w y cX cL
  qr : y.heap[Q]? = some (.cells cQ 28 (0, 0))
theorem Ky.later {w x y : World} {cX cL cQ : Array Value} {Q : Nat} (h : Ky w x cX cL Q cQ) (hb : Below x.heap.size x y) : Ky w y cX cL Q cQ := ⟨h.k.later hb, rowL h.qr hb⟩
theorem Ky.set8 {w x : World} {cX cL cQ : Array Value} {Q : Nat} (h : Ky w x cX cL Q cQ) (hne : w.heap.size + 1 + 1 < Q) (v0 v1 v2 v3 v4 v5 : Value) : Ky w ((((((x.setCell ⟨w.heap.size + 1 + 1, 0, none⟩ v0).setCell ⟨w.heap.size + 1 + 1, 1, none⟩ v1).setCell ⟨w.heap.size + 1 + 1, 2, none⟩ v2).setCell ⟨w.heap.size + 1 + 1, 3, none⟩ v3).setCell ⟨w.heap.size + 1 + 1, 4, none⟩ v4).setCell ⟨w.heap.size + 1 + 1, 5, none⟩ v5) cX cL Q cQ := ⟨h.k.set8 _ _ _ _ _ _, set6_oth _ _ _ _ _ _ h.qr (by omega)⟩
theorem Ky.set9 {w x : World} {cX cL cQ : Array Value} {Q : Nat} (h : Ky w x cX cL Q cQ) (hne : w.heap.size + 1 + 1 + 1 < Q) (v0 v1 : Value) : Ky w ((x.setCell ⟨w.heap.size + 1 + 1 + 1, 0, none⟩ v0).setCell ⟨w.heap.size + 1 + 1 + 1, 1, none⟩ v1) cX cL Q cQ := ⟨h.k.set9 _ _, set2_oth _ _ h.qr (by omega)⟩
theorem keepG {W : World} {Bo Q o : Nat} {v u : Value} {L : List Fil} {X : Array Value} {fr : Nat × Nat} (h : OwnL W Bo v L) (hQ : W.heap[Q]? = some (.cells X 30 fr)) : OwnL (W.setCell ⟨Q, o, none⟩ u) Bo v L := by
  rcases h.2 with ⟨e, h0⟩ | ⟨g, cap', cur, e, hB, hg, h4⟩
  · exact ⟨h.1, Or.inl ⟨e, h0⟩⟩
  · exact ⟨h.1, Or.inr ⟨g, cap', cur, e, hB, rowO hg (fun e' => by subst e'; rw [hQ] at hg; simp at hg), h4⟩⟩
/-- What stands behind the first five parts of a body. -/
def tl5 (o : Option Code) : Code := match o with
  | some (.seq _ (.seq _ (.seq _ (.seq _ (.seq _ c))))) => c
  | _ => .skip
/-- No step but truncation answers 16. -/
theorem do_16 (L : List Fil) (x1 kd : Int) (nm dt : ByteArray) (sz r : Int) (hk : kd ≠ 4) : (doS L x1 kd nm dt sz r).2 ≠ 16 := by
  unfold doS
  repeat' split
  all_goals first | (simp; done) | omega
theorem st_16 {L M : List Fil} {x1 x2 x3 x4 : Int} {x5 : Bool} {kd : Int} {nm dt : ByteArray} {sz r z2 : Int} {z5 : Bool} {zc : Int} (he : stS L x1 x2 x3 x4 x5 kd nm dt sz r = (M, z2, z5, zc)) (hk : kd ≠ 4) : zc ≠ 16 := by
  have h1 := do_16 L x1 kd nm dt sz r hk
  have h2 : zc = (stS L x1 x2 x3 x4 x5 kd nm dt sz r).2.2.2 := by rw [he]
  rw [h2]
  unfold stS
  repeat' split
  all_goals first | exact h1 | simp
end Go.Proofs.YtngppfjphbodcaaGreatDoor
