/-
  FsStep: the specification's operation itself.
-/
import Derived.Test.YtdbcihebhgpblaaDoorMc
namespace Go.Proofs.YtdbcihebhgpblaaDoor
open Go.RowKit
theorem results_cell_tmp {P : Program} {fn : Func} {p t0 : Tmp} {ty : TypeId} (h : fn.results = #[.cell p ty, .tmp t0]) (tmps : Array Value) (w : World) (g : Nat) (t : TypeId) (cs : Array Value) (fr : Nat × Nat) (d : TypeDesc)
    (hp : tmps.getD p undef = .pointer (some ⟨g, 0, none⟩)) (hg : w.heap[g]? = some (.cells cs t fr))
    (hu : P.underlying ty = some d) (hd : (match d with | .struct _ | .array _ _ => true | _ => false) = true) (hi : (P.info? ty).map (·.size) = some cs.size) :
    (results fn tmps).run P w = .ok (.tuple #[.agg cs, tmps.getD t0 undef]) w := by
  have hp' : tmps[p]?.getD undef = .pointer (some ⟨g, 0, none⟩) := by simpa using hp
  simp [results, h, hp', asAddr, run_loadVar_row w g t ty cs fr d hg hu hd hi]
/-- Is there a file of this name, and where? -/
def FdAt (L : List Fil) (nm : ByteArray) (r : Int) : Prop := (r = -1 ∧ ∀ k, k < L.length → (nthF L k).s ≠ nm) ∨ ∃ k : Nat, k < L.length ∧ r = (k : Int) ∧ (nthF L k).s = nm ∧ ∀ j, j < k → (nthF L j).s ≠ nm
/-- What the specification's operation does: the files behind it, its code. -/
def doS (L : List Fil) (x1 kd : Int) (nm dt : ByteArray) (sz : Int) (r : Int) : List Fil × Int :=
  if kd = 1 then (if 0 ≤ r then (L, 15) else if L.length = 300 then (L, 13) else (wth ⟨#[]⟩ ⟨nm, ⟨#[]⟩, 0⟩ L false, 0))
  else if r < 0 then (L, 14)
  else if kd = 2 then (if x1 - (sumD (nthF L) L.length : Int) < (dt.size : Int) then (wth nm ⟨(nthF L r.toNat).s, (nthF L r.toNat).d ++ dt.extract 0 (x1 - (sumD (nthF L) L.length : Int)).toNat, (nthF L r.toNat).y⟩ L false, 13) else (wth nm ⟨(nthF L r.toNat).s, (nthF L r.toNat).d ++ dt, (nthF L r.toNat).y⟩ L false, 0))
  else if kd = 3 then (wth nm ⟨(nthF L r.toNat).s, (nthF L r.toNat).d, ((nthF L r.toNat).d.size : Int)⟩ L false, 0)
  else if kd = 4 then (if btw sz 0 (nthF L r.toNat).d.size then (wth nm ⟨(nthF L r.toNat).s, (nthF L r.toNat).d.extract 0 sz.toNat, sz⟩ L false, 0) else (L, 16))
  else (wth nm ⟨⟨#[]⟩, ⟨#[]⟩, 0⟩ L true, 0)
/-- What is asked of an operation's parts. -/
structure Fit (L : List Fil) (x1 : Int) (kd : Int) (nm dt : ByteArray) : Prop where
  sm : Small L.length (nthF L)
  k1 : 1 ≤ kd
  k5 : kd ≤ 5
  nm0 : nm.size ≠ 0
  nm1 : nm.size ≤ 2097152
  dt1 : dt.size ≤ 2097152
  rm0 : (sumD (nthF L) L.length : Int) ≤ x1
  x1m : x1 ≤ 1000000000
/-- What an operation answers. -/
def Done (w w' : World) (Bo : Nat) (L : List Fil) (x1 x2 x3 x4 : Int) (x5 : Bool) (cd : Int) (e : Ending) : Prop := ∃ (ad : Addr) (m cp : Nat), e = .returned (.tuple #[.agg #[.slice (some ad) m cp, .int .i64 x1, .int .i64 x2, .int .i64 x3, .int .i64 x4, .bool x5], .int .i64 cd]) ∧ OwnL w' Bo (.slice (some ad) m cp) L ∧ Below w.heap.size w w'
theorem fd_same {L : List Fil} {nm : ByteArray} {r r' : Int} (h : FdAt L nm r) (h' : FdAt L nm r') : r = r' := by
  rcases h with ⟨rfl, h1⟩ | ⟨k, hk, rfl, h2, h3⟩ <;> rcases h' with ⟨rfl, h1'⟩ | ⟨k', hk', rfl, h2', h3'⟩
  · rfl
  · exact absurd h2' (h1 k' hk')
  · exact absurd h2 (h1' k hk)
  · rcases Nat.lt_trichotomy k k' with hh | hh | hh
    · exact absurd h2 (h3' k hh)
    · rw [hh]
    · exact absurd h2' (h3 k' hh)
theorem keep6 {W : World} {Bo Q : Nat} {v : Value} {L : List Fil} {X : Array Value} {fr : Nat × Nat} {v0 v1 v2 v3 v4 v5 : Value} (h : OwnL W Bo v L) (hQ : W.heap[Q]? = some (.cells X 30 fr)) :
    OwnL ((((((W.setCell ⟨Q, 0, none⟩ v0).setCell ⟨Q, 1, none⟩ v1).setCell ⟨Q, 2, none⟩ v2).setCell ⟨Q, 3, none⟩ v3).setCell ⟨Q, 4, none⟩ v4).setCell ⟨Q, 5, none⟩ v5) Bo v L := by
  rcases h.2 with ⟨e, h0⟩ | ⟨g, cap', cur, e, hB, hg, h4⟩
  · exact ⟨h.1, Or.inl ⟨e, h0⟩⟩
  · exact ⟨h.1, Or.inr ⟨g, cap', cur, e, hB, set6_oth _ _ _ _ _ _ hg (fun e' => by subst e'; rw [hQ] at hg; simp at hg), h4⟩⟩
theorem keep1 {W : World} {Bo Q o : Nat} {v u : Value} {L : List Fil} {X : Array Value} {fr : Nat × Nat} (h : OwnL W Bo v L) (hQ : W.heap[Q]? = some (.cells X 30 fr)) : OwnL (W.setCell ⟨Q, o, none⟩ u) Bo v L := by
  rcases h.2 with ⟨e, h0⟩ | ⟨g, cap', cur, e, hB, hg, h4⟩
  · exact ⟨h.1, Or.inl ⟨e, h0⟩⟩
  · exact ⟨h.1, Or.inr ⟨g, cap', cur, e, hB, rowO hg (fun e' => by subst e'; rw [hQ] at hg; simp at hg), h4⟩⟩
set_option maxRecDepth 20000 in
set_option maxHeartbeats 8000000 in
theorem sDo1a (Bo : Nat) (gv : Nat) (n cv : Nat) (L : List Fil) (hLn : L.length = n) (x1 x2 x3 x4 : Int) (x5 : Bool) (nm dt : ByteArray) (sz : Int) (k : Nat) (w : World) (hO : OwnL w Bo (.slice (some ⟨gv, 0, none⟩) n cv) L) (_hBo : Bo ≤ w.heap.size) (hF : Fit L x1 1 nm dt) (hr : FdAt L nm (k : Int)) :
    Calls Tryd.prog 53 #[.agg #[.slice (some ⟨gv, 0, none⟩) n cv, .int .i64 x1, .int .i64 x2, .int .i64 x3, .int .i64 x4, .bool x5], .agg #[.int .i64 1, .string nm, .string dt, .int .i64 sz]] w fun e w' => Done w w' Bo (doS L x1 1 nm dt sz (k : Int)).1 x1 x2 x3 x4 x5 (doS L x1 1 nm dt sz (k : Int)).2 e := by
  subst hLn
  have hfl := hO.f.fl
  have hb0 : Below w.heap.size w (((w.alloc (.cells #[.slice (some ⟨gv, 0, none⟩) L.length cv, .int .i64 x1, .int .i64 x2, .int .i64 x3, .int .i64 x4, .bool x5] 30)).alloc (.cells #[.int .i64 1, .string nm, .string dt, .int .i64 sz] 59)).alloc (.cells #[.slice none 0 0, .int .i64 0, .int .i64 0, .int .i64 0, .int .i64 0, .bool false] 30)) := bstep (bal _ _) (bstep (bal _ _) (bal _ _))
  have hX := rowL (rowL (heap_alloc_new w (.cells #[.slice (some ⟨gv, 0, none⟩) L.length cv, .int .i64 x1, .int .i64 x2, .int .i64 x3, .int .i64 x4, .bool x5] 30)) (bal (w.alloc (.cells #[.slice (some ⟨gv, 0, none⟩) L.length cv, .int .i64 x1, .int .i64 x2, .int .i64 x3, .int .i64 x4, .bool x5] 30)) (.cells #[.int .i64 1, .string nm, .string dt, .int .i64 sz] 59))) (bal ((w.alloc (.cells #[.slice (some ⟨gv, 0, none⟩) L.length cv, .int .i64 x1, .int .i64 x2, .int .i64 x3, .int .i64 x4, .bool x5] 30)).alloc (.cells #[.int .i64 1, .string nm, .string dt, .int .i64 sz] 59)) (.cells #[.slice none 0 0, .int .i64 0, .int .i64 0, .int .i64 0, .int .i64 0, .bool false] 30))
  have hP := heap_alloc_new (w.alloc (.cells #[.slice (some ⟨gv, 0, none⟩) L.length cv, .int .i64 x1, .int .i64 x2, .int .i64 x3, .int .i64 x4, .bool x5] 30)) (.cells #[.int .i64 1, .string nm, .string dt, .int .i64 sz] 59)
  rw [World.size_alloc] at hP
  replace hP := rowL hP (bal ((w.alloc (.cells #[.slice (some ⟨gv, 0, none⟩) L.length cv, .int .i64 x1, .int .i64 x2, .int .i64 x3, .int .i64 x4, .bool x5] 30)).alloc (.cells #[.int .i64 1, .string nm, .string dt, .int .i64 sz] 59)) (.cells #[.slice none 0 0, .int .i64 0, .int .i64 0, .int .i64 0, .int .i64 0, .bool false] 30))
  have hR := heap_alloc_new ((w.alloc (.cells #[.slice (some ⟨gv, 0, none⟩) L.length cv, .int .i64 x1, .int .i64 x2, .int .i64 x3, .int .i64 x4, .bool x5] 30)).alloc (.cells #[.int .i64 1, .string nm, .string dt, .int .i64 sz] 59)) (.cells #[.slice none 0 0, .int .i64 0, .int .i64 0, .int .i64 0, .int .i64 0, .bool false] 30)
  have hs2 : ((w.alloc (.cells #[.slice (some ⟨gv, 0, none⟩) L.length cv, .int .i64 x1, .int .i64 x2, .int .i64 x3, .int .i64 x4, .bool x5] 30)).alloc (.cells #[.int .i64 1, .string nm, .string dt, .int .i64 sz] 59)).heap.size = w.heap.size + 1 + 1 := by simp
  rw [hs2] at hR
  have hn := hF.sm.n
  have hdo : doS L x1 1 nm dt sz (k : Int) = (L, 15) := by simp [doS]
  rw [hdo]
  go_enter Tryd.func53, Tryd.ntmps53
  go_wp2_with (go_at_call 94; refine (sFind (some ⟨gv, 0, none⟩) L.length cv (nthF L) x1 x2 x3 x4 x5 nm _ (hfl.later hb0) hn).mono ?_; rintro e w1 ⟨r', rfl, hr', hb1⟩; obtain rfl : r' = (k : Int) := fd_same hr' hr; have hX1 := rowL hX hb1; have hP1 := rowL hP hb1; have hR1 := rowL hR hb1; obtain ⟨xc0, xc1, xc2, xc3, xc4, xc5⟩ := B6.of hX1; obtain ⟨xf0, xf1, xf2, xf3, xf4, xf5⟩ := F6.of hX1; have pc0 : w1.cell? ⟨w.heap.size + 1, 0, none⟩ = some (.int .i64 1) := (cell_of_row _ _ 0 _ _ _ hP1).trans rfl; have pc1 : w1.cell? ⟨w.heap.size + 1, 1, none⟩ = some (.string nm) := (cell_of_row _ _ 1 _ _ _ hP1).trans rfl; have pc2 : w1.cell? ⟨w.heap.size + 1, 2, none⟩ = some (.string dt) := (cell_of_row _ _ 2 _ _ _ hP1).trans rfl; have pc3 : w1.cell? ⟨w.heap.size + 1, 3, none⟩ = some (.int .i64 sz) := (cell_of_row _ _ 3 _ _ _ hP1).trans rfl; obtain ⟨rc0, rc1, rc2, rc3, rc4, rc5⟩ := B6.of hR1; obtain ⟨rf0, rf1, rf2, rf3, rf4, rf5⟩ := F6.of hR1)
  refine bodyPost_ret (results_cell_tmp Tryd.results53 _ _ (w.heap.size + 1 + 1) 30 _ (0, 0) _ rfl (set6_row _ _ _ _ _ _ hR1) Tryd.underlying30 rfl (by kernel_rfl)) rfl ⟨_, _, _, rfl, ?_, set6_below _ _ _ _ _ _ (bstep hb0 hb1) (by omega)⟩
  exact keep6 (own_below hO (bstep hb0 hb1)) hR1
set_option maxRecDepth 20000 in
set_option maxHeartbeats 8000000 in
theorem sDo1b (Bo : Nat) (gv : Nat) (n cv : Nat) (L : List Fil) (hLn : L.length = n) (x1 x2 x3 x4 : Int) (x5 : Bool) (nm dt : ByteArray) (sz : Int) (w : World) (hO : OwnL w Bo (.slice (some ⟨gv, 0, none⟩) n cv) L) (_hBo : Bo ≤ w.heap.size) (hF : Fit L x1 1 nm dt) (hr : FdAt L nm (-1)) (h3 : L.length = 300) :
    Calls Tryd.prog 53 #[.agg #[.slice (some ⟨gv, 0, none⟩) n cv, .int .i64 x1, .int .i64 x2, .int .i64 x3, .int .i64 x4, .bool x5], .agg #[.int .i64 1, .string nm, .string dt, .int .i64 sz]] w fun e w' => Done w w' Bo (doS L x1 1 nm dt sz (-1)).1 x1 x2 x3 x4 x5 (doS L x1 1 nm dt sz (-1)).2 e := by
  subst hLn
  have hfl := hO.f.fl
  have hb0 : Below w.heap.size w (((w.alloc (.cells #[.slice (some ⟨gv, 0, none⟩) L.length cv, .int .i64 x1, .int .i64 x2, .int .i64 x3, .int .i64 x4, .bool x5] 30)).alloc (.cells #[.int .i64 1, .string nm, .string dt, .int .i64 sz] 59)).alloc (.cells #[.slice none 0 0, .int .i64 0, .int .i64 0, .int .i64 0, .int .i64 0, .bool false] 30)) := bstep (bal _ _) (bstep (bal _ _) (bal _ _))
  have hX := rowL (rowL (heap_alloc_new w (.cells #[.slice (some ⟨gv, 0, none⟩) L.length cv, .int .i64 x1, .int .i64 x2, .int .i64 x3, .int .i64 x4, .bool x5] 30)) (bal (w.alloc (.cells #[.slice (some ⟨gv, 0, none⟩) L.length cv, .int .i64 x1, .int .i64 x2, .int .i64 x3, .int .i64 x4, .bool x5] 30)) (.cells #[.int .i64 1, .string nm, .string dt, .int .i64 sz] 59))) (bal ((w.alloc (.cells #[.slice (some ⟨gv, 0, none⟩) L.length cv, .int .i64 x1, .int .i64 x2, .int .i64 x3, .int .i64 x4, .bool x5] 30)).alloc (.cells #[.int .i64 1, .string nm, .string dt, .int .i64 sz] 59)) (.cells #[.slice none 0 0, .int .i64 0, .int .i64 0, .int .i64 0, .int .i64 0, .bool false] 30))
  have hP := heap_alloc_new (w.alloc (.cells #[.slice (some ⟨gv, 0, none⟩) L.length cv, .int .i64 x1, .int .i64 x2, .int .i64 x3, .int .i64 x4, .bool x5] 30)) (.cells #[.int .i64 1, .string nm, .string dt, .int .i64 sz] 59)
  rw [World.size_alloc] at hP
  replace hP := rowL hP (bal ((w.alloc (.cells #[.slice (some ⟨gv, 0, none⟩) L.length cv, .int .i64 x1, .int .i64 x2, .int .i64 x3, .int .i64 x4, .bool x5] 30)).alloc (.cells #[.int .i64 1, .string nm, .string dt, .int .i64 sz] 59)) (.cells #[.slice none 0 0, .int .i64 0, .int .i64 0, .int .i64 0, .int .i64 0, .bool false] 30))
  have hR := heap_alloc_new ((w.alloc (.cells #[.slice (some ⟨gv, 0, none⟩) L.length cv, .int .i64 x1, .int .i64 x2, .int .i64 x3, .int .i64 x4, .bool x5] 30)).alloc (.cells #[.int .i64 1, .string nm, .string dt, .int .i64 sz] 59)) (.cells #[.slice none 0 0, .int .i64 0, .int .i64 0, .int .i64 0, .int .i64 0, .bool false] 30)
  have hs2 : ((w.alloc (.cells #[.slice (some ⟨gv, 0, none⟩) L.length cv, .int .i64 x1, .int .i64 x2, .int .i64 x3, .int .i64 x4, .bool x5] 30)).alloc (.cells #[.int .i64 1, .string nm, .string dt, .int .i64 sz] 59)).heap.size = w.heap.size + 1 + 1 := by simp
  rw [hs2] at hR
  have hn := hF.sm.n
  have hdo : doS L x1 1 nm dt sz (-1) = (L, 13) := by simp [doS, h3]
  rw [hdo]
  have h4 : ((L.length : Int) == 300) = true := by simp [h3]
  have H3 : Hid (L.length = 300) := h3
  clear h3
  go_enter Tryd.func53, Tryd.ntmps53
  go_wp2_with (go_at_call 94; refine (sFind (some ⟨gv, 0, none⟩) L.length cv (nthF L) x1 x2 x3 x4 x5 nm _ (hfl.later hb0) hn).mono ?_; rintro e w1 ⟨r', rfl, hr', hb1⟩; obtain rfl : r' = (-1) := fd_same hr' hr; have hX1 := rowL hX hb1; have hP1 := rowL hP hb1; have hR1 := rowL hR hb1; obtain ⟨xc0, xc1, xc2, xc3, xc4, xc5⟩ := B6.of hX1; obtain ⟨xf0, xf1, xf2, xf3, xf4, xf5⟩ := F6.of hX1; have pc0 : w1.cell? ⟨w.heap.size + 1, 0, none⟩ = some (.int .i64 1) := (cell_of_row _ _ 0 _ _ _ hP1).trans rfl; have pc1 : w1.cell? ⟨w.heap.size + 1, 1, none⟩ = some (.string nm) := (cell_of_row _ _ 1 _ _ _ hP1).trans rfl; have pc2 : w1.cell? ⟨w.heap.size + 1, 2, none⟩ = some (.string dt) := (cell_of_row _ _ 2 _ _ _ hP1).trans rfl; have pc3 : w1.cell? ⟨w.heap.size + 1, 3, none⟩ = some (.int .i64 sz) := (cell_of_row _ _ 3 _ _ _ hP1).trans rfl; obtain ⟨rc0, rc1, rc2, rc3, rc4, rc5⟩ := B6.of hR1; obtain ⟨rf0, rf1, rf2, rf3, rf4, rf5⟩ := F6.of hR1)
  refine bodyPost_ret (results_cell_tmp Tryd.results53 _ _ (w.heap.size + 1 + 1) 30 _ (0, 0) _ rfl (set6_row _ _ _ _ _ _ hR1) Tryd.underlying30 rfl (by kernel_rfl)) rfl ⟨_, _, _, rfl, ?_, set6_below _ _ _ _ _ _ (bstep hb0 hb1) (by omega)⟩
  exact keep6 (own_below hO (bstep hb0 hb1)) hR1
set_option maxRecDepth 20000 in
set_option maxHeartbeats 8000000 in
theorem sDo2m (Bo : Nat) (gv : Nat) (n cv : Nat) (L : List Fil) (hLn : L.length = n) (x1 x2 x3 x4 : Int) (x5 : Bool) (nm dt : ByteArray) (sz : Int) (w : World) (hO : OwnL w Bo (.slice (some ⟨gv, 0, none⟩) n cv) L) (_hBo : Bo ≤ w.heap.size) (hF : Fit L x1 2 nm dt) (hr : FdAt L nm (-1)) :
    Calls Tryd.prog 53 #[.agg #[.slice (some ⟨gv, 0, none⟩) n cv, .int .i64 x1, .int .i64 x2, .int .i64 x3, .int .i64 x4, .bool x5], .agg #[.int .i64 2, .string nm, .string dt, .int .i64 sz]] w fun e w' => Done w w' Bo (doS L x1 2 nm dt sz (-1)).1 x1 x2 x3 x4 x5 (doS L x1 2 nm dt sz (-1)).2 e := by
  subst hLn
  have hfl := hO.f.fl
  have hb0 : Below w.heap.size w (((w.alloc (.cells #[.slice (some ⟨gv, 0, none⟩) L.length cv, .int .i64 x1, .int .i64 x2, .int .i64 x3, .int .i64 x4, .bool x5] 30)).alloc (.cells #[.int .i64 2, .string nm, .string dt, .int .i64 sz] 59)).alloc (.cells #[.slice none 0 0, .int .i64 0, .int .i64 0, .int .i64 0, .int .i64 0, .bool false] 30)) := bstep (bal _ _) (bstep (bal _ _) (bal _ _))
  have hX := rowL (rowL (heap_alloc_new w (.cells #[.slice (some ⟨gv, 0, none⟩) L.length cv, .int .i64 x1, .int .i64 x2, .int .i64 x3, .int .i64 x4, .bool x5] 30)) (bal (w.alloc (.cells #[.slice (some ⟨gv, 0, none⟩) L.length cv, .int .i64 x1, .int .i64 x2, .int .i64 x3, .int .i64 x4, .bool x5] 30)) (.cells #[.int .i64 2, .string nm, .string dt, .int .i64 sz] 59))) (bal ((w.alloc (.cells #[.slice (some ⟨gv, 0, none⟩) L.length cv, .int .i64 x1, .int .i64 x2, .int .i64 x3, .int .i64 x4, .bool x5] 30)).alloc (.cells #[.int .i64 2, .string nm, .string dt, .int .i64 sz] 59)) (.cells #[.slice none 0 0, .int .i64 0, .int .i64 0, .int .i64 0, .int .i64 0, .bool false] 30))
  have hP := heap_alloc_new (w.alloc (.cells #[.slice (some ⟨gv, 0, none⟩) L.length cv, .int .i64 x1, .int .i64 x2, .int .i64 x3, .int .i64 x4, .bool x5] 30)) (.cells #[.int .i64 2, .string nm, .string dt, .int .i64 sz] 59)
  rw [World.size_alloc] at hP
  replace hP := rowL hP (bal ((w.alloc (.cells #[.slice (some ⟨gv, 0, none⟩) L.length cv, .int .i64 x1, .int .i64 x2, .int .i64 x3, .int .i64 x4, .bool x5] 30)).alloc (.cells #[.int .i64 2, .string nm, .string dt, .int .i64 sz] 59)) (.cells #[.slice none 0 0, .int .i64 0, .int .i64 0, .int .i64 0, .int .i64 0, .bool false] 30))
  have hR := heap_alloc_new ((w.alloc (.cells #[.slice (some ⟨gv, 0, none⟩) L.length cv, .int .i64 x1, .int .i64 x2, .int .i64 x3, .int .i64 x4, .bool x5] 30)).alloc (.cells #[.int .i64 2, .string nm, .string dt, .int .i64 sz] 59)) (.cells #[.slice none 0 0, .int .i64 0, .int .i64 0, .int .i64 0, .int .i64 0, .bool false] 30)
  have hs2 : ((w.alloc (.cells #[.slice (some ⟨gv, 0, none⟩) L.length cv, .int .i64 x1, .int .i64 x2, .int .i64 x3, .int .i64 x4, .bool x5] 30)).alloc (.cells #[.int .i64 2, .string nm, .string dt, .int .i64 sz] 59)).heap.size = w.heap.size + 1 + 1 := by simp
  rw [hs2] at hR
  have hn := hF.sm.n
  have hdo : doS L x1 2 nm dt sz (-1) = (L, 14) := by simp [doS]
  rw [hdo]
  go_enter Tryd.func53, Tryd.ntmps53
  go_wp2_with (go_at_call 94; refine (sFind (some ⟨gv, 0, none⟩) L.length cv (nthF L) x1 x2 x3 x4 x5 nm _ (hfl.later hb0) hn).mono ?_; rintro e w1 ⟨r', rfl, hr', hb1⟩; obtain rfl : r' = (-1) := fd_same hr' hr; have hX1 := rowL hX hb1; have hP1 := rowL hP hb1; have hR1 := rowL hR hb1; obtain ⟨xc0, xc1, xc2, xc3, xc4, xc5⟩ := B6.of hX1; obtain ⟨xf0, xf1, xf2, xf3, xf4, xf5⟩ := F6.of hX1; have pc0 : w1.cell? ⟨w.heap.size + 1, 0, none⟩ = some (.int .i64 2) := (cell_of_row _ _ 0 _ _ _ hP1).trans rfl; have pc1 : w1.cell? ⟨w.heap.size + 1, 1, none⟩ = some (.string nm) := (cell_of_row _ _ 1 _ _ _ hP1).trans rfl; have pc2 : w1.cell? ⟨w.heap.size + 1, 2, none⟩ = some (.string dt) := (cell_of_row _ _ 2 _ _ _ hP1).trans rfl; have pc3 : w1.cell? ⟨w.heap.size + 1, 3, none⟩ = some (.int .i64 sz) := (cell_of_row _ _ 3 _ _ _ hP1).trans rfl; obtain ⟨rc0, rc1, rc2, rc3, rc4, rc5⟩ := B6.of hR1; obtain ⟨rf0, rf1, rf2, rf3, rf4, rf5⟩ := F6.of hR1)
  refine bodyPost_ret (results_cell_tmp Tryd.results53 _ _ (w.heap.size + 1 + 1) 30 _ (0, 0) _ rfl (set6_row _ _ _ _ _ _ hR1) Tryd.underlying30 rfl (by kernel_rfl)) rfl ⟨_, _, _, rfl, ?_, set6_below _ _ _ _ _ _ (bstep hb0 hb1) (by omega)⟩
  exact keep6 (own_below hO (bstep hb0 hb1)) hR1
set_option maxRecDepth 20000 in
set_option maxHeartbeats 8000000 in
theorem sDo3m (Bo : Nat) (gv : Nat) (n cv : Nat) (L : List Fil) (hLn : L.length = n) (x1 x2 x3 x4 : Int) (x5 : Bool) (nm dt : ByteArray) (sz : Int) (w : World) (hO : OwnL w Bo (.slice (some ⟨gv, 0, none⟩) n cv) L) (_hBo : Bo ≤ w.heap.size) (hF : Fit L x1 3 nm dt) (hr : FdAt L nm (-1)) :
    Calls Tryd.prog 53 #[.agg #[.slice (some ⟨gv, 0, none⟩) n cv, .int .i64 x1, .int .i64 x2, .int .i64 x3, .int .i64 x4, .bool x5], .agg #[.int .i64 3, .string nm, .string dt, .int .i64 sz]] w fun e w' => Done w w' Bo (doS L x1 3 nm dt sz (-1)).1 x1 x2 x3 x4 x5 (doS L x1 3 nm dt sz (-1)).2 e := by
  subst hLn
  have hfl := hO.f.fl
  have hb0 : Below w.heap.size w (((w.alloc (.cells #[.slice (some ⟨gv, 0, none⟩) L.length cv, .int .i64 x1, .int .i64 x2, .int .i64 x3, .int .i64 x4, .bool x5] 30)).alloc (.cells #[.int .i64 3, .string nm, .string dt, .int .i64 sz] 59)).alloc (.cells #[.slice none 0 0, .int .i64 0, .int .i64 0, .int .i64 0, .int .i64 0, .bool false] 30)) := bstep (bal _ _) (bstep (bal _ _) (bal _ _))
  have hX := rowL (rowL (heap_alloc_new w (.cells #[.slice (some ⟨gv, 0, none⟩) L.length cv, .int .i64 x1, .int .i64 x2, .int .i64 x3, .int .i64 x4, .bool x5] 30)) (bal (w.alloc (.cells #[.slice (some ⟨gv, 0, none⟩) L.length cv, .int .i64 x1, .int .i64 x2, .int .i64 x3, .int .i64 x4, .bool x5] 30)) (.cells #[.int .i64 3, .string nm, .string dt, .int .i64 sz] 59))) (bal ((w.alloc (.cells #[.slice (some ⟨gv, 0, none⟩) L.length cv, .int .i64 x1, .int .i64 x2, .int .i64 x3, .int .i64 x4, .bool x5] 30)).alloc (.cells #[.int .i64 3, .string nm, .string dt, .int .i64 sz] 59)) (.cells #[.slice none 0 0, .int .i64 0, .int .i64 0, .int .i64 0, .int .i64 0, .bool false] 30))
  have hP := heap_alloc_new (w.alloc (.cells #[.slice (some ⟨gv, 0, none⟩) L.length cv, .int .i64 x1, .int .i64 x2, .int .i64 x3, .int .i64 x4, .bool x5] 30)) (.cells #[.int .i64 3, .string nm, .string dt, .int .i64 sz] 59)
  rw [World.size_alloc] at hP
  replace hP := rowL hP (bal ((w.alloc (.cells #[.slice (some ⟨gv, 0, none⟩) L.length cv, .int .i64 x1, .int .i64 x2, .int .i64 x3, .int .i64 x4, .bool x5] 30)).alloc (.cells #[.int .i64 3, .string nm, .string dt, .int .i64 sz] 59)) (.cells #[.slice none 0 0, .int .i64 0, .int .i64 0, .int .i64 0, .int .i64 0, .bool false] 30))
  have hR := heap_alloc_new ((w.alloc (.cells #[.slice (some ⟨gv, 0, none⟩) L.length cv, .int .i64 x1, .int .i64 x2, .int .i64 x3, .int .i64 x4, .bool x5] 30)).alloc (.cells #[.int .i64 3, .string nm, .string dt, .int .i64 sz] 59)) (.cells #[.slice none 0 0, .int .i64 0, .int .i64 0, .int .i64 0, .int .i64 0, .bool false] 30)
  have hs2 : ((w.alloc (.cells #[.slice (some ⟨gv, 0, none⟩) L.length cv, .int .i64 x1, .int .i64 x2, .int .i64 x3, .int .i64 x4, .bool x5] 30)).alloc (.cells #[.int .i64 3, .string nm, .string dt, .int .i64 sz] 59)).heap.size = w.heap.size + 1 + 1 := by simp
  rw [hs2] at hR
  have hn := hF.sm.n
  have hdo : doS L x1 3 nm dt sz (-1) = (L, 14) := by simp [doS]
  rw [hdo]
  go_enter Tryd.func53, Tryd.ntmps53
  go_wp2_with (go_at_call 94; refine (sFind (some ⟨gv, 0, none⟩) L.length cv (nthF L) x1 x2 x3 x4 x5 nm _ (hfl.later hb0) hn).mono ?_; rintro e w1 ⟨r', rfl, hr', hb1⟩; obtain rfl : r' = (-1) := fd_same hr' hr; have hX1 := rowL hX hb1; have hP1 := rowL hP hb1; have hR1 := rowL hR hb1; obtain ⟨xc0, xc1, xc2, xc3, xc4, xc5⟩ := B6.of hX1; obtain ⟨xf0, xf1, xf2, xf3, xf4, xf5⟩ := F6.of hX1; have pc0 : w1.cell? ⟨w.heap.size + 1, 0, none⟩ = some (.int .i64 3) := (cell_of_row _ _ 0 _ _ _ hP1).trans rfl; have pc1 : w1.cell? ⟨w.heap.size + 1, 1, none⟩ = some (.string nm) := (cell_of_row _ _ 1 _ _ _ hP1).trans rfl; have pc2 : w1.cell? ⟨w.heap.size + 1, 2, none⟩ = some (.string dt) := (cell_of_row _ _ 2 _ _ _ hP1).trans rfl; have pc3 : w1.cell? ⟨w.heap.size + 1, 3, none⟩ = some (.int .i64 sz) := (cell_of_row _ _ 3 _ _ _ hP1).trans rfl; obtain ⟨rc0, rc1, rc2, rc3, rc4, rc5⟩ := B6.of hR1; obtain ⟨rf0, rf1, rf2, rf3, rf4, rf5⟩ := F6.of hR1)
  refine bodyPost_ret (results_cell_tmp Tryd.results53 _ _ (w.heap.size + 1 + 1) 30 _ (0, 0) _ rfl (set6_row _ _ _ _ _ _ hR1) Tryd.underlying30 rfl (by kernel_rfl)) rfl ⟨_, _, _, rfl, ?_, set6_below _ _ _ _ _ _ (bstep hb0 hb1) (by omega)⟩
  exact keep6 (own_below hO (bstep hb0 hb1)) hR1
set_option maxRecDepth 20000 in
set_option maxHeartbeats 8000000 in
theorem sDo4m (Bo : Nat) (gv : Nat) (n cv : Nat) (L : List Fil) (hLn : L.length = n) (x1 x2 x3 x4 : Int) (x5 : Bool) (nm dt : ByteArray) (sz : Int) (w : World) (hO : OwnL w Bo (.slice (some ⟨gv, 0, none⟩) n cv) L) (_hBo : Bo ≤ w.heap.size) (hF : Fit L x1 4 nm dt) (hr : FdAt L nm (-1)) :
    Calls Tryd.prog 53 #[.agg #[.slice (some ⟨gv, 0, none⟩) n cv, .int .i64 x1, .int .i64 x2, .int .i64 x3, .int .i64 x4, .bool x5], .agg #[.int .i64 4, .string nm, .string dt, .int .i64 sz]] w fun e w' => Done w w' Bo (doS L x1 4 nm dt sz (-1)).1 x1 x2 x3 x4 x5 (doS L x1 4 nm dt sz (-1)).2 e := by
  subst hLn
  have hfl := hO.f.fl
  have hb0 : Below w.heap.size w (((w.alloc (.cells #[.slice (some ⟨gv, 0, none⟩) L.length cv, .int .i64 x1, .int .i64 x2, .int .i64 x3, .int .i64 x4, .bool x5] 30)).alloc (.cells #[.int .i64 4, .string nm, .string dt, .int .i64 sz] 59)).alloc (.cells #[.slice none 0 0, .int .i64 0, .int .i64 0, .int .i64 0, .int .i64 0, .bool false] 30)) := bstep (bal _ _) (bstep (bal _ _) (bal _ _))
  have hX := rowL (rowL (heap_alloc_new w (.cells #[.slice (some ⟨gv, 0, none⟩) L.length cv, .int .i64 x1, .int .i64 x2, .int .i64 x3, .int .i64 x4, .bool x5] 30)) (bal (w.alloc (.cells #[.slice (some ⟨gv, 0, none⟩) L.length cv, .int .i64 x1, .int .i64 x2, .int .i64 x3, .int .i64 x4, .bool x5] 30)) (.cells #[.int .i64 4, .string nm, .string dt, .int .i64 sz] 59))) (bal ((w.alloc (.cells #[.slice (some ⟨gv, 0, none⟩) L.length cv, .int .i64 x1, .int .i64 x2, .int .i64 x3, .int .i64 x4, .bool x5] 30)).alloc (.cells #[.int .i64 4, .string nm, .string dt, .int .i64 sz] 59)) (.cells #[.slice none 0 0, .int .i64 0, .int .i64 0, .int .i64 0, .int .i64 0, .bool false] 30))
  have hP := heap_alloc_new (w.alloc (.cells #[.slice (some ⟨gv, 0, none⟩) L.length cv, .int .i64 x1, .int .i64 x2, .int .i64 x3, .int .i64 x4, .bool x5] 30)) (.cells #[.int .i64 4, .string nm, .string dt, .int .i64 sz] 59)
  rw [World.size_alloc] at hP
  replace hP := rowL hP (bal ((w.alloc (.cells #[.slice (some ⟨gv, 0, none⟩) L.length cv, .int .i64 x1, .int .i64 x2, .int .i64 x3, .int .i64 x4, .bool x5] 30)).alloc (.cells #[.int .i64 4, .string nm, .string dt, .int .i64 sz] 59)) (.cells #[.slice none 0 0, .int .i64 0, .int .i64 0, .int .i64 0, .int .i64 0, .bool false] 30))
  have hR := heap_alloc_new ((w.alloc (.cells #[.slice (some ⟨gv, 0, none⟩) L.length cv, .int .i64 x1, .int .i64 x2, .int .i64 x3, .int .i64 x4, .bool x5] 30)).alloc (.cells #[.int .i64 4, .string nm, .string dt, .int .i64 sz] 59)) (.cells #[.slice none 0 0, .int .i64 0, .int .i64 0, .int .i64 0, .int .i64 0, .bool false] 30)
  have hs2 : ((w.alloc (.cells #[.slice (some ⟨gv, 0, none⟩) L.length cv, .int .i64 x1, .int .i64 x2, .int .i64 x3, .int .i64 x4, .bool x5] 30)).alloc (.cells #[.int .i64 4, .string nm, .string dt, .int .i64 sz] 59)).heap.size = w.heap.size + 1 + 1 := by simp
  rw [hs2] at hR
  have hn := hF.sm.n
  have hdo : doS L x1 4 nm dt sz (-1) = (L, 14) := by simp [doS]
  rw [hdo]
  go_enter Tryd.func53, Tryd.ntmps53
  go_wp2_with (go_at_call 94; refine (sFind (some ⟨gv, 0, none⟩) L.length cv (nthF L) x1 x2 x3 x4 x5 nm _ (hfl.later hb0) hn).mono ?_; rintro e w1 ⟨r', rfl, hr', hb1⟩; obtain rfl : r' = (-1) := fd_same hr' hr; have hX1 := rowL hX hb1; have hP1 := rowL hP hb1; have hR1 := rowL hR hb1; obtain ⟨xc0, xc1, xc2, xc3, xc4, xc5⟩ := B6.of hX1; obtain ⟨xf0, xf1, xf2, xf3, xf4, xf5⟩ := F6.of hX1; have pc0 : w1.cell? ⟨w.heap.size + 1, 0, none⟩ = some (.int .i64 4) := (cell_of_row _ _ 0 _ _ _ hP1).trans rfl; have pc1 : w1.cell? ⟨w.heap.size + 1, 1, none⟩ = some (.string nm) := (cell_of_row _ _ 1 _ _ _ hP1).trans rfl; have pc2 : w1.cell? ⟨w.heap.size + 1, 2, none⟩ = some (.string dt) := (cell_of_row _ _ 2 _ _ _ hP1).trans rfl; have pc3 : w1.cell? ⟨w.heap.size + 1, 3, none⟩ = some (.int .i64 sz) := (cell_of_row _ _ 3 _ _ _ hP1).trans rfl; obtain ⟨rc0, rc1, rc2, rc3, rc4, rc5⟩ := B6.of hR1; obtain ⟨rf0, rf1, rf2, rf3, rf4, rf5⟩ := F6.of hR1)
  refine bodyPost_ret (results_cell_tmp Tryd.results53 _ _ (w.heap.size + 1 + 1) 30 _ (0, 0) _ rfl (set6_row _ _ _ _ _ _ hR1) Tryd.underlying30 rfl (by kernel_rfl)) rfl ⟨_, _, _, rfl, ?_, set6_below _ _ _ _ _ _ (bstep hb0 hb1) (by omega)⟩
  exact keep6 (own_below hO (bstep hb0 hb1)) hR1
set_option maxRecDepth 20000 in
set_option maxHeartbeats 8000000 in
theorem sDo5m (Bo : Nat) (gv : Nat) (n cv : Nat) (L : List Fil) (hLn : L.length = n) (x1 x2 x3 x4 : Int) (x5 : Bool) (nm dt : ByteArray) (sz : Int) (w : World) (hO : OwnL w Bo (.slice (some ⟨gv, 0, none⟩) n cv) L) (_hBo : Bo ≤ w.heap.size) (hF : Fit L x1 5 nm dt) (hr : FdAt L nm (-1)) :
    Calls Tryd.prog 53 #[.agg #[.slice (some ⟨gv, 0, none⟩) n cv, .int .i64 x1, .int .i64 x2, .int .i64 x3, .int .i64 x4, .bool x5], .agg #[.int .i64 5, .string nm, .string dt, .int .i64 sz]] w fun e w' => Done w w' Bo (doS L x1 5 nm dt sz (-1)).1 x1 x2 x3 x4 x5 (doS L x1 5 nm dt sz (-1)).2 e := by
  subst hLn
  have hfl := hO.f.fl
  have hb0 : Below w.heap.size w (((w.alloc (.cells #[.slice (some ⟨gv, 0, none⟩) L.length cv, .int .i64 x1, .int .i64 x2, .int .i64 x3, .int .i64 x4, .bool x5] 30)).alloc (.cells #[.int .i64 5, .string nm, .string dt, .int .i64 sz] 59)).alloc (.cells #[.slice none 0 0, .int .i64 0, .int .i64 0, .int .i64 0, .int .i64 0, .bool false] 30)) := bstep (bal _ _) (bstep (bal _ _) (bal _ _))
  have hX := rowL (rowL (heap_alloc_new w (.cells #[.slice (some ⟨gv, 0, none⟩) L.length cv, .int .i64 x1, .int .i64 x2, .int .i64 x3, .int .i64 x4, .bool x5] 30)) (bal (w.alloc (.cells #[.slice (some ⟨gv, 0, none⟩) L.length cv, .int .i64 x1, .int .i64 x2, .int .i64 x3, .int .i64 x4, .bool x5] 30)) (.cells #[.int .i64 5, .string nm, .string dt, .int .i64 sz] 59))) (bal ((w.alloc (.cells #[.slice (some ⟨gv, 0, none⟩) L.length cv, .int .i64 x1, .int .i64 x2, .int .i64 x3, .int .i64 x4, .bool x5] 30)).alloc (.cells #[.int .i64 5, .string nm, .string dt, .int .i64 sz] 59)) (.cells #[.slice none 0 0, .int .i64 0, .int .i64 0, .int .i64 0, .int .i64 0, .bool false] 30))
  have hP := heap_alloc_new (w.alloc (.cells #[.slice (some ⟨gv, 0, none⟩) L.length cv, .int .i64 x1, .int .i64 x2, .int .i64 x3, .int .i64 x4, .bool x5] 30)) (.cells #[.int .i64 5, .string nm, .string dt, .int .i64 sz] 59)
  rw [World.size_alloc] at hP
  replace hP := rowL hP (bal ((w.alloc (.cells #[.slice (some ⟨gv, 0, none⟩) L.length cv, .int .i64 x1, .int .i64 x2, .int .i64 x3, .int .i64 x4, .bool x5] 30)).alloc (.cells #[.int .i64 5, .string nm, .string dt, .int .i64 sz] 59)) (.cells #[.slice none 0 0, .int .i64 0, .int .i64 0, .int .i64 0, .int .i64 0, .bool false] 30))
  have hR := heap_alloc_new ((w.alloc (.cells #[.slice (some ⟨gv, 0, none⟩) L.length cv, .int .i64 x1, .int .i64 x2, .int .i64 x3, .int .i64 x4, .bool x5] 30)).alloc (.cells #[.int .i64 5, .string nm, .string dt, .int .i64 sz] 59)) (.cells #[.slice none 0 0, .int .i64 0, .int .i64 0, .int .i64 0, .int .i64 0, .bool false] 30)
  have hs2 : ((w.alloc (.cells #[.slice (some ⟨gv, 0, none⟩) L.length cv, .int .i64 x1, .int .i64 x2, .int .i64 x3, .int .i64 x4, .bool x5] 30)).alloc (.cells #[.int .i64 5, .string nm, .string dt, .int .i64 sz] 59)).heap.size = w.heap.size + 1 + 1 := by simp
  rw [hs2] at hR
  have hn := hF.sm.n
  have hdo : doS L x1 5 nm dt sz (-1) = (L, 14) := by simp [doS]
  rw [hdo]
  go_enter Tryd.func53, Tryd.ntmps53
  go_wp2_with (go_at_call 94; refine (sFind (some ⟨gv, 0, none⟩) L.length cv (nthF L) x1 x2 x3 x4 x5 nm _ (hfl.later hb0) hn).mono ?_; rintro e w1 ⟨r', rfl, hr', hb1⟩; obtain rfl : r' = (-1) := fd_same hr' hr; have hX1 := rowL hX hb1; have hP1 := rowL hP hb1; have hR1 := rowL hR hb1; obtain ⟨xc0, xc1, xc2, xc3, xc4, xc5⟩ := B6.of hX1; obtain ⟨xf0, xf1, xf2, xf3, xf4, xf5⟩ := F6.of hX1; have pc0 : w1.cell? ⟨w.heap.size + 1, 0, none⟩ = some (.int .i64 5) := (cell_of_row _ _ 0 _ _ _ hP1).trans rfl; have pc1 : w1.cell? ⟨w.heap.size + 1, 1, none⟩ = some (.string nm) := (cell_of_row _ _ 1 _ _ _ hP1).trans rfl; have pc2 : w1.cell? ⟨w.heap.size + 1, 2, none⟩ = some (.string dt) := (cell_of_row _ _ 2 _ _ _ hP1).trans rfl; have pc3 : w1.cell? ⟨w.heap.size + 1, 3, none⟩ = some (.int .i64 sz) := (cell_of_row _ _ 3 _ _ _ hP1).trans rfl; obtain ⟨rc0, rc1, rc2, rc3, rc4, rc5⟩ := B6.of hR1; obtain ⟨rf0, rf1, rf2, rf3, rf4, rf5⟩ := F6.of hR1)
  refine bodyPost_ret (results_cell_tmp Tryd.results53 _ _ (w.heap.size + 1 + 1) 30 _ (0, 0) _ rfl (set6_row _ _ _ _ _ _ hR1) Tryd.underlying30 rfl (by kernel_rfl)) rfl ⟨_, _, _, rfl, ?_, set6_below _ _ _ _ _ _ (bstep hb0 hb1) (by omega)⟩
  exact keep6 (own_below hO (bstep hb0 hb1)) hR1
end Go.Proofs.YtdbcihebhgpblaaDoor
