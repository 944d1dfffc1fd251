/-
  A tree with one entry more: the program's way.
-/
import Derived.Test.YtjbbbfplephkpaaGreatDoorGd
namespace Go.Proofs.YtjbbbfplephkpaaGreatDoor
open Go.RowKit Go.ChangeMaps
theorem own_base {w : World} {B B' g n cap : Nat} {xs : List Value} (h : w.ownsRow B 9 1 (.slice (some ⟨g, 0, none⟩) n cap) n xs) (hB : B' ≤ B) : w.ownsRow B' 9 1 (.slice (some ⟨g, 0, none⟩) n cap) n xs := by
  refine ⟨h.1, ?_⟩
  rcases h.2 with h0 | ⟨g', cap', cur, hv, hb, hg, hn, hc, hs, ht⟩
  · exact .inl h0
  · exact .inr ⟨g', cap', cur, hv, Nat.le_trans hB hb, hg, hn, hc, hs, ht⟩
set_option maxRecDepth 20000 in
set_option maxHeartbeats 8000000 in
theorem implGrow_good (k z : Int) (a : Option Addr) (n c : Nat) (S : Nat → ByteArray) (x : ByteArray) (w : World) (h : Sl w a n S) (hc : n ≤ c) (hK : KeysAt w) (hok : okB k z n S = true) (hz2 : z < 2000) (hx : x.size ≤ 1048576) (r : Nat) (hr : lows z.toNat = r) :
    Calls Tryz.prog 9 #[.int .i64 k, .agg #[.int .i64 z, .slice a n c], .string x] w fun e w' => ∃ g cap, e = .returned (.agg #[.int .i64 (z + 1), .slice (some ⟨g, 0, none⟩) (n - r + 1) cap]) ∧ w'.ownsRow (w.heap.size + 2) 9 1 (.slice (some ⟨g, 0, none⟩) (n - r + 1) cap) (n - r + 1) (strs (grownS k S n x r) (n - r + 1)) ∧ Below w.heap.size w w' := by
  have hS0 := h.later (below2 w (.cells #[.int .i64 z, .slice a n c] 28) (.cells #[.int .i64 0, .slice none 0 0] 28))
  obtain ⟨p00, q00⟩ := cell_box w (.int .i64 z) (.slice a n c) 28
  have p0 := keep (below1 _ (.cells #[.int .i64 0, .slice none 0 0] 28)) p00
  have q0 := keep (below1 _ (.cells #[.int .i64 0, .slice none 0 0] 28)) q00
  have t0 := there_row _ _ _ _ 2 rfl (heap_alloc2_new w (.cells #[.int .i64 z, .slice a n c] 28) (.cells #[.int .i64 0, .slice none 0 0] 28))
  clear p00 q00
  obtain ⟨hk, hz0, hz1, hn, hs⟩ := okB_out hok
  have hn12 : n ≤ 12 := by rw [hn]; exact on_le _
  have HO : Hid (okB k z n S = true) := hok
  have HK : Hid (KeysAt ((w.alloc (.cells #[.int .i64 z, .slice a n c] 28)).alloc (.cells #[.int .i64 0, .slice none 0 0] 28))) := keys_later hK (below2 _ _ _)
  have hw := wid_le k
  obtain ⟨zn, rfl⟩ : ∃ zn : Nat, z = zn := ⟨z.toNat, by omega⟩
  have hzn : zn < 2000 := by omega
  have HN : Hid (on zn = n) := hn.symm
  have HLW : Hid (lows zn = r) := hr
  have d2000 : ((zn : Int) == 2000) = false := by simpa using (by omega : ¬ (zn : Int) = 2000)
  have hwz : IntKind.i64.wrap ((zn : Int) + 1) = (zn : Int) + 1 := by rw [IntKind.wrap_i64]; omega
  obtain ⟨i0, hi0, hzz0, hzz1, hzz2⟩ := info_parts Tryz.info9
  have HI0 : Hid (Tryz.prog.info? 9 = some i0) := hi0
  have I31 : Hid ((Tryz.prog.info? 28).map (·.size) = some 2) := Tryz.info28
  have hs32 : ∀ i, i < n → (S i).size ≤ 32 := fun i hi => by rw [hs i hi]; exact hw
  have hP : ∀ P off, a = some ⟨P, off, none⟩ → 0 < n → P < w.heap.size := by
    intro P off e hp
    obtain ⟨b', o, e', hc⟩ := h.at 0 hp
    rw [e] at e'
    obtain ⟨rfl, rfl⟩ : P = b' ∧ off = o := by simpa using e'
    exact World.block_lt_of_cell? w _ hc
  obtain ⟨X, hX⟩ : ∃ X, cells8 (pad (leafD k x)) = X := ⟨_, rfl⟩
  have HX : Hid (cells8 (pad (leafD k x)) = X) := hX
  have ln : X.length = 32 := by rw [← hX, cells8_len]; exact pad_len _ (dg_le _ _)
  have on3 : ∀ v ∈ X, v.oneCell' = true := by rw [← hX]; exact cells8_one _
  obtain ⟨hzr, hi⟩ := zero_of_info Tryz.info45
  have HI : Hid ((Tryz.prog.info? 45).map (·.size) = some 32) := hi
  have i3 : (Tryz.prog.info? 45).map (·.size) = some X.toArray.size := by rw [show X.toArray.size = 32 from ln]; exact hi
  have I3 : Hid ((Tryz.prog.info? 45).map (·.size) = some X.toArray.size) := i3
  clear hok hn hr hi0 hX hi i3 hK
  have hsz2 : ((w.alloc (.cells #[.int .i64 zn, .slice a n c] 28)).alloc (.cells #[.int .i64 0, .slice none 0 0] 28)).heap.size = w.heap.size + 2 := by simp
  have HP : Hid (∀ P off, a = some ⟨P, off, none⟩ → 0 < n → P < w.heap.size) := hP
  clear hP
  go_enter Tryz.func9, Tryz.ntmps9
  go_wp2_with (first | (go_at_call 13; refine (implOK_any _ _ _ _ _ S _ hS0).mono ?_; rw [HO.out]; rintro e w1 ⟨rfl, hb1⟩; have p1 := keep hb1 p0; have q1 := keep hb1 q0) | (go_at_call 15; refine (makeJoiner_any k _).mono ?_; rintro e w2 ⟨b, hbb, rfl, hd2, hb2⟩))
  have gj : Gj k (zn : Int) b w2.heap.size a n c S w (w2.alloc (.cells #[.int .i64 k, .map (some b)] 42)) := by
    have z1 : w.heap.size + 2 ≤ w1.heap.size := by have := hb1.size; omega
    obtain ⟨u0, u1⟩ := cell_box w2 (.int .i64 k) (.map (some b)) 42
    have bw1 : Below w.heap.size w w1 := (below2 _ _ _).trans (hb1.mono (by omega))
    have bw2 : Below w.heap.size w w2 := bw1.trans (hb2.mono bw1.size)
    have bw3 : Below w.heap.size w (w2.alloc (.cells #[.int .i64 k, .map (some b)] 42)) := bw2.trans ((below1 _ _).mono bw2.size)
    exact ⟨keep (below1 _ _) (keep hb2 p1), keep (below1 _ _) (keep hb2 q1), there_later (there_later (there_later t0 hb1) hb2) (below1 _ _), h.later bw3, u0, u1, keys_later (keys_later (keys_later HK.out hb1) hb2) (below1 _ _), (hd2.mono (by omega)).later (below1 _ _), bw3, HP.out, by omega, hd2.lt, by simp⟩
  obtain ⟨J, hJ⟩ : ∃ J, w2.heap.size = J := ⟨_, rfl⟩
  obtain ⟨W, hW⟩ : ∃ W, w2.alloc (.cells #[.int .i64 k, .map (some b)] 42) = W := ⟨_, rfl⟩
  rw [hW, hJ] at gj
  rw [hW, hJ]
  clear hW hJ p0 q0 p1 q1 t0 hS0 hb1 hb2 hd2 hbb HK HO h
  have gd := gj.drew1
  refine wp_region_held_drew (S := fun w' => w'.cell? ⟨w.heap.size, 1, none⟩ = some (.slice a n c) ∧ w'.cell? ⟨J, 0, none⟩ = some (.int .i64 k) ∧ w'.cell? ⟨J, 1, none⟩ = some (.map (some b))) (by kernel_rfl) ⟨gd.c1, gd.j0, gd.j1⟩ (fun hHeld => ?_)
  refine wpAnyH_take (i := 0) (oi := ({ dst := some 24, op := Op.fieldAddr 28 (Operand.tmp 4) 1, type := 0, pos := "l2_tree.go:62", after := #[], guard := none } : Oper)) (v := .pointer (some ⟨w.heap.size, 1, none⟩)) rfl (by kernel_rfl) (by kernel_rfl) (by kernel_rfl) (fun _ _ _ h => h) (Or.inl ⟨by rfl, fun w hSw => by go_simp⟩) hHeld ?_
  simp only [Act.put, List.setIfInBounds_toArray, List.set_cons_zero, List.set_cons_succ]
  refine wpAnyH_take (i := 1) (oi := ({ dst := some 25, op := Op.load 23 (Operand.tmp 24), type := 23, pos := "l2_tree.go:62", after := #[{ on := 0, ground := Ground.data }], guard := none } : Oper)) (v := .slice a n c) rfl (by kernel_rfl) (by kernel_rfl) (by kernel_rfl) (fun _ _ _ h => h) (Or.inl ⟨by rfl, fun w hSw => by obtain ⟨y0, y1, y2⟩ := hSw; go_simp⟩) hHeld ?_
  simp only [Act.put, List.setIfInBounds_toArray, List.set_cons_zero, List.set_cons_succ]
  refine wpAnyH_take (i := 2) (oi := ({ dst := some 26, op := Op.load 42 (Operand.tmp 7), type := 42, pos := "l2_tree.go:62", after := #[], guard := none } : Oper)) (v := .agg #[.int .i64 k, .map (some b)]) rfl (by kernel_rfl) (by kernel_rfl) (by kernel_rfl) (fun _ _ _ h => h) (Or.inl ⟨by rfl, fun w hSw => by obtain ⟨y0, y1, y2⟩ := hSw; go_simp⟩) hHeld ?_
  simp only [Act.put, List.setIfInBounds_toArray, List.set_cons_zero, List.set_cons_succ]
  refine wpAnyH_take (i := 3) (oi := ({ dst := some 27, op := Op.move (Operand.tmp 2), type := 9, pos := "l2_tree.go:62", after := #[], guard := none } : Oper)) (v := .string x) rfl (by kernel_rfl) (by kernel_rfl) (by kernel_rfl) (fun _ _ _ h => h) (Or.inl ⟨by rfl, fun w hSw => by go_simp⟩) hHeld ?_
  simp only [Act.put, List.setIfInBounds_toArray, List.set_cons_zero, List.set_cons_succ]
  refine wpAnyH_ready (rs := [4, 5]) (by kernel_rfl) (by simp) ?_
  refine AllReadyH.cons (o := ({ dst := some 28, op := Op.call { callee := Callee.value (Operand.func 26), args := #[Operand.tmp 26, Operand.tmp 27], argTypes := #[42, 9] }, type := 45, pos := "l2_tree.go:62", after := #[{ on := 2, ground := Ground.data }, { on := 3, ground := Ground.data }], guard := none } : Oper)) rfl (fun K hK => ?_) (AllReadyH.cons (o := ({ dst := some 9, op := Op.alloc 45, type := 0, pos := "l2_tree.go:62", after := #[], guard := none } : Oper)) rfl (fun K hK => ?_) AllReadyH.nil)
  · go_simp
    refine (jleaf_any k b x _ gd.keys (by omega) X HX.out).mono ?_
    rintro e w4 ⟨rfl, hb4⟩
    have g4 := gd.call hb4
    refine hK.out _ _ ⟨g4.c1, g4.j0, g4.j1⟩ (fun hHeld => ?_)
    clear hK K
    refine wpAnyH_ready (rs := [5]) (by kernel_rfl) (by simp) ?_
    refine AllReadyH.cons (o := ({ dst := some 9, op := Op.alloc 45, type := 0, pos := "l2_tree.go:62", after := #[], guard := none } : Oper)) rfl (fun K hK => ?_) AllReadyH.nil
    go_simp
    have g5 := g4.call (below1 w4 (.cells zeros32 45))
    refine hK.out _ _ ⟨g5.c1, g5.j0, g5.j1⟩ (fun hHeld => ?_)
    clear hK K
    refine wpAnyH_ready (rs := [6]) (by kernel_rfl) (by simp) ?_
    refine AllReadyH.cons (o := ({ dst := some 8, op := Op.assign (Operand.tmp 25), type := 23, pos := "l2_tree.go:62", after := #[{ on := 1, ground := Ground.data }, { on := 4, ground := Ground.chain }, { on := 0, ground := Ground.phase }, { on := 1, ground := Ground.phase }, { on := 2, ground := Ground.textOnly Departure.lateStores }, { on := 3, ground := Ground.textOnly Departure.lateStores }, { on := 4, ground := Ground.textOnly Departure.lateStoresUnsure }, { on := 5, ground := Ground.phase }], guard := none } : Oper)) rfl (fun K hK => ?_) AllReadyH.nil
    go_simp
    refine hK.out _ _ ⟨g5.c1, g5.j0, g5.j1⟩ (fun hHeld => ?_)
    clear hK K
    refine wpAnyH_ready (rs := [7]) (by kernel_rfl) (by simp) ?_
    refine AllReadyH.cons (o := ({ dst := none, op := Op.store 45 (Operand.tmp 9) (Operand.tmp 28), type := 0, pos := "l2_tree.go:62", after := #[{ on := 5, ground := Ground.data }, { on := 4, ground := Ground.data }, { on := 6, ground := Ground.chain }, { on := 0, ground := Ground.phase }, { on := 1, ground := Ground.phase }, { on := 2, ground := Ground.phase }, { on := 3, ground := Ground.phase }, { on := 4, ground := Ground.phase }, { on := 5, ground := Ground.phase }, { on := 6, ground := Ground.phase }], guard := none } : Oper)) rfl (fun K hK => ?_) AllReadyH.nil
    rw [if_pos (by rfl)]
    have hth : (w4.alloc (.cells zeros32 45)).there w4.heap.size 0 32 := there_row _ _ _ _ _ zeros32_size (heap_alloc_new _ _)
    refine wp_store_mid _ _ _ rfl w4.heap.size 0 X.toArray rfl rfl (by rw [show X.toArray.size = 32 from ln]; exact hth) I3.out (all_oneCell_toArray on3) ?_
    have hJM := g5.hs
    have gi := g5.marked (M := w4.heap.size) X ln g4.hs (by simp) hth
    refine hK.out _ _ ⟨(World.cell?_setCells_out _ _ _ _ _ (fun e => by simp at e; have := gi.hb; have := gi.hJ; have := gi.hM; omega)).trans g5.c1, gi.j0, gi.j1⟩ (fun hHeld => ?_)
    clear hK K hHeld
    refine wpAnyH_done (by kernel_rfl) ?_ _
    obtain ⟨M, hM⟩ : ∃ M, w4.heap.size = M := ⟨_, rfl⟩
    rw [hM] at gi ⊢
    obtain ⟨wg, hwg⟩ : ∃ wg, (w4.alloc (.cells zeros32 45)).setCells M 0 X = wg := ⟨_, rfl⟩
    rw [hwg] at gi ⊢
    clear hM hwg hth hJM g4 g5 hb4 gj gd
    have c0 := gi.c0
    go_wp2
    clear c0
    go_loopw [8, 10] (fun p q wr => ∃ (i xx : Nat) (Y : List Value), xx < 2048 ∧ on xx + i = n ∧ i + lows xx = r ∧ p = .slice a (n - i) c ∧ q = .int .i64 xx ∧ cells8 (pad (gl k S n x i)) = Y ∧ Gi k (zn : Int) b J M a n c S w Y wr) (fun _ q _ => (intOf q).toNat)
    case atStart => exact ⟨0, zn, X, by omega, by have := HN.out; omega, by have := HLW.out; omega, rfl, rfl, HX.out, gi⟩
    case round =>
      clear gi HX ln on3 I3 hzr
      obtain ⟨i, xx, Y, hxx, hon, hlow, rfl, rfl, hY, gi⟩ := hrel
      have HY : Hid (cells8 (pad (gl k S n x i)) = Y) := hY
      clear hY
      have hdw := gl_wid k S n x hk i
      have ln2 : Y.length = 32 := by rw [← HY.out, cells8_len]; exact pad_len _ (by omega)
      have i2 : (Tryz.prog.info? 45).map (·.size) = some Y.length := by rw [ln2]; exact HI.out
      have hu := Tryz.underlying45
      by_cases hodd : xx % 2 = 1
      · have h1 := on_pos xx hxx hodd
        have h2 := lows_odd xx hxx hodd
        have H1 : Hid (on (xx / 2) + (i + 1) = n) := by show on (xx / 2) + (i + 1) = n; omega
        have H2 : Hid (i + 1 + lows (xx / 2) = r) := by show i + 1 + lows (xx / 2) = r; omega
        obtain ⟨t, ht⟩ : ∃ t, n - i = t + 1 := ⟨n - i - 1, by omega⟩
        have htn : t < n := by omega
        have hsw := hs t htn
        have hst := hs32 t htn
        have htc : (t : Int) ≤ c := by omega
        obtain ⟨P, off, rfl, hct⟩ := gi.sl.at t htn
        have hD : Hid (nodeD k (S t) (gl k S n x i) = gl k S n x (i + 1)) := by
          show nodeD k (S t) (gl k S n x i) = nodeD k (S (n - 1 - i)) (gl k S n x i)
          rw [show n - 1 - i = t by omega]
        have HT : Hid (n - (i + 1) = t) := by show n - (i + 1) = t; omega
        rw [ht]
        obtain ⟨d, hd⟩ : ∃ l, gl k S n x i = l := ⟨_, rfl⟩
        rw [hd] at hD HY hdw
        obtain ⟨X1, hX1⟩ : ∃ X, cells8 (pad (S t)) = X := ⟨_, rfl⟩
        obtain ⟨R, hR⟩ : ∃ X, cells8 (pad (nodeD k (S t) d)) = X := ⟨_, rfl⟩
        have HX1 : Hid (cells8 (pad (S t)) = X1) := hX1
        have HR : Hid (cells8 (pad (nodeD k (S t) d)) = R) := hR
        have ln3 : R.length = 32 := by rw [← hR, cells8_len]; exact pad_len _ (dg_le _ _)
        have on3 : ∀ v ∈ R, v.oneCell' = true := by rw [← hR]; exact cells8_one _
        have i3 : (Tryz.prog.info? 45).map (·.size) = some R.toArray.size := by rw [show R.toArray.size = 32 from ln3]; exact HI.out
        have hw1 : IntKind.i64.wrap ((t : Int) + 1 - 1) = (t : Int) := by rw [IntKind.wrap_i64]; omega
        have hw2 : IntKind.i64.wrap (t : Int) = (t : Int) := by rw [IntKind.wrap_i64]; omega
        have hodd' : (xx : Int) % 2 = 1 := by omega
        have htt : (t : Int) < (t : Int) + 1 := by omega
        have s8 : ∀ w', Gi k (zn : Int) b J M (some ⟨P, off, none⟩) n c S w Y w' → (w'.cell? ⟨J, 0, none⟩ = some (.int .i64 k) ∧ w'.cell? ⟨J, 1, none⟩ = some (.map (some b)) ∧ w'.cell? ⟨P, off + t, none⟩ = some (.string (S t))) := fun w' g => by
          obtain ⟨P', o, e, hc⟩ := g.sl.at t htn
          obtain ⟨rfl, rfl⟩ : P = P' ∧ off = o := by simpa using e
          exact ⟨g.j0, g.j1, hc⟩
        have s8R : ∀ w', Gi k (zn : Int) b J M (some ⟨P, off, none⟩) n c S w R w' → (w'.cell? ⟨J, 0, none⟩ = some (.int .i64 k) ∧ w'.cell? ⟨J, 1, none⟩ = some (.map (some b)) ∧ w'.cell? ⟨P, off + t, none⟩ = some (.string (S t))) := fun w' g => by
          obtain ⟨P', o, e, hc⟩ := g.sl.at t htn
          obtain ⟨rfl, rfl⟩ : P = P' ∧ off = o := by simpa using e
          exact ⟨g.j0, g.j1, hc⟩
        have S8 : Hid (∀ w', Gi k (zn : Int) b J M (some ⟨P, off, none⟩) n c S w Y w' → (w'.cell? ⟨J, 0, none⟩ = some (.int .i64 k) ∧ w'.cell? ⟨J, 1, none⟩ = some (.map (some b)) ∧ w'.cell? ⟨P, off + t, none⟩ = some (.string (S t)))) := s8
        have S8R : Hid (∀ w', Gi k (zn : Int) b J M (some ⟨P, off, none⟩) n c S w R w' → (w'.cell? ⟨J, 0, none⟩ = some (.int .i64 k) ∧ w'.cell? ⟨J, 1, none⟩ = some (.map (some b)) ∧ w'.cell? ⟨P, off + t, none⟩ = some (.string (S t)))) := s8R
        have FIN : Hid (∀ w', Gi k (zn : Int) b J M (some ⟨P, off, none⟩) n c S w R w' → ∃ (i xx' : Nat) (Y : List Value), xx' < 2048 ∧ on xx' + i = n ∧ i + lows xx' = r ∧ Value.slice (some ⟨P, off, none⟩) t c = .slice (some ⟨P, off, none⟩) (n - i) c ∧ Value.int .i64 ((xx : Int) / 2) = .int .i64 xx' ∧ cells8 (pad (gl k S n x i)) = Y ∧ Gi k (zn : Int) b J M (some ⟨P, off, none⟩) n c S w Y w') :=
          fun w' g => ⟨i + 1, xx / 2, R, by omega, H1.out, H2.out, by rw [HT.out], by go_num, by rw [← hD.out]; exact HR.out, g⟩
        clear hon hlow h1 h2 ht hd hX1 hR s8 s8R hct
        go_wp2
        have gd := gi.drew1
        refine wp_region_held_drew (S := fun w' => w'.cell? ⟨J, 0, none⟩ = some (.int .i64 k) ∧ w'.cell? ⟨J, 1, none⟩ = some (.map (some b)) ∧ w'.cell? ⟨P, off + t, none⟩ = some (.string (S t))) (by kernel_rfl) (S8.out _ gd) (fun hHeld => ?_)
        refine wpAnyH_take (i := 0) (oi := ({ dst := some 36, op := Op.load 42 (Operand.tmp 7), type := 42, pos := "l2_tree.go:65", after := #[], guard := none } : Oper)) (v := .agg #[.int .i64 k, .map (some b)]) rfl (by kernel_rfl) (by kernel_rfl) (by kernel_rfl) (fun _ _ _ h => h) (Or.inl ⟨by rfl, fun w hSw => by obtain ⟨y0, y1, y2⟩ := hSw; go_simp⟩) hHeld ?_
        simp only [Act.put, List.setIfInBounds_toArray, List.set_cons_zero, List.set_cons_succ]
        refine wpAnyH_take (i := 1) (oi := ({ dst := some 37, op := Op.move (Operand.tmp 8), type := 23, pos := "l2_tree.go:65", after := #[], guard := none } : Oper)) (v := .slice (some ⟨P, off, none⟩) (t + 1) c) rfl (by kernel_rfl) (by kernel_rfl) (by kernel_rfl) (fun _ _ _ h => h) (Or.inl ⟨by rfl, fun w hSw => by go_simp⟩) hHeld ?_
        simp only [Act.put, List.setIfInBounds_toArray, List.set_cons_zero, List.set_cons_succ]
        refine wpAnyH_take (i := 2) (oi := ({ dst := some 38, op := Op.move (Operand.tmp 8), type := 23, pos := "l2_tree.go:65", after := #[], guard := none } : Oper)) (v := .slice (some ⟨P, off, none⟩) (t + 1) c) rfl (by kernel_rfl) (by kernel_rfl) (by kernel_rfl) (fun _ _ _ h => h) (Or.inl ⟨by rfl, fun w hSw => by go_simp⟩) hHeld ?_
        simp only [Act.put, List.setIfInBounds_toArray, List.set_cons_zero, List.set_cons_succ]
        refine wpAnyH_take (i := 3) (oi := ({ dst := some 39, op := Op.call { callee := Callee.builtin Builtin.len, args := #[Operand.tmp 38], argTypes := #[23] }, type := 3, pos := "l2_tree.go:65", after := #[{ on := 2, ground := Ground.data }], guard := none } : Oper)) (v := .int .i64 ((t : Int) + 1)) rfl (by kernel_rfl) (by kernel_rfl) (by kernel_rfl) (fun _ _ _ h => h) (Or.inl ⟨by rfl, fun w hSw => by go_simp⟩) hHeld ?_
        simp only [Act.put, List.setIfInBounds_toArray, List.set_cons_zero, List.set_cons_succ]
        refine wpAnyH_take (i := 4) (oi := ({ dst := some 40, op := Op.binOp BinOp.sub 3 (Operand.tmp 39) (Operand.const (Value.int IntKind.i64 1)) 3, type := 3, pos := "l2_tree.go:65", after := #[{ on := 3, ground := Ground.data }], guard := none } : Oper)) (v := .int .i64 (t : Int)) rfl (by kernel_rfl) (by kernel_rfl) (by kernel_rfl) (fun _ _ _ h => h) (Or.inl ⟨by rfl, fun w hSw => by go_simp⟩) hHeld ?_
        simp only [Act.put, List.setIfInBounds_toArray, List.set_cons_zero, List.set_cons_succ]
        refine wpAnyH_take (i := 5) (oi := ({ dst := some 41, op := Op.indexAddr 23 (Operand.tmp 37) (Operand.tmp 40), type := 0, pos := "l2_tree.go:65", after := #[{ on := 1, ground := Ground.data }, { on := 4, ground := Ground.data }], guard := none } : Oper)) (v := .pointer (some ⟨P, off + t, none⟩)) rfl (by kernel_rfl) (by kernel_rfl) (by kernel_rfl) (fun _ _ _ h => h) (Or.inl ⟨by rfl, fun w hSw => by go_simp⟩) hHeld ?_
        simp only [Act.put, List.setIfInBounds_toArray, List.set_cons_zero, List.set_cons_succ]
        refine wpAnyH_take (i := 6) (oi := ({ dst := some 42, op := Op.load 9 (Operand.tmp 41), type := 9, pos := "l2_tree.go:65", after := #[{ on := 5, ground := Ground.data }], guard := none } : Oper)) (v := .string (S t)) rfl (by kernel_rfl) (by kernel_rfl) (by kernel_rfl) (fun _ _ _ h => h) (Or.inl ⟨by rfl, fun w hSw => by obtain ⟨y0, y1, y2⟩ := hSw; go_simp⟩) hHeld ?_
        simp only [Act.put, List.setIfInBounds_toArray, List.set_cons_zero, List.set_cons_succ]
        refine wpAnyH_ready (rs := [7, 8]) (by kernel_rfl) (by simp) ?_
        refine AllReadyH.cons (o := ({ dst := some 43, op := Op.call { callee := Callee.value (Operand.func 16), args := #[Operand.tmp 42], argTypes := #[9] }, type := 45, pos := "l2_tree.go:65", after := #[{ on := 6, ground := Ground.data }], guard := none } : Oper)) rfl (fun K hK => ?_) (AllReadyH.cons (o := ({ dst := some 44, op := Op.load 45 (Operand.tmp 9), type := 45, pos := "l2_tree.go:65", after := #[], guard := none } : Oper)) rfl (fun K hK => ?_) AllReadyH.nil)
        · go_simp
          refine (markOf_as (S t) _ hst X1 HX1.out).mono ?_
          rintro e w6 ⟨rfl, hb6⟩
          have g1 := gd.call hb6
          refine hK.out _ _ (S8.out _ g1) (fun hHeld => ?_)
          clear hK K
          refine wpAnyH_ready (rs := [8]) (by kernel_rfl) (by simp) ?_
          refine AllReadyH.cons (o := ({ dst := some 44, op := Op.load 45 (Operand.tmp 9), type := 45, pos := "l2_tree.go:65", after := #[], guard := none } : Oper)) rfl (fun K hK => ?_) AllReadyH.nil
          rw [if_pos (by rfl)]
          refine wp_load_mid _ _ rfl M 0 rfl Y _ g1.r hu rfl i2 ?_
          refine hK.out _ _ (S8.out _ g1) (fun hHeld => ?_)
          clear hK K
          simp only [Act.put, List.setIfInBounds_toArray, List.set_cons_zero, List.set_cons_succ]
          refine wpAnyH_ready (rs := [9]) (by kernel_rfl) (by simp) ?_
          refine AllReadyH.cons (o := ({ dst := some 45, op := Op.call { callee := Callee.value (Operand.func 17), args := #[Operand.tmp 36, Operand.tmp 43, Operand.tmp 44], argTypes := #[42, 45, 45] }, type := 45, pos := "l2_tree.go:65", after := #[{ on := 0, ground := Ground.data }, { on := 7, ground := Ground.data }, { on := 8, ground := Ground.data }, { on := 7, ground := Ground.chain }], guard := none } : Oper)) rfl (fun K hK => ?_) AllReadyH.nil
          go_simp
          refine (node_any k b (S t) d _ g1.keys hk hsw hdw g1.dbl X1 Y R HX1.out HY.out HR.out).mono ?_
          rintro e w8 ⟨rfl, hd8, hg8⟩
          have g2 := g1.node hd8 hg8
          refine hK.out _ _ (S8.out _ g2) (fun hHeld => ?_)
          clear hK K
          refine wpAnyH_ready (rs := [10]) (by kernel_rfl) (by simp) ?_
          refine AllReadyH.cons (o := ({ dst := none, op := Op.store 45 (Operand.tmp 9) (Operand.tmp 45), type := 0, pos := "l2_tree.go:65", after := #[{ on := 9, ground := Ground.data }, { on := 9, ground := Ground.chain }, { on := 0, ground := Ground.phase }, { on := 1, ground := Ground.phase }, { on := 2, ground := Ground.phase }, { on := 3, ground := Ground.phase }, { on := 4, ground := Ground.phase }, { on := 5, ground := Ground.phase }, { on := 6, ground := Ground.phase }, { on := 7, ground := Ground.phase }, { on := 8, ground := Ground.phase }, { on := 9, ground := Ground.phase }], guard := none } : Oper)) rfl (fun K hK => ?_) AllReadyH.nil
          rw [if_pos (by rfl)]
          refine wp_store_mid _ _ _ rfl M 0 R.toArray rfl rfl (by rw [show R.toArray.size = 32 from ln3]; exact g2.t) i3 (all_oneCell_toArray on3) ?_
          have gz := g2.stored R ln3
          refine hK.out _ _ (S8R.out _ gz) (fun hHeld => ?_)
          clear hK K
          refine wpAnyH_done (by kernel_rfl) ?_ _
          go_wp2
          go_roundw
          case rel => first | exact FIN.out _ gz | exact ⟨_, _, FIN.out _ gz, rfl⟩
          case measure => simp [intOf] <;> omega
        · rw [if_pos (by rfl)]
          refine wp_load_mid _ _ rfl M 0 rfl Y _ gd.r hu rfl i2 ?_
          refine hK.out _ _ (S8.out _ gd) (fun hHeld => ?_)
          clear hK K
          simp only [Act.put, List.setIfInBounds_toArray, List.set_cons_zero, List.set_cons_succ]
          refine wpAnyH_ready (rs := [7]) (by kernel_rfl) (by simp) ?_
          refine AllReadyH.cons (o := ({ dst := some 43, op := Op.call { callee := Callee.value (Operand.func 16), args := #[Operand.tmp 42], argTypes := #[9] }, type := 45, pos := "l2_tree.go:65", after := #[{ on := 6, ground := Ground.data }], guard := none } : Oper)) rfl (fun K hK => ?_) AllReadyH.nil
          go_simp
          refine (markOf_as (S t) _ hst X1 HX1.out).mono ?_
          rintro e w6 ⟨rfl, hb6⟩
          have g1 := gd.call hb6
          refine hK.out _ _ (S8.out _ g1) (fun hHeld => ?_)
          clear hK K
          refine wpAnyH_ready (rs := [9]) (by kernel_rfl) (by simp) ?_
          refine AllReadyH.cons (o := ({ dst := some 45, op := Op.call { callee := Callee.value (Operand.func 17), args := #[Operand.tmp 36, Operand.tmp 43, Operand.tmp 44], argTypes := #[42, 45, 45] }, type := 45, pos := "l2_tree.go:65", after := #[{ on := 0, ground := Ground.data }, { on := 7, ground := Ground.data }, { on := 8, ground := Ground.data }, { on := 7, ground := Ground.chain }], guard := none } : Oper)) rfl (fun K hK => ?_) AllReadyH.nil
          go_simp
          refine (node_any k b (S t) d _ g1.keys hk hsw hdw g1.dbl X1 Y R HX1.out HY.out HR.out).mono ?_
          rintro e w8 ⟨rfl, hd8, hg8⟩
          have g2 := g1.node hd8 hg8
          refine hK.out _ _ (S8.out _ g2) (fun hHeld => ?_)
          clear hK K
          refine wpAnyH_ready (rs := [10]) (by kernel_rfl) (by simp) ?_
          refine AllReadyH.cons (o := ({ dst := none, op := Op.store 45 (Operand.tmp 9) (Operand.tmp 45), type := 0, pos := "l2_tree.go:65", after := #[{ on := 9, ground := Ground.data }, { on := 9, ground := Ground.chain }, { on := 0, ground := Ground.phase }, { on := 1, ground := Ground.phase }, { on := 2, ground := Ground.phase }, { on := 3, ground := Ground.phase }, { on := 4, ground := Ground.phase }, { on := 5, ground := Ground.phase }, { on := 6, ground := Ground.phase }, { on := 7, ground := Ground.phase }, { on := 8, ground := Ground.phase }, { on := 9, ground := Ground.phase }], guard := none } : Oper)) rfl (fun K hK => ?_) AllReadyH.nil
          rw [if_pos (by rfl)]
          refine wp_store_mid _ _ _ rfl M 0 R.toArray rfl rfl (by rw [show R.toArray.size = 32 from ln3]; exact g2.t) i3 (all_oneCell_toArray on3) ?_
          have gz := g2.stored R ln3
          refine hK.out _ _ (S8R.out _ gz) (fun hHeld => ?_)
          clear hK K
          refine wpAnyH_done (by kernel_rfl) ?_ _
          go_wp2
          go_roundw
          case rel => first | exact FIN.out _ gz | exact ⟨_, _, FIN.out _ gz, rfl⟩
          case measure => simp [intOf] <;> omega
      · have h2 := lows_even xx hodd
        obtain rfl : i = r := by omega
        have hodd' : ¬ (xx : Int) % 2 = 1 := by omega
        obtain ⟨last, hla⟩ : ∃ l, gl k S n x i = l := ⟨_, rfl⟩
        have HL : Hid (gl k S n x i = last) := hla
        rw [hla] at HY hdw
        obtain ⟨m, hm⟩ : ∃ m, n - i = m := ⟨_, rfl⟩
        have HM : Hid (n - i = m) := hm
        have hmn : m ≤ n := by omega
        rw [hm]
        have hsz : w.heap.size + 2 ≤ wr.heap.size := by have := gi.hb; have := gi.hJ; have := gi.hM; have := gi.hs; omega
        clear hla hon h2 hlow hm
        by_cases hm0 : m = 0
        · have HZ : Hid (m = 0) := hm0
          clear hm0
          go_wp2_with (first | (refine wpList_make_own _ rfl _ _ 23 rfl wr.heap.size 9 i0 (.string ByteArray.empty) 1 Tryz.underlying23 HI0.out hzz0 hzz1 .i64 .i64 _ (m + 1) rfl rfl (by omega) (by rw [hzz2]; omega) (by unfold maxLen; omega) (Nat.le_refl _) ?_; intro w5 hown5 hgrow5) | (at_builtin; refine wpList_run_append rfl (.tmp 54) (.tmp 55) 23 23 rfl _ _ _ rfl rfl (fun ty => append_zero _ _ (m + 1) c ty m a HZ.out) ?_))
          have hB6 : Below wr.heap.size wr w5 := (Below.refl _ _).grown hgrow5 (Nat.le_refl _) (fun j hj => by cases hj)
          have hown6 : w5.ownsRow wr.heap.size 9 1 (.slice (some ⟨wr.heap.size, 0, none⟩) m (m + 1)) m (strs S m) := by
            have := hown5
            rw [HZ.out] at this ⊢
            exact this
          have g6 := gi.call hB6
          have gd := g6.drew1
          have s11 : ∀ w', Gi k (zn : Int) b J M a n c S w Y w' → (w'.cell? ⟨w.heap.size, 0, none⟩ = some (.int .i64 (zn : Int)) ∧ w'.cell? ⟨J, 0, none⟩ = some (.int .i64 k) ∧ w'.cell? ⟨J, 1, none⟩ = some (.map (some b)) ∧ w'.rangeAt M 0 Y) := fun w' h => ⟨h.c0, h.j0, h.j1, h.r⟩
          have S11 : Hid (∀ w', Gi k (zn : Int) b J M a n c S w Y w' → (w'.cell? ⟨w.heap.size, 0, none⟩ = some (.int .i64 (zn : Int)) ∧ w'.cell? ⟨J, 0, none⟩ = some (.int .i64 k) ∧ w'.cell? ⟨J, 1, none⟩ = some (.map (some b)) ∧ w'.rangeAt M 0 Y)) := s11
          clear s11
          refine wp_region_held_drew (S := fun w' => w'.cell? ⟨w.heap.size, 0, none⟩ = some (.int .i64 (zn : Int)) ∧ w'.cell? ⟨J, 0, none⟩ = some (.int .i64 k) ∧ w'.cell? ⟨J, 1, none⟩ = some (.map (some b)) ∧ w'.rangeAt M 0 Y) (by kernel_rfl) (S11.out _ gd) (fun hHeld => ?_)
          refine wpAnyH_take (i := 0) (oi := ({ dst := some 57, op := Op.fieldAddr 28 (Operand.tmp 4) 0, type := 0, pos := "l2_tree.go:69", after := #[], guard := none } : Oper)) (v := .pointer (some ⟨w.heap.size, 0, none⟩)) rfl (by kernel_rfl) (by kernel_rfl) (by kernel_rfl) (fun _ _ _ h => h) (Or.inl ⟨by rfl, fun w hSw => by go_simp⟩) hHeld ?_
          simp only [Act.put, List.setIfInBounds_toArray, List.set_cons_zero, List.set_cons_succ]
          refine wpAnyH_take (i := 1) (oi := ({ dst := some 58, op := Op.load 3 (Operand.tmp 57), type := 3, pos := "l2_tree.go:69", after := #[{ on := 0, ground := Ground.data }], guard := none } : Oper)) (v := .int .i64 (zn : Int)) rfl (by kernel_rfl) (by kernel_rfl) (by kernel_rfl) (fun _ _ _ h => h) (Or.inl ⟨by rfl, fun w hSw => by obtain ⟨y0, y1, y2, y3⟩ := hSw; go_simp⟩) hHeld ?_
          simp only [Act.put, List.setIfInBounds_toArray, List.set_cons_zero, List.set_cons_succ]
          refine wpAnyH_take (i := 2) (oi := ({ dst := some 59, op := Op.binOp BinOp.add 3 (Operand.tmp 58) (Operand.const (Value.int IntKind.i64 1)) 3, type := 3, pos := "l2_tree.go:69", after := #[{ on := 1, ground := Ground.data }], guard := none } : Oper)) (v := .int .i64 ((zn : Int) + 1)) rfl (by kernel_rfl) (by kernel_rfl) (by kernel_rfl) (fun _ _ _ h => h) (Or.inl ⟨by rfl, fun w hSw => by go_simp⟩) hHeld ?_
          simp only [Act.put, List.setIfInBounds_toArray, List.set_cons_zero, List.set_cons_succ]
          refine wpAnyH_take (i := 3) (oi := ({ dst := some 60, op := Op.move (Operand.tmp 11), type := 23, pos := "l2_tree.go:69", after := #[], guard := none } : Oper)) (v := .slice (some ⟨wr.heap.size, 0, none⟩) m (m + 1)) rfl (by kernel_rfl) (by kernel_rfl) (by kernel_rfl) (fun _ _ _ h => h) (Or.inl ⟨by rfl, fun w hSw => by go_simp⟩) hHeld ?_
          simp only [Act.put, List.setIfInBounds_toArray, List.set_cons_zero, List.set_cons_succ]
          refine wpAnyH_take (i := 4) (oi := ({ dst := some 61, op := Op.load 42 (Operand.tmp 7), type := 42, pos := "l2_tree.go:69", after := #[], guard := none } : Oper)) (v := .agg #[.int .i64 k, .map (some b)]) rfl (by kernel_rfl) (by kernel_rfl) (by kernel_rfl) (fun _ _ _ h => h) (Or.inl ⟨by rfl, fun w hSw => by obtain ⟨y0, y1, y2, y3⟩ := hSw; go_simp⟩) hHeld ?_
          simp only [Act.put, List.setIfInBounds_toArray, List.set_cons_zero, List.set_cons_succ]
          refine wpAnyH_take (i := 5) (oi := ({ dst := some 62, op := Op.load 45 (Operand.tmp 9), type := 45, pos := "l2_tree.go:69", after := #[], guard := none } : Oper)) (v := .agg Y.toArray) rfl (by kernel_rfl) (by kernel_rfl) (by kernel_rfl) (fun _ _ _ h => h) (yieldsIf_load_mid (by rfl) _ _ rfl _ _ rfl Y _ (fun w hSw => hSw.2.2.2) hu rfl i2) hHeld ?_
          simp only [Act.put, List.setIfInBounds_toArray, List.set_cons_zero, List.set_cons_succ]
          refine wpAnyH_ready (rs := [6]) (by kernel_rfl) (by simp) ?_
          refine AllReadyH.cons (o := ({ dst := some 63, op := Op.call { callee := Callee.value (Operand.func 18), args := #[Operand.tmp 61, Operand.tmp 62], argTypes := #[42, 45] }, type := 9, pos := "l2_tree.go:69", after := #[{ on := 4, ground := Ground.data }, { on := 5, ground := Ground.data }], guard := none } : Oper)) rfl (fun K hK => ?_) AllReadyH.nil
          go_simp
          refine (joinText_as k b (pad last) _ hk (pad_len last (by omega)) last (txt_pad k last hdw) Y HY.out).mono ?_
          rintro e w7 ⟨rfl, hb7⟩
          have g7 := gd.call hb7
          have hown7 := own_later (w := w5.drew) hown6 hb7
          refine hK.out _ _ (S11.out _ g7) (fun hHeld => ?_)
          clear hK K
          refine wpAnyH_ready (rs := [7]) (by kernel_rfl) (by simp) ?_
          refine AllReadyH.cons (o := ({ dst := some 64, op := Op.buildSlice 23 1 #[(0, Operand.tmp 63)], type := 23, pos := "l2_tree.go:69", after := #[{ on := 6, ground := Ground.data }], guard := none } : Oper)) rfl (fun K hK => ?_) AllReadyH.nil
          go_simp
          have g8 := g7.call (below1 w7 (.cells #[.string last] 9))
          have hown8 := own_later hown7 (below1 w7 (.cells #[.string last] 9))
          refine hK.out _ _ (S11.out _ g8) (fun hHeld => ?_)
          clear hK K
          refine wpAnyH_ready (rs := [8]) (by kernel_rfl) (by simp) ?_
          refine AllReadyH.cons (o := ({ dst := some 65, op := Op.call { callee := Callee.builtin Builtin.append, args := #[Operand.tmp 60, Operand.tmp 64], argTypes := #[23, 23] }, type := 23, pos := "l2_tree.go:69", after := #[{ on := 3, ground := Ground.data }, { on := 7, ground := Ground.data }, { on := 6, ground := Ground.chain }], guard := none } : Oper)) rfl (fun K hK => ?_) AllReadyH.nil
          rw [if_pos (by rfl)]
          have hB8 : Below wr.heap.size wr (w7.alloc (.cells #[.string last] 9)) := (hB6.drew.trans (hb7.mono hB6.size)).trans ((below1 _ _).mono (Nat.le_trans hB6.size hb7.size))
          refine wp_append_lies _ (.tmp 60) (.tmp 64) 23 rfl wr.heap.size 9 i0 (.string ByteArray.empty) 1 16 Tryz.underlying23 HI0.out hzz0 hzz1 hzz2 rfl (by omega) (.slice (some ⟨wr.heap.size, 0, none⟩) m (m + 1)) m (strs S m) rfl hown8 ⟨w7.heap.size, 0, none⟩ 1 1 [.string last] rfl rfl (World.news_of_block (cs := #[.string last]) (heap_alloc_new w7 _)) (fun u hu => by simp only [List.mem_singleton] at hu; subst hu; rfl) (by omega) (by unfold maxLen; omega) (by omega) hB8.size _ rfl ?_
          intro g2 cap2 w9 hown9 hgrow9 hat9 hlt9
          have hgw : (w7.alloc (.cells #[.string last] 9)).grownBy w9 (some wr.heap.size) := hgrow9
          have hB9 : Below wr.heap.size wr w9 := hB8.grown hgw hB8.size (fun j hj => by have := own_cap hown8; simp at hj; omega)
          have g9 := gi.call hB9
          refine hK.out _ _ (S11.out _ g9) (fun hHeld => ?_)
          clear hK K
          simp only [Act.put, List.setIfInBounds_toArray, List.set_cons_zero, List.set_cons_succ]
          refine wpAnyH_take (i := 9) (oi := ({ dst := some 66, op := Op.build 28 #[(0, Operand.tmp 59), (1, Operand.tmp 65)], type := 28, pos := "l2_tree.go:69", after := #[{ on := 2, ground := Ground.data }, { on := 8, ground := Ground.data }], guard := none } : Oper)) (v := .agg #[.int .i64 ((zn : Int) + 1), .slice (some ⟨g2, 0, none⟩) (m + 1) cap2]) rfl (by kernel_rfl) (by kernel_rfl) (by kernel_rfl) (fun _ _ _ h => h) (Or.inl ⟨by rfl, fun w hSw => by go_simp⟩) hHeld ?_
          simp only [Act.put, List.setIfInBounds_toArray, List.set_cons_zero, List.set_cons_succ]
          refine wpAnyH_ready (rs := [10]) (by kernel_rfl) (by simp) ?_
          refine AllReadyH.cons (o := ({ dst := none, op := Op.store 28 (Operand.tmp 6) (Operand.tmp 66), type := 0, pos := "l2_tree.go:69", after := #[{ on := 9, ground := Ground.data }, { on := 8, ground := Ground.chain }, { on := 0, ground := Ground.phase }, { on := 1, ground := Ground.phase }, { on := 2, ground := Ground.phase }, { on := 3, ground := Ground.phase }, { on := 4, ground := Ground.phase }, { on := 5, ground := Ground.phase }, { on := 6, ground := Ground.phase }, { on := 7, ground := Ground.phase }, { on := 8, ground := Ground.phase }, { on := 9, ground := Ground.phase }], guard := none } : Oper)) rfl (fun K hK => ?_) AllReadyH.nil
          rw [if_pos (by rfl)]
          refine wp_store_mid _ _ _ rfl (w.heap.size + 1) 0 (List.toArray [.int .i64 ((zn : Int) + 1), .slice (some ⟨g2, 0, none⟩) (m + 1) cap2]) rfl rfl g9.t1 I31.out (all_oneCell_toArray (fun u hu => by simp at hu; rcases hu with rfl | rfl <;> rfl)) ?_
          have hown10 := own_setCells hown9 (w.heap.size + 1) 0 [.int .i64 ((zn : Int) + 1), .slice (some ⟨g2, 0, none⟩) (m + 1) cap2] (by omega)
          have gb := gi.hb
          have gJ := gi.hJ
          have gM := gi.hM
          refine hK.out _ _ ⟨(World.cell?_setCells_out _ _ _ _ _ (fun e => by simp at e)).trans g9.c0, (World.cell?_setCells_out _ _ _ _ _ (fun e => by simp at e; omega)).trans g9.j0, (World.cell?_setCells_out _ _ _ _ _ (fun e => by simp at e; omega)).trans g9.j1, World.rangeAt_setCells_apart g9.r _ _ _ (Or.inl (by omega))⟩ (fun hHeld => ?_)
          clear hK K
          refine wpAnyH_done (by kernel_rfl) ?_ _
          go_wp2
          refine bodyPost_ret (v := .agg #[.int .i64 ((zn : Int) + 1), .slice (some ⟨g2, 0, none⟩) (m + 1) cap2]) (results_mid Tryz.results9 _ _ (w.heap.size + 1) 0 [.int .i64 ((zn : Int) + 1), .slice (some ⟨g2, 0, none⟩) (m + 1) cap2] _ rfl (World.rangeAt_setCells_same _ _ _ _ g9.t1) Tryz.underlying28 rfl I31.out) rfl ⟨g2, cap2, ?_, ?_, below_setCells _ _ g9.below (by omega)⟩
          · rw [HM.out]
          · have e1 := strs_grown k S n x i
            rw [HL.out, HM.out] at e1
            rw [HM.out, ← e1]
            exact own_base hown10 (by omega)
        · obtain ⟨P, off, rfl, _⟩ := gi.sl.at 0 (by omega)
          have hnw : Hid (∀ w', Sl w' (some ⟨P, off, none⟩) n S → ∀ j u, (strs S m)[j]? = some u → w'.cell? ((⟨P, off, none⟩ : Addr).add j) = some u) := by
            intro w' hw' j u hu
            have hj : j < m := by have := (List.getElem?_eq_some_iff.1 hu).1; rwa [strs_len] at this
            obtain ⟨b', off', e, hc'⟩ := hw'.at j (by omega)
            obtain ⟨rfl, rfl⟩ : P = b' ∧ off = off' := by simpa using e
            rw [Addr.add_mid, hc']
            rw [strs_get S m j hj] at hu
            exact hu
          go_wp2_with (first | (refine wpList_make_own _ rfl _ _ 23 rfl wr.heap.size 9 i0 (.string ByteArray.empty) 1 Tryz.underlying23 HI0.out hzz0 hzz1 .i64 .i64 _ (m + 1) rfl rfl (by omega) (by rw [hzz2]; omega) (by unfold maxLen; omega) (Nat.le_refl _) ?_; intro w5 hown5 hgrow5; have hB5 : Below wr.heap.size wr w5 := (Below.refl _ _).grown hgrow5 (Nat.le_refl _) (fun j hj => by cases hj); have hS5 := gi.sl.later hB5) | (at_builtin; refine wpList_append_lies _ rfl (.tmp 54) (.tmp 55) 23 rfl wr.heap.size 9 i0 (.string ByteArray.empty) 1 16 Tryz.underlying23 HI0.out hzz0 hzz1 hzz2 rfl (by omega) (.slice (some ⟨wr.heap.size, 0, none⟩) 0 (m + 1)) 0 [] rfl hown5 ⟨P, off, none⟩ m c (strs S m) rfl (by rw [strs_len]; omega) (hnw.out _ hS5) (strs_one S m) (by omega) (by unfold maxLen; omega) (by omega) hB5.size _ rfl ?_; intro g1 cap1 w6 hown60 hgrow6 hat6 hlt6))
          have hgw6 : w5.grownBy w6 (some wr.heap.size) := hgrow6
          have hB6 : Below wr.heap.size wr w6 := hB5.grown hgw6 hB5.size (fun j hj => by simp at hj; omega)
          have hown6 : w6.ownsRow wr.heap.size 9 1 (.slice (some ⟨g1, 0, none⟩) m cap1) m (strs S m) := by simpa using hown60
          clear hown60 hgrow6 hat6 hlt6 hown5 hgrow5 hS5 hnw
          have g6 := gi.call hB6
          have gd := g6.drew1
          have s11 : ∀ w', Gi k (zn : Int) b J M (some ⟨P, off, none⟩) n c S w Y w' → (w'.cell? ⟨w.heap.size, 0, none⟩ = some (.int .i64 (zn : Int)) ∧ w'.cell? ⟨J, 0, none⟩ = some (.int .i64 k) ∧ w'.cell? ⟨J, 1, none⟩ = some (.map (some b)) ∧ w'.rangeAt M 0 Y) := fun w' h => ⟨h.c0, h.j0, h.j1, h.r⟩
          have S11 : Hid (∀ w', Gi k (zn : Int) b J M (some ⟨P, off, none⟩) n c S w Y w' → (w'.cell? ⟨w.heap.size, 0, none⟩ = some (.int .i64 (zn : Int)) ∧ w'.cell? ⟨J, 0, none⟩ = some (.int .i64 k) ∧ w'.cell? ⟨J, 1, none⟩ = some (.map (some b)) ∧ w'.rangeAt M 0 Y)) := s11
          clear s11
          refine wp_region_held_drew (S := fun w' => w'.cell? ⟨w.heap.size, 0, none⟩ = some (.int .i64 (zn : Int)) ∧ w'.cell? ⟨J, 0, none⟩ = some (.int .i64 k) ∧ w'.cell? ⟨J, 1, none⟩ = some (.map (some b)) ∧ w'.rangeAt M 0 Y) (by kernel_rfl) (S11.out _ gd) (fun hHeld => ?_)
          refine wpAnyH_take (i := 0) (oi := ({ dst := some 57, op := Op.fieldAddr 28 (Operand.tmp 4) 0, type := 0, pos := "l2_tree.go:69", after := #[], guard := none } : Oper)) (v := .pointer (some ⟨w.heap.size, 0, none⟩)) rfl (by kernel_rfl) (by kernel_rfl) (by kernel_rfl) (fun _ _ _ h => h) (Or.inl ⟨by rfl, fun w hSw => by go_simp⟩) hHeld ?_
          simp only [Act.put, List.setIfInBounds_toArray, List.set_cons_zero, List.set_cons_succ]
          refine wpAnyH_take (i := 1) (oi := ({ dst := some 58, op := Op.load 3 (Operand.tmp 57), type := 3, pos := "l2_tree.go:69", after := #[{ on := 0, ground := Ground.data }], guard := none } : Oper)) (v := .int .i64 (zn : Int)) rfl (by kernel_rfl) (by kernel_rfl) (by kernel_rfl) (fun _ _ _ h => h) (Or.inl ⟨by rfl, fun w hSw => by obtain ⟨y0, y1, y2, y3⟩ := hSw; go_simp⟩) hHeld ?_
          simp only [Act.put, List.setIfInBounds_toArray, List.set_cons_zero, List.set_cons_succ]
          refine wpAnyH_take (i := 2) (oi := ({ dst := some 59, op := Op.binOp BinOp.add 3 (Operand.tmp 58) (Operand.const (Value.int IntKind.i64 1)) 3, type := 3, pos := "l2_tree.go:69", after := #[{ on := 1, ground := Ground.data }], guard := none } : Oper)) (v := .int .i64 ((zn : Int) + 1)) rfl (by kernel_rfl) (by kernel_rfl) (by kernel_rfl) (fun _ _ _ h => h) (Or.inl ⟨by rfl, fun w hSw => by go_simp⟩) hHeld ?_
          simp only [Act.put, List.setIfInBounds_toArray, List.set_cons_zero, List.set_cons_succ]
          refine wpAnyH_take (i := 3) (oi := ({ dst := some 60, op := Op.move (Operand.tmp 11), type := 23, pos := "l2_tree.go:69", after := #[], guard := none } : Oper)) (v := .slice (some ⟨g1, 0, none⟩) m cap1) rfl (by kernel_rfl) (by kernel_rfl) (by kernel_rfl) (fun _ _ _ h => h) (Or.inl ⟨by rfl, fun w hSw => by go_simp⟩) hHeld ?_
          simp only [Act.put, List.setIfInBounds_toArray, List.set_cons_zero, List.set_cons_succ]
          refine wpAnyH_take (i := 4) (oi := ({ dst := some 61, op := Op.load 42 (Operand.tmp 7), type := 42, pos := "l2_tree.go:69", after := #[], guard := none } : Oper)) (v := .agg #[.int .i64 k, .map (some b)]) rfl (by kernel_rfl) (by kernel_rfl) (by kernel_rfl) (fun _ _ _ h => h) (Or.inl ⟨by rfl, fun w hSw => by obtain ⟨y0, y1, y2, y3⟩ := hSw; go_simp⟩) hHeld ?_
          simp only [Act.put, List.setIfInBounds_toArray, List.set_cons_zero, List.set_cons_succ]
          refine wpAnyH_take (i := 5) (oi := ({ dst := some 62, op := Op.load 45 (Operand.tmp 9), type := 45, pos := "l2_tree.go:69", after := #[], guard := none } : Oper)) (v := .agg Y.toArray) rfl (by kernel_rfl) (by kernel_rfl) (by kernel_rfl) (fun _ _ _ h => h) (yieldsIf_load_mid (by rfl) _ _ rfl _ _ rfl Y _ (fun w hSw => hSw.2.2.2) hu rfl i2) hHeld ?_
          simp only [Act.put, List.setIfInBounds_toArray, List.set_cons_zero, List.set_cons_succ]
          refine wpAnyH_ready (rs := [6]) (by kernel_rfl) (by simp) ?_
          refine AllReadyH.cons (o := ({ dst := some 63, op := Op.call { callee := Callee.value (Operand.func 18), args := #[Operand.tmp 61, Operand.tmp 62], argTypes := #[42, 45] }, type := 9, pos := "l2_tree.go:69", after := #[{ on := 4, ground := Ground.data }, { on := 5, ground := Ground.data }], guard := none } : Oper)) rfl (fun K hK => ?_) AllReadyH.nil
          go_simp
          refine (joinText_as k b (pad last) _ hk (pad_len last (by omega)) last (txt_pad k last hdw) Y HY.out).mono ?_
          rintro e w7 ⟨rfl, hb7⟩
          have g7 := gd.call hb7
          have hown7 := own_later (w := w6.drew) hown6 hb7
          refine hK.out _ _ (S11.out _ g7) (fun hHeld => ?_)
          clear hK K
          refine wpAnyH_ready (rs := [7]) (by kernel_rfl) (by simp) ?_
          refine AllReadyH.cons (o := ({ dst := some 64, op := Op.buildSlice 23 1 #[(0, Operand.tmp 63)], type := 23, pos := "l2_tree.go:69", after := #[{ on := 6, ground := Ground.data }], guard := none } : Oper)) rfl (fun K hK => ?_) AllReadyH.nil
          go_simp
          have g8 := g7.call (below1 w7 (.cells #[.string last] 9))
          have hown8 := own_later hown7 (below1 w7 (.cells #[.string last] 9))
          refine hK.out _ _ (S11.out _ g8) (fun hHeld => ?_)
          clear hK K
          refine wpAnyH_ready (rs := [8]) (by kernel_rfl) (by simp) ?_
          refine AllReadyH.cons (o := ({ dst := some 65, op := Op.call { callee := Callee.builtin Builtin.append, args := #[Operand.tmp 60, Operand.tmp 64], argTypes := #[23, 23] }, type := 23, pos := "l2_tree.go:69", after := #[{ on := 3, ground := Ground.data }, { on := 7, ground := Ground.data }, { on := 6, ground := Ground.chain }], guard := none } : Oper)) rfl (fun K hK => ?_) AllReadyH.nil
          rw [if_pos (by rfl)]
          have hB8 : Below wr.heap.size wr (w7.alloc (.cells #[.string last] 9)) := (hB6.drew.trans (hb7.mono hB6.size)).trans ((below1 _ _).mono (Nat.le_trans hB6.size hb7.size))
          refine wp_append_lies _ (.tmp 60) (.tmp 64) 23 rfl wr.heap.size 9 i0 (.string ByteArray.empty) 1 16 Tryz.underlying23 HI0.out hzz0 hzz1 hzz2 rfl (by omega) (.slice (some ⟨g1, 0, none⟩) m cap1) m (strs S m) rfl hown8 ⟨w7.heap.size, 0, none⟩ 1 1 [.string last] rfl rfl (World.news_of_block (cs := #[.string last]) (heap_alloc_new w7 _)) (fun u hu => by simp only [List.mem_singleton] at hu; subst hu; rfl) (by omega) (by unfold maxLen; omega) (by omega) hB8.size _ rfl ?_
          intro g2 cap2 w9 hown9 hgrow9 hat9 hlt9
          have hgw : (w7.alloc (.cells #[.string last] 9)).grownBy w9 (some g1) := hgrow9
          have hB9 : Below wr.heap.size wr w9 := hB8.grown hgw hB8.size (fun j hj => by have := own_cap hown8; simp at hj; omega)
          have g9 := gi.call hB9
          refine hK.out _ _ (S11.out _ g9) (fun hHeld => ?_)
          clear hK K
          simp only [Act.put, List.setIfInBounds_toArray, List.set_cons_zero, List.set_cons_succ]
          refine wpAnyH_take (i := 9) (oi := ({ dst := some 66, op := Op.build 28 #[(0, Operand.tmp 59), (1, Operand.tmp 65)], type := 28, pos := "l2_tree.go:69", after := #[{ on := 2, ground := Ground.data }, { on := 8, ground := Ground.data }], guard := none } : Oper)) (v := .agg #[.int .i64 ((zn : Int) + 1), .slice (some ⟨g2, 0, none⟩) (m + 1) cap2]) rfl (by kernel_rfl) (by kernel_rfl) (by kernel_rfl) (fun _ _ _ h => h) (Or.inl ⟨by rfl, fun w hSw => by go_simp⟩) hHeld ?_
          simp only [Act.put, List.setIfInBounds_toArray, List.set_cons_zero, List.set_cons_succ]
          refine wpAnyH_ready (rs := [10]) (by kernel_rfl) (by simp) ?_
          refine AllReadyH.cons (o := ({ dst := none, op := Op.store 28 (Operand.tmp 6) (Operand.tmp 66), type := 0, pos := "l2_tree.go:69", after := #[{ on := 9, ground := Ground.data }, { on := 8, ground := Ground.chain }, { on := 0, ground := Ground.phase }, { on := 1, ground := Ground.phase }, { on := 2, ground := Ground.phase }, { on := 3, ground := Ground.phase }, { on := 4, ground := Ground.phase }, { on := 5, ground := Ground.phase }, { on := 6, ground := Ground.phase }, { on := 7, ground := Ground.phase }, { on := 8, ground := Ground.phase }, { on := 9, ground := Ground.phase }], guard := none } : Oper)) rfl (fun K hK => ?_) AllReadyH.nil
          rw [if_pos (by rfl)]
          refine wp_store_mid _ _ _ rfl (w.heap.size + 1) 0 (List.toArray [.int .i64 ((zn : Int) + 1), .slice (some ⟨g2, 0, none⟩) (m + 1) cap2]) rfl rfl g9.t1 I31.out (all_oneCell_toArray (fun u hu => by simp at hu; rcases hu with rfl | rfl <;> rfl)) ?_
          have hown10 := own_setCells hown9 (w.heap.size + 1) 0 [.int .i64 ((zn : Int) + 1), .slice (some ⟨g2, 0, none⟩) (m + 1) cap2] (by omega)
          have gb := gi.hb
          have gJ := gi.hJ
          have gM := gi.hM
          refine hK.out _ _ ⟨(World.cell?_setCells_out _ _ _ _ _ (fun e => by simp at e)).trans g9.c0, (World.cell?_setCells_out _ _ _ _ _ (fun e => by simp at e; omega)).trans g9.j0, (World.cell?_setCells_out _ _ _ _ _ (fun e => by simp at e; omega)).trans g9.j1, World.rangeAt_setCells_apart g9.r _ _ _ (Or.inl (by omega))⟩ (fun hHeld => ?_)
          clear hK K
          refine wpAnyH_done (by kernel_rfl) ?_ _
          go_wp2
          refine bodyPost_ret (v := .agg #[.int .i64 ((zn : Int) + 1), .slice (some ⟨g2, 0, none⟩) (m + 1) cap2]) (results_mid Tryz.results9 _ _ (w.heap.size + 1) 0 [.int .i64 ((zn : Int) + 1), .slice (some ⟨g2, 0, none⟩) (m + 1) cap2] _ rfl (World.rangeAt_setCells_same _ _ _ _ g9.t1) Tryz.underlying28 rfl I31.out) rfl ⟨g2, cap2, ?_, ?_, below_setCells _ _ g9.below (by omega)⟩
          · rw [HM.out]
          · have e1 := strs_grown k S n x i
            rw [HL.out, HM.out] at e1
            rw [HM.out, ← e1]
            exact own_base hown10 (by omega)
  · go_simp
    have g4 := gd.call (below1 W.drew (.cells zeros32 45))
    refine hK.out _ _ ⟨g4.c1, g4.j0, g4.j1⟩ (fun hHeld => ?_)
    clear hK K
    refine wpAnyH_ready (rs := [4]) (by kernel_rfl) (by simp) ?_
    refine AllReadyH.cons (o := ({ dst := some 28, op := Op.call { callee := Callee.value (Operand.func 26), args := #[Operand.tmp 26, Operand.tmp 27], argTypes := #[42, 9] }, type := 45, pos := "l2_tree.go:62", after := #[{ on := 2, ground := Ground.data }, { on := 3, ground := Ground.data }], guard := none } : Oper)) rfl (fun K hK => ?_) AllReadyH.nil
    go_simp
    refine (jleaf_any k b x _ g4.keys (by omega) X HX.out).mono ?_
    rintro e w4 ⟨rfl, hb4⟩
    have g5 := g4.call hb4
    refine hK.out _ _ ⟨g5.c1, g5.j0, g5.j1⟩ (fun hHeld => ?_)
    clear hK K
    refine wpAnyH_ready (rs := [6]) (by kernel_rfl) (by simp) ?_
    refine AllReadyH.cons (o := ({ dst := some 8, op := Op.assign (Operand.tmp 25), type := 23, pos := "l2_tree.go:62", after := #[{ on := 1, ground := Ground.data }, { on := 4, ground := Ground.chain }, { on := 0, ground := Ground.phase }, { on := 1, ground := Ground.phase }, { on := 2, ground := Ground.textOnly Departure.lateStores }, { on := 3, ground := Ground.textOnly Departure.lateStores }, { on := 4, ground := Ground.textOnly Departure.lateStoresUnsure }, { on := 5, ground := Ground.phase }], guard := none } : Oper)) rfl (fun K hK => ?_) AllReadyH.nil
    go_simp
    refine hK.out _ _ ⟨g5.c1, g5.j0, g5.j1⟩ (fun hHeld => ?_)
    clear hK K
    refine wpAnyH_ready (rs := [7]) (by kernel_rfl) (by simp) ?_
    refine AllReadyH.cons (o := ({ dst := none, op := Op.store 45 (Operand.tmp 9) (Operand.tmp 28), type := 0, pos := "l2_tree.go:62", after := #[{ on := 5, ground := Ground.data }, { on := 4, ground := Ground.data }, { on := 6, ground := Ground.chain }, { on := 0, ground := Ground.phase }, { on := 1, ground := Ground.phase }, { on := 2, ground := Ground.phase }, { on := 3, ground := Ground.phase }, { on := 4, ground := Ground.phase }, { on := 5, ground := Ground.phase }, { on := 6, ground := Ground.phase }], guard := none } : Oper)) rfl (fun K hK => ?_) AllReadyH.nil
    rw [if_pos (by rfl)]
    have hth : w4.there W.heap.size 0 32 := there_later (there_row _ _ _ _ _ zeros32_size (heap_alloc_new W.drew (.cells zeros32 45))) hb4
    refine wp_store_mid _ _ _ rfl W.heap.size 0 X.toArray rfl rfl (by rw [show X.toArray.size = 32 from ln]; exact hth) I3.out (all_oneCell_toArray on3) ?_
    have hJM := g5.hs
    have gi := g5.marked (M := W.heap.size) X ln gd.hs (by have := hb4.size; simp at this; omega) hth
    refine hK.out _ _ ⟨(World.cell?_setCells_out _ _ _ _ _ (fun e => by simp at e; have := gi.hb; have := gi.hJ; have := gi.hM; omega)).trans g5.c1, gi.j0, gi.j1⟩ (fun hHeld => ?_)
    clear hK K hHeld
    refine wpAnyH_done (by kernel_rfl) ?_ _
    obtain ⟨M, hM⟩ : ∃ M, W.heap.size = M := ⟨_, rfl⟩
    rw [hM] at gi ⊢
    obtain ⟨wg, hwg⟩ : ∃ wg, w4.setCells M 0 X = wg := ⟨_, rfl⟩
    rw [hwg] at gi ⊢
    clear hM hwg hth hJM g4 g5 hb4 gj gd
    have c0 := gi.c0
    go_wp2
    clear c0
    go_loopw [8, 10] (fun p q wr => ∃ (i xx : Nat) (Y : List Value), xx < 2048 ∧ on xx + i = n ∧ i + lows xx = r ∧ p = .slice a (n - i) c ∧ q = .int .i64 xx ∧ cells8 (pad (gl k S n x i)) = Y ∧ Gi k (zn : Int) b J M a n c S w Y wr) (fun _ q _ => (intOf q).toNat)
    case atStart => exact ⟨0, zn, X, by omega, by have := HN.out; omega, by have := HLW.out; omega, rfl, rfl, HX.out, gi⟩
    case round =>
      clear gi HX ln on3 I3 hzr
      obtain ⟨i, xx, Y, hxx, hon, hlow, rfl, rfl, hY, gi⟩ := hrel
      have HY : Hid (cells8 (pad (gl k S n x i)) = Y) := hY
      clear hY
      have hdw := gl_wid k S n x hk i
      have ln2 : Y.length = 32 := by rw [← HY.out, cells8_len]; exact pad_len _ (by omega)
      have i2 : (Tryz.prog.info? 45).map (·.size) = some Y.length := by rw [ln2]; exact HI.out
      have hu := Tryz.underlying45
      by_cases hodd : xx % 2 = 1
      · have h1 := on_pos xx hxx hodd
        have h2 := lows_odd xx hxx hodd
        have H1 : Hid (on (xx / 2) + (i + 1) = n) := by show on (xx / 2) + (i + 1) = n; omega
        have H2 : Hid (i + 1 + lows (xx / 2) = r) := by show i + 1 + lows (xx / 2) = r; omega
        obtain ⟨t, ht⟩ : ∃ t, n - i = t + 1 := ⟨n - i - 1, by omega⟩
        have htn : t < n := by omega
        have hsw := hs t htn
        have hst := hs32 t htn
        have htc : (t : Int) ≤ c := by omega
        obtain ⟨P, off, rfl, hct⟩ := gi.sl.at t htn
        have hD : Hid (nodeD k (S t) (gl k S n x i) = gl k S n x (i + 1)) := by
          show nodeD k (S t) (gl k S n x i) = nodeD k (S (n - 1 - i)) (gl k S n x i)
          rw [show n - 1 - i = t by omega]
        have HT : Hid (n - (i + 1) = t) := by show n - (i + 1) = t; omega
        rw [ht]
        obtain ⟨d, hd⟩ : ∃ l, gl k S n x i = l := ⟨_, rfl⟩
        rw [hd] at hD HY hdw
        obtain ⟨X1, hX1⟩ : ∃ X, cells8 (pad (S t)) = X := ⟨_, rfl⟩
        obtain ⟨R, hR⟩ : ∃ X, cells8 (pad (nodeD k (S t) d)) = X := ⟨_, rfl⟩
        have HX1 : Hid (cells8 (pad (S t)) = X1) := hX1
        have HR : Hid (cells8 (pad (nodeD k (S t) d)) = R) := hR
        have ln3 : R.length = 32 := by rw [← hR, cells8_len]; exact pad_len _ (dg_le _ _)
        have on3 : ∀ v ∈ R, v.oneCell' = true := by rw [← hR]; exact cells8_one _
        have i3 : (Tryz.prog.info? 45).map (·.size) = some R.toArray.size := by rw [show R.toArray.size = 32 from ln3]; exact HI.out
        have hw1 : IntKind.i64.wrap ((t : Int) + 1 - 1) = (t : Int) := by rw [IntKind.wrap_i64]; omega
        have hw2 : IntKind.i64.wrap (t : Int) = (t : Int) := by rw [IntKind.wrap_i64]; omega
        have hodd' : (xx : Int) % 2 = 1 := by omega
        have htt : (t : Int) < (t : Int) + 1 := by omega
        have s8 : ∀ w', Gi k (zn : Int) b J M (some ⟨P, off, none⟩) n c S w Y w' → (w'.cell? ⟨J, 0, none⟩ = some (.int .i64 k) ∧ w'.cell? ⟨J, 1, none⟩ = some (.map (some b)) ∧ w'.cell? ⟨P, off + t, none⟩ = some (.string (S t))) := fun w' g => by
          obtain ⟨P', o, e, hc⟩ := g.sl.at t htn
          obtain ⟨rfl, rfl⟩ : P = P' ∧ off = o := by simpa using e
          exact ⟨g.j0, g.j1, hc⟩
        have s8R : ∀ w', Gi k (zn : Int) b J M (some ⟨P, off, none⟩) n c S w R w' → (w'.cell? ⟨J, 0, none⟩ = some (.int .i64 k) ∧ w'.cell? ⟨J, 1, none⟩ = some (.map (some b)) ∧ w'.cell? ⟨P, off + t, none⟩ = some (.string (S t))) := fun w' g => by
          obtain ⟨P', o, e, hc⟩ := g.sl.at t htn
          obtain ⟨rfl, rfl⟩ : P = P' ∧ off = o := by simpa using e
          exact ⟨g.j0, g.j1, hc⟩
        have S8 : Hid (∀ w', Gi k (zn : Int) b J M (some ⟨P, off, none⟩) n c S w Y w' → (w'.cell? ⟨J, 0, none⟩ = some (.int .i64 k) ∧ w'.cell? ⟨J, 1, none⟩ = some (.map (some b)) ∧ w'.cell? ⟨P, off + t, none⟩ = some (.string (S t)))) := s8
        have S8R : Hid (∀ w', Gi k (zn : Int) b J M (some ⟨P, off, none⟩) n c S w R w' → (w'.cell? ⟨J, 0, none⟩ = some (.int .i64 k) ∧ w'.cell? ⟨J, 1, none⟩ = some (.map (some b)) ∧ w'.cell? ⟨P, off + t, none⟩ = some (.string (S t)))) := s8R
        have FIN : Hid (∀ w', Gi k (zn : Int) b J M (some ⟨P, off, none⟩) n c S w R w' → ∃ (i xx' : Nat) (Y : List Value), xx' < 2048 ∧ on xx' + i = n ∧ i + lows xx' = r ∧ Value.slice (some ⟨P, off, none⟩) t c = .slice (some ⟨P, off, none⟩) (n - i) c ∧ Value.int .i64 ((xx : Int) / 2) = .int .i64 xx' ∧ cells8 (pad (gl k S n x i)) = Y ∧ Gi k (zn : Int) b J M (some ⟨P, off, none⟩) n c S w Y w') :=
          fun w' g => ⟨i + 1, xx / 2, R, by omega, H1.out, H2.out, by rw [HT.out], by go_num, by rw [← hD.out]; exact HR.out, g⟩
        clear hon hlow h1 h2 ht hd hX1 hR s8 s8R hct
        go_wp2
        have gd := gi.drew1
        refine wp_region_held_drew (S := fun w' => w'.cell? ⟨J, 0, none⟩ = some (.int .i64 k) ∧ w'.cell? ⟨J, 1, none⟩ = some (.map (some b)) ∧ w'.cell? ⟨P, off + t, none⟩ = some (.string (S t))) (by kernel_rfl) (S8.out _ gd) (fun hHeld => ?_)
        refine wpAnyH_take (i := 0) (oi := ({ dst := some 36, op := Op.load 42 (Operand.tmp 7), type := 42, pos := "l2_tree.go:65", after := #[], guard := none } : Oper)) (v := .agg #[.int .i64 k, .map (some b)]) rfl (by kernel_rfl) (by kernel_rfl) (by kernel_rfl) (fun _ _ _ h => h) (Or.inl ⟨by rfl, fun w hSw => by obtain ⟨y0, y1, y2⟩ := hSw; go_simp⟩) hHeld ?_
        simp only [Act.put, List.setIfInBounds_toArray, List.set_cons_zero, List.set_cons_succ]
        refine wpAnyH_take (i := 1) (oi := ({ dst := some 37, op := Op.move (Operand.tmp 8), type := 23, pos := "l2_tree.go:65", after := #[], guard := none } : Oper)) (v := .slice (some ⟨P, off, none⟩) (t + 1) c) rfl (by kernel_rfl) (by kernel_rfl) (by kernel_rfl) (fun _ _ _ h => h) (Or.inl ⟨by rfl, fun w hSw => by go_simp⟩) hHeld ?_
        simp only [Act.put, List.setIfInBounds_toArray, List.set_cons_zero, List.set_cons_succ]
        refine wpAnyH_take (i := 2) (oi := ({ dst := some 38, op := Op.move (Operand.tmp 8), type := 23, pos := "l2_tree.go:65", after := #[], guard := none } : Oper)) (v := .slice (some ⟨P, off, none⟩) (t + 1) c) rfl (by kernel_rfl) (by kernel_rfl) (by kernel_rfl) (fun _ _ _ h => h) (Or.inl ⟨by rfl, fun w hSw => by go_simp⟩) hHeld ?_
        simp only [Act.put, List.setIfInBounds_toArray, List.set_cons_zero, List.set_cons_succ]
        refine wpAnyH_take (i := 3) (oi := ({ dst := some 39, op := Op.call { callee := Callee.builtin Builtin.len, args := #[Operand.tmp 38], argTypes := #[23] }, type := 3, pos := "l2_tree.go:65", after := #[{ on := 2, ground := Ground.data }], guard := none } : Oper)) (v := .int .i64 ((t : Int) + 1)) rfl (by kernel_rfl) (by kernel_rfl) (by kernel_rfl) (fun _ _ _ h => h) (Or.inl ⟨by rfl, fun w hSw => by go_simp⟩) hHeld ?_
        simp only [Act.put, List.setIfInBounds_toArray, List.set_cons_zero, List.set_cons_succ]
        refine wpAnyH_take (i := 4) (oi := ({ dst := some 40, op := Op.binOp BinOp.sub 3 (Operand.tmp 39) (Operand.const (Value.int IntKind.i64 1)) 3, type := 3, pos := "l2_tree.go:65", after := #[{ on := 3, ground := Ground.data }], guard := none } : Oper)) (v := .int .i64 (t : Int)) rfl (by kernel_rfl) (by kernel_rfl) (by kernel_rfl) (fun _ _ _ h => h) (Or.inl ⟨by rfl, fun w hSw => by go_simp⟩) hHeld ?_
        simp only [Act.put, List.setIfInBounds_toArray, List.set_cons_zero, List.set_cons_succ]
        refine wpAnyH_take (i := 5) (oi := ({ dst := some 41, op := Op.indexAddr 23 (Operand.tmp 37) (Operand.tmp 40), type := 0, pos := "l2_tree.go:65", after := #[{ on := 1, ground := Ground.data }, { on := 4, ground := Ground.data }], guard := none } : Oper)) (v := .pointer (some ⟨P, off + t, none⟩)) rfl (by kernel_rfl) (by kernel_rfl) (by kernel_rfl) (fun _ _ _ h => h) (Or.inl ⟨by rfl, fun w hSw => by go_simp⟩) hHeld ?_
        simp only [Act.put, List.setIfInBounds_toArray, List.set_cons_zero, List.set_cons_succ]
        refine wpAnyH_take (i := 6) (oi := ({ dst := some 42, op := Op.load 9 (Operand.tmp 41), type := 9, pos := "l2_tree.go:65", after := #[{ on := 5, ground := Ground.data }], guard := none } : Oper)) (v := .string (S t)) rfl (by kernel_rfl) (by kernel_rfl) (by kernel_rfl) (fun _ _ _ h => h) (Or.inl ⟨by rfl, fun w hSw => by obtain ⟨y0, y1, y2⟩ := hSw; go_simp⟩) hHeld ?_
        simp only [Act.put, List.setIfInBounds_toArray, List.set_cons_zero, List.set_cons_succ]
        refine wpAnyH_ready (rs := [7, 8]) (by kernel_rfl) (by simp) ?_
        refine AllReadyH.cons (o := ({ dst := some 43, op := Op.call { callee := Callee.value (Operand.func 16), args := #[Operand.tmp 42], argTypes := #[9] }, type := 45, pos := "l2_tree.go:65", after := #[{ on := 6, ground := Ground.data }], guard := none } : Oper)) rfl (fun K hK => ?_) (AllReadyH.cons (o := ({ dst := some 44, op := Op.load 45 (Operand.tmp 9), type := 45, pos := "l2_tree.go:65", after := #[], guard := none } : Oper)) rfl (fun K hK => ?_) AllReadyH.nil)
        · go_simp
          refine (markOf_as (S t) _ hst X1 HX1.out).mono ?_
          rintro e w6 ⟨rfl, hb6⟩
          have g1 := gd.call hb6
          refine hK.out _ _ (S8.out _ g1) (fun hHeld => ?_)
          clear hK K
          refine wpAnyH_ready (rs := [8]) (by kernel_rfl) (by simp) ?_
          refine AllReadyH.cons (o := ({ dst := some 44, op := Op.load 45 (Operand.tmp 9), type := 45, pos := "l2_tree.go:65", after := #[], guard := none } : Oper)) rfl (fun K hK => ?_) AllReadyH.nil
          rw [if_pos (by rfl)]
          refine wp_load_mid _ _ rfl M 0 rfl Y _ g1.r hu rfl i2 ?_
          refine hK.out _ _ (S8.out _ g1) (fun hHeld => ?_)
          clear hK K
          simp only [Act.put, List.setIfInBounds_toArray, List.set_cons_zero, List.set_cons_succ]
          refine wpAnyH_ready (rs := [9]) (by kernel_rfl) (by simp) ?_
          refine AllReadyH.cons (o := ({ dst := some 45, op := Op.call { callee := Callee.value (Operand.func 17), args := #[Operand.tmp 36, Operand.tmp 43, Operand.tmp 44], argTypes := #[42, 45, 45] }, type := 45, pos := "l2_tree.go:65", after := #[{ on := 0, ground := Ground.data }, { on := 7, ground := Ground.data }, { on := 8, ground := Ground.data }, { on := 7, ground := Ground.chain }], guard := none } : Oper)) rfl (fun K hK => ?_) AllReadyH.nil
          go_simp
          refine (node_any k b (S t) d _ g1.keys hk hsw hdw g1.dbl X1 Y R HX1.out HY.out HR.out).mono ?_
          rintro e w8 ⟨rfl, hd8, hg8⟩
          have g2 := g1.node hd8 hg8
          refine hK.out _ _ (S8.out _ g2) (fun hHeld => ?_)
          clear hK K
          refine wpAnyH_ready (rs := [10]) (by kernel_rfl) (by simp) ?_
          refine AllReadyH.cons (o := ({ dst := none, op := Op.store 45 (Operand.tmp 9) (Operand.tmp 45), type := 0, pos := "l2_tree.go:65", after := #[{ on := 9, ground := Ground.data }, { on := 9, ground := Ground.chain }, { on := 0, ground := Ground.phase }, { on := 1, ground := Ground.phase }, { on := 2, ground := Ground.phase }, { on := 3, ground := Ground.phase }, { on := 4, ground := Ground.phase }, { on := 5, ground := Ground.phase }, { on := 6, ground := Ground.phase }, { on := 7, ground := Ground.phase }, { on := 8, ground := Ground.phase }, { on := 9, ground := Ground.phase }], guard := none } : Oper)) rfl (fun K hK => ?_) AllReadyH.nil
          rw [if_pos (by rfl)]
          refine wp_store_mid _ _ _ rfl M 0 R.toArray rfl rfl (by rw [show R.toArray.size = 32 from ln3]; exact g2.t) i3 (all_oneCell_toArray on3) ?_
          have gz := g2.stored R ln3
          refine hK.out _ _ (S8R.out _ gz) (fun hHeld => ?_)
          clear hK K
          refine wpAnyH_done (by kernel_rfl) ?_ _
          go_wp2
          go_roundw
          case rel => first | exact FIN.out _ gz | exact ⟨_, _, FIN.out _ gz, rfl⟩
          case measure => simp [intOf] <;> omega
        · rw [if_pos (by rfl)]
          refine wp_load_mid _ _ rfl M 0 rfl Y _ gd.r hu rfl i2 ?_
          refine hK.out _ _ (S8.out _ gd) (fun hHeld => ?_)
          clear hK K
          simp only [Act.put, List.setIfInBounds_toArray, List.set_cons_zero, List.set_cons_succ]
          refine wpAnyH_ready (rs := [7]) (by kernel_rfl) (by simp) ?_
          refine AllReadyH.cons (o := ({ dst := some 43, op := Op.call { callee := Callee.value (Operand.func 16), args := #[Operand.tmp 42], argTypes := #[9] }, type := 45, pos := "l2_tree.go:65", after := #[{ on := 6, ground := Ground.data }], guard := none } : Oper)) rfl (fun K hK => ?_) AllReadyH.nil
          go_simp
          refine (markOf_as (S t) _ hst X1 HX1.out).mono ?_
          rintro e w6 ⟨rfl, hb6⟩
          have g1 := gd.call hb6
          refine hK.out _ _ (S8.out _ g1) (fun hHeld => ?_)
          clear hK K
          refine wpAnyH_ready (rs := [9]) (by kernel_rfl) (by simp) ?_
          refine AllReadyH.cons (o := ({ dst := some 45, op := Op.call { callee := Callee.value (Operand.func 17), args := #[Operand.tmp 36, Operand.tmp 43, Operand.tmp 44], argTypes := #[42, 45, 45] }, type := 45, pos := "l2_tree.go:65", after := #[{ on := 0, ground := Ground.data }, { on := 7, ground := Ground.data }, { on := 8, ground := Ground.data }, { on := 7, ground := Ground.chain }], guard := none } : Oper)) rfl (fun K hK => ?_) AllReadyH.nil
          go_simp
          refine (node_any k b (S t) d _ g1.keys hk hsw hdw g1.dbl X1 Y R HX1.out HY.out HR.out).mono ?_
          rintro e w8 ⟨rfl, hd8, hg8⟩
          have g2 := g1.node hd8 hg8
          refine hK.out _ _ (S8.out _ g2) (fun hHeld => ?_)
          clear hK K
          refine wpAnyH_ready (rs := [10]) (by kernel_rfl) (by simp) ?_
          refine AllReadyH.cons (o := ({ dst := none, op := Op.store 45 (Operand.tmp 9) (Operand.tmp 45), type := 0, pos := "l2_tree.go:65", after := #[{ on := 9, ground := Ground.data }, { on := 9, ground := Ground.chain }, { on := 0, ground := Ground.phase }, { on := 1, ground := Ground.phase }, { on := 2, ground := Ground.phase }, { on := 3, ground := Ground.phase }, { on := 4, ground := Ground.phase }, { on := 5, ground := Ground.phase }, { on := 6, ground := Ground.phase }, { on := 7, ground := Ground.phase }, { on := 8, ground := Ground.phase }, { on := 9, ground := Ground.phase }], guard := none } : Oper)) rfl (fun K hK => ?_) AllReadyH.nil
          rw [if_pos (by rfl)]
          refine wp_store_mid _ _ _ rfl M 0 R.toArray rfl rfl (by rw [show R.toArray.size = 32 from ln3]; exact g2.t) i3 (all_oneCell_toArray on3) ?_
          have gz := g2.stored R ln3
          refine hK.out _ _ (S8R.out _ gz) (fun hHeld => ?_)
          clear hK K
          refine wpAnyH_done (by kernel_rfl) ?_ _
          go_wp2
          go_roundw
          case rel => first | exact FIN.out _ gz | exact ⟨_, _, FIN.out _ gz, rfl⟩
          case measure => simp [intOf] <;> omega
      · have h2 := lows_even xx hodd
        obtain rfl : i = r := by omega
        have hodd' : ¬ (xx : Int) % 2 = 1 := by omega
        obtain ⟨last, hla⟩ : ∃ l, gl k S n x i = l := ⟨_, rfl⟩
        have HL : Hid (gl k S n x i = last) := hla
        rw [hla] at HY hdw
        obtain ⟨m, hm⟩ : ∃ m, n - i = m := ⟨_, rfl⟩
        have HM : Hid (n - i = m) := hm
        have hmn : m ≤ n := by omega
        rw [hm]
        have hsz : w.heap.size + 2 ≤ wr.heap.size := by have := gi.hb; have := gi.hJ; have := gi.hM; have := gi.hs; omega
        clear hla hon h2 hlow hm
        by_cases hm0 : m = 0
        · have HZ : Hid (m = 0) := hm0
          clear hm0
          go_wp2_with (first | (refine wpList_make_own _ rfl _ _ 23 rfl wr.heap.size 9 i0 (.string ByteArray.empty) 1 Tryz.underlying23 HI0.out hzz0 hzz1 .i64 .i64 _ (m + 1) rfl rfl (by omega) (by rw [hzz2]; omega) (by unfold maxLen; omega) (Nat.le_refl _) ?_; intro w5 hown5 hgrow5) | (at_builtin; refine wpList_run_append rfl (.tmp 54) (.tmp 55) 23 23 rfl _ _ _ rfl rfl (fun ty => append_zero _ _ (m + 1) c ty m a HZ.out) ?_))
          have hB6 : Below wr.heap.size wr w5 := (Below.refl _ _).grown hgrow5 (Nat.le_refl _) (fun j hj => by cases hj)
          have hown6 : w5.ownsRow wr.heap.size 9 1 (.slice (some ⟨wr.heap.size, 0, none⟩) m (m + 1)) m (strs S m) := by
            have := hown5
            rw [HZ.out] at this ⊢
            exact this
          have g6 := gi.call hB6
          have gd := g6.drew1
          have s11 : ∀ w', Gi k (zn : Int) b J M a n c S w Y w' → (w'.cell? ⟨w.heap.size, 0, none⟩ = some (.int .i64 (zn : Int)) ∧ w'.cell? ⟨J, 0, none⟩ = some (.int .i64 k) ∧ w'.cell? ⟨J, 1, none⟩ = some (.map (some b)) ∧ w'.rangeAt M 0 Y) := fun w' h => ⟨h.c0, h.j0, h.j1, h.r⟩
          have S11 : Hid (∀ w', Gi k (zn : Int) b J M a n c S w Y w' → (w'.cell? ⟨w.heap.size, 0, none⟩ = some (.int .i64 (zn : Int)) ∧ w'.cell? ⟨J, 0, none⟩ = some (.int .i64 k) ∧ w'.cell? ⟨J, 1, none⟩ = some (.map (some b)) ∧ w'.rangeAt M 0 Y)) := s11
          clear s11
          refine wp_region_held_drew (S := fun w' => w'.cell? ⟨w.heap.size, 0, none⟩ = some (.int .i64 (zn : Int)) ∧ w'.cell? ⟨J, 0, none⟩ = some (.int .i64 k) ∧ w'.cell? ⟨J, 1, none⟩ = some (.map (some b)) ∧ w'.rangeAt M 0 Y) (by kernel_rfl) (S11.out _ gd) (fun hHeld => ?_)
          refine wpAnyH_take (i := 0) (oi := ({ dst := some 57, op := Op.fieldAddr 28 (Operand.tmp 4) 0, type := 0, pos := "l2_tree.go:69", after := #[], guard := none } : Oper)) (v := .pointer (some ⟨w.heap.size, 0, none⟩)) rfl (by kernel_rfl) (by kernel_rfl) (by kernel_rfl) (fun _ _ _ h => h) (Or.inl ⟨by rfl, fun w hSw => by go_simp⟩) hHeld ?_
          simp only [Act.put, List.setIfInBounds_toArray, List.set_cons_zero, List.set_cons_succ]
          refine wpAnyH_take (i := 1) (oi := ({ dst := some 58, op := Op.load 3 (Operand.tmp 57), type := 3, pos := "l2_tree.go:69", after := #[{ on := 0, ground := Ground.data }], guard := none } : Oper)) (v := .int .i64 (zn : Int)) rfl (by kernel_rfl) (by kernel_rfl) (by kernel_rfl) (fun _ _ _ h => h) (Or.inl ⟨by rfl, fun w hSw => by obtain ⟨y0, y1, y2, y3⟩ := hSw; go_simp⟩) hHeld ?_
          simp only [Act.put, List.setIfInBounds_toArray, List.set_cons_zero, List.set_cons_succ]
          refine wpAnyH_take (i := 2) (oi := ({ dst := some 59, op := Op.binOp BinOp.add 3 (Operand.tmp 58) (Operand.const (Value.int IntKind.i64 1)) 3, type := 3, pos := "l2_tree.go:69", after := #[{ on := 1, ground := Ground.data }], guard := none } : Oper)) (v := .int .i64 ((zn : Int) + 1)) rfl (by kernel_rfl) (by kernel_rfl) (by kernel_rfl) (fun _ _ _ h => h) (Or.inl ⟨by rfl, fun w hSw => by go_simp⟩) hHeld ?_
          simp only [Act.put, List.setIfInBounds_toArray, List.set_cons_zero, List.set_cons_succ]
          refine wpAnyH_take (i := 3) (oi := ({ dst := some 60, op := Op.move (Operand.tmp 11), type := 23, pos := "l2_tree.go:69", after := #[], guard := none } : Oper)) (v := .slice (some ⟨wr.heap.size, 0, none⟩) m (m + 1)) rfl (by kernel_rfl) (by kernel_rfl) (by kernel_rfl) (fun _ _ _ h => h) (Or.inl ⟨by rfl, fun w hSw => by go_simp⟩) hHeld ?_
          simp only [Act.put, List.setIfInBounds_toArray, List.set_cons_zero, List.set_cons_succ]
          refine wpAnyH_take (i := 4) (oi := ({ dst := some 61, op := Op.load 42 (Operand.tmp 7), type := 42, pos := "l2_tree.go:69", after := #[], guard := none } : Oper)) (v := .agg #[.int .i64 k, .map (some b)]) rfl (by kernel_rfl) (by kernel_rfl) (by kernel_rfl) (fun _ _ _ h => h) (Or.inl ⟨by rfl, fun w hSw => by obtain ⟨y0, y1, y2, y3⟩ := hSw; go_simp⟩) hHeld ?_
          simp only [Act.put, List.setIfInBounds_toArray, List.set_cons_zero, List.set_cons_succ]
          refine wpAnyH_take (i := 5) (oi := ({ dst := some 62, op := Op.load 45 (Operand.tmp 9), type := 45, pos := "l2_tree.go:69", after := #[], guard := none } : Oper)) (v := .agg Y.toArray) rfl (by kernel_rfl) (by kernel_rfl) (by kernel_rfl) (fun _ _ _ h => h) (yieldsIf_load_mid (by rfl) _ _ rfl _ _ rfl Y _ (fun w hSw => hSw.2.2.2) hu rfl i2) hHeld ?_
          simp only [Act.put, List.setIfInBounds_toArray, List.set_cons_zero, List.set_cons_succ]
          refine wpAnyH_ready (rs := [6]) (by kernel_rfl) (by simp) ?_
          refine AllReadyH.cons (o := ({ dst := some 63, op := Op.call { callee := Callee.value (Operand.func 18), args := #[Operand.tmp 61, Operand.tmp 62], argTypes := #[42, 45] }, type := 9, pos := "l2_tree.go:69", after := #[{ on := 4, ground := Ground.data }, { on := 5, ground := Ground.data }], guard := none } : Oper)) rfl (fun K hK => ?_) AllReadyH.nil
          go_simp
          refine (joinText_as k b (pad last) _ hk (pad_len last (by omega)) last (txt_pad k last hdw) Y HY.out).mono ?_
          rintro e w7 ⟨rfl, hb7⟩
          have g7 := gd.call hb7
          have hown7 := own_later (w := w5.drew) hown6 hb7
          refine hK.out _ _ (S11.out _ g7) (fun hHeld => ?_)
          clear hK K
          refine wpAnyH_ready (rs := [7]) (by kernel_rfl) (by simp) ?_
          refine AllReadyH.cons (o := ({ dst := some 64, op := Op.buildSlice 23 1 #[(0, Operand.tmp 63)], type := 23, pos := "l2_tree.go:69", after := #[{ on := 6, ground := Ground.data }], guard := none } : Oper)) rfl (fun K hK => ?_) AllReadyH.nil
          go_simp
          have g8 := g7.call (below1 w7 (.cells #[.string last] 9))
          have hown8 := own_later hown7 (below1 w7 (.cells #[.string last] 9))
          refine hK.out _ _ (S11.out _ g8) (fun hHeld => ?_)
          clear hK K
          refine wpAnyH_ready (rs := [8]) (by kernel_rfl) (by simp) ?_
          refine AllReadyH.cons (o := ({ dst := some 65, op := Op.call { callee := Callee.builtin Builtin.append, args := #[Operand.tmp 60, Operand.tmp 64], argTypes := #[23, 23] }, type := 23, pos := "l2_tree.go:69", after := #[{ on := 3, ground := Ground.data }, { on := 7, ground := Ground.data }, { on := 6, ground := Ground.chain }], guard := none } : Oper)) rfl (fun K hK => ?_) AllReadyH.nil
          rw [if_pos (by rfl)]
          have hB8 : Below wr.heap.size wr (w7.alloc (.cells #[.string last] 9)) := (hB6.drew.trans (hb7.mono hB6.size)).trans ((below1 _ _).mono (Nat.le_trans hB6.size hb7.size))
          refine wp_append_lies _ (.tmp 60) (.tmp 64) 23 rfl wr.heap.size 9 i0 (.string ByteArray.empty) 1 16 Tryz.underlying23 HI0.out hzz0 hzz1 hzz2 rfl (by omega) (.slice (some ⟨wr.heap.size, 0, none⟩) m (m + 1)) m (strs S m) rfl hown8 ⟨w7.heap.size, 0, none⟩ 1 1 [.string last] rfl rfl (World.news_of_block (cs := #[.string last]) (heap_alloc_new w7 _)) (fun u hu => by simp only [List.mem_singleton] at hu; subst hu; rfl) (by omega) (by unfold maxLen; omega) (by omega) hB8.size _ rfl ?_
          intro g2 cap2 w9 hown9 hgrow9 hat9 hlt9
          have hgw : (w7.alloc (.cells #[.string last] 9)).grownBy w9 (some wr.heap.size) := hgrow9
          have hB9 : Below wr.heap.size wr w9 := hB8.grown hgw hB8.size (fun j hj => by have := own_cap hown8; simp at hj; omega)
          have g9 := gi.call hB9
          refine hK.out _ _ (S11.out _ g9) (fun hHeld => ?_)
          clear hK K
          simp only [Act.put, List.setIfInBounds_toArray, List.set_cons_zero, List.set_cons_succ]
          refine wpAnyH_take (i := 9) (oi := ({ dst := some 66, op := Op.build 28 #[(0, Operand.tmp 59), (1, Operand.tmp 65)], type := 28, pos := "l2_tree.go:69", after := #[{ on := 2, ground := Ground.data }, { on := 8, ground := Ground.data }], guard := none } : Oper)) (v := .agg #[.int .i64 ((zn : Int) + 1), .slice (some ⟨g2, 0, none⟩) (m + 1) cap2]) rfl (by kernel_rfl) (by kernel_rfl) (by kernel_rfl) (fun _ _ _ h => h) (Or.inl ⟨by rfl, fun w hSw => by go_simp⟩) hHeld ?_
          simp only [Act.put, List.setIfInBounds_toArray, List.set_cons_zero, List.set_cons_succ]
          refine wpAnyH_ready (rs := [10]) (by kernel_rfl) (by simp) ?_
          refine AllReadyH.cons (o := ({ dst := none, op := Op.store 28 (Operand.tmp 6) (Operand.tmp 66), type := 0, pos := "l2_tree.go:69", after := #[{ on := 9, ground := Ground.data }, { on := 8, ground := Ground.chain }, { on := 0, ground := Ground.phase }, { on := 1, ground := Ground.phase }, { on := 2, ground := Ground.phase }, { on := 3, ground := Ground.phase }, { on := 4, ground := Ground.phase }, { on := 5, ground := Ground.phase }, { on := 6, ground := Ground.phase }, { on := 7, ground := Ground.phase }, { on := 8, ground := Ground.phase }, { on := 9, ground := Ground.phase }], guard := none } : Oper)) rfl (fun K hK => ?_) AllReadyH.nil
          rw [if_pos (by rfl)]
          refine wp_store_mid _ _ _ rfl (w.heap.size + 1) 0 (List.toArray [.int .i64 ((zn : Int) + 1), .slice (some ⟨g2, 0, none⟩) (m + 1) cap2]) rfl rfl g9.t1 I31.out (all_oneCell_toArray (fun u hu => by simp at hu; rcases hu with rfl | rfl <;> rfl)) ?_
          have hown10 := own_setCells hown9 (w.heap.size + 1) 0 [.int .i64 ((zn : Int) + 1), .slice (some ⟨g2, 0, none⟩) (m + 1) cap2] (by omega)
          have gb := gi.hb
          have gJ := gi.hJ
          have gM := gi.hM
          refine hK.out _ _ ⟨(World.cell?_setCells_out _ _ _ _ _ (fun e => by simp at e)).trans g9.c0, (World.cell?_setCells_out _ _ _ _ _ (fun e => by simp at e; omega)).trans g9.j0, (World.cell?_setCells_out _ _ _ _ _ (fun e => by simp at e; omega)).trans g9.j1, World.rangeAt_setCells_apart g9.r _ _ _ (Or.inl (by omega))⟩ (fun hHeld => ?_)
          clear hK K
          refine wpAnyH_done (by kernel_rfl) ?_ _
          go_wp2
          refine bodyPost_ret (v := .agg #[.int .i64 ((zn : Int) + 1), .slice (some ⟨g2, 0, none⟩) (m + 1) cap2]) (results_mid Tryz.results9 _ _ (w.heap.size + 1) 0 [.int .i64 ((zn : Int) + 1), .slice (some ⟨g2, 0, none⟩) (m + 1) cap2] _ rfl (World.rangeAt_setCells_same _ _ _ _ g9.t1) Tryz.underlying28 rfl I31.out) rfl ⟨g2, cap2, ?_, ?_, below_setCells _ _ g9.below (by omega)⟩
          · rw [HM.out]
          · have e1 := strs_grown k S n x i
            rw [HL.out, HM.out] at e1
            rw [HM.out, ← e1]
            exact own_base hown10 (by omega)
        · obtain ⟨P, off, rfl, _⟩ := gi.sl.at 0 (by omega)
          have hnw : Hid (∀ w', Sl w' (some ⟨P, off, none⟩) n S → ∀ j u, (strs S m)[j]? = some u → w'.cell? ((⟨P, off, none⟩ : Addr).add j) = some u) := by
            intro w' hw' j u hu
            have hj : j < m := by have := (List.getElem?_eq_some_iff.1 hu).1; rwa [strs_len] at this
            obtain ⟨b', off', e, hc'⟩ := hw'.at j (by omega)
            obtain ⟨rfl, rfl⟩ : P = b' ∧ off = off' := by simpa using e
            rw [Addr.add_mid, hc']
            rw [strs_get S m j hj] at hu
            exact hu
          go_wp2_with (first | (refine wpList_make_own _ rfl _ _ 23 rfl wr.heap.size 9 i0 (.string ByteArray.empty) 1 Tryz.underlying23 HI0.out hzz0 hzz1 .i64 .i64 _ (m + 1) rfl rfl (by omega) (by rw [hzz2]; omega) (by unfold maxLen; omega) (Nat.le_refl _) ?_; intro w5 hown5 hgrow5; have hB5 : Below wr.heap.size wr w5 := (Below.refl _ _).grown hgrow5 (Nat.le_refl _) (fun j hj => by cases hj); have hS5 := gi.sl.later hB5) | (at_builtin; refine wpList_append_lies _ rfl (.tmp 54) (.tmp 55) 23 rfl wr.heap.size 9 i0 (.string ByteArray.empty) 1 16 Tryz.underlying23 HI0.out hzz0 hzz1 hzz2 rfl (by omega) (.slice (some ⟨wr.heap.size, 0, none⟩) 0 (m + 1)) 0 [] rfl hown5 ⟨P, off, none⟩ m c (strs S m) rfl (by rw [strs_len]; omega) (hnw.out _ hS5) (strs_one S m) (by omega) (by unfold maxLen; omega) (by omega) hB5.size _ rfl ?_; intro g1 cap1 w6 hown60 hgrow6 hat6 hlt6))
          have hgw6 : w5.grownBy w6 (some wr.heap.size) := hgrow6
          have hB6 : Below wr.heap.size wr w6 := hB5.grown hgw6 hB5.size (fun j hj => by simp at hj; omega)
          have hown6 : w6.ownsRow wr.heap.size 9 1 (.slice (some ⟨g1, 0, none⟩) m cap1) m (strs S m) := by simpa using hown60
          clear hown60 hgrow6 hat6 hlt6 hown5 hgrow5 hS5 hnw
          have g6 := gi.call hB6
          have gd := g6.drew1
          have s11 : ∀ w', Gi k (zn : Int) b J M (some ⟨P, off, none⟩) n c S w Y w' → (w'.cell? ⟨w.heap.size, 0, none⟩ = some (.int .i64 (zn : Int)) ∧ w'.cell? ⟨J, 0, none⟩ = some (.int .i64 k) ∧ w'.cell? ⟨J, 1, none⟩ = some (.map (some b)) ∧ w'.rangeAt M 0 Y) := fun w' h => ⟨h.c0, h.j0, h.j1, h.r⟩
          have S11 : Hid (∀ w', Gi k (zn : Int) b J M (some ⟨P, off, none⟩) n c S w Y w' → (w'.cell? ⟨w.heap.size, 0, none⟩ = some (.int .i64 (zn : Int)) ∧ w'.cell? ⟨J, 0, none⟩ = some (.int .i64 k) ∧ w'.cell? ⟨J, 1, none⟩ = some (.map (some b)) ∧ w'.rangeAt M 0 Y)) := s11
          clear s11
          refine wp_region_held_drew (S := fun w' => w'.cell? ⟨w.heap.size, 0, none⟩ = some (.int .i64 (zn : Int)) ∧ w'.cell? ⟨J, 0, none⟩ = some (.int .i64 k) ∧ w'.cell? ⟨J, 1, none⟩ = some (.map (some b)) ∧ w'.rangeAt M 0 Y) (by kernel_rfl) (S11.out _ gd) (fun hHeld => ?_)
          refine wpAnyH_take (i := 0) (oi := ({ dst := some 57, op := Op.fieldAddr 28 (Operand.tmp 4) 0, type := 0, pos := "l2_tree.go:69", after := #[], guard := none } : Oper)) (v := .pointer (some ⟨w.heap.size, 0, none⟩)) rfl (by kernel_rfl) (by kernel_rfl) (by kernel_rfl) (fun _ _ _ h => h) (Or.inl ⟨by rfl, fun w hSw => by go_simp⟩) hHeld ?_
          simp only [Act.put, List.setIfInBounds_toArray, List.set_cons_zero, List.set_cons_succ]
          refine wpAnyH_take (i := 1) (oi := ({ dst := some 58, op := Op.load 3 (Operand.tmp 57), type := 3, pos := "l2_tree.go:69", after := #[{ on := 0, ground := Ground.data }], guard := none } : Oper)) (v := .int .i64 (zn : Int)) rfl (by kernel_rfl) (by kernel_rfl) (by kernel_rfl) (fun _ _ _ h => h) (Or.inl ⟨by rfl, fun w hSw => by obtain ⟨y0, y1, y2, y3⟩ := hSw; go_simp⟩) hHeld ?_
          simp only [Act.put, List.setIfInBounds_toArray, List.set_cons_zero, List.set_cons_succ]
          refine wpAnyH_take (i := 2) (oi := ({ dst := some 59, op := Op.binOp BinOp.add 3 (Operand.tmp 58) (Operand.const (Value.int IntKind.i64 1)) 3, type := 3, pos := "l2_tree.go:69", after := #[{ on := 1, ground := Ground.data }], guard := none } : Oper)) (v := .int .i64 ((zn : Int) + 1)) rfl (by kernel_rfl) (by kernel_rfl) (by kernel_rfl) (fun _ _ _ h => h) (Or.inl ⟨by rfl, fun w hSw => by go_simp⟩) hHeld ?_
          simp only [Act.put, List.setIfInBounds_toArray, List.set_cons_zero, List.set_cons_succ]
          refine wpAnyH_take (i := 3) (oi := ({ dst := some 60, op := Op.move (Operand.tmp 11), type := 23, pos := "l2_tree.go:69", after := #[], guard := none } : Oper)) (v := .slice (some ⟨g1, 0, none⟩) m cap1) rfl (by kernel_rfl) (by kernel_rfl) (by kernel_rfl) (fun _ _ _ h => h) (Or.inl ⟨by rfl, fun w hSw => by go_simp⟩) hHeld ?_
          simp only [Act.put, List.setIfInBounds_toArray, List.set_cons_zero, List.set_cons_succ]
          refine wpAnyH_take (i := 4) (oi := ({ dst := some 61, op := Op.load 42 (Operand.tmp 7), type := 42, pos := "l2_tree.go:69", after := #[], guard := none } : Oper)) (v := .agg #[.int .i64 k, .map (some b)]) rfl (by kernel_rfl) (by kernel_rfl) (by kernel_rfl) (fun _ _ _ h => h) (Or.inl ⟨by rfl, fun w hSw => by obtain ⟨y0, y1, y2, y3⟩ := hSw; go_simp⟩) hHeld ?_
          simp only [Act.put, List.setIfInBounds_toArray, List.set_cons_zero, List.set_cons_succ]
          refine wpAnyH_take (i := 5) (oi := ({ dst := some 62, op := Op.load 45 (Operand.tmp 9), type := 45, pos := "l2_tree.go:69", after := #[], guard := none } : Oper)) (v := .agg Y.toArray) rfl (by kernel_rfl) (by kernel_rfl) (by kernel_rfl) (fun _ _ _ h => h) (yieldsIf_load_mid (by rfl) _ _ rfl _ _ rfl Y _ (fun w hSw => hSw.2.2.2) hu rfl i2) hHeld ?_
          simp only [Act.put, List.setIfInBounds_toArray, List.set_cons_zero, List.set_cons_succ]
          refine wpAnyH_ready (rs := [6]) (by kernel_rfl) (by simp) ?_
          refine AllReadyH.cons (o := ({ dst := some 63, op := Op.call { callee := Callee.value (Operand.func 18), args := #[Operand.tmp 61, Operand.tmp 62], argTypes := #[42, 45] }, type := 9, pos := "l2_tree.go:69", after := #[{ on := 4, ground := Ground.data }, { on := 5, ground := Ground.data }], guard := none } : Oper)) rfl (fun K hK => ?_) AllReadyH.nil
          go_simp
          refine (joinText_as k b (pad last) _ hk (pad_len last (by omega)) last (txt_pad k last hdw) Y HY.out).mono ?_
          rintro e w7 ⟨rfl, hb7⟩
          have g7 := gd.call hb7
          have hown7 := own_later (w := w6.drew) hown6 hb7
          refine hK.out _ _ (S11.out _ g7) (fun hHeld => ?_)
          clear hK K
          refine wpAnyH_ready (rs := [7]) (by kernel_rfl) (by simp) ?_
          refine AllReadyH.cons (o := ({ dst := some 64, op := Op.buildSlice 23 1 #[(0, Operand.tmp 63)], type := 23, pos := "l2_tree.go:69", after := #[{ on := 6, ground := Ground.data }], guard := none } : Oper)) rfl (fun K hK => ?_) AllReadyH.nil
          go_simp
          have g8 := g7.call (below1 w7 (.cells #[.string last] 9))
          have hown8 := own_later hown7 (below1 w7 (.cells #[.string last] 9))
          refine hK.out _ _ (S11.out _ g8) (fun hHeld => ?_)
          clear hK K
          refine wpAnyH_ready (rs := [8]) (by kernel_rfl) (by simp) ?_
          refine AllReadyH.cons (o := ({ dst := some 65, op := Op.call { callee := Callee.builtin Builtin.append, args := #[Operand.tmp 60, Operand.tmp 64], argTypes := #[23, 23] }, type := 23, pos := "l2_tree.go:69", after := #[{ on := 3, ground := Ground.data }, { on := 7, ground := Ground.data }, { on := 6, ground := Ground.chain }], guard := none } : Oper)) rfl (fun K hK => ?_) AllReadyH.nil
          rw [if_pos (by rfl)]
          have hB8 : Below wr.heap.size wr (w7.alloc (.cells #[.string last] 9)) := (hB6.drew.trans (hb7.mono hB6.size)).trans ((below1 _ _).mono (Nat.le_trans hB6.size hb7.size))
          refine wp_append_lies _ (.tmp 60) (.tmp 64) 23 rfl wr.heap.size 9 i0 (.string ByteArray.empty) 1 16 Tryz.underlying23 HI0.out hzz0 hzz1 hzz2 rfl (by omega) (.slice (some ⟨g1, 0, none⟩) m cap1) m (strs S m) rfl hown8 ⟨w7.heap.size, 0, none⟩ 1 1 [.string last] rfl rfl (World.news_of_block (cs := #[.string last]) (heap_alloc_new w7 _)) (fun u hu => by simp only [List.mem_singleton] at hu; subst hu; rfl) (by omega) (by unfold maxLen; omega) (by omega) hB8.size _ rfl ?_
          intro g2 cap2 w9 hown9 hgrow9 hat9 hlt9
          have hgw : (w7.alloc (.cells #[.string last] 9)).grownBy w9 (some g1) := hgrow9
          have hB9 : Below wr.heap.size wr w9 := hB8.grown hgw hB8.size (fun j hj => by have := own_cap hown8; simp at hj; omega)
          have g9 := gi.call hB9
          refine hK.out _ _ (S11.out _ g9) (fun hHeld => ?_)
          clear hK K
          simp only [Act.put, List.setIfInBounds_toArray, List.set_cons_zero, List.set_cons_succ]
          refine wpAnyH_take (i := 9) (oi := ({ dst := some 66, op := Op.build 28 #[(0, Operand.tmp 59), (1, Operand.tmp 65)], type := 28, pos := "l2_tree.go:69", after := #[{ on := 2, ground := Ground.data }, { on := 8, ground := Ground.data }], guard := none } : Oper)) (v := .agg #[.int .i64 ((zn : Int) + 1), .slice (some ⟨g2, 0, none⟩) (m + 1) cap2]) rfl (by kernel_rfl) (by kernel_rfl) (by kernel_rfl) (fun _ _ _ h => h) (Or.inl ⟨by rfl, fun w hSw => by go_simp⟩) hHeld ?_
          simp only [Act.put, List.setIfInBounds_toArray, List.set_cons_zero, List.set_cons_succ]
          refine wpAnyH_ready (rs := [10]) (by kernel_rfl) (by simp) ?_
          refine AllReadyH.cons (o := ({ dst := none, op := Op.store 28 (Operand.tmp 6) (Operand.tmp 66), type := 0, pos := "l2_tree.go:69", after := #[{ on := 9, ground := Ground.data }, { on := 8, ground := Ground.chain }, { on := 0, ground := Ground.phase }, { on := 1, ground := Ground.phase }, { on := 2, ground := Ground.phase }, { on := 3, ground := Ground.phase }, { on := 4, ground := Ground.phase }, { on := 5, ground := Ground.phase }, { on := 6, ground := Ground.phase }, { on := 7, ground := Ground.phase }, { on := 8, ground := Ground.phase }, { on := 9, ground := Ground.phase }], guard := none } : Oper)) rfl (fun K hK => ?_) AllReadyH.nil
          rw [if_pos (by rfl)]
          refine wp_store_mid _ _ _ rfl (w.heap.size + 1) 0 (List.toArray [.int .i64 ((zn : Int) + 1), .slice (some ⟨g2, 0, none⟩) (m + 1) cap2]) rfl rfl g9.t1 I31.out (all_oneCell_toArray (fun u hu => by simp at hu; rcases hu with rfl | rfl <;> rfl)) ?_
          have hown10 := own_setCells hown9 (w.heap.size + 1) 0 [.int .i64 ((zn : Int) + 1), .slice (some ⟨g2, 0, none⟩) (m + 1) cap2] (by omega)
          have gb := gi.hb
          have gJ := gi.hJ
          have gM := gi.hM
          refine hK.out _ _ ⟨(World.cell?_setCells_out _ _ _ _ _ (fun e => by simp at e)).trans g9.c0, (World.cell?_setCells_out _ _ _ _ _ (fun e => by simp at e; omega)).trans g9.j0, (World.cell?_setCells_out _ _ _ _ _ (fun e => by simp at e; omega)).trans g9.j1, World.rangeAt_setCells_apart g9.r _ _ _ (Or.inl (by omega))⟩ (fun hHeld => ?_)
          clear hK K
          refine wpAnyH_done (by kernel_rfl) ?_ _
          go_wp2
          refine bodyPost_ret (v := .agg #[.int .i64 ((zn : Int) + 1), .slice (some ⟨g2, 0, none⟩) (m + 1) cap2]) (results_mid Tryz.results9 _ _ (w.heap.size + 1) 0 [.int .i64 ((zn : Int) + 1), .slice (some ⟨g2, 0, none⟩) (m + 1) cap2] _ rfl (World.rangeAt_setCells_same _ _ _ _ g9.t1) Tryz.underlying28 rfl I31.out) rfl ⟨g2, cap2, ?_, ?_, below_setCells _ _ g9.below (by omega)⟩
          · rw [HM.out]
          · have e1 := strs_grown k S n x i
            rw [HL.out, HM.out] at e1
            rw [HM.out, ← e1]
            exact own_base hown10 (by omega)
end Go.Proofs.YtjbbbfplephkpaaGreatDoor
