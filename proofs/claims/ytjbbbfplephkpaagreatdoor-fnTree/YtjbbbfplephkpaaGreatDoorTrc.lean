/-
  The root of a tree: the program's way.
-/
import Derived.Test.YtjbbbfplephkpaaGreatDoorTrb
namespace Go.Proofs.YtjbbbfplephkpaaGreatDoor
open Go.RowKit Go.ChangeMaps
/-- What the loop's region reads. -/
def TrS (k : Int) (b J P off n c : Nat) (S : Nat → ByteArray) (w : World) (t : Nat) (w' : World) : Prop :=
  w'.cell? ⟨J, 0, none⟩ = some (.int .i64 k) ∧ w'.cell? ⟨J, 1, none⟩ = some (.map (some b)) ∧ w'.cell? ⟨w.heap.size, 1, none⟩ = some (.slice (some ⟨P, off, none⟩) n c) ∧ w'.cell? ⟨P, off + t, none⟩ = some (.string (S t))
theorem Tr.s' {k : Int} {b J M P off n c : Nat} {S : Nat → ByteArray} {w w1 : World} {X : List Value} (h : Tr k b J M P off n c S w X w1) (t : Nat) (ht : t < n) : TrS k b J P off n c S w t w1 := by
  obtain ⟨b', o, e, hc⟩ := h.sl.at t ht
  obtain ⟨rfl, rfl⟩ : P = b' ∧ off = o := by simpa using e
  exact ⟨h.c0, h.c1, h.q, hc⟩
theorem Tr.drew1 {k : Int} {b J M P off n c : Nat} {S : Nat → ByteArray} {w w1 : World} {X : List Value} (h : Tr k b J M P off n c S w X w1) : Tr k b J M P off n c S w X w1.drew :=
  ⟨h.q, h.sl, h.c0, h.c1, h.r, h.t, h.keys, h.dbl, h.below.drew, h.hP, h.hb, h.hJ, h.hM⟩
theorem fromR_wid (k : Int) (S : Nat → ByteArray) (n : Nat) (hk : k = 0 ∨ k = 1) (hs : ∀ i, i < n → (S i).size = wid k) (hn : 0 < n) : ∀ j, (fromR k S n j).size = wid k
  | 0 => hs _ (by omega)
  | _ + 1 => dg_size k _ hk
set_option maxRecDepth 20000 in
theorem text_as (k : Int) (b : Nat) (d : ByteArray) (w : World) (hk : k = 0 ∨ k = 1) (hd : d.size = wid k) (X : List Value) (hX : cells8 (pad d) = X) :
    Calls Tryz.prog 18 #[.agg #[.int .i64 k, .map (some b)], .agg X.toArray] w fun e w' => e = .returned (.string d) ∧ Below w.heap.size w w' :=
  joinText_as k b (pad d) w hk (pad_len d (by have := wid_le k; omega)) d (txt_pad k d hd) X hX
set_option maxRecDepth 20000 in
set_option maxHeartbeats 4000000 in
theorem implTreeRoot_some (k z : Int) (a : Option Addr) (m c : Nat) (S : Nat → ByteArray) (w : World) (h : Sl w a (m + 1) S) (hK : KeysAt w) (hok : okB k z (m + 1) S = true) :
    Calls Tryz.prog 6 #[.int .i64 k, .agg #[.int .i64 z, .slice a (m + 1) c]] w fun e w' => e = .returned (.string (fromR k S (m + 1) m)) ∧ Below w.heap.size w w' := by
  obtain ⟨p0, q0⟩ := cell_box w (.int .i64 z) (.slice a (m + 1) c) 28
  have hS0 := h.later (below1 w (.cells #[.int .i64 z, .slice a (m + 1) c] 28))
  obtain ⟨hk, hz0, hz1, hn, hs⟩ := okB_out hok
  have hn12 := on12 z _ hn
  have HO : Hid (okB k z (m + 1) S = true) := hok
  have hw := wid_le k
  clear hok hn
  obtain ⟨b0, off0, rfl, hcl⟩ := h.at m (by omega)
  have hlt0 := World.block_lt_of_cell? w _ hcl
  have HK : Hid (KeysAt w) := hK
  clear hK
  have hsm : (S m).size ≤ 32 := by rw [hs m (by omega)]; exact hw
  obtain ⟨X, hX⟩ : ∃ X, cells8 (pad (S m)) = X := ⟨_, rfl⟩
  have HX : Hid (cells8 (pad (S m)) = X) := hX
  have ln : X.length = 32 := by rw [← hX, cells8_len]; exact pad_len _ hsm
  have on3 : ∀ v ∈ X, v.oneCell' = true := by rw [← hX]; exact cells8_one _
  clear hX
  obtain ⟨hzr, hi⟩ := zero_of_info Tryz.info45
  have HI : Hid ((Tryz.prog.info? 45).map (·.size) = some 32) := hi
  have i3 : Hid ((Tryz.prog.info? 45).map (·.size) = some X.length) := by show (Tryz.prog.info? 45).map (·.size) = some X.length; rw [ln]; exact hi
  clear hi
  go_enter Tryz.func6, Tryz.ntmps6
  go_wp2_with (first | (go_at_call 13; refine (implOK_any _ _ _ _ _ S _ hS0).mono ?_; rw [HO.out]; rintro e w1 ⟨rfl, hb1⟩; have p1 := keep hb1 p0; have q1 := keep hb1 q0; have l1 := keep hb1 (keep (below1 w (.cells #[.int .i64 z, .slice (some ⟨b0, off0, none⟩) (m + 1) c] 28)) hcl)) | (go_at_call 15; refine (makeJoiner_any k _).mono ?_; rintro e w2 ⟨b, hbb, rfl, hd2, hb2⟩; have q2 := keep (below1 w2 (.cells #[.int .i64 k, .map (some b)] 42)) (keep hb2 q1); have l2 := keep (below1 w2 (.cells #[.int .i64 k, .map (some b)] 42)) (keep hb2 l1)) | (go_at_call 16; refine (markOf_as (S m) _ hsm X HX.out).mono ?_; rintro e w3 ⟨rfl, hb3⟩; have hT3 : (w3.alloc (.cells zeros32 45)).there w3.heap.size 0 X.toArray.size := by rw [show X.toArray.size = 32 from ln]; exact there_row _ _ _ _ _ zeros32_size (heap_alloc_new _ _)) | (refine wpList_store_mid rfl 45 (.tmp 7) (.tmp 30) rfl w3.heap.size 0 X.toArray rfl rfl hT3 i3.out (all_oneCell_toArray on3) ?_))
  have tr0 : Tr k b w2.heap.size w3.heap.size b0 off0 (m + 1) c S w zeros32.toList (w3.alloc (.cells zeros32 45)) := by
    have z1 : w.heap.size + 1 ≤ w1.heap.size := by have := hb1.size; simpa using this
    have z2 := hb2.size
    have z3 : w2.heap.size + 1 ≤ w3.heap.size := by have := hb3.size; simpa using this
    obtain ⟨u0, u1⟩ := cell_box w2 (.int .i64 k) (.map (some b)) 42
    have bw1 : Below w.heap.size w w1 := (below1 _ _).trans (hb1.mono (by simp))
    have bw2 : Below w.heap.size w w2 := bw1.trans (hb2.mono bw1.size)
    have bw2' : Below w.heap.size w (w2.alloc (.cells #[.int .i64 k, .map (some b)] 42)) := bw2.trans ((below1 _ _).mono bw2.size)
    have bw3 : Below w.heap.size w w3 := bw2'.trans (hb3.mono bw2'.size)
    have bw4 : Below w.heap.size w (w3.alloc (.cells zeros32 45)) := bw3.trans ((below1 _ _).mono bw3.size)
    exact ⟨keep (below1 _ _) (keep hb3 q2), h.later bw4, keep (below1 _ _) (keep hb3 u0), keep (below1 _ _) (keep hb3 u1), range_row _ _ _ 45 (by simpa using heap_alloc_new w3 (.cells zeros32 45)), there_row _ _ _ _ _ zeros32_size (heap_alloc_new _ _), keys_later HK.out bw4, (((hd2.mono (by omega)).later (below1 _ _)).later hb3).later (below1 _ _), bw4, hlt0, by omega, hd2.lt, by omega⟩
  have trA := tr0.stored X ln
  clear tr0 p0 q0 hS0 p1 q1 l1 q2 l2 hT3 hb1 hb2 hb3 hd2 hbb hcl
  go_loopw [8] (fun i wr => ∃ (j : Nat) (Y : List Value), j ≤ m ∧ i = .int .i64 ((m : Int) - 1 - j) ∧ cells8 (pad (fromR k S (m + 1) j)) = Y ∧ Tr k b w2.heap.size w3.heap.size b0 off0 (m + 1) c S w Y wr) (fun i _ => (intOf i + 1).toNat)
  case atStart => exact ⟨0, X, by omega, by simp, HX.out, trA⟩
  case round =>
    clear trA HX ln on3 i3 hzr
    obtain ⟨j, X, hj, rfl, hX, hTr0⟩ := hrel
    have HX : Hid (cells8 (pad (fromR k S (m + 1) j)) = X) := hX
    clear hX
    have hdw := fromR_wid k S (m + 1) hk hs (by omega) j
    by_cases hlt : j < m
    · obtain ⟨t, ht⟩ : ∃ t : Nat, m - 1 - j = t := ⟨_, rfl⟩
      have HIT : Hid ((m : Int) - 1 - j = (t : Int)) := by show (m : Int) - 1 - j = (t : Int); omega
      rw [HIT.out]
      have hsw := hs t (by omega)
      have hst : (S t).size ≤ 32 := by rw [hsw]; exact hw
      have htm : (t : Int) < (m : Int) + 1 := by omega
      have htm' : t < m + 1 := by omega
      have hD : Hid (nodeD k (S t) (fromR k S (m + 1) j) = fromR k S (m + 1) (j + 1)) := by
        show nodeD k (S t) (fromR k S (m + 1) j) = nodeD k (S (m + 1 - 2 - j)) (fromR k S (m + 1) j)
        rw [← ht, show m + 1 - 2 - j = m - 1 - j by omega]
      have HJ : Hid (m - 1 - j = t) := ht
      obtain ⟨d, hd⟩ : ∃ d, fromR k S (m + 1) j = d := ⟨_, rfl⟩
      rw [hd] at hD HX hdw
      clear hd ht
      obtain ⟨X1, hX1⟩ : ∃ X, cells8 (pad (S t)) = X := ⟨_, rfl⟩
      obtain ⟨R, hR⟩ : ∃ X, cells8 (pad (nodeD k (S t) d)) = X := ⟨_, rfl⟩
      have HX1 : Hid (cells8 (pad (S t)) = X1) := hX1
      have HR : Hid (cells8 (pad (nodeD k (S t) d)) = R) := hR
      have ln2 : X.length = 32 := by rw [← HX.out, cells8_len]; exact pad_len _ (by omega)
      have ln3 : R.length = 32 := by rw [← hR, cells8_len]; exact pad_len _ (dg_le _ _)
      have on3 : ∀ v ∈ R, v.oneCell' = true := by rw [← hR]; exact cells8_one _
      have i2 : (Tryz.prog.info? 45).map (·.size) = some X.length := by rw [ln2]; exact HI.out
      have i3 : (Tryz.prog.info? 45).map (·.size) = some R.toArray.size := by rw [show R.toArray.size = 32 from ln3]; exact HI.out
      have hu := Tryz.underlying45
      have fin : ∀ w', Tr k b w2.heap.size w3.heap.size b0 off0 (m + 1) c S w R w' → ∃ (j : Nat) (Y : List Value), j ≤ m ∧ Value.int .i64 ((t : Int) - 1) = .int .i64 ((m : Int) - 1 - j) ∧ cells8 (pad (fromR k S (m + 1) j)) = Y ∧ Tr k b w2.heap.size w3.heap.size b0 off0 (m + 1) c S w Y w' :=
        fun w' tr => ⟨j + 1, R, by omega, by congr 1; have := HJ.out; omega, by rw [← hD.out]; exact HR.out, tr⟩
      have FIN : Hid (∀ w', Tr k b w2.heap.size w3.heap.size b0 off0 (m + 1) c S w R w' → ∃ (j : Nat) (Y : List Value), j ≤ m ∧ Value.int .i64 ((t : Int) - 1) = .int .i64 ((m : Int) - 1 - j) ∧ cells8 (pad (fromR k S (m + 1) j)) = Y ∧ Tr k b w2.heap.size w3.heap.size b0 off0 (m + 1) c S w Y w') := fin
      clear hX1 hR fin ln2
      go_wp2
      have hTr := hTr0.drew1
      refine wp_region_held_drew (S := TrS k b w2.heap.size b0 off0 (m + 1) c S w t) (by kernel_rfl) (hTr.s' t htm') (fun hHeld => ?_)
      refine wpAnyH_take (i := 0) (oi := ({ dst := some 37, op := Op.load 42 (Operand.tmp 5), type := 42, pos := "l2_tree.go:83", after := #[], guard := none } : Oper)) (v := .agg #[.int .i64 k, .map (some b)]) rfl (by kernel_rfl) (by kernel_rfl) (by kernel_rfl) (fun _ _ _ h => h) (Or.inl ⟨by rfl, fun w hSw => by obtain ⟨c0, c1, c2, c3⟩ := hSw; go_simp⟩) hHeld ?_
      simp only [Act.put, List.setIfInBounds_toArray, List.set_cons_zero, List.set_cons_succ]
      refine wpAnyH_take (i := 1) (oi := ({ dst := some 38, op := Op.fieldAddr 28 (Operand.tmp 3) 1, type := 0, pos := "l2_tree.go:83", after := #[], guard := none } : Oper)) (v := .pointer (some ⟨w.heap.size, 1, none⟩)) rfl (by kernel_rfl) (by kernel_rfl) (by kernel_rfl) (fun _ _ _ h => h) (Or.inl ⟨by rfl, fun w hSw => by go_simp⟩) hHeld ?_
      simp only [Act.put, List.setIfInBounds_toArray, List.set_cons_zero, List.set_cons_succ]
      refine wpAnyH_take (i := 2) (oi := ({ dst := some 39, op := Op.load 23 (Operand.tmp 38), type := 23, pos := "l2_tree.go:83", after := #[{ on := 1, ground := Ground.data }], guard := none } : Oper)) (v := .slice (some ⟨b0, off0, none⟩) (m + 1) c) rfl (by kernel_rfl) (by kernel_rfl) (by kernel_rfl) (fun _ _ _ h => h) (Or.inl ⟨by rfl, fun w hSw => by obtain ⟨c0, c1, c2, c3⟩ := hSw; go_simp⟩) hHeld ?_
      simp only [Act.put, List.setIfInBounds_toArray, List.set_cons_zero, List.set_cons_succ]
      refine wpAnyH_take (i := 3) (oi := ({ dst := some 40, op := Op.move (Operand.tmp 8), type := 3, pos := "l2_tree.go:83", after := #[], guard := none } : Oper)) (v := .int .i64 (t : Int)) rfl (by kernel_rfl) (by kernel_rfl) (by kernel_rfl) (fun _ _ _ h => h) (Or.inl ⟨by rfl, fun w hSw => by go_simp⟩) hHeld ?_
      simp only [Act.put, List.setIfInBounds_toArray, List.set_cons_zero, List.set_cons_succ]
      refine wpAnyH_take (i := 4) (oi := ({ dst := some 41, op := Op.indexAddr 23 (Operand.tmp 39) (Operand.tmp 40), type := 0, pos := "l2_tree.go:83", after := #[{ on := 2, ground := Ground.data }, { on := 3, ground := Ground.data }], guard := none } : Oper)) (v := .pointer (some ⟨b0, off0 + t, none⟩)) rfl (by kernel_rfl) (by kernel_rfl) (by kernel_rfl) (fun _ _ _ h => h) (Or.inl ⟨by rfl, fun w hSw => by go_simp⟩) hHeld ?_
      simp only [Act.put, List.setIfInBounds_toArray, List.set_cons_zero, List.set_cons_succ]
      refine wpAnyH_take (i := 5) (oi := ({ dst := some 42, op := Op.load 9 (Operand.tmp 41), type := 9, pos := "l2_tree.go:83", after := #[{ on := 4, ground := Ground.data }], guard := none } : Oper)) (v := .string (S t)) rfl (by kernel_rfl) (by kernel_rfl) (by kernel_rfl) (fun _ _ _ h => h) (Or.inl ⟨by rfl, fun w hSw => by obtain ⟨c0, c1, c2, c3⟩ := hSw; go_simp⟩) hHeld ?_
      simp only [Act.put, List.setIfInBounds_toArray, List.set_cons_zero, List.set_cons_succ]
      refine wpAnyH_ready (rs := [6, 7]) (by kernel_rfl) (by simp) ?_
      refine AllReadyH.cons (o := ({ dst := some 43, op := Op.call { callee := Callee.value (Operand.func 16), args := #[Operand.tmp 42], argTypes := #[9] }, type := 45, pos := "l2_tree.go:83", after := #[{ on := 5, ground := Ground.data }], guard := none } : Oper)) rfl (fun K hK => ?_) (AllReadyH.cons (o := ({ dst := some 44, op := Op.load 45 (Operand.tmp 7), type := 45, pos := "l2_tree.go:83", after := #[], guard := none } : Oper)) rfl (fun K hK => ?_) AllReadyH.nil)
      · go_simp
        refine (markOf_as (S t) _ hst X1 HX1.out).mono ?_
        rintro e w6 ⟨rfl, hb6⟩
        have tr1 := hTr.call hb6
        refine hK.out _ _ (tr1.s' t htm') (fun hHeld => ?_)
        clear hK K
        refine wpAnyH_ready (rs := [7]) (by kernel_rfl) (by simp) ?_
        refine AllReadyH.cons (o := ({ dst := some 44, op := Op.load 45 (Operand.tmp 7), type := 45, pos := "l2_tree.go:83", after := #[], guard := none } : Oper)) rfl (fun K hK => ?_) AllReadyH.nil
        rw [if_pos (by rfl)]
        refine wp_load_mid _ _ rfl w3.heap.size 0 rfl X _ tr1.r hu rfl i2 ?_
        refine hK.out _ _ (tr1.s' t htm') (fun hHeld => ?_)
        clear hK K
        simp only [Act.put, List.setIfInBounds_toArray, List.set_cons_zero, List.set_cons_succ]
        refine wpAnyH_ready (rs := [8]) (by kernel_rfl) (by simp) ?_
        refine AllReadyH.cons (o := ({ dst := some 45, op := Op.call { callee := Callee.value (Operand.func 17), args := #[Operand.tmp 37, Operand.tmp 43, Operand.tmp 44], argTypes := #[42, 45, 45] }, type := 45, pos := "l2_tree.go:83", after := #[{ on := 0, ground := Ground.data }, { on := 6, ground := Ground.data }, { on := 7, ground := Ground.data }, { on := 6, ground := Ground.chain }], guard := none } : Oper)) rfl (fun K hK => ?_) AllReadyH.nil
        go_simp
        refine (node_any k b (S t) d _ tr1.keys hk hsw hdw tr1.dbl X1 X R HX1.out HX.out HR.out).mono ?_
        rintro e w8 ⟨rfl, hd8, hg8⟩
        have tr2 := tr1.node hd8 hg8
        refine hK.out _ _ (tr2.s' t htm') (fun hHeld => ?_)
        clear hK K
        refine wpAnyH_ready (rs := [9]) (by kernel_rfl) (by simp) ?_
        refine AllReadyH.cons (o := ({ dst := none, op := Op.store 45 (Operand.tmp 7) (Operand.tmp 45), type := 0, pos := "l2_tree.go:83", after := #[{ on := 8, ground := Ground.data }, { on := 8, ground := Ground.chain }, { on := 0, ground := Ground.phase }, { on := 1, ground := Ground.phase }, { on := 2, ground := Ground.phase }, { on := 3, ground := Ground.phase }, { on := 4, ground := Ground.phase }, { on := 5, ground := Ground.phase }, { on := 6, ground := Ground.phase }, { on := 7, ground := Ground.phase }, { on := 8, ground := Ground.phase }], guard := none } : Oper)) rfl (fun K hK => ?_) AllReadyH.nil
        rw [if_pos (by rfl)]
        refine wp_store_mid _ _ _ rfl w3.heap.size 0 R.toArray rfl rfl (by rw [show R.toArray.size = 32 from ln3]; exact tr2.t) i3 (all_oneCell_toArray on3) ?_
        have trz := tr2.stored R ln3
        refine hK.out _ _ (trz.s' t htm') (fun hHeld => ?_)
        clear hK K
        refine wpAnyH_done (by kernel_rfl) ?_ _
        go_wp2
        go_roundw
        case rel => exact FIN.out _ trz
        case measure => simp [intOf] <;> (have := HJ.out; omega)
      · rw [if_pos (by rfl)]
        refine wp_load_mid _ _ rfl w3.heap.size 0 rfl X _ hTr.r hu rfl i2 ?_
        refine hK.out _ _ (hTr.s' t htm') (fun hHeld => ?_)
        clear hK K
        simp only [Act.put, List.setIfInBounds_toArray, List.set_cons_zero, List.set_cons_succ]
        refine wpAnyH_ready (rs := [6]) (by kernel_rfl) (by simp) ?_
        refine AllReadyH.cons (o := ({ dst := some 43, op := Op.call { callee := Callee.value (Operand.func 16), args := #[Operand.tmp 42], argTypes := #[9] }, type := 45, pos := "l2_tree.go:83", after := #[{ on := 5, ground := Ground.data }], guard := none } : Oper)) rfl (fun K hK => ?_) AllReadyH.nil
        go_simp
        refine (markOf_as (S t) _ hst X1 HX1.out).mono ?_
        rintro e w6 ⟨rfl, hb6⟩
        have tr1 := hTr.call hb6
        refine hK.out _ _ (tr1.s' t htm') (fun hHeld => ?_)
        clear hK K
        refine wpAnyH_ready (rs := [8]) (by kernel_rfl) (by simp) ?_
        refine AllReadyH.cons (o := ({ dst := some 45, op := Op.call { callee := Callee.value (Operand.func 17), args := #[Operand.tmp 37, Operand.tmp 43, Operand.tmp 44], argTypes := #[42, 45, 45] }, type := 45, pos := "l2_tree.go:83", after := #[{ on := 0, ground := Ground.data }, { on := 6, ground := Ground.data }, { on := 7, ground := Ground.data }, { on := 6, ground := Ground.chain }], guard := none } : Oper)) rfl (fun K hK => ?_) AllReadyH.nil
        go_simp
        refine (node_any k b (S t) d _ tr1.keys hk hsw hdw tr1.dbl X1 X R HX1.out HX.out HR.out).mono ?_
        rintro e w8 ⟨rfl, hd8, hg8⟩
        have tr2 := tr1.node hd8 hg8
        refine hK.out _ _ (tr2.s' t htm') (fun hHeld => ?_)
        clear hK K
        refine wpAnyH_ready (rs := [9]) (by kernel_rfl) (by simp) ?_
        refine AllReadyH.cons (o := ({ dst := none, op := Op.store 45 (Operand.tmp 7) (Operand.tmp 45), type := 0, pos := "l2_tree.go:83", after := #[{ on := 8, ground := Ground.data }, { on := 8, ground := Ground.chain }, { on := 0, ground := Ground.phase }, { on := 1, ground := Ground.phase }, { on := 2, ground := Ground.phase }, { on := 3, ground := Ground.phase }, { on := 4, ground := Ground.phase }, { on := 5, ground := Ground.phase }, { on := 6, ground := Ground.phase }, { on := 7, ground := Ground.phase }, { on := 8, ground := Ground.phase }], guard := none } : Oper)) rfl (fun K hK => ?_) AllReadyH.nil
        rw [if_pos (by rfl)]
        refine wp_store_mid _ _ _ rfl w3.heap.size 0 R.toArray rfl rfl (by rw [show R.toArray.size = 32 from ln3]; exact tr2.t) i3 (all_oneCell_toArray on3) ?_
        have trz := tr2.stored R ln3
        refine hK.out _ _ (trz.s' t htm') (fun hHeld => ?_)
        clear hK K
        refine wpAnyH_done (by kernel_rfl) ?_ _
        go_wp2
        go_roundw
        case rel => exact FIN.out _ trz
        case measure => simp [intOf] <;> (have := HJ.out; omega)
    · obtain rfl : j = m := by omega
      have e1 : (j : Int) - 1 - j = -1 := by omega
      rw [e1]
      have ln2 : X.length = 32 := by rw [← HX.out, cells8_len]; exact pad_len _ (by omega)
      have i2 : Hid ((Tryz.prog.info? 45).map (·.size) = some X.length) := by show (Tryz.prog.info? 45).map (·.size) = some X.length; rw [ln2]; exact HI.out
      have c0 := hTr0.c0
      have c1 := hTr0.c1
      go_wp2_with (first | (refine wpList_load_mid rfl 45 (.tmp 7) rfl _ _ rfl X _ hTr0.r Tryz.underlying45 rfl i2.out ?_) | (go_at_call 18; refine (text_as k b _ _ hk hdw X HX.out).mono ?_; rintro e w9 ⟨rfl, hb9⟩))
      go_ret
      exact ⟨rfl, hTr0.below.trans (hb9.mono hTr0.below.size)⟩
end Go.Proofs.YtjbbbfplephkpaaGreatDoor
