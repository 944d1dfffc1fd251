/-
  A table put in its place: the specification's way, walked.
-/
import Derived.Test.YtgeiamgeclbiaaaGreatDoorUja
namespace Go.Proofs.YtgeiamgeclbiaaaGreatDoor
open Go.RowKit Go.Maps Go.WideMaps
theorem ones3 {x y z : Value} (h : x.oneCell' = true) (h2 : y.oneCell' = true) (h3 : z.oneCell' = true) : ∀ u ∈ [x, y, z], u.oneCell' = true := by
  intro u hu
  simp only [List.mem_cons, List.not_mem_nil, or_false] at hu
  rcases hu with rfl | rfl | rfl
  · exact h
  · exact h2
  · exact h3
theorem news3 {W : World} {q : Nat} {x y z : Value} {t : TypeId} (hq : W.heap.size = q) : ∀ j u, [x, y, z][j]? = some u → (W.alloc (.cells #[x, y, z] t)).cell? ((⟨q, 0, none⟩ : Addr).add j) = some u := by
  subst hq
  exact World.news_of_block (heap_alloc_new W _)
set_option maxRecDepth 20000 in
set_option maxHeartbeats 16000000 in
theorem sWith_as (a : Option Addr) (n c : Nat) (T : Nat → Td) (ds : ByteArray) (dn : Nat) (dC : Nat → Clm) (dr : Nat) (dm : Nat → Nat) (dR : Nat → Nat → Itm) (ac : Option Addr) (cc : Nat) (ar : Option Addr) (cr : Nat) (d : Td) (hd : (⟨ds, dn, dC, dr, dm, dR⟩ : Td) = d) (w : World) (h : TL w a n T) (hC : CL w ac dn dC) (hR : OL w ar dr dm dR) (hS : Sm3 d) (hn : n ≤ 1000000) (hF : Fil n T) (hdF : 0 < d.n ∧ ∀ i, i < d.r → 0 < d.m i) :
    Calls Tryz.prog 103 #[.agg #[.slice a n c], .agg #[.string ds, .slice ac dn cc, .slice ar dr cr]] w fun e w' => ∃ a' c', e = .returned (.agg #[.slice a' (wtL T d n).length c']) ∧ Liv (fun b => w.heap.size ≤ b) w' (fun v => TL v a' (wtL T d n).length (fun i => (wtL T d n).getD i t0)) ∧ Below w.heap.size w w' := by
  have HD : Hid (d = ⟨ds, dn, dC, dr, dm, dR⟩) := hd.symm
  have HS : Hid (Sm3 d) := hS
  have HdC := hC.lb
  have HdR := hR.lb
  have HFL : Hid (Fil (wtL T d n).length (fun i => (wtL T d n).getD i t0)) := by
    intro k hk
    have e : (wtL T d n).getD k t0 = (wtL T d n)[k] := by simp [hk]
    show 0 < ((wtL T d n).getD k t0).n ∧ ∀ i, i < ((wtL T d n).getD k t0).r → 0 < ((wtL T d n).getD k t0).m i
    rw [e]
    exact wtL_mem (P := fun x => 0 < x.n ∧ ∀ i, i < x.r → 0 < x.m i) hdF hF _ (List.getElem_mem hk)
  have hds : d.s = ds := by rw [← hd]
  have HDS : Hid (d.s = ds) := hds
  have hwl : (wtL T d n).length ≤ 1000002 := by
    have := wtS_len (T := T) (d := d) (k := n)
    simp only [wtL, List.length_append, opt_len] at this ⊢
    split at this <;> split <;> omega
  have HWLN : Hid ((wtL T d n).length ≤ 1000002) := hwl
  clear hd hC hR hS hF hdF hds hwl
  obtain ⟨jt, hit, hzt0, hzt1, hzt2⟩ := info_parts Tryz.infoTab
  have HIt : Hid (Tryz.prog.info? 62 = some jt) := hit
  clear hit
  have hbU : Below w.heap.size w ((((w.alloc (.cells #[.slice a n c] 38)).alloc (.cells #[.string ds, .slice ac dn cc, .slice ar dr cr] 62)).alloc (.cells #[.slice none 0 0] 38)).alloc (.cells #[.slice none 0 0] 38)) := bstep (below3 _ _ _ _) (bal _ _)
  have hsU : ((((w.alloc (.cells #[.slice a n c] 38)).alloc (.cells #[.string ds, .slice ac dn cc, .slice ar dr cr] 62)).alloc (.cells #[.slice none 0 0] 38)).alloc (.cells #[.slice none 0 0] 38)).heap.size = w.heap.size + 4 := by rw [World.size_alloc, World.size_alloc, World.size_alloc, World.size_alloc]
  have hq1 : ((((w.alloc (.cells #[.slice a n c] 38)).alloc (.cells #[.string ds, .slice ac dn cc, .slice ar dr cr] 62)).alloc (.cells #[.slice none 0 0] 38)).alloc (.cells #[.slice none 0 0] 38)).heap[w.heap.size + 1]? = some (.cells #[.string ds, .slice ac dn cc, .slice ar dr cr] 62 (0, 0)) := by
    have q := heap_alloc_new (w.alloc (.cells #[.slice a n c] 38)) (.cells #[.string ds, .slice ac dn cc, .slice ar dr cr] 62)
    rw [World.size_alloc] at q
    exact rowL (rowL q (bal _ _)) (bal _ _)
  have hq2 : ((((w.alloc (.cells #[.slice a n c] 38)).alloc (.cells #[.string ds, .slice ac dn cc, .slice ar dr cr] 62)).alloc (.cells #[.slice none 0 0] 38)).alloc (.cells #[.slice none 0 0] 38)).heap[w.heap.size + 1 + 1]? = some (.cells #[.slice none 0 0] 38 (0, 0)) := by
    have q := heap_alloc_new ((w.alloc (.cells #[.slice a n c] 38)).alloc (.cells #[.string ds, .slice ac dn cc, .slice ar dr cr] 62)) (.cells #[.slice none 0 0] 38)
    rw [World.size_alloc, World.size_alloc] at q
    exact rowL q (bal _ _)
  have hq3 : ((((w.alloc (.cells #[.slice a n c] 38)).alloc (.cells #[.string ds, .slice ac dn cc, .slice ar dr cr] 62)).alloc (.cells #[.slice none 0 0] 38)).alloc (.cells #[.slice none 0 0] 38)).heap[w.heap.size + 1 + 1 + 1]? = some (.cells #[.slice none 0 0] 38 (0, 0)) := by
    have q := heap_alloc_new (((w.alloc (.cells #[.slice a n c] 38)).alloc (.cells #[.string ds, .slice ac dn cc, .slice ar dr cr] 62)).alloc (.cells #[.slice none 0 0] 38)) (.cells #[.slice none 0 0] 38)
    rw [World.size_alloc, World.size_alloc, World.size_alloc] at q
    exact q
  have hWS0 : WS w #[.string ds, .slice ac dn cc, .slice ar dr cr] ((((w.alloc (.cells #[.slice a n c] 38)).alloc (.cells #[.string ds, .slice ac dn cc, .slice ar dr cr] 62)).alloc (.cells #[.slice none 0 0] 38)).alloc (.cells #[.slice none 0 0] 38)) [] (.slice none 0 0) (fun _ => []) := ⟨GO.nil (World.ownsRow_nil _ _ _ _), hq1, hq2, hq3, hbU, by rw [hsU]; exact Nat.le_refl _⟩
  clear hq1 hq2 hq3 hbU hsU
  go_enter Tryz.func103, Tryz.ntmps103
  go_wp2
  go_loopw [6, 8, 13] (fun pb _ i wr => ∃ (k : Nat) (A : List Td) (p : Bool) (v : Value) (f : Nat → List Value), k ≤ n ∧ i = .int .i64 k ∧ pb = .bool p ∧ wtS T d k = (A, p) ∧ WS w #[.string ds, .slice ac dn cc, .slice ar dr cr] wr A v f) (fun _ _ i _ => n - (intOf i).toNat)
  case atStart => exact ⟨0, [], false, .slice none 0 0, fun _ => [], by omega, rfl, rfl, rfl, hWS0⟩
  case round =>
    obtain ⟨k, A, p, v, f, hk, rfl, rfl, hwt, hWS⟩ := hrel
    have HWT : Hid (wtS T d k = (A, p)) := hwt
    have hAl : A.length ≤ k + 1 := by
      have := wtS_len (T := T) (d := d) (k := k)
      rw [hwt] at this
      simp only [opt_len] at this
      split at this <;> omega
    clear hwt
    have hb := hWS.be
    have hsz := hWS.sz
    have HLD : Hid (∀ W, Below w.heap.size w W → Liv (fun b => b < w.heap.size) W (ET [.string ds, .slice ac dn cc, .slice ar dr cr] d)) := fun W hW => ((HdC.and HdR).later hW).imp (fun _ h => by rw [HD.out]; have := HS.out; rw [HD.out] at this; exact ⟨_, _, _, _, rfl, h.1, h.2, this⟩)
    by_cases hlt : k < n
    rotate_left
    · obtain rfl : k = n := by omega
      have HWL : Hid (wtL T d k = A ++ opt (!p) d) := by show _ = _; unfold wtL; rw [HWT.out]
      obtain ⟨x0, x1, x2, -⟩ := box3 hWS.r1
      obtain ⟨y0, yf0⟩ := box1 hWS.r2
      obtain ⟨z0, zf0⟩ := box1 hWS.r3
      cases p
      · go_wp2_with (first | (go_at_call 53; have _h := hW6; refine (sSame (some ⟨g6, 0, none⟩) (A.length + 1) cap6 (fun i => (wtL T d k).getD i t0) _ hTL (by omega) (by rw [← HLN.out]; exact HFL.out)).mono ?_; rintro e w8 ⟨a8, c8, rfl, hTL8, hb8⟩; have hr8 := rowL hW6.r2 hb8; obtain ⟨m8, n8⟩ := box1 hr8) | (at_builtin; refine wpList_append_lies _ rfl _ _ _ rfl (w.heap.size + 4) 62 jt (.agg #[.string ByteArray.empty, .slice none 0 0, .slice none 0 0]) 3 64 Tryz.underlying36 HIt.out hzt0 hzt1 hzt2 rfl (by omega) (v) A.length (flt f A.length) rfl (hWS.later (bal _ _)).tt.own ⟨wr.heap.size, 0, none⟩ 1 1 [.string ds, .slice ac dn cc, .slice ar dr cr] rfl rfl (news3 (by first | rfl | simp)) (ones3 rfl rfl rfl) (by omega) (by unfold maxLen; omega) (by omega) (hWS.later (bal _ _)).sz _ rfl ?_; intro g6 cap6 w6 hO6 hgr6 hat6 hlt6; have hm6 := rowR (rowL hWS.r3 (bal _ _)) hgr6 (hWS.vb _ (by omega)); obtain ⟨mm6, nn6⟩ := box1 hm6; have hW6 := hWS.push (x := d) (HLD.out _ hWS.be) rfl hO6 hgr6 hat6; obtain ⟨l0, lf0⟩ := box1 hW6.r3; obtain ⟨a1, c1, hv, hTL⟩ := TO.tl hW6.tt; obtain ⟨rfl, rfl⟩ : some ⟨g6, 0, none⟩ = a1 ∧ cap6 = c1 := (by simpa using hv); have hwe : A ++ [d] = wtL T d k := (by rw [HWL.out]; simp [opt]); rw [show (A ++ [d]).length = A.length + 1 from (by simp), hwe] at hTL; have HLN : Hid ((wtL T d k).length = A.length + 1) := (by show _ = _; rw [← hwe]; simp); clear hwe hv))
        rw [HLN.out]
        refine bodyPost_ret (v := .agg #[.slice a8 (A.length + 1) c8]) ?_ rfl ?_
        · exact results_cell_row Tryz.results103 _ _ (w.heap.size + 1 + 1) 38 _ (0, 0) _ rfl (row1 hr8 _) Tryz.underlying38 rfl (by kernel_rfl)
        · exact ⟨a8, c8, rfl, (hTL8.wide (Y := fun b => w.heap.size + 4 ≤ b) (fun b hb _ => Nat.le_trans hW6.sz hb)).set (by omega) |>.wide (fun b hb _ => by omega), bset (bstep hW6.be hb8) (by omega)⟩
      · obtain ⟨a1, c1, hv, hTL⟩ := TO.tl hWS.tt
        rw [show A = wtL T d k from by rw [HWL.out]; simp [opt]] at hTL hv
        subst hv
        go_wp2_with (first | (go_at_call 53; refine (sSame a1 (wtL T d k).length c1 (fun i => (wtL T d k).getD i t0) _ hTL (by have := HWLN.out; omega) HFL.out).mono ?_; rintro e w8 ⟨a8, c8, rfl, hTL8, hb8⟩; have hr8 := rowL hWS.r2 hb8; obtain ⟨m8, n8⟩ := box1 hr8))
        refine bodyPost_ret (v := .agg #[.slice a8 (wtL T d k).length c8]) ?_ rfl ?_
        · exact results_cell_row Tryz.results103 _ _ (w.heap.size + 1 + 1) 38 _ (0, 0) _ rfl (row1 hr8 _) Tryz.underlying38 rfl (by kernel_rfl)
        · exact ⟨a8, c8, rfl, (hTL8.wide (Y := fun b => w.heap.size + 4 ≤ b) (fun b hb _ => Nat.le_trans hWS.sz hb)).set (by omega) |>.wide (fun b hb _ => by omega), bset (bstep hWS.be hb8) (by omega)⟩
    obtain ⟨b, off, kc, kcc, kr, kcr, rfl, e0, e1, e2, hkC, hkR, hkS⟩ := h k hlt
    have hLK := hkC.lb.and hkR.lb
    obtain ⟨ks, kn, kC, kR, km, kO, hTk⟩ : ∃ s nc C r m R, T k = ⟨s, nc, C, r, m, R⟩ := ⟨_, _, _, _, _, _, rfl⟩
    have HTK : Hid (T k = ⟨ks, kn, kC, kR, km, kO⟩) := hTk
    have HLK : Hid (∀ W, Below w.heap.size w W → Liv (fun b => b < w.heap.size) W (ET [.string ks, .slice kc kn kcc, .slice kr kR kcr] (T k))) := fun W hW => (hLK.later hW).imp (fun _ h => by rw [hTk] at h hkS ⊢; exact ⟨_, _, _, _, rfl, h.1, h.2, hkS⟩)
    rw [hTk] at e0 e1 e2
    simp only at e0 e1 e2
    have f0 := keepB hb e0
    have f1 := keepB hb e1
    have f2 := keepB hb e2
    clear e0 e1 e2 hTk hkC hkR hkS hLK
    have hkn : (k : Int) < n := by omega
    have hW5 := hWS.later (bal wr (.cells #[.string ks, .slice kc kn kcc, .slice kr kR kcr] 62))
    have hrT := heap_alloc_new wr (.cells #[.string ks, .slice kc kn kcc, .slice kr kR kcr] 62)
    have hs5 : (wr.alloc (.cells #[.string ks, .slice kc kn kcc, .slice kr kR kcr] 62)).heap.size = wr.heap.size + 1 := World.size_alloc _ _
    obtain ⟨x0, x1, x2, -⟩ := box3 hW5.r1
    obtain ⟨z0, zf0⟩ := box1 hW5.r3
    cases p
    · rcases hb1 : Op.bytesLess ds.toList ks.toList
      · rcases hb2 : ds.toList == ks.toList
        · rcases he : ks.toList == ds.toList
          · skip
            go_wp2_with (first | (at_builtin; refine wpList_append_lies _ rfl _ _ _ rfl (w.heap.size + 4) 62 jt (.agg #[.string ByteArray.empty, .slice none 0 0, .slice none 0 0]) 3 64 Tryz.underlying36 HIt.out hzt0 hzt1 hzt2 rfl (by omega) (v) A.length (flt f A.length) rfl (hW5.later (bal _ _)).tt.own ⟨wr.heap.size + 1, 0, none⟩ 1 1 [.string ks, .slice kc kn kcc, .slice kr kR kcr] rfl rfl (news3 (by first | rfl | simp)) (ones3 rfl rfl rfl) (by omega) (by unfold maxLen; omega) (by omega) (hW5.later (bal _ _)).sz _ rfl ?_; intro g6 cap6 w6 hO6 hgr6 hat6 hlt6; have hm6 := rowR (rowL hW5.r3 (bal _ _)) hgr6 (hW5.vb _ (by omega)); obtain ⟨mm6, nn6⟩ := box1 hm6))
            have hW6 := hW5.push (x := T k) (HLK.out _ hW5.be) rfl hO6 hgr6 hat6
            go_roundw
            case rel => exact ⟨k + 1, A ++ [T k], false, _, _, by omega, by go_num, rfl, by simp only [wtS]; rw [HWT.out, HTK.out, HDS.out]; simp [opt, leS, hb1, hb2, he], hW6⟩
            case measure => simp [intOf]; omega
          · exfalso
            have := eq_of_beq he
            rw [this] at hb2
            simp at hb2
        · rcases he : ks.toList == ds.toList
          · exfalso
            have := eq_of_beq hb2
            rw [this] at he
            simp at he
          · skip
            go_wp2_with (first | (at_builtin; refine wpList_append_lies _ rfl _ _ _ rfl (w.heap.size + 4) 62 jt (.agg #[.string ByteArray.empty, .slice none 0 0, .slice none 0 0]) 3 64 Tryz.underlying36 HIt.out hzt0 hzt1 hzt2 rfl (by omega) (v) A.length (flt f A.length) rfl (hW5.later (bal _ _)).tt.own ⟨wr.heap.size + 1, 0, none⟩ 1 1 [.string ds, .slice ac dn cc, .slice ar dr cr] rfl rfl (news3 (by first | rfl | simp)) (ones3 rfl rfl rfl) (by omega) (by unfold maxLen; omega) (by omega) (hW5.later (bal _ _)).sz _ rfl ?_; intro g6 cap6 w6 hO6 hgr6 hat6 hlt6; have hm6 := rowR (rowL hW5.r3 (bal _ _)) hgr6 (hW5.vb _ (by omega)); obtain ⟨mm6, nn6⟩ := box1 hm6; have hW6 := hW5.push (x := d) (HLD.out _ hW5.be) rfl hO6 hgr6 hat6; have hT6 := ws_row (w := w) (u := .slice (some ⟨g6, 0, none⟩) (A.length + 1) cap6) hrT hgr6 (hWS.vb _ (by omega)) (by omega); obtain ⟨t0, t1, t2, -⟩ := box3 hT6; obtain ⟨d0_, d1_, d2_, -⟩ := box3 hW6.r1; obtain ⟨l0, lf0⟩ := box1 hW6.r3))
            go_roundw
            case rel => exact ⟨k + 1, A ++ [d], true, _, _, by omega, by go_num, rfl, by simp only [wtS]; rw [HWT.out, HTK.out, HDS.out]; simp [opt, leS, hb1, hb2, he], hW6⟩
            case measure => simp [intOf]; omega
      · rcases he : ks.toList == ds.toList
        · skip
          go_wp2_with (first | (at_builtin; have _h := hW6; refine wpList_append_lies _ rfl _ _ _ rfl (w.heap.size + 4) 62 jt (.agg #[.string ByteArray.empty, .slice none 0 0, .slice none 0 0]) 3 64 Tryz.underlying36 HIt.out hzt0 hzt1 hzt2 rfl (by omega) (.slice (some ⟨g6, 0, none⟩) (A.length + 1) cap6) (A ++ [d]).length (flt (fun i => if i < A.length then f i else [.string ds, .slice ac dn cc, .slice ar dr cr]) (A ++ [d]).length) rfl (hW6.later (bal _ _)).tt.own ⟨w6.heap.size, 0, none⟩ 1 1 [.string ks, .slice kc kn kcc, .slice kr kR kcr] rfl rfl (news3 (by first | rfl | simp)) (ones3 rfl rfl rfl) (by omega) (by unfold maxLen; simp; omega) (by simp; omega) (hW6.later (bal _ _)).sz _ rfl ?_; intro g7 cap7 w7 hO7 hgr7 hat7 hlt7; have hm7 := rowR (rowL hW6.r3 (bal _ _)) hgr7 (hW6.vb _ (by omega)); obtain ⟨mm7, nn7⟩ := box1 hm7) | (at_builtin; refine wpList_append_lies _ rfl _ _ _ rfl (w.heap.size + 4) 62 jt (.agg #[.string ByteArray.empty, .slice none 0 0, .slice none 0 0]) 3 64 Tryz.underlying36 HIt.out hzt0 hzt1 hzt2 rfl (by omega) (v) A.length (flt f A.length) rfl (hW5.later (bal _ _)).tt.own ⟨wr.heap.size + 1, 0, none⟩ 1 1 [.string ds, .slice ac dn cc, .slice ar dr cr] rfl rfl (news3 (by first | rfl | simp)) (ones3 rfl rfl rfl) (by omega) (by unfold maxLen; omega) (by omega) (hW5.later (bal _ _)).sz _ rfl ?_; intro g6 cap6 w6 hO6 hgr6 hat6 hlt6; have hm6 := rowR (rowL hW5.r3 (bal _ _)) hgr6 (hW5.vb _ (by omega)); obtain ⟨mm6, nn6⟩ := box1 hm6; have hW6 := hW5.push (x := d) (HLD.out _ hW5.be) rfl hO6 hgr6 hat6; have hT6 := ws_row (w := w) (u := .slice (some ⟨g6, 0, none⟩) (A.length + 1) cap6) hrT hgr6 (hWS.vb _ (by omega)) (by omega); obtain ⟨t0, t1, t2, -⟩ := box3 hT6; obtain ⟨d0_, d1_, d2_, -⟩ := box3 hW6.r1; obtain ⟨l0, lf0⟩ := box1 hW6.r3))
          have hW7 := hW6.push (x := T k) (HLK.out _ hW6.be) rfl hO7 hgr7 hat7
          rw [show (A ++ [d]).length + 1 = A.length + 1 + 1 from by simp] at hW7
          go_roundw
          case rel => exact ⟨k + 1, A ++ [d] ++ [T k], true, _, _, by omega, by go_num, rfl, by simp only [wtS]; rw [HWT.out, HTK.out, HDS.out]; simp [opt, leS, hb1, he], hW7⟩
          case measure => simp [intOf]; omega
        · skip
          go_wp2_with (first | (at_builtin; refine wpList_append_lies _ rfl _ _ _ rfl (w.heap.size + 4) 62 jt (.agg #[.string ByteArray.empty, .slice none 0 0, .slice none 0 0]) 3 64 Tryz.underlying36 HIt.out hzt0 hzt1 hzt2 rfl (by omega) (v) A.length (flt f A.length) rfl (hW5.later (bal _ _)).tt.own ⟨wr.heap.size + 1, 0, none⟩ 1 1 [.string ds, .slice ac dn cc, .slice ar dr cr] rfl rfl (news3 (by first | rfl | simp)) (ones3 rfl rfl rfl) (by omega) (by unfold maxLen; omega) (by omega) (hW5.later (bal _ _)).sz _ rfl ?_; intro g6 cap6 w6 hO6 hgr6 hat6 hlt6; have hm6 := rowR (rowL hW5.r3 (bal _ _)) hgr6 (hW5.vb _ (by omega)); obtain ⟨mm6, nn6⟩ := box1 hm6; have hW6 := hW5.push (x := d) (HLD.out _ hW5.be) rfl hO6 hgr6 hat6; have hT6 := ws_row (w := w) (u := .slice (some ⟨g6, 0, none⟩) (A.length + 1) cap6) hrT hgr6 (hWS.vb _ (by omega)) (by omega); obtain ⟨t0, t1, t2, -⟩ := box3 hT6; obtain ⟨d0_, d1_, d2_, -⟩ := box3 hW6.r1; obtain ⟨l0, lf0⟩ := box1 hW6.r3))
          go_roundw
          case rel => exact ⟨k + 1, A ++ [d], true, _, _, by omega, by go_num, rfl, by simp only [wtS]; rw [HWT.out, HTK.out, HDS.out]; simp [opt, leS, hb1, he], hW6⟩
          case measure => simp [intOf]; omega
    · rcases he : ks.toList == ds.toList
      · skip
        go_wp2_with (first | (at_builtin; refine wpList_append_lies _ rfl _ _ _ rfl (w.heap.size + 4) 62 jt (.agg #[.string ByteArray.empty, .slice none 0 0, .slice none 0 0]) 3 64 Tryz.underlying36 HIt.out hzt0 hzt1 hzt2 rfl (by omega) (v) A.length (flt f A.length) rfl (hW5.later (bal _ _)).tt.own ⟨wr.heap.size + 1, 0, none⟩ 1 1 [.string ks, .slice kc kn kcc, .slice kr kR kcr] rfl rfl (news3 (by first | rfl | simp)) (ones3 rfl rfl rfl) (by omega) (by unfold maxLen; omega) (by omega) (hW5.later (bal _ _)).sz _ rfl ?_; intro g6 cap6 w6 hO6 hgr6 hat6 hlt6; have hm6 := rowR (rowL hW5.r3 (bal _ _)) hgr6 (hW5.vb _ (by omega)); obtain ⟨mm6, nn6⟩ := box1 hm6))
        have hW6 := hW5.push (x := T k) (HLK.out _ hW5.be) rfl hO6 hgr6 hat6
        go_roundw
        case rel => exact ⟨k + 1, A ++ [T k], true, _, _, by omega, by go_num, rfl, by simp only [wtS]; rw [HWT.out, HTK.out, HDS.out]; simp [opt, leS, he], hW6⟩
        case measure => simp [intOf]; omega
      · skip
        go_wp2
        go_roundw
        case rel => exact ⟨k + 1, A, true, v, f, by omega, by go_num, rfl, by simp only [wtS]; rw [HWT.out, HTK.out, HDS.out]; simp [opt, leS, he], hW5⟩
        case measure => simp [intOf]; omega
end Go.Proofs.YtgeiamgeclbiaaaGreatDoor
