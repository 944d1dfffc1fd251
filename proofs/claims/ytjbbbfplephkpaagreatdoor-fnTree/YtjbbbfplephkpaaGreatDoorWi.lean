/-
  The model's round function over one block.
-/
import Derived.Test.YtjbbbfplephkpaaGreatDoorWh
namespace Go.Proofs.YtjbbbfplephkpaaGreatDoor
open Go.RowKit
def RowIs (w : World) (g : Nat) (st : St) : Prop := ∀ i, i < 8 → w.cell? ⟨g, i, none⟩ = some (.int .u32 (st.list.getD i 0 : Nat))
theorem RowIs.cells {w : World} {g : Nat} {st : St} (h : RowIs w g st) :
    w.cell? ⟨g, 0, none⟩ = some (.int .u32 (st.a : Nat)) ∧ w.cell? ⟨g, 1, none⟩ = some (.int .u32 (st.b : Nat)) ∧ w.cell? ⟨g, 2, none⟩ = some (.int .u32 (st.c : Nat)) ∧ w.cell? ⟨g, 3, none⟩ = some (.int .u32 (st.d : Nat)) ∧ w.cell? ⟨g, 4, none⟩ = some (.int .u32 (st.e : Nat)) ∧ w.cell? ⟨g, 5, none⟩ = some (.int .u32 (st.f : Nat)) ∧ w.cell? ⟨g, 6, none⟩ = some (.int .u32 (st.g : Nat)) ∧ w.cell? ⟨g, 7, none⟩ = some (.int .u32 (st.h : Nat)) :=
  ⟨h 0 (by omega), h 1 (by omega), h 2 (by omega), h 3 (by omega), h 4 (by omega), h 5 (by omega), h 6 (by omega), h 7 (by omega)⟩
theorem RowIs.lt {w : World} {g : Nat} {st : St} (h : RowIs w g st) : g < w.heap.size := block_lt_of_cell (h 0 (by omega))
theorem RowIs.below {w w' : World} {g B : Nat} {st : St} (h : RowIs w g st) (hb : Below B w w') (hg : g < B) : RowIs w' g st :=
  fun i hi => (hb.cell (p := ⟨g, i, none⟩) hg).trans (h i hi)
theorem RowIs.drewN {w : World} {g : Nat} {st : St} (h : RowIs w g st) (q : Nat) : RowIs (w.drewN q) g st := fun i hi => h i hi
theorem row_of_owns {w : World} {B g cap : Nat} {st : St} (h : w.ownsRow B 87 1 (.slice (some ⟨g, 0, none⟩) 8 cap) 8 (cells32 st.list)) : RowIs w g st :=
  fun i hi => (h.cellAt i (by omega)).trans (cells32_get _ _ (by simpa [St.list] using hi))
theorem news_row {w : World} {g : Nat} {st : St} (h : RowIs w g st) : ∀ j u, (cells32 st.list)[j]? = some u → w.cell? ((⟨g, 0, none⟩ : Addr).add j) = some u := by
  intro j u hu
  have hj : j < 8 := by
    have := (List.getElem?_eq_some_iff.1 hu).1
    simpa [cells32, St.list] using this
  have hadd : (⟨g, 0, none⟩ : Addr).add j = ⟨g, j, none⟩ := by unfold Addr.add; split <;> simp_all
  rw [hadd, h j hj, ← hu, cells32_get _ _ (by simpa [St.list] using hj)]
theorem ones32 (l : List Nat) : ∀ u ∈ cells32 l, u.oneCell' = true := by
  intro u hu
  simp [cells32] at hu
  obtain ⟨n, _, rfl⟩ := hu
  rfl
theorem keysV_get (i : Nat) (h : i < 64) : keysV[i]? = some (.int .u32 (key i : Nat)) := by
  unfold keysV
  rw [List.getElem?_toArray, cells32_get _ _ (by simpa [keysL] using h)]
  rfl
theorem owns_base {w : World} {B B' : Nat} {e : TypeId} {size : Nat} {v : Value} {n : Nat} {xs : List Value} (h : w.ownsRow B e size v n xs) (hB : B' ≤ B) : w.ownsRow B' e size v n xs := by
  refine ⟨h.1, ?_⟩
  rcases h.2 with h' | ⟨g, cap, cur, h1, h2, h3⟩
  · exact .inl h'
  · exact .inr ⟨g, cap, cur, h1, Nat.le_trans hB h2, h3⟩
theorem comp_eq (s : St) (blk : ByteArray) (r : St) (hr : rds s blk 64 = r) : comp s blk = ⟨add s.a r.a, add s.b r.b, add s.c r.c, add s.d r.d, add s.e r.e, add s.f r.f, add s.g r.g, add s.h r.h⟩ := by
  unfold comp
  rw [hr]
theorem list_add (s r : St) (k : Nat) (h : k < 8) : (St.list ⟨add s.a r.a, add s.b r.b, add s.c r.c, add s.d r.d, add s.e r.e, add s.f r.f, add s.g r.g, add s.h r.h⟩).getD k 0 = add (s.list.getD k 0) (r.list.getD k 0) := by
  match k, h with
  | 0, _ => rfl
  | 1, _ => rfl
  | 2, _ => rfl
  | 3, _ => rfl
  | 4, _ => rfl
  | 5, _ => rfl
  | 6, _ => rfl
  | 7, _ => rfl
theorem comp_at (s : St) (blk : ByteArray) (k : Nat) (h : k < 8) : (comp s blk).list.getD k 0 = add ((rds s blk 64).list.getD k 0) (s.list.getD k 0) := by
  obtain ⟨r, hr⟩ : ∃ r, rds s blk 64 = r := ⟨_, rfl⟩
  rw [comp_eq s blk r hr, list_add s r k h, hr]
  exact add_comm' _ _
theorem list_snoc (st : St) (k : Nat) (h : k < 8) : cells32 (st.list.take k) ++ [.int .u32 (st.list.getD k 0 : Nat)] = cells32 (st.list.take (k + 1)) := by
  have hl : k < st.list.length := by simpa [St.list] using h
  unfold cells32
  rw [List.take_succ_eq_append_getElem hl, List.map_append]
  congr 1
  simp [List.getD_eq_getElem?_getD, hl]
attribute [local go_sem ↓] Go.wp_at_zero Go.wp_at_succ
set_option maxHeartbeats 4000000 in
set_option maxRecDepth 20000 in
theorem specBlock_any (s : St) (blk : ByteArray) (w : World) (hg hcap : Nat) (hs : s.ok) (hblk : blk.size = 64) (hrow : RowIs w hg s) :
    Calls Tryz.prog 57 #[.slice (some ⟨hg, 0, none⟩) 8 hcap, .string blk] w fun e w' => ∃ g cap, e = .returned (.slice (some ⟨g, 0, none⟩) 8 cap) ∧ w'.ownsRow w.heap.size 87 1 (.slice (some ⟨g, 0, none⟩) 8 cap) 8 (cells32 (comp s blk).list) ∧ Below w.heap.size w w' := by
  obtain ⟨i0, hi, hz0, hz1, hz2⟩ := info_parts Tryz.info87
  have HI : Hid (Tryz.prog.info? 87 = some i0) := hi
  clear hi
  have HS : Hid (blk.size = 64) := hblk
  have HR : Hid (RowIs w hg s) := hrow
  clear hblk hrow
  have HN0 : Hid (RowIs ((w.alloc (.cells keysV 87)).alloc (.cells #[] 87)) hg s) := (HR.out.below ((Below.refl _ w).alloc (Nat.le_refl _) (.cells keysV 87)) HR.out.lt).below ((Below.refl _ _).alloc (Nat.le_refl _) _) (by have := HR.out.lt; simp; omega)
  have HO0 : Hid (((w.alloc (.cells keysV 87)).alloc (.cells #[] 87)).ownsRow w.heap.size 87 1 (.slice (some ⟨w.heap.size + 1, 0, none⟩) 0 0) 0 []) := by
    have h := World.ownsRow_lit (base := w.heap.size) (e := 87) (size := 1) (w.alloc (.cells keysV 87)) #[] 0 (by simp) (by simp [maxLen]) rfl
    have e : (w.alloc (.cells keysV 87)).heap.size = w.heap.size + 1 := by simp
    rw [e] at h
    exact h
  have HB0 : Hid (w.heap.size ≤ ((w.alloc (.cells keysV 87)).alloc (.cells #[] 87)).heap.size) := by show _ ≤ _; simp; omega
  go_enter Tryz.func57, Tryz.ntmps57
  go_wp2_with (first | (go_at_call 77; refine (keys_any _).mono ?_; rintro e w' ⟨rfl, rfl⟩) | (at_builtin; refine wpList_append_lies _ rfl _ _ _ rfl w.heap.size 87 i0 (.int .u32 0) 1 4 Tryz.underlying95 HI.out hz0 hz1 hz2 rfl (by omega) _ 0 _ rfl HO0.out ⟨hg, 0, none⟩ 8 hcap (cells32 s.list) rfl rfl (news_row HN0.out) (ones32 _) (by omega) (by unfold maxLen; omega) (by omega) HB0.out _ rfl ?_; intro g1 cap1 w1 hown1 hgrow1 hat1 hlt1) | (go_at_call 78; refine (specWords_any blk _ HS.out).mono ?_; rintro e w2 ⟨g2, cap2, rfl, hown2, hb2⟩))
  have HO1 : w1.ownsRow w.heap.size 87 1 (.slice (some ⟨g1, 0, none⟩) 8 cap1) 8 (cells32 s.list) := by simpa using hown1
  have hb1 : Below w.heap.size w w1 := by
    refine (((Below.refl _ w).alloc (Nat.le_refl _) (.cells keysV 87)).alloc (by simp) (.cells #[] 87)).grown hgrow1 HB0.out (fun q hq => ?_)
    have e : w.heap.size + 1 = q := Option.some.inj hq
    omega
  have hkk : ∀ i, i < 64 → w2.cell? ⟨w.heap.size, i, none⟩ = some (.int .u32 (key i : Nat)) := by
    intro i hi
    have hw1 : w.heap.size < w1.heap.size := Nat.lt_of_lt_of_le (by simp; omega) hgrow1.size
    rw [hb2.cell (p := ⟨w.heap.size, i, none⟩) hw1, hgrow1.cell_far ⟨w.heap.size, i, none⟩ (by simp; omega) (by simp [Value.ownBlock, Act.eval])]
    rw [cell_of_row _ _ i keysV 87 (0, 0) (heap_alloc2_old w _ _), keysV_get i hi]
  have hww : ∀ i, i < 64 → w2.cell? ⟨g2, i, none⟩ = some (.int .u32 (wd blk i : Nat)) := fun i hi => (hown2.cellAt i (by omega)).trans (wl_get blk 64 i hi)
  have hg2 : g2 < w2.heap.size := block_lt_of_cell (hww 0 (by omega))
  have hrow : RowIs w2 g1 s := (row_of_owns HO1).below hb2 hlt1
  have HRW : Hid (RowIs w2 hg s) := (HR.out.below hb1 HR.out.lt).below hb2 (Nat.lt_of_lt_of_le HR.out.lt hb1.size)
  have hb02 : Below w.heap.size w w2 := hb1.trans (hb2.mono hb1.size)
  have HKK : Hid (∀ i, i < 64 → w2.cell? ⟨w.heap.size, i, none⟩ = some (.int .u32 (key i : Nat))) := hkk
  have HWW : Hid (∀ i, i < 64 → w2.cell? ⟨g2, i, none⟩ = some (.int .u32 (wd blk i : Nat))) := hww
  have hwlt : w.heap.size < w2.heap.size := block_lt_of_cell (hkk 0 (by omega))
  clear hown1 hgrow1 hat1 hlt1 hown2 hb2 HO1 hb1 hkk hww HN0 HO0 HB0
  go_loopw [6, 22] (fun v i wr => ∃ t gs cp : Nat, t ≤ 64 ∧ i = .int .i64 t ∧ v = .slice (some ⟨gs, 0, none⟩) 8 cp ∧ RowIs wr gs (rds s blk t) ∧ Below w2.heap.size w2 wr) (fun _ i _ => 64 - (intOf i).toNat)
  case atStart => exact ⟨0, g1, cap1, by omega, rfl, rfl, hrow, Below.refl _ _⟩
  case round =>
    clear hrow
    obtain ⟨t, gs, cp, ht, rfl, rfl, hrow, hb⟩ := hrel
    by_cases hlt : t < 64
    · have ck : wr.cell? ⟨w.heap.size, t, none⟩ = some (.int .u32 (key t : Nat)) := (hb.cell (p := ⟨w.heap.size, t, none⟩) hwlt).trans (HKK.out t hlt)
      have cw : wr.cell? ⟨g2, t, none⟩ = some (.int .u32 (wd blk t : Nat)) := (hb.cell (p := ⟨g2, t, none⟩) hg2).trans (HWW.out t hlt)
      obtain ⟨l0, l1, l2, l3, l4, l5, l6, l7⟩ := rds_ok s blk t hs
      have HRD : Hid (rds s blk (t + 1) = rnd (rds s blk t) (key t) (wd blk t)) := rfl
      have lk := key_lt t
      have lw := wd_lt blk t
      obtain ⟨K, eK⟩ : ∃ x, key t = x := ⟨_, rfl⟩
      obtain ⟨X, eX⟩ : ∃ x, wd blk t = x := ⟨_, rfl⟩
      rw [eK] at ck lk HRD
      rw [eX] at cw lw HRD
      clear eK eX
      obtain ⟨r, hr⟩ : ∃ r, rds s blk t = r := ⟨_, rfl⟩
      rw [hr] at HRD l0 l1 l2 l3 l4 l5 l6 l7 hrow
      clear hr
      have HROW : Hid (RowIs wr gs r) := hrow
      obtain ⟨a, b, c, d, e, f, g, h⟩ := r
      simp only at l0 l1 l2 l3 l4 l5 l6 l7
      obtain ⟨v0, v1, v2, v3, v4, v5, v6, v7⟩ := hrow.cells
      simp only at v0 v1 v2 v3 v4 v5 v6 v7
      clear hrow
      have p0 : (t : Int) < 64 := by omega
      have y1 := w_xor (rot e 6) (rot e 11) (rot_lt _ _ l4) (rot_lt _ _ l4)
      have y2 : bits .xor .u32 ((xo (rot e 6) (rot e 11) : Nat) : Int) ((rot e 25 : Nat) : Int) = ((S1 e : Nat) : Int) := w_xor (xo (rot e 6) (rot e 11)) (rot e 25) (xo_lt _ _ (rot_lt _ _ l4) (rot_lt _ _ l4)) (rot_lt _ _ l4)
      have x1 := wr_add h (S1 e)
      have x2 := w_and e f l4 l5
      have x3 := w_not' e l4
      have x4 := w_and (no e) g (no_lt e l4) l6
      have x5 := w_xor (an e f) (an (no e) g) (an_lt _ _ l5) (an_lt _ _ l6)
      have x6 := wr_add (add h (S1 e)) (xo (an e f) (an (no e) g))
      have x7 := wr_add (add (add h (S1 e)) (xo (an e f) (an (no e) g))) K
      have x8 := wr_add (add (add (add h (S1 e)) (xo (an e f) (an (no e) g))) K) X
      go_wp2
      go_quiet ((go_at_call 79; refine Calls.quiet_of (turn_any _ _ _ (by assumption) (by decide) (by decide))))
      have HT : Hid (add (add (add (add h (S1 e)) (xo (an e f) (an (no e) g))) K) X = t1 ⟨a, b, c, d, e, f, g, h⟩ K X) := rfl
      obtain ⟨T1, eT⟩ : ∃ x, add (add (add (add h (S1 e)) (xo (an e f) (an (no e) g))) K) X = x := ⟨_, rfl⟩
      rw [eT] at HT ⊢
      clear eT x1 x2 x3 x4 x5 x6 x7 x8 y1 y2 ck cw v0 v1 v2 v3 v4 v5 v6 v7
      obtain ⟨V, hV⟩ : ∃ V, V = wr.drewN nq := ⟨_, rfl⟩
      rw [← hV]
      have RV : RowIs V gs ⟨a, b, c, d, e, f, g, h⟩ := by rw [hV]; exact HROW.out.drewN nq
      have hbV : Below w2.heap.size w2 V := by rw [hV]; exact bdrew hb nq
      clear hV HROW hb
      have HROW : Hid (RowIs V gs ⟨a, b, c, d, e, f, g, h⟩) := RV
      obtain ⟨v0, v1, v2, v3, v4, v5, v6, v7⟩ := RV.cells
      simp only at v0 v1 v2 v3 v4 v5 v6 v7
      clear RV
      have x1 := w_xor (rot a 2) (rot a 13) (rot_lt _ _ l0) (rot_lt _ _ l0)
      have x2 : bits .xor .u32 ((xo (rot a 2) (rot a 13) : Nat) : Int) ((rot a 22 : Nat) : Int) = ((S0 a : Nat) : Int) := w_xor (xo (rot a 2) (rot a 13)) (rot a 22) (xo_lt _ _ (rot_lt _ _ l0) (rot_lt _ _ l0)) (rot_lt _ _ l0)
      have x3 := w_and a b l0 l1
      have x4 := w_and a c l0 l2
      have x5 := w_and b c l1 l2
      have x6 := w_xor (an a b) (an a c) (an_lt _ _ l1) (an_lt _ _ l2)
      have x7 := w_xor (xo (an a b) (an a c)) (an b c) (xo_lt _ _ (an_lt _ _ l1) (an_lt _ _ l2)) (an_lt _ _ l2)
      have x8 := wr_add (S0 a) (xo (xo (an a b) (an a c)) (an b c))
      go_wp2
      go_quiet ((go_at_call 79; refine Calls.quiet_of (turn_any _ _ _ (by assumption) (by decide) (by decide))))
      have HT2 : Hid (add (S0 a) (xo (xo (an a b) (an a c)) (an b c)) = t2 ⟨a, b, c, d, e, f, g, h⟩) := rfl
      obtain ⟨T2, eT⟩ : ∃ x, add (S0 a) (xo (xo (an a b) (an a c)) (an b c)) = x := ⟨_, rfl⟩
      rw [eT] at HT2 ⊢
      clear eT x1 x2 x3 x4 x5 x6 x7 x8 v0 v1 v2 v3 v4 v5 v6 v7
      obtain ⟨Y, hY⟩ : ∃ Y, Y = V.drewN nq := ⟨_, rfl⟩
      rw [← hY]
      have RY : RowIs Y gs ⟨a, b, c, d, e, f, g, h⟩ := by rw [hY]; exact HROW.out.drewN nq
      have hbY : Below w2.heap.size w2 Y := by rw [hY]; exact bdrew hbV nq
      clear hY HROW hbV
      have hgsY : gs < Y.heap.size := RY.lt
      obtain ⟨v0, v1, v2, v3, v4, v5, v6, v7⟩ := RY.cells
      simp only at v0 v1 v2 v3 v4 v5 v6 v7
      have u0 : ∀ o, (Y.alloc o).cell? ⟨gs, 0, none⟩ = some (.int .u32 (a : Nat)) := fun o => (((Below.refl _ Y).alloc (Nat.le_refl _) o).cell (p := ⟨gs, 0, none⟩) hgsY).trans v0
      have u1 : ∀ o, (Y.alloc o).cell? ⟨gs, 1, none⟩ = some (.int .u32 (b : Nat)) := fun o => (((Below.refl _ Y).alloc (Nat.le_refl _) o).cell (p := ⟨gs, 1, none⟩) hgsY).trans v1
      have u2 : ∀ o, (Y.alloc o).cell? ⟨gs, 2, none⟩ = some (.int .u32 (c : Nat)) := fun o => (((Below.refl _ Y).alloc (Nat.le_refl _) o).cell (p := ⟨gs, 2, none⟩) hgsY).trans v2
      have u3 : ∀ o, (Y.alloc o).cell? ⟨gs, 3, none⟩ = some (.int .u32 (d : Nat)) := fun o => (((Below.refl _ Y).alloc (Nat.le_refl _) o).cell (p := ⟨gs, 3, none⟩) hgsY).trans v3
      have u4 : ∀ o, (Y.alloc o).cell? ⟨gs, 4, none⟩ = some (.int .u32 (e : Nat)) := fun o => (((Below.refl _ Y).alloc (Nat.le_refl _) o).cell (p := ⟨gs, 4, none⟩) hgsY).trans v4
      have u5 : ∀ o, (Y.alloc o).cell? ⟨gs, 5, none⟩ = some (.int .u32 (f : Nat)) := fun o => (((Below.refl _ Y).alloc (Nat.le_refl _) o).cell (p := ⟨gs, 5, none⟩) hgsY).trans v5
      have u6 : ∀ o, (Y.alloc o).cell? ⟨gs, 6, none⟩ = some (.int .u32 (g : Nat)) := fun o => (((Below.refl _ Y).alloc (Nat.le_refl _) o).cell (p := ⟨gs, 6, none⟩) hgsY).trans v6
      clear RY v7
      have x1 := wr_add T1 T2
      have x2 := wr_add d T1
      go_wp2
      go_region_held3 (fun w' => w'.cell? ⟨gs, 0, none⟩ = some (.int .u32 (a : Nat)) ∧ w'.cell? ⟨gs, 1, none⟩ = some (.int .u32 (b : Nat)) ∧ w'.cell? ⟨gs, 2, none⟩ = some (.int .u32 (c : Nat)) ∧ w'.cell? ⟨gs, 3, none⟩ = some (.int .u32 (d : Nat)) ∧ w'.cell? ⟨gs, 4, none⟩ = some (.int .u32 (e : Nat)) ∧ w'.cell? ⟨gs, 5, none⟩ = some (.int .u32 (f : Nat)) ∧ w'.cell? ⟨gs, 6, none⟩ = some (.int .u32 (g : Nat))) (go_keep) (fail)
      obtain ⟨Z, hZ⟩ : ∃ Z, Z = (Y.alloc (.cells #[.int .u32 (add T1 T2 : Nat), .int .u32 (a : Nat), .int .u32 (b : Nat), .int .u32 (c : Nat), .int .u32 (add d T1 : Nat), .int .u32 (e : Nat), .int .u32 (f : Nat), .int .u32 (g : Nat)] 87)).drew := ⟨_, rfl⟩
      rw [← hZ]
      have RZ : RowIs Z Y.heap.size (rds s blk (t + 1)) := by
        rw [HRD.out]
        unfold rnd
        rw [← HT.out, ← HT2.out, hZ]
        intro i hi
        have hc := cell_of_row (Y.alloc (.cells #[.int .u32 (add T1 T2 : Nat), .int .u32 (a : Nat), .int .u32 (b : Nat), .int .u32 (c : Nat), .int .u32 (add d T1 : Nat), .int .u32 (e : Nat), .int .u32 (f : Nat), .int .u32 (g : Nat)] 87)) Y.heap.size i _ 87 (0, 0) (heap_alloc_new Y _)
        refine hc.trans ?_
        match i, hi with
        | 0, _ => rfl
        | 1, _ => rfl
        | 2, _ => rfl
        | 3, _ => rfl
        | 4, _ => rfl
        | 5, _ => rfl
        | 6, _ => rfl
        | 7, _ => rfl
      have hbZ : Below w2.heap.size w2 Z := by rw [hZ]; exact (hbY.alloc hbY.size _).drew
      rename_i hHeld
      clear hHeld hZ u0 u1 u2 u3 u4 u5 u6 v0 v1 v2 v3 v4 v5 v6 x1 x2
      go_wp2
      go_roundw
      case rel => exact ⟨t + 1, Y.heap.size, 8, by omega, by go_num, rfl, RZ, hbZ⟩
      case measure => simp [intOf]; omega
    · obtain rfl : t = 64 := by omega
      obtain ⟨wo, rfl⟩ : ∃ wo : World, wo = wr := ⟨_, rfl⟩
      have HROW : Hid (RowIs wo gs (rds s blk 64)) := hrow
      have HRH : Hid (RowIs wo hg s) := HRW.out.below hb HRW.out.lt
      have hgs : gs < wo.heap.size := hrow.lt
      have hhg : hg < wo.heap.size := HRH.out.lt
      clear hrow
      have HB : Hid (Below w2.heap.size w2 wo) := hb
      have HB2 : Hid (Below w.heap.size w w2) := hb02
      clear hb hb02
      go_wp2
      go_loopw [13, 124] (fun v i wq => ∃ k g c : Nat, k ≤ 8 ∧ i = .int .i64 k ∧ v = .slice (some ⟨g, 0, none⟩) k c ∧ wq.ownsRow wo.heap.size 87 1 (.slice (some ⟨g, 0, none⟩) k c) k (cells32 ((comp s blk).list.take k)) ∧ Below wo.heap.size wo wq) (fun _ i _ => 8 - (intOf i).toNat)
      case atStart => exact ⟨0, wo.heap.size, 0, by omega, rfl, rfl, World.ownsRow_lit wo #[] 0 (Nat.le_refl _) (by simp [maxLen]) rfl, (Below.refl _ _).alloc (Nat.le_refl _) _⟩
      case round =>
        obtain ⟨k, g, cp2, hk, rfl, rfl, hown, hb⟩ := hrel
        have hgl := grow_le hown
        have hszV := hb.size
        by_cases hlt8 : k < 8
        · have c1 : wr.cell? ⟨gs, k, none⟩ = some (.int .u32 ((rds s blk 64).list.getD k 0 : Nat)) := (hb.cell (p := ⟨gs, k, none⟩) hgs).trans (HROW.out k hlt8)
          have c2 : wr.cell? ⟨hg, k, none⟩ = some (.int .u32 (s.list.getD k 0 : Nat)) := (hb.cell (p := ⟨hg, k, none⟩) hhg).trans (HRH.out k hlt8)
          have HCA : Hid ((comp s blk).list.getD k 0 = add ((rds s blk 64).list.getD k 0) (s.list.getD k 0)) := comp_at s blk k hlt8
          obtain ⟨x, ex⟩ : ∃ x, (rds s blk 64).list.getD k 0 = x := ⟨_, rfl⟩
          obtain ⟨y, ey⟩ : ∃ y, s.list.getD k 0 = y := ⟨_, rfl⟩
          rw [ex] at c1 HCA
          rw [ey] at c2 HCA
          clear ex ey
          have p8 : (k : Int) < 8 := by omega
          have x1 := wr_add x y
          have HOV : Hid (wr.ownsRow wo.heap.size 87 1 (.slice (some ⟨g, 0, none⟩) k cp2) k (cells32 ((comp s blk).list.take k))) := hown
          clear hown
          go_wp2
          go_region_law ((refine step_append_lies _ (by rfl) _ _ _ (by rfl) wo.heap.size 87 i0 (.int .u32 0) 1 4 Tryz.underlying95 HI.out hz0 hz1 hz2 rfl (by omega) _ k _ (by rfl) (owns_heap (w := wr.alloc (.cells #[.int .u32 (add x y : Nat)] 87)) rfl (HOV.out.alloc _)) ⟨wr.heap.size, 0, none⟩ 1 1 [.int .u32 (add x y : Nat)] (by rfl) rfl (news_heap (w := wr) (cs := #[.int .u32 (add x y : Nat)]) (t := 87) rfl) (ones _ rfl) (by omega) (by unfold maxLen; omega) (by omega) (by simp; omega) _ rfl ?_; intro g3 cap3 w3 hown3 hgrow3 hat3 hlt3))
          all_goals
            have R1 : w3.ownsRow wo.heap.size 87 1 (.slice (some ⟨g3, 0, none⟩) (k + 1) cap3) (k + 1) (cells32 ((comp s blk).list.take (k + 1))) := by
              rw [← list_snoc _ k hlt8, HCA.out]; exact hown3
            have R2 : Below wo.heap.size wo w3 := grown_below (o := .cells #[.int .u32 (add x y : Nat)] 87) hb (by rfl) (by rfl) (by rfl) (by rfl) hgrow3 hszV hgl
            clear hown3 hgrow3 hat3 x1 c1 c2
            go_wp2
            go_roundw
            case rel =>
              have R : ∃ k' g' c' : Nat, k' ≤ 8 ∧ Value.int .i64 ((k : Int) + 1) = .int .i64 k' ∧ Value.slice (some ⟨g3, 0, none⟩) (k + 1) cap3 = .slice (some ⟨g', 0, none⟩) k' c' ∧ w3.ownsRow wo.heap.size 87 1 (.slice (some ⟨g', 0, none⟩) k' c') k' (cells32 ((comp s blk).list.take k')) ∧ Below wo.heap.size wo w3 := ⟨k + 1, g3, cap3, by omega, by go_num, rfl, R1, R2⟩
              exact ⟨_, _, _, _, _, _, _, _, _, _, _, _, _, _, _, _, _, _, R, rfl⟩
            case measure => simp [intOf]; omega
        · obtain rfl : k = 8 := by omega
          have HOV : Hid (wr.ownsRow w.heap.size 87 1 (.slice (some ⟨g, 0, none⟩) 8 cp2) 8 (cells32 (comp s blk).list)) := owns_base hown (Nat.le_trans HB2.out.size HB.out.size)
          have HBF : Hid (Below w.heap.size w wr) := (HB2.out.trans (HB.out.mono HB2.out.size)).trans (hb.mono (Nat.le_trans HB2.out.size HB.out.size))
          clear hown
          go_wp2
          go_ret
          exact ⟨g, cp2, rfl, HOV.out, HBF.out⟩
end Go.Proofs.YtjbbbfplephkpaaGreatDoor
