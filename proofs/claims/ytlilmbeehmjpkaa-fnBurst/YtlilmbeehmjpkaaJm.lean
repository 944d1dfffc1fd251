/-
  What the specification draws: a statement.
-/
import Derived.Test.YtlilmbeehmjpkaaJp
import Derived.Deep.CutBlock
namespace Go.Proofs.Ytlilmbeehmjpkaa
open Go.RowKit
theorem nameC {s : ByteArray} {m : Int} (h : okCol s m = true) : okName s = true := by
  simp only [okCol, Bool.and_eq_true] at h
  exact h.1
theorem okI_nm {s : ByteArray} (h : okName s = true) : okItem 3 0 s = true := by simp [okItem, h]
theorem shpC {p : SP} {a : Option Addr} {c : Nat} (h : Shp p) (e : p.k = 1) (hn : p.n2 ≤ 3) : Shp { p with a2 := a, n2 := p.n2 + 1, c2 := c } := by
  rcases h with ⟨h1, h2, h3, h4⟩ | ⟨h1, -⟩ | ⟨h1, -⟩ | ⟨h1, -⟩ | ⟨h1, -⟩
  · exact Or.inl ⟨h1, by show 1 ≤ p.n2 + 1; omega, by show p.n2 + 1 ≤ 20; omega, h4⟩
  all_goals omega
theorem shpN {p : SP} {t : ByteArray} (h : Shp p) (e : p.k = 3) (ht : okName t = true) : Shp { p with col := t } := by
  rcases h with ⟨h1, -⟩ | ⟨h1, -⟩ | ⟨h1, h2, h3, -, h4⟩ | ⟨h1, -⟩ | ⟨h1, -⟩
  · omega
  · omega
  · exact Or.inr (Or.inr (Or.inl ⟨h1, h2, h3, ht, h4⟩))
  · omega
  · omega
theorem shpW {p : SP} {a : Option Addr} {n c : Nat} (h : Shp p) (e1 : ¬ p.k = 1) (e2 : ¬ p.k = 2) (_e3 : ¬ p.k = 3) : Shp { p with a6 := a, n6 := n, c6 := c } := by
  rcases h with ⟨h1, -⟩ | ⟨h1, -⟩ | h | h | h
  · omega
  · omega
  · exact Or.inr (Or.inr (Or.inl h))
  · exact Or.inr (Or.inr (Or.inr (Or.inl h)))
  · exact Or.inr (Or.inr (Or.inr (Or.inr h)))
set_option maxRecDepth 20000 in
set_option maxHeartbeats 40000000 in
theorem drawStm_any (g B : Nat) (ca : Option Addr) (cn cc z s : Nat) (w : World) (h : Cu w g B ca cn cc z s) (hz : z ≤ 1000000000) (hB : B ≤ w.heap.size) :
    Calls Try.prog 17 #[.pointer (some ⟨g, 0, none⟩)] w fun e w' => ∃ (p : SP) (z' s' : Nat), e = .returned (.agg p.cs) ∧ Sm w' p ∧ Shp p ∧ z' ≤ z + 1000 ∧ Cu w' g B ca cn cc z' s' ∧ w.grownBy w' (some g) := by
  have hlt := h.lt
  have R2 := W8.new w (p0 0 ⟨#[]⟩) 50
  go_enter Try.func17, Try.ntmps17
  go_upto_region 2 with (go_at_call 30; refine (drawName_any g B ca cn cc z s _ (h.al hB _) (by omega) (by simp; omega)).mono ?_; rintro e w1 ⟨tb, z1, s1, rfl, htb, hz1, hC1, hG1⟩)
  have hs1 := hG1.size
  have hsa : (w.alloc (.cells (p0 0 ⟨#[]⟩).cs 50)).heap.size = w.heap.size + 1 := by simp
  have hs1' : w.heap.size + 1 ≤ w1.heap.size := by rw [← hsa]; exact hs1
  have M0 : Mk8 g B ca cn cc w w.heap.size w1.heap.size (p0 0 tb) z1 s1 (w1.alloc (.cells (p0 0 tb).cs 50)) :=
    ⟨hC1.al (by omega) _, ⟨_, (R2.gr hG1 (fun e => by have := Option.some.inj e; omega)).gr (galloc w1 _ none) (fun e => by cases e)⟩, W8.new w1 (p0 0 tb) _, sf0 _ _ _ _ htb, gtrans (gAl hG1) (galloc _ _ _)⟩
  obtain ⟨W, hW⟩ : ∃ W, w1.alloc (.cells (p0 0 tb).cs 50) = W := ⟨_, rfl⟩
  have hW' : w1.alloc (.cells #[.int .i64 0, .string tb, .slice none 0 0, .slice none 0 0, .string ⟨#[]⟩, .slice none 0 0, .slice none 0 0, .slice none 0 0] 50) = W := hW
  rw [hW] at M0
  rw [hW']
  obtain ⟨b3, hb3⟩ : ∃ b3, w1.heap.size = b3 := ⟨_, rfl⟩
  rw [hb3] at M0 hs1' ⊢
  clear hW hW' hsa hs1 R2 hG1 hC1 hb3
  have hl3 := M0.lt3
  have c1 : W.cell? ⟨b3, 1, none⟩ = some (.string tb) := M0.r3.q.c1
  have hfst : True := trivial
  go_upto_region 5 with (first | (go_at_call 23; refine (usual_any tb _).mono ?_; rintro e w2 ⟨n, hn1, hn3, rfl, hco, hs2, hG2⟩; have M1 := M0.call (gnone hG2) (M0.cu.gr hG2 (fun _ e => by cases e) (by have := M0.gr.size; omega)) (by omega) (by omega)) | (go_at_call 16; have _h := hfst; refine (pick_any g B ca cn cc z1 s1 _ M1.cu (by omega) _ (by omega)).mono ?_; rintro e w3 ⟨r, z2, s2, rfl, hr0, hr1, -, hz2, hC2, hG3⟩; obtain ⟨hw, rfl⟩ : ∃ k : Nat, r = k := ⟨r.toNat, by omega⟩; have M2 := M1.call hG3 hC2 (by omega) (by omega); replace hco := hco.ka (KA.gr hG3 (fun k e => by have e : g = k := Option.some.inj e; omega)) (far_some hl3); have hs3 := hG3.size; clear hfst))
  obtain ⟨gc, hgc⟩ : ∃ gc, W.heap.size = gc := ⟨_, rfl⟩
  rw [hgc] at hco hl3 hs2 ⊢
  have M3 := M2.al hB (.cells #[] 74)
  replace hco := hco.ka (KA.gr (galloc w3 (.cells #[] 74) none) (fun k e => by cases e)) (far_some hl3)
  have hzw : Ie (w3.alloc (.cells #[] 74)) (some ⟨w3.heap.size, 0, none⟩) 0 := ie_nil _ _
  have hfw : b3 < w3.heap.size := by omega
  have hl4 : gc < (w3.alloc (.cells #[] 74)).heap.size := by simp; omega
  obtain ⟨V, hV⟩ : ∃ V, w3.alloc (.cells #[] 74) = V := ⟨_, rfl⟩
  rw [hV] at M3 hco hzw hl4 ⊢
  obtain ⟨gw, hgw⟩ : ∃ gw, w3.heap.size = gw := ⟨_, rfl⟩
  rw [hgw] at hzw hfw ⊢
  clear hV M2 M1 M0 hC2 hG3 hG2 hgc hgw hs3 hs2 c1
  have hgg : ∀ b off, (some ⟨gc, 0, none⟩ : Option Addr) = some ⟨b, off, none⟩ → b ≠ g := fun b off e => by cases e; omega
  have hfc : Far b3 (some ⟨gc, 0, none⟩ : Option Addr) := far_some hl3
  have kag : ∀ {u u' : World}, u.grownBy u' (some g) → KA b3 u u' := fun h => KA.gr h (fun k e => by have e : g = k := Option.some.inj e; omega)
  go_cut [29] (fun v wx => ∃ (b : Bool) (z3 s3 : Nat), v = .bool b ∧ z3 ≤ z + 3 ∧ Mk8 g B ca cn cc w w.heap.size b3 (p0 0 tb) z3 s3 wx ∧ Co wx (some ⟨gc, 0, none⟩) n)
  case first =>
    go_wp2_with (go_at_call 16; refine (pick_any g B ca cn cc z2 s2 _ M3.cu (by omega) _ (by omega)).mono ?_; rintro e w4 ⟨r4, z3, s3, rfl, hr40, hr41, -, hz3, hCp, hGp⟩)
    all_goals go_meet
    all_goals first | exact ⟨_, z3, s3, rfl, by omega, M3.call hGp hCp (by omega) (by omega), hco.ka (kag hGp) hfc⟩ | exact ⟨_, z2, s2, rfl, by omega, M3, hco⟩
  case rest =>
    obtain ⟨bb, z3, s3, rfl, hz3, M4, hco4⟩ := hcut
    have hl5 := M4.lt3
    have hg5 := M4.gr.size
    clear M3 hco hzw
    go_upto_if 29 with (fail)
    go_cut [6] (fun v wx => ∃ (aw : Option Addr) (nw cw z4 s4 : Nat), v = .slice aw nw cw ∧ z4 ≤ z + 100 ∧ nw ≤ 15 ∧ Ie wx aw nw ∧ Far b3 aw ∧ Mk8 g B ca cn cc w w.heap.size b3 (p0 0 tb) z4 s4 wx ∧ Co wx (some ⟨gc, 0, none⟩) n)
    case first => as_aux_lemma =>
      cases bb
      · go_wp2
        go_meet
        exact ⟨some ⟨gw, 0, none⟩, 0, 0, z3, s3, rfl, by omega, by omega, ie_nil _ _, far_some hfw, M4, hco4⟩
      · go_wp2_with (go_at_call 31; refine (drawExp_any g B ca cn cc 3 (by omega) 0 z3 s3 (some ⟨gc, 0, none⟩) n n 1 _ (by omega) M4.cu (by omega) (by omega) hco4 hgg hn1 (by omega)).mono ?_; rintro e w5 ⟨m5, g5, cap5, z4, s4, xs5, rfl, hm5, hm5', hI5, hO5, hz4, hC5, hG5⟩)
        go_meet
        have e15 : nb 3 = 15 := rfl
        have e75 : pb 3 = 75 := rfl
        have hg5' := grow_le hO5
        exact ⟨some ⟨g5, 0, none⟩, m5, cap5, z4, s4, rfl, by omega, by omega, ie_own hO5 hI5 (by omega) (by omega), far_some (by omega), M4.call hG5 hC5 (by omega) (by omega), hco4.ka (kag hG5) hfc⟩
    case rest =>
      obtain ⟨aw, nw, cw, z4, s4, rfl, hz4, hnw, hiw, hfaw, M5, hco5⟩ := hcut
      have hl6 := M5.lt3
      have hg6 := M5.gr.size
      clear M4 hco4
      obtain ⟨U0, hU0⟩ : ∃ U0, wc = U0 := ⟨_, rfl⟩
      rw [hU0] at M5 hiw hco5 hl6 hg6 ⊢
      clear hU0
      have J5 : Mj g B ca cn cc w U0 b3 (p0 0 tb) z4 s4 U0 := ⟨M5, fun _ _ _ h => h, hB, hlt, by omega, Nat.le_refl _⟩
      go_upto_block 0 with (fail)
      go_cut [5, 8, 9, 10, 11, 12, 56, 67, 87, 109] (fun _ _ _ _ _ _ _ _ _ _ wx => ∃ (p : SP) (z5 s5 : Nat), z5 ≤ z + 600 ∧ Mj g B ca cn cc w U0 b3 p z5 s5 wx ∧ (p.k = 1 → 1 ≤ p.n2 ∧ p.n2 ≤ 3) ∧ (p.k = 2 → ∃ gv nv cv xsv, p = { p0 2 tb with a3 := some ⟨gv, 0, none⟩, n3 := nv, c3 := cv } ∧ 1 ≤ nv ∧ nv ≤ 3 ∧ wx.ownsRow (b3 + 1) 67 3 (.slice (some ⟨gv, 0, none⟩) nv cv) nv xsv ∧ Its nv xsv) ∧ Shp p)
      case first =>
        by_cases h6 : hw ≤ 6
        · have h6i : (hw : Int) ≤ 6 := by omega
          go_upto_region 15 with (fail)
          go_cut [5, 56] (fun v5 v wx => v5 = .int .i64 hw ∧ ∃ (b : Bool) (z6 s6 : Nat), v = .bool b ∧ z6 ≤ z + 101 ∧ Mj g B ca cn cc w U0 b3 (p0 0 tb) z6 s6 wx)
          case first => as_aux_lemma =>
            go_wp2_with (go_at_call 16; refine (pick_any g B ca cn cc z4 s4 _ J5.m.cu (by omega) _ (by omega)).mono ?_; rintro e w6 ⟨r6, z6, s6, rfl, hr60, hr61, -, hz6, hCp, hGp⟩; have J6 := J5.call hGp hCp)
            all_goals go_meet
            all_goals first | exact ⟨by first | rfl | simp [*], _, z6, s6, rfl, by omega, J6⟩ | exact ⟨by first | rfl | simp [*], _, z4, s4, rfl, by omega, J5⟩
          case rest =>
            obtain ⟨rfl, bq, z6, s6, rfl, hz6, J6⟩ := hcut
            have c0 := J6.m.r3.q.c0
            have f0 := J6.m.r3.f 0 (by omega)
            cases bq
            · as_aux_lemma =>
                have J7i := J6.wk 2
                go_wp2
                obtain ⟨i0, hi, hi0, hi1, hi2⟩ := info_parts Try.info67v
                have HI : Hid (Try.prog.info? 67 = some i0) := hi
                clear hi
                go_loopw [8, 73] (fun _ i wr => ∃ (j zz ss : Nat) (a : Option Addr) (c : Nat) (xs : List Value), j ≤ n ∧ i = .int .i64 j ∧ zz ≤ z + 110 + 2 * j ∧ Mj g B ca cn cc w U0 b3 { p0 2 tb with a3 := a, n3 := j, c3 := c } zz ss wr ∧ wr.ownsRow U0.heap.size 67 3 (.slice a j c) j xs ∧ Its j xs) (fun _ i _ => n - (intOf i).toNat)
                case atStart => exact ⟨0, z6, s6, none, 0, [], by omega, rfl, by omega, J7i, World.ownsRow_nil _ _ _ _, ⟨rfl, fun _ h => absurd h (Nat.not_lt_zero _)⟩⟩
                case round =>
                  obtain ⟨j, zz, ss, a, c, xs, hj, rfl, hzz, J8, hO, hIt⟩ := hrel
                  have hb3 : g < U0.heap.size := by omega
                  by_cases hjl : j < n
                  · obtain ⟨bb1, off, m, S, e, d0, d1, hS⟩ := hco5.ka J8.ka hfc j hjl
                    cases e
                    rw [Nat.zero_add] at d0 d1
                    go_wp2
                    have J9d := (J8.al (.cells #[.string S, .int .i64 m] 65)).dr
                    have c3 : (wr.alloc (.cells #[.string S, .int .i64 m] 65)).drew.cell? ⟨b3, 3, none⟩ = some (.slice a j c) := J9d.m.r3.q.c3
                    have e1 : (wr.alloc (.cells #[.string S, .int .i64 m] 65)).drew.cell? ⟨wr.heap.size, 1, none⟩ = some (.int .i64 m) := (cell_of_row _ _ 1 _ _ _ (heap_alloc_new wr _)).trans rfl
                    have hs9 := J9d.m.gr.size
                    have l8 := J8.m.lt3
                    have sz8 := J8.sz
                    have hO8 := (hO.alloc (.cells #[.string S, .int .i64 m] 65)).drew
                    have hrow : ∀ k, Value.ownBlock (.slice a j c) = some k → k < wr.heap.size := fun k e => (hO.lt k e).2
                    obtain ⟨Y, hY⟩ : ∃ Y, (wr.alloc (.cells #[.string S, .int .i64 m] 65)).drew = Y := ⟨_, rfl⟩
                    have hYs : wr.heap.size < Y.heap.size := by rw [← hY]; show wr.heap.size < (wr.alloc _).heap.size; simp
                    rw [hY] at J9d c3 e1 hs9 hO8
                    refine wp_region_held_drew (S := fun w' => w'.cell? ⟨wr.heap.size, 1, none⟩ = some (.int .i64 m)) (by kernel_rfl) (by rw [hY]; exact e1) (fun _ => ?_)
                    rw [hY]
                    refine wpAnyH_take (i := 0) (oi := ({ dst := some 77, op := Op.fieldAddr 50 (Operand.tmp 3) 3, type := 0, pos := "l5_replay.go:486", after := #[], guard := none } : Oper)) (v := .pointer (some ⟨b3, 3, none⟩)) rfl (by kernel_rfl) (by kernel_rfl) (by kernel_rfl) (fun _ _ _ h => h) (Or.inl ⟨by rfl, fun w hSw => by go_simp⟩) e1 ?_
                    simp only [Act.put, List.setIfInBounds_toArray, List.set_cons_zero, List.set_cons_succ]
                    refine wpAnyH_take (i := 2) (oi := ({ dst := some 79, op := Op.move (Operand.tmp 0), type := 32, pos := "l5_replay.go:486", after := #[], guard := none } : Oper)) (v := .pointer (some ⟨g, 0, none⟩)) rfl (by kernel_rfl) (by kernel_rfl) (by kernel_rfl) (fun _ _ _ h => h) (Or.inl ⟨by rfl, fun w hSw => by go_simp⟩) e1 ?_
                    simp only [Act.put, List.setIfInBounds_toArray, List.set_cons_zero, List.set_cons_succ]
                    refine wpAnyH_take (i := 3) (oi := ({ dst := some 80, op := Op.fieldAddr 65 (Operand.tmp 8) 1, type := 0, pos := "l5_replay.go:486", after := #[], guard := none } : Oper)) (v := .pointer (some ⟨wr.heap.size, 1, none⟩)) rfl (by kernel_rfl) (by kernel_rfl) (by kernel_rfl) (fun _ _ _ h => h) (Or.inl ⟨by rfl, fun w hSw => by go_simp⟩) e1 ?_
                    simp only [Act.put, List.setIfInBounds_toArray, List.set_cons_zero, List.set_cons_succ]
                    refine wpAnyH_take (i := 4) (oi := ({ dst := some 81, op := Op.load 3 (Operand.tmp 80), type := 3, pos := "l5_replay.go:486", after := #[{ on := 3, ground := Ground.data }], guard := none } : Oper)) (v := .int .i64 m) rfl (by kernel_rfl) (by kernel_rfl) (by kernel_rfl) (fun _ _ _ h => h) (Or.inl ⟨by rfl, fun w hSw => by go_simp⟩) e1 ?_
                    simp only [Act.put, List.setIfInBounds_toArray, List.set_cons_zero, List.set_cons_succ]
                    refine wpAnyH_ready (rs := [1, 5]) (by kernel_rfl) (by simp) ?_
                    refine AllReadyH.cons (o := ({ dst := some 78, op := Op.load 46 (Operand.tmp 77), type := 46, pos := "l5_replay.go:486", after := #[{ on := 0, ground := Ground.data }], guard := none } : Oper)) rfl (fun K hK => ?_) (AllReadyH.cons (o := ({ dst := some 82, op := Op.call { callee := Callee.value (Operand.func 32), args := #[Operand.tmp 79, Operand.tmp 81], argTypes := #[32, 3] }, type := 67, pos := "l5_replay.go:486", after := #[{ on := 2, ground := Ground.data }, { on := 4, ground := Ground.data }], guard := none } : Oper)) rfl (fun K hK => ?_) AllReadyH.nil)
                    · go_simp
                      refine hK.out _ _ e1 (fun _ => ?_)
                      clear hK K
                      refine wpAnyH_ready (rs := [5]) (by kernel_rfl) (by simp) ?_
                      refine AllReadyH.cons (o := ({ dst := some 82, op := Op.call { callee := Callee.value (Operand.func 32), args := #[Operand.tmp 79, Operand.tmp 81], argTypes := #[32, 3] }, type := 67, pos := "l5_replay.go:486", after := #[{ on := 2, ground := Ground.data }, { on := 4, ground := Ground.data }], guard := none } : Oper)) rfl (fun K hK => ?_) AllReadyH.nil
                      go_simp
                      refine (drawValue_any g B ca cn cc zz ss m _ J9d.m.cu (by omega) (by omega)).mono ?_
                      rintro e w9 ⟨o9, q9, T9, z9, s9, rfl, hT9, hz9, hC9, hG9⟩
                      have J10 := J9d.call hG9 hC9
                      have e2 := keepG hG9 e1 (fun e => by have e : wr.heap.size = g := Option.some.inj e; omega)
                      have hO10 := (own_gr hO8 hG9 hb3).alloc (.cells #[.int .i64 o9, .int .i64 q9, .string T9] 67)
                      have J11 := J10.al (.cells #[.int .i64 o9, .int .i64 q9, .string T9] 67)
                      have e3 := keepG (galloc w9 (.cells #[.int .i64 o9, .int .i64 q9, .string T9] 67) none) e2 (fun e => by cases e)
                      have sz10 := J10.sz
                      have hs10 := J10.m.gr.size
                      refine hK.out _ _ e2 (fun _ => ?_)
                      clear hK K
                      refine wpAnyH_ready (rs := [6]) (by kernel_rfl) (by simp) ?_
                      refine AllReadyH.cons (o := ({ dst := some 83, op := Op.buildSlice 46 1 #[(0, Operand.tmp 82)], type := 46, pos := "l5_replay.go:486", after := #[{ on := 5, ground := Ground.data }], guard := none } : Oper)) rfl (fun K hK => ?_) AllReadyH.nil
                      go_simp
                      refine hK.out _ _ e3 (fun _ => ?_)
                      clear hK K
                      refine wpAnyH_ready (rs := [7]) (by kernel_rfl) (by simp) ?_
                      refine AllReadyH.cons (o := ({ dst := some 84, op := Op.call { callee := Callee.builtin Builtin.append, args := #[Operand.tmp 78, Operand.tmp 83], argTypes := #[46, 46] }, type := 46, pos := "l5_replay.go:486", after := #[{ on := 1, ground := Ground.data }, { on := 6, ground := Ground.data }, { on := 5, ground := Ground.chain }], guard := none } : Oper)) rfl (fun K hK => ?_) AllReadyH.nil
                      rw [if_pos (by kernel_rfl)]
                      refine wp_append_lies _ _ _ _ rfl U0.heap.size 67 i0 (.agg #[.int .i64 0, .int .i64 0, .string ⟨#[]⟩]) 3 32 Try.underlying46 HI.out hi0 hi1 hi2 rfl (by omega) (.slice a j c) j xs rfl hO10 ⟨w9.heap.size, 0, none⟩ 1 1 [.int .i64 o9, .int .i64 q9, .string T9] rfl rfl (World.news_of_block (heap_alloc_new w9 _)) (Its.one _ _ _ hT9).cells1 (by omega) (by unfold maxLen; omega) (by omega) (by simp; omega) _ rfl ?_
                      intro g11 cap11 w11 hO11 hgr11 hat11 hlt11
                      refine hK.out _ _ (keepG hgr11 e3 (fun e => absurd (hrow wr.heap.size e.symm) (Nat.lt_irrefl _))) (fun _ => ?_)
                      clear hK K
                      simp only [Act.put, List.setIfInBounds_toArray, List.set_cons_zero, List.set_cons_succ]
                      have e4 := keepG hgr11 e3 (fun e => absurd (hrow wr.heap.size e.symm) (Nat.lt_irrefl _))
                      have hr11 : ∀ k, Value.ownBlock (.slice a j c) = some k → U0.heap.size ≤ k := fun k e => (hO10.lt k e).1
                      have W11 := J11.w8 hgr11 hr11 hl6
                      have c3'' := W11.q.c3
                      have f3 := W11.f 3 (by omega)
                      have hg11 := grow_le hO11
                      have hI11 := hIt.app (Its.one o9 q9 T9 hT9)
                      have J12 := J11.app hgr11 hr11 hl6 (W11.s3 (some ⟨g11, 0, none⟩) (j + 1) cap11) ((sf0 b3 w11 2 tb htb).w3 _ _ _ (it_own hO11 hI11) (by omega) (far_some (by omega)))
                      have e5 := (KA.set w11 b3 3 (.slice (some ⟨g11, 0, none⟩) (j + 1) cap11) (Nat.le_refl b3)) _ _ l8 e4
                      refine wpAnyH_take (i := 8) (oi := ({ dst := some 85, op := Op.fieldAddr 50 (Operand.tmp 3) 3, type := 0, pos := "l5_replay.go:486", after := #[{ on := 0, ground := Ground.phase }, { on := 1, ground := Ground.phase }, { on := 2, ground := Ground.phase }, { on := 3, ground := Ground.phase }, { on := 4, ground := Ground.phase }, { on := 5, ground := Ground.phase }, { on := 6, ground := Ground.phase }, { on := 7, ground := Ground.phase }], guard := none } : Oper)) (v := .pointer (some ⟨b3, 3, none⟩)) rfl (by kernel_rfl) (by kernel_rfl) (by kernel_rfl) (fun _ _ _ h => h) (Or.inl ⟨by rfl, fun w hSw => by go_simp⟩) e4 ?_
                      simp only [Act.put, List.setIfInBounds_toArray, List.set_cons_zero, List.set_cons_succ]
                      refine wpAnyH_ready (rs := [9]) (by kernel_rfl) (by simp) ?_
                      refine AllReadyH.cons (o := ({ dst := none, op := Op.store 46 (Operand.tmp 85) (Operand.tmp 84), type := 0, pos := "l5_replay.go:486", after := #[{ on := 8, ground := Ground.data }, { on := 7, ground := Ground.data }, { on := 7, ground := Ground.chain }, { on := 0, ground := Ground.phase }, { on := 1, ground := Ground.phase }, { on := 2, ground := Ground.phase }, { on := 3, ground := Ground.phase }, { on := 4, ground := Ground.phase }, { on := 5, ground := Ground.phase }, { on := 6, ground := Ground.phase }, { on := 7, ground := Ground.phase }], guard := none } : Oper)) rfl (fun K hK => ?_) AllReadyH.nil
                      go_simp
                      refine hK.out _ _ e5 (fun _ => ?_)
                      clear hK K
                      refine wpAnyH_done (by kernel_rfl) ?_ _
                      go_wp2
                      go_roundw
                      case rel => exact ⟨j + 1, z9, s9, some ⟨g11, 0, none⟩, cap11, _, by omega, by go_num, by omega, J12, own_gr hO11 (gset w11 b3 3 _) hl6, hI11⟩
                      case measure => simp [intOf]; omega
                    · go_simp
                      refine (drawValue_any g B ca cn cc zz ss m _ J9d.m.cu (by omega) (by omega)).mono ?_
                      rintro e w9 ⟨o9, q9, T9, z9, s9, rfl, hT9, hz9, hC9, hG9⟩
                      have J10 := J9d.call hG9 hC9
                      have e2 := keepG hG9 e1 (fun e => by have e : wr.heap.size = g := Option.some.inj e; omega)
                      have hO10 := (own_gr hO8 hG9 hb3).alloc (.cells #[.int .i64 o9, .int .i64 q9, .string T9] 67)
                      have J11 := J10.al (.cells #[.int .i64 o9, .int .i64 q9, .string T9] 67)
                      have e3 := keepG (galloc w9 (.cells #[.int .i64 o9, .int .i64 q9, .string T9] 67) none) e2 (fun e => by cases e)
                      have sz10 := J10.sz
                      have hs10 := J10.m.gr.size
                      refine hK.out _ _ e2 (fun _ => ?_)
                      clear hK K
                      have c31 : w9.cell? ⟨b3, 3, none⟩ = some (.slice a j c) := J10.m.r3.q.c3
                      refine wpAnyH_ready (rs := [1, 6]) (by kernel_rfl) (by simp) ?_
                      refine AllReadyH.cons (o := ({ dst := some 78, op := Op.load 46 (Operand.tmp 77), type := 46, pos := "l5_replay.go:486", after := #[{ on := 0, ground := Ground.data }], guard := none } : Oper)) rfl (fun K hK => ?_) (AllReadyH.cons (o := ({ dst := some 83, op := Op.buildSlice 46 1 #[(0, Operand.tmp 82)], type := 46, pos := "l5_replay.go:486", after := #[{ on := 5, ground := Ground.data }], guard := none } : Oper)) rfl (fun K hK => ?_) AllReadyH.nil)
                      · go_simp
                        refine hK.out _ _ e2 (fun _ => ?_)
                        clear hK K
                        refine wpAnyH_ready (rs := [6]) (by kernel_rfl) (by simp) ?_
                        refine AllReadyH.cons (o := ({ dst := some 83, op := Op.buildSlice 46 1 #[(0, Operand.tmp 82)], type := 46, pos := "l5_replay.go:486", after := #[{ on := 5, ground := Ground.data }], guard := none } : Oper)) rfl (fun K hK => ?_) AllReadyH.nil
                        go_simp
                        refine hK.out _ _ e3 (fun _ => ?_)
                        clear hK K
                        refine wpAnyH_ready (rs := [7]) (by kernel_rfl) (by simp) ?_
                        refine AllReadyH.cons (o := ({ dst := some 84, op := Op.call { callee := Callee.builtin Builtin.append, args := #[Operand.tmp 78, Operand.tmp 83], argTypes := #[46, 46] }, type := 46, pos := "l5_replay.go:486", after := #[{ on := 1, ground := Ground.data }, { on := 6, ground := Ground.data }, { on := 5, ground := Ground.chain }], guard := none } : Oper)) rfl (fun K hK => ?_) AllReadyH.nil
                        rw [if_pos (by kernel_rfl)]
                        refine wp_append_lies _ _ _ _ rfl U0.heap.size 67 i0 (.agg #[.int .i64 0, .int .i64 0, .string ⟨#[]⟩]) 3 32 Try.underlying46 HI.out hi0 hi1 hi2 rfl (by omega) (.slice a j c) j xs rfl hO10 ⟨w9.heap.size, 0, none⟩ 1 1 [.int .i64 o9, .int .i64 q9, .string T9] rfl rfl (World.news_of_block (heap_alloc_new w9 _)) (Its.one _ _ _ hT9).cells1 (by omega) (by unfold maxLen; omega) (by omega) (by simp; omega) _ rfl ?_
                        intro g11 cap11 w11 hO11 hgr11 hat11 hlt11
                        refine hK.out _ _ (keepG hgr11 e3 (fun e => absurd (hrow wr.heap.size e.symm) (Nat.lt_irrefl _))) (fun _ => ?_)
                        clear hK K
                        simp only [Act.put, List.setIfInBounds_toArray, List.set_cons_zero, List.set_cons_succ]
                        have e4 := keepG hgr11 e3 (fun e => absurd (hrow wr.heap.size e.symm) (Nat.lt_irrefl _))
                        have hr11 : ∀ k, Value.ownBlock (.slice a j c) = some k → U0.heap.size ≤ k := fun k e => (hO10.lt k e).1
                        have W11 := J11.w8 hgr11 hr11 hl6
                        have c3'' := W11.q.c3
                        have f3 := W11.f 3 (by omega)
                        have hg11 := grow_le hO11
                        have hI11 := hIt.app (Its.one o9 q9 T9 hT9)
                        have J12 := J11.app hgr11 hr11 hl6 (W11.s3 (some ⟨g11, 0, none⟩) (j + 1) cap11) ((sf0 b3 w11 2 tb htb).w3 _ _ _ (it_own hO11 hI11) (by omega) (far_some (by omega)))
                        have e5 := (KA.set w11 b3 3 (.slice (some ⟨g11, 0, none⟩) (j + 1) cap11) (Nat.le_refl b3)) _ _ l8 e4
                        refine wpAnyH_take (i := 8) (oi := ({ dst := some 85, op := Op.fieldAddr 50 (Operand.tmp 3) 3, type := 0, pos := "l5_replay.go:486", after := #[{ on := 0, ground := Ground.phase }, { on := 1, ground := Ground.phase }, { on := 2, ground := Ground.phase }, { on := 3, ground := Ground.phase }, { on := 4, ground := Ground.phase }, { on := 5, ground := Ground.phase }, { on := 6, ground := Ground.phase }, { on := 7, ground := Ground.phase }], guard := none } : Oper)) (v := .pointer (some ⟨b3, 3, none⟩)) rfl (by kernel_rfl) (by kernel_rfl) (by kernel_rfl) (fun _ _ _ h => h) (Or.inl ⟨by rfl, fun w hSw => by go_simp⟩) e4 ?_
                        simp only [Act.put, List.setIfInBounds_toArray, List.set_cons_zero, List.set_cons_succ]
                        refine wpAnyH_ready (rs := [9]) (by kernel_rfl) (by simp) ?_
                        refine AllReadyH.cons (o := ({ dst := none, op := Op.store 46 (Operand.tmp 85) (Operand.tmp 84), type := 0, pos := "l5_replay.go:486", after := #[{ on := 8, ground := Ground.data }, { on := 7, ground := Ground.data }, { on := 7, ground := Ground.chain }, { on := 0, ground := Ground.phase }, { on := 1, ground := Ground.phase }, { on := 2, ground := Ground.phase }, { on := 3, ground := Ground.phase }, { on := 4, ground := Ground.phase }, { on := 5, ground := Ground.phase }, { on := 6, ground := Ground.phase }, { on := 7, ground := Ground.phase }], guard := none } : Oper)) rfl (fun K hK => ?_) AllReadyH.nil
                        go_simp
                        refine hK.out _ _ e5 (fun _ => ?_)
                        clear hK K
                        refine wpAnyH_done (by kernel_rfl) ?_ _
                        go_wp2
                        go_roundw
                        case rel => exact ⟨j + 1, z9, s9, some ⟨g11, 0, none⟩, cap11, _, by omega, by go_num, by omega, J12, own_gr hO11 (gset w11 b3 3 _) hl6, hI11⟩
                        case measure => simp [intOf]; omega
                      · go_simp
                        refine hK.out _ _ e3 (fun _ => ?_)
                        clear hK K
                        have c32 : (w9.alloc (.cells #[.int .i64 o9, .int .i64 q9, .string T9] 67)).cell? ⟨b3, 3, none⟩ = some (.slice a j c) := J11.m.r3.q.c3
                        refine wpAnyH_ready (rs := [1]) (by kernel_rfl) (by simp) ?_
                        refine AllReadyH.cons (o := ({ dst := some 78, op := Op.load 46 (Operand.tmp 77), type := 46, pos := "l5_replay.go:486", after := #[{ on := 0, ground := Ground.data }], guard := none } : Oper)) rfl (fun K hK => ?_) AllReadyH.nil
                        go_simp
                        refine hK.out _ _ e3 (fun _ => ?_)
                        clear hK K
                        refine wpAnyH_ready (rs := [7]) (by kernel_rfl) (by simp) ?_
                        refine AllReadyH.cons (o := ({ dst := some 84, op := Op.call { callee := Callee.builtin Builtin.append, args := #[Operand.tmp 78, Operand.tmp 83], argTypes := #[46, 46] }, type := 46, pos := "l5_replay.go:486", after := #[{ on := 1, ground := Ground.data }, { on := 6, ground := Ground.data }, { on := 5, ground := Ground.chain }], guard := none } : Oper)) rfl (fun K hK => ?_) AllReadyH.nil
                        rw [if_pos (by kernel_rfl)]
                        refine wp_append_lies _ _ _ _ rfl U0.heap.size 67 i0 (.agg #[.int .i64 0, .int .i64 0, .string ⟨#[]⟩]) 3 32 Try.underlying46 HI.out hi0 hi1 hi2 rfl (by omega) (.slice a j c) j xs rfl hO10 ⟨w9.heap.size, 0, none⟩ 1 1 [.int .i64 o9, .int .i64 q9, .string T9] rfl rfl (World.news_of_block (heap_alloc_new w9 _)) (Its.one _ _ _ hT9).cells1 (by omega) (by unfold maxLen; omega) (by omega) (by simp; omega) _ rfl ?_
                        intro g11 cap11 w11 hO11 hgr11 hat11 hlt11
                        refine hK.out _ _ (keepG hgr11 e3 (fun e => absurd (hrow wr.heap.size e.symm) (Nat.lt_irrefl _))) (fun _ => ?_)
                        clear hK K
                        simp only [Act.put, List.setIfInBounds_toArray, List.set_cons_zero, List.set_cons_succ]
                        have e4 := keepG hgr11 e3 (fun e => absurd (hrow wr.heap.size e.symm) (Nat.lt_irrefl _))
                        have hr11 : ∀ k, Value.ownBlock (.slice a j c) = some k → U0.heap.size ≤ k := fun k e => (hO10.lt k e).1
                        have W11 := J11.w8 hgr11 hr11 hl6
                        have c3'' := W11.q.c3
                        have f3 := W11.f 3 (by omega)
                        have hg11 := grow_le hO11
                        have hI11 := hIt.app (Its.one o9 q9 T9 hT9)
                        have J12 := J11.app hgr11 hr11 hl6 (W11.s3 (some ⟨g11, 0, none⟩) (j + 1) cap11) ((sf0 b3 w11 2 tb htb).w3 _ _ _ (it_own hO11 hI11) (by omega) (far_some (by omega)))
                        have e5 := (KA.set w11 b3 3 (.slice (some ⟨g11, 0, none⟩) (j + 1) cap11) (Nat.le_refl b3)) _ _ l8 e4
                        refine wpAnyH_take (i := 8) (oi := ({ dst := some 85, op := Op.fieldAddr 50 (Operand.tmp 3) 3, type := 0, pos := "l5_replay.go:486", after := #[{ on := 0, ground := Ground.phase }, { on := 1, ground := Ground.phase }, { on := 2, ground := Ground.phase }, { on := 3, ground := Ground.phase }, { on := 4, ground := Ground.phase }, { on := 5, ground := Ground.phase }, { on := 6, ground := Ground.phase }, { on := 7, ground := Ground.phase }], guard := none } : Oper)) (v := .pointer (some ⟨b3, 3, none⟩)) rfl (by kernel_rfl) (by kernel_rfl) (by kernel_rfl) (fun _ _ _ h => h) (Or.inl ⟨by rfl, fun w hSw => by go_simp⟩) e4 ?_
                        simp only [Act.put, List.setIfInBounds_toArray, List.set_cons_zero, List.set_cons_succ]
                        refine wpAnyH_ready (rs := [9]) (by kernel_rfl) (by simp) ?_
                        refine AllReadyH.cons (o := ({ dst := none, op := Op.store 46 (Operand.tmp 85) (Operand.tmp 84), type := 0, pos := "l5_replay.go:486", after := #[{ on := 8, ground := Ground.data }, { on := 7, ground := Ground.data }, { on := 7, ground := Ground.chain }, { on := 0, ground := Ground.phase }, { on := 1, ground := Ground.phase }, { on := 2, ground := Ground.phase }, { on := 3, ground := Ground.phase }, { on := 4, ground := Ground.phase }, { on := 5, ground := Ground.phase }, { on := 6, ground := Ground.phase }, { on := 7, ground := Ground.phase }], guard := none } : Oper)) rfl (fun K hK => ?_) AllReadyH.nil
                        go_simp
                        refine hK.out _ _ e5 (fun _ => ?_)
                        clear hK K
                        refine wpAnyH_done (by kernel_rfl) ?_ _
                        go_wp2
                        go_roundw
                        case rel => exact ⟨j + 1, z9, s9, some ⟨g11, 0, none⟩, cap11, _, by omega, by go_num, by omega, J12, own_gr hO11 (gset w11 b3 3 _) hl6, hI11⟩
                        case measure => simp [intOf]; omega
                  · obtain rfl : j = n := by omega
                    obtain ⟨gv, cv, ev, -, -⟩ := hO.form (by omega)
                    cases ev
                    go_wp2
                    go_meet
                    exact ⟨_, zz, ss, by omega, J8, (fun e => absurd (show (2 : Int) = 1 from e) (by decide)), (fun _ => ⟨gv, _, _, xs, rfl, hn1, hn3, hO.mono hl6, hIt⟩), Or.inr (Or.inl ⟨rfl, rfl, hn1, Nat.le_trans hn3 (by omega), rfl, rfl, rfl, rfl⟩)⟩
            · as_aux_lemma =>
                have J7 := J6.wk 1
                have c2 := J7.m.r3.q.c2
                have f2 := J7.m.r3.f 2 (by omega)
                have J8 := J7.w2 (some ⟨gc, 0, none⟩) n n (hco5.ka J7.ka hfc) (by omega) hfc
                go_wp2
                go_meet
                exact ⟨_, z6, s6, by omega, J8, (fun _ => ⟨hn1, hn3⟩), (fun e => absurd (show (1 : Int) = 2 from e) (by decide)), Or.inl ⟨rfl, hn1, Nat.le_trans hn3 (by omega), rfl, rfl, rfl, rfl, rfl⟩⟩
        · have h6i : ¬ (hw : Int) ≤ 6 := by omega
          by_cases h8 : hw ≤ 8
          · as_aux_lemma =>
              have h8i : (hw : Int) ≤ 8 := by omega
              have J6 := J5.wk 3
              have c0 := J5.m.r3.q.c0
              have f0 := J5.m.r3.f 0 (by omega)
              go_wp2_with (first | (go_at_call 16; refine (pick_any g B ca cn cc z4 s4 _ J6.m.cu (by omega) _ (by omega)).mono ?_; rintro e w6 ⟨r6, z6, s6, rfl, hr60, hr61, -, hz6, hCp, hGp⟩; obtain ⟨k, rfl⟩ : ∃ k : Nat, r6 = k := ⟨r6.toNat, by omega⟩; have J7 := J6.call hGp hCp; obtain ⟨b, off, m, S, e, d0, d1, hS⟩ := hco5.ka J7.ka hfc k (by omega); cases e; rw [Nat.zero_add] at d0 d1; have l7 := J7.m.lt3; have J8' := J7.al (.cells #[.string S, .int .i64 m] 65); have c4 := J8'.m.r3.q.c4; have f4 := J8'.m.r3.f 4 (by omega); have c4' := J7.m.r3.q.c4; have f4' := J7.m.r3.f 4 (by omega); have J8 := J7.w4 S (Or.inr (nameC hS)); have J9 := J8.al (.cells #[.string S, .int .i64 m] 65); have hs9 := J9.m.gr.size; have l9 := J9.m.lt3) | (go_at_call 31; refine (drawExp_any g B ca cn cc 3 (by omega) 0 z6 s6 (some ⟨gc, 0, none⟩) n n m _ (by omega) J9.m.cu (by omega) (by omega) (hco5.ka J9.ka hfc) hgg hn1 (by omega)).mono ?_; rintro e w7 ⟨m7, g7, cap7, z7, s7, xs7, rfl, hm7, hm7', hI7, hO7, hz7, hC7, hG7⟩; have e15 : nb 3 = 15 := rfl; have e75 : pb 3 = 75 := rfl; have hg7 := grow_le hO7; have J10 := J9.call hG7 hC7; have c5 := J10.m.r3.q.c5; have f5 := J10.m.r3.f 5 (by omega); have J11 := J10.w5 (some ⟨g7, 0, none⟩) m7 cap7 (ie_own hO7 hI7 (by omega) (by omega)) (by omega) (far_some (by omega)); have c6 := J11.m.r3.q.c6; have f6 := J11.m.r3.f 6 (by omega); have J12 := J11.w6 aw nw cw (hiw.ka J11.ka hfaw) (by omega) hfaw))
              go_meet
              exact ⟨_, z7, s7, by omega, J12, (fun e => absurd (show (3 : Int) = 1 from e) (by decide)), (fun e => absurd (show (3 : Int) = 2 from e) (by decide)), Or.inr (Or.inr (Or.inl ⟨rfl, rfl, rfl, nameC hS, hm7, rfl⟩))⟩
          · by_cases h9 : hw = 9
            · subst h9
              have J6 := J5.wk 4
              have c0 := J5.m.r3.q.c0
              have f0 := J5.m.r3.f 0 (by omega)
              have c6 := J6.m.r3.q.c6
              have f6 := J6.m.r3.f 6 (by omega)
              have J7 := J6.w6 aw nw cw (hiw.ka J6.ka hfaw) (by omega) hfaw
              go_wp2
              go_meet
              exact ⟨_, z4, s4, by omega, J7, (fun e => absurd (show (4 : Int) = 1 from e) (by decide)), (fun e => absurd (show (4 : Int) = 2 from e) (by decide)), Or.inr (Or.inr (Or.inr (Or.inl ⟨rfl, rfl, rfl, rfl, rfl, rfl⟩)))⟩
            · as_aux_lemma =>
                have h9i : ¬ (hw : Int) = 9 := by omega
                have J6 := J5.wk 5
                have c0 := J5.m.r3.q.c0
                have f0 := J5.m.r3.f 0 (by omega)
                obtain ⟨i0, hi, hi0, hi1, hi2⟩ := info_parts Try.info47s
                have HI : Hid (Try.prog.info? 47 = some i0) := hi
                clear hi
                go_wp2_with (go_at_call 16; refine (pick_any g B ca cn cc z4 s4 _ J6.m.cu (by omega) _ (by omega)).mono ?_; rintro e w6 ⟨r6, z6, s6, rfl, hr60, hr61, -, hz6, hCp, hGp⟩; obtain ⟨nn, rfl⟩ : ∃ k : Nat, r6 = k := ⟨r6.toNat, by omega⟩; have J7 := J6.call hGp hCp)
                go_loopw [11, 12] (fun i _ wr => ∃ (j zz ss : Nat) (a : Option Addr) (c : Nat) (xs : List Value), (j : Int) ≤ 1 + nn ∧ i = .int .i64 j ∧ zz ≤ z + 110 + 80 * j ∧ Mj g B ca cn cc w U0 b3 { p0 5 tb with a7 := a, n7 := j, c7 := c } zz ss wr ∧ wr.ownsRow U0.heap.size 47 1 (.slice a j c) j xs ∧ Osl b3 wr (Value.ownBlock (.slice a j c)) xs) (fun i _ _ => (1 + nn) - (intOf i).toNat)
                case atStart => exact ⟨0, z6, s6, none, 0, [], by omega, rfl, by omega, J7, World.ownsRow_nil _ _ _ _, Osl.nil _ _ _⟩
                case round =>
                  obtain ⟨j, zz, ss, a, c, xs, hj, rfl, hzz, J8, hO, hOs⟩ := hrel
                  have hb3 : g < U0.heap.size := by omega
                  have e15 : nb 3 = 15 := rfl
                  have e75 : pb 3 = 75 := rfl
                  by_cases hjl : (j : Int) < 1 + nn
                  · go_wp2_with (go_at_call 16; refine (pick_any g B ca cn cc zz ss _ J8.m.cu (by omega) _ (by omega)).mono ?_; rintro e w8 ⟨r8, z8, s8, rfl, hr80, hr81, -, hz8, hCq, hGq⟩; have J9 := J8.call hGq hCq)
                    have J9d := J9.dr
                    have c7 : w8.drew.cell? ⟨b3, 7, none⟩ = some (.slice a j c) := J9d.m.r3.q.c7
                    have hs9 := J9d.m.gr.size
                    have l9 := J9d.m.lt3
                    have hO8 := (own_gr hO hGq hb3).drew
                    have hOs8 := (hOs.gr hGq (Or.inr (fun k e => by have e : g = k := Option.some.inj e; omega))).gr (gd w8 (some g)) (Or.inr (fun k e => by have e : g = k := Option.some.inj e; omega))
                    clear hO hOs J8 J9 hGq hCq
                    refine wp_region_held_drew (S := fun _ => True) (by kernel_rfl) trivial (fun _ => ?_)
                    refine wpAnyH_take (i := 0) (oi := ({ dst := some 45, op := Op.fieldAddr 50 (Operand.tmp 3) 7, type := 0, pos := "l5_replay.go:502", after := #[], guard := none } : Oper)) (v := .pointer (some ⟨b3, 7, none⟩)) rfl (by kernel_rfl) (by kernel_rfl) (by kernel_rfl) (fun _ _ _ h => h) (Or.inl ⟨by rfl, fun w hSw => by go_simp⟩) trivial ?_
                    simp only [Act.put, List.setIfInBounds_toArray, List.set_cons_zero, List.set_cons_succ]
                    refine wpAnyH_take (i := 2) (oi := ({ dst := some 47, op := Op.move (Operand.tmp 0), type := 32, pos := "l5_replay.go:502", after := #[], guard := none } : Oper)) (v := .pointer (some ⟨g, 0, none⟩)) rfl (by kernel_rfl) (by kernel_rfl) (by kernel_rfl) (fun _ _ _ h => h) (Or.inl ⟨by rfl, fun w hSw => by go_simp⟩) trivial ?_
                    simp only [Act.put, List.setIfInBounds_toArray, List.set_cons_zero, List.set_cons_succ]
                    refine wpAnyH_take (i := 3) (oi := ({ dst := some 48, op := Op.move (Operand.tmp 4), type := 45, pos := "l5_replay.go:502", after := #[], guard := none } : Oper)) (v := .slice (some ⟨gc, 0, none⟩) n n) rfl (by kernel_rfl) (by kernel_rfl) (by kernel_rfl) (fun _ _ _ h => h) (Or.inl ⟨by rfl, fun w hSw => by go_simp⟩) trivial ?_
                    simp only [Act.put, List.setIfInBounds_toArray, List.set_cons_zero, List.set_cons_succ]
                    refine wpAnyH_take (i := 4) (oi := ({ dst := some 49, op := Op.move (Operand.tmp 12), type := 3, pos := "l5_replay.go:502", after := #[], guard := none } : Oper)) (v := .int .i64 (1 + r8)) rfl (by kernel_rfl) (by kernel_rfl) (by kernel_rfl) (fun _ _ _ h => h) (Or.inl ⟨by rfl, fun w hSw => by go_simp⟩) trivial ?_
                    simp only [Act.put, List.setIfInBounds_toArray, List.set_cons_zero, List.set_cons_succ]
                    refine wpAnyH_ready (rs := [1, 5]) (by kernel_rfl) (by simp) ?_
                    refine AllReadyH.cons (o := ({ dst := some 46, op := Op.load 48 (Operand.tmp 45), type := 48, pos := "l5_replay.go:502", after := #[{ on := 0, ground := Ground.data }], guard := none } : Oper)) rfl (fun K hK => ?_) (AllReadyH.cons (o := ({ dst := some 50, op := Op.call { callee := Callee.value (Operand.func 31), args := #[Operand.tmp 47, Operand.tmp 48, Operand.tmp 49, Operand.const (Value.int IntKind.i64 0)], argTypes := #[32, 45, 3, 3] }, type := 47, pos := "l5_replay.go:502", after := #[{ on := 2, ground := Ground.data }, { on := 3, ground := Ground.data }, { on := 4, ground := Ground.data }], guard := none } : Oper)) rfl (fun K hK => ?_) AllReadyH.nil)
                    · go_simp
                      refine hK.out _ _ trivial (fun _ => ?_)
                      clear hK K
                      refine wpAnyH_ready (rs := [5]) (by kernel_rfl) (by simp) ?_
                      refine AllReadyH.cons (o := ({ dst := some 50, op := Op.call { callee := Callee.value (Operand.func 31), args := #[Operand.tmp 47, Operand.tmp 48, Operand.tmp 49, Operand.const (Value.int IntKind.i64 0)], argTypes := #[32, 45, 3, 3] }, type := 47, pos := "l5_replay.go:502", after := #[{ on := 2, ground := Ground.data }, { on := 3, ground := Ground.data }, { on := 4, ground := Ground.data }], guard := none } : Oper)) rfl (fun K hK => ?_) AllReadyH.nil
                      go_simp
                      refine (drawExp_any g B ca cn cc 3 (by omega) 0 z8 s8 (some ⟨gc, 0, none⟩) n n (1 + r8) _ (by omega) J9d.m.cu (by omega) (by omega) (hco5.ka J9d.ka hfc) hgg hn1 (by omega)).mono ?_
                      rintro e w9 ⟨m9, g9, cap9, z9, s9, xs9, rfl, hm9, hm9', hI9, hO9, hz9, hC9, hG9⟩
                      have J10 := J9d.call hG9 hC9
                      have hg9 := grow_le hO9
                      have hl9 := (hO9.lt g9 rfl).2
                      have hO10 := (own_gr hO8 hG9 hb3).alloc (.cells #[.slice (some ⟨g9, 0, none⟩) m9 cap9] 47)
                      have J11 := J10.al (.cells #[.slice (some ⟨g9, 0, none⟩) m9 cap9] 47)
                      have hOs11 := ((hOs8.gr hG9 (Or.inr (fun k e => by have e : g = k := Option.some.inj e; omega))).snoc (c := cap9) (by omega) (fun e => by have := (hO8.lt g9 e.symm).2; omega) hl9 (ie_own hO9 hI9 (by omega) (by omega)) (by omega)).gr (galloc w9 (.cells #[.slice (some ⟨g9, 0, none⟩) m9 cap9] 47) none) (Or.inr (fun k e => by cases e))
                      have l10 := J10.m.lt3
                      have sz10 := J10.sz
                      have hs10 := J10.m.gr.size
                      refine hK.out _ _ trivial (fun _ => ?_)
                      clear hK K
                      refine wpAnyH_ready (rs := [6]) (by kernel_rfl) (by simp) ?_
                      refine AllReadyH.cons (o := ({ dst := some 51, op := Op.buildSlice 48 1 #[(0, Operand.tmp 50)], type := 48, pos := "l5_replay.go:502", after := #[{ on := 5, ground := Ground.data }], guard := none } : Oper)) rfl (fun K hK => ?_) AllReadyH.nil
                      go_simp
                      refine hK.out _ _ trivial (fun _ => ?_)
                      clear hK K
                      refine wpAnyH_ready (rs := [7]) (by kernel_rfl) (by simp) ?_
                      refine AllReadyH.cons (o := ({ dst := some 52, op := Op.call { callee := Callee.builtin Builtin.append, args := #[Operand.tmp 46, Operand.tmp 51], argTypes := #[48, 48] }, type := 48, pos := "l5_replay.go:502", after := #[{ on := 1, ground := Ground.data }, { on := 6, ground := Ground.data }, { on := 5, ground := Ground.chain }], guard := none } : Oper)) rfl (fun K hK => ?_) AllReadyH.nil
                      rw [if_pos (by kernel_rfl)]
                      refine wp_append_lies _ _ _ _ rfl U0.heap.size 47 i0 (.slice none 0 0) 1 24 Try.underlying48 HI.out hi0 hi1 hi2 rfl (by omega) (.slice a j c) j xs rfl hO10 ⟨w9.heap.size, 0, none⟩ 1 1 [.slice (some ⟨g9, 0, none⟩) m9 cap9] rfl rfl (World.news_of_block (heap_alloc_new w9 _)) (ones _ rfl) (by omega) (by unfold maxLen; omega) (by omega) (by simp; omega) _ rfl ?_
                      intro g11 cap11 w11 hO11 hgr11 hat11 hlt11
                      refine hK.out _ _ trivial (fun _ => ?_)
                      clear hK K
                      simp only [Act.put, List.setIfInBounds_toArray, List.set_cons_zero, List.set_cons_succ]
                      have hr11 : ∀ k, Value.ownBlock (.slice a j c) = some k → U0.heap.size ≤ k := fun k e => (hO10.lt k e).1
                      have W11 := J11.w8 hgr11 hr11 hl6
                      have c7'' := W11.q.c7
                      have f7 := W11.f 7 (by omega)
                      have hOsl := hOs11.grow hgr11 g11 hat11
                      have J12 := J11.app hgr11 hr11 hl6 (W11.s7 (some ⟨g11, 0, none⟩) (j + 1) cap11) ((sf0 b3 w11 5 tb htb).w7 _ _ _ (of_own hO11 hOsl hl6) (by omega))
                      refine wpAnyH_take (i := 8) (oi := ({ dst := some 53, op := Op.fieldAddr 50 (Operand.tmp 3) 7, type := 0, pos := "l5_replay.go:502", after := #[{ on := 0, ground := Ground.phase }, { on := 1, ground := Ground.phase }, { on := 2, ground := Ground.phase }, { on := 3, ground := Ground.phase }, { on := 4, ground := Ground.phase }, { on := 5, ground := Ground.phase }, { on := 6, ground := Ground.phase }, { on := 7, ground := Ground.phase }], guard := none } : Oper)) (v := .pointer (some ⟨b3, 7, none⟩)) rfl (by kernel_rfl) (by kernel_rfl) (by kernel_rfl) (fun _ _ _ h => h) (Or.inl ⟨by rfl, fun w hSw => by go_simp⟩) trivial ?_
                      simp only [Act.put, List.setIfInBounds_toArray, List.set_cons_zero, List.set_cons_succ]
                      refine wpAnyH_ready (rs := [9]) (by kernel_rfl) (by simp) ?_
                      refine AllReadyH.cons (o := ({ dst := none, op := Op.store 48 (Operand.tmp 53) (Operand.tmp 52), type := 0, pos := "l5_replay.go:502", after := #[{ on := 8, ground := Ground.data }, { on := 7, ground := Ground.data }, { on := 7, ground := Ground.chain }, { on := 0, ground := Ground.phase }, { on := 1, ground := Ground.phase }, { on := 2, ground := Ground.phase }, { on := 3, ground := Ground.phase }, { on := 4, ground := Ground.phase }, { on := 5, ground := Ground.phase }, { on := 6, ground := Ground.phase }, { on := 7, ground := Ground.phase }], guard := none } : Oper)) rfl (fun K hK => ?_) AllReadyH.nil
                      go_simp
                      refine hK.out _ _ trivial (fun _ => ?_)
                      clear hK K
                      refine wpAnyH_done (by kernel_rfl) ?_ _
                      go_wp2
                      go_roundw
                      case rel => exact ⟨j + 1, z9, s9, some ⟨g11, 0, none⟩, cap11, _, by omega, by go_num, by omega, J12, own_gr hO11 (gset w11 b3 7 _) hl6, hOsl.gr (gset w11 b3 7 _) (Or.inr (fun k e => by have e : b3 = k := Option.some.inj e; omega))⟩
                      case measure => simp [intOf]; omega
                    · go_simp
                      refine (drawExp_any g B ca cn cc 3 (by omega) 0 z8 s8 (some ⟨gc, 0, none⟩) n n (1 + r8) _ (by omega) J9d.m.cu (by omega) (by omega) (hco5.ka J9d.ka hfc) hgg hn1 (by omega)).mono ?_
                      rintro e w9 ⟨m9, g9, cap9, z9, s9, xs9, rfl, hm9, hm9', hI9, hO9, hz9, hC9, hG9⟩
                      have J10 := J9d.call hG9 hC9
                      have hg9 := grow_le hO9
                      have hl9 := (hO9.lt g9 rfl).2
                      have hO10 := (own_gr hO8 hG9 hb3).alloc (.cells #[.slice (some ⟨g9, 0, none⟩) m9 cap9] 47)
                      have J11 := J10.al (.cells #[.slice (some ⟨g9, 0, none⟩) m9 cap9] 47)
                      have hOs11 := ((hOs8.gr hG9 (Or.inr (fun k e => by have e : g = k := Option.some.inj e; omega))).snoc (c := cap9) (by omega) (fun e => by have := (hO8.lt g9 e.symm).2; omega) hl9 (ie_own hO9 hI9 (by omega) (by omega)) (by omega)).gr (galloc w9 (.cells #[.slice (some ⟨g9, 0, none⟩) m9 cap9] 47) none) (Or.inr (fun k e => by cases e))
                      have l10 := J10.m.lt3
                      have sz10 := J10.sz
                      have hs10 := J10.m.gr.size
                      refine hK.out _ _ trivial (fun _ => ?_)
                      clear hK K
                      have c71 : w9.cell? ⟨b3, 7, none⟩ = some (.slice a j c) := J10.m.r3.q.c7
                      refine wpAnyH_ready (rs := [1, 6]) (by kernel_rfl) (by simp) ?_
                      refine AllReadyH.cons (o := ({ dst := some 46, op := Op.load 48 (Operand.tmp 45), type := 48, pos := "l5_replay.go:502", after := #[{ on := 0, ground := Ground.data }], guard := none } : Oper)) rfl (fun K hK => ?_) (AllReadyH.cons (o := ({ dst := some 51, op := Op.buildSlice 48 1 #[(0, Operand.tmp 50)], type := 48, pos := "l5_replay.go:502", after := #[{ on := 5, ground := Ground.data }], guard := none } : Oper)) rfl (fun K hK => ?_) AllReadyH.nil)
                      · go_simp
                        refine hK.out _ _ trivial (fun _ => ?_)
                        clear hK K
                        refine wpAnyH_ready (rs := [6]) (by kernel_rfl) (by simp) ?_
                        refine AllReadyH.cons (o := ({ dst := some 51, op := Op.buildSlice 48 1 #[(0, Operand.tmp 50)], type := 48, pos := "l5_replay.go:502", after := #[{ on := 5, ground := Ground.data }], guard := none } : Oper)) rfl (fun K hK => ?_) AllReadyH.nil
                        go_simp
                        refine hK.out _ _ trivial (fun _ => ?_)
                        clear hK K
                        refine wpAnyH_ready (rs := [7]) (by kernel_rfl) (by simp) ?_
                        refine AllReadyH.cons (o := ({ dst := some 52, op := Op.call { callee := Callee.builtin Builtin.append, args := #[Operand.tmp 46, Operand.tmp 51], argTypes := #[48, 48] }, type := 48, pos := "l5_replay.go:502", after := #[{ on := 1, ground := Ground.data }, { on := 6, ground := Ground.data }, { on := 5, ground := Ground.chain }], guard := none } : Oper)) rfl (fun K hK => ?_) AllReadyH.nil
                        rw [if_pos (by kernel_rfl)]
                        refine wp_append_lies _ _ _ _ rfl U0.heap.size 47 i0 (.slice none 0 0) 1 24 Try.underlying48 HI.out hi0 hi1 hi2 rfl (by omega) (.slice a j c) j xs rfl hO10 ⟨w9.heap.size, 0, none⟩ 1 1 [.slice (some ⟨g9, 0, none⟩) m9 cap9] rfl rfl (World.news_of_block (heap_alloc_new w9 _)) (ones _ rfl) (by omega) (by unfold maxLen; omega) (by omega) (by simp; omega) _ rfl ?_
                        intro g11 cap11 w11 hO11 hgr11 hat11 hlt11
                        refine hK.out _ _ trivial (fun _ => ?_)
                        clear hK K
                        simp only [Act.put, List.setIfInBounds_toArray, List.set_cons_zero, List.set_cons_succ]
                        have hr11 : ∀ k, Value.ownBlock (.slice a j c) = some k → U0.heap.size ≤ k := fun k e => (hO10.lt k e).1
                        have W11 := J11.w8 hgr11 hr11 hl6
                        have c7'' := W11.q.c7
                        have f7 := W11.f 7 (by omega)
                        have hOsl := hOs11.grow hgr11 g11 hat11
                        have J12 := J11.app hgr11 hr11 hl6 (W11.s7 (some ⟨g11, 0, none⟩) (j + 1) cap11) ((sf0 b3 w11 5 tb htb).w7 _ _ _ (of_own hO11 hOsl hl6) (by omega))
                        refine wpAnyH_take (i := 8) (oi := ({ dst := some 53, op := Op.fieldAddr 50 (Operand.tmp 3) 7, type := 0, pos := "l5_replay.go:502", after := #[{ on := 0, ground := Ground.phase }, { on := 1, ground := Ground.phase }, { on := 2, ground := Ground.phase }, { on := 3, ground := Ground.phase }, { on := 4, ground := Ground.phase }, { on := 5, ground := Ground.phase }, { on := 6, ground := Ground.phase }, { on := 7, ground := Ground.phase }], guard := none } : Oper)) (v := .pointer (some ⟨b3, 7, none⟩)) rfl (by kernel_rfl) (by kernel_rfl) (by kernel_rfl) (fun _ _ _ h => h) (Or.inl ⟨by rfl, fun w hSw => by go_simp⟩) trivial ?_
                        simp only [Act.put, List.setIfInBounds_toArray, List.set_cons_zero, List.set_cons_succ]
                        refine wpAnyH_ready (rs := [9]) (by kernel_rfl) (by simp) ?_
                        refine AllReadyH.cons (o := ({ dst := none, op := Op.store 48 (Operand.tmp 53) (Operand.tmp 52), type := 0, pos := "l5_replay.go:502", after := #[{ on := 8, ground := Ground.data }, { on := 7, ground := Ground.data }, { on := 7, ground := Ground.chain }, { on := 0, ground := Ground.phase }, { on := 1, ground := Ground.phase }, { on := 2, ground := Ground.phase }, { on := 3, ground := Ground.phase }, { on := 4, ground := Ground.phase }, { on := 5, ground := Ground.phase }, { on := 6, ground := Ground.phase }, { on := 7, ground := Ground.phase }], guard := none } : Oper)) rfl (fun K hK => ?_) AllReadyH.nil
                        go_simp
                        refine hK.out _ _ trivial (fun _ => ?_)
                        clear hK K
                        refine wpAnyH_done (by kernel_rfl) ?_ _
                        go_wp2
                        go_roundw
                        case rel => exact ⟨j + 1, z9, s9, some ⟨g11, 0, none⟩, cap11, _, by omega, by go_num, by omega, J12, own_gr hO11 (gset w11 b3 7 _) hl6, hOsl.gr (gset w11 b3 7 _) (Or.inr (fun k e => by have e : b3 = k := Option.some.inj e; omega))⟩
                        case measure => simp [intOf]; omega
                      · go_simp
                        refine hK.out _ _ trivial (fun _ => ?_)
                        clear hK K
                        have c72 : (w9.alloc (.cells #[.slice (some ⟨g9, 0, none⟩) m9 cap9] 47)).cell? ⟨b3, 7, none⟩ = some (.slice a j c) := J11.m.r3.q.c7
                        refine wpAnyH_ready (rs := [1]) (by kernel_rfl) (by simp) ?_
                        refine AllReadyH.cons (o := ({ dst := some 46, op := Op.load 48 (Operand.tmp 45), type := 48, pos := "l5_replay.go:502", after := #[{ on := 0, ground := Ground.data }], guard := none } : Oper)) rfl (fun K hK => ?_) AllReadyH.nil
                        go_simp
                        refine hK.out _ _ trivial (fun _ => ?_)
                        clear hK K
                        refine wpAnyH_ready (rs := [7]) (by kernel_rfl) (by simp) ?_
                        refine AllReadyH.cons (o := ({ dst := some 52, op := Op.call { callee := Callee.builtin Builtin.append, args := #[Operand.tmp 46, Operand.tmp 51], argTypes := #[48, 48] }, type := 48, pos := "l5_replay.go:502", after := #[{ on := 1, ground := Ground.data }, { on := 6, ground := Ground.data }, { on := 5, ground := Ground.chain }], guard := none } : Oper)) rfl (fun K hK => ?_) AllReadyH.nil
                        rw [if_pos (by kernel_rfl)]
                        refine wp_append_lies _ _ _ _ rfl U0.heap.size 47 i0 (.slice none 0 0) 1 24 Try.underlying48 HI.out hi0 hi1 hi2 rfl (by omega) (.slice a j c) j xs rfl hO10 ⟨w9.heap.size, 0, none⟩ 1 1 [.slice (some ⟨g9, 0, none⟩) m9 cap9] rfl rfl (World.news_of_block (heap_alloc_new w9 _)) (ones _ rfl) (by omega) (by unfold maxLen; omega) (by omega) (by simp; omega) _ rfl ?_
                        intro g11 cap11 w11 hO11 hgr11 hat11 hlt11
                        refine hK.out _ _ trivial (fun _ => ?_)
                        clear hK K
                        simp only [Act.put, List.setIfInBounds_toArray, List.set_cons_zero, List.set_cons_succ]
                        have hr11 : ∀ k, Value.ownBlock (.slice a j c) = some k → U0.heap.size ≤ k := fun k e => (hO10.lt k e).1
                        have W11 := J11.w8 hgr11 hr11 hl6
                        have c7'' := W11.q.c7
                        have f7 := W11.f 7 (by omega)
                        have hOsl := hOs11.grow hgr11 g11 hat11
                        have J12 := J11.app hgr11 hr11 hl6 (W11.s7 (some ⟨g11, 0, none⟩) (j + 1) cap11) ((sf0 b3 w11 5 tb htb).w7 _ _ _ (of_own hO11 hOsl hl6) (by omega))
                        refine wpAnyH_take (i := 8) (oi := ({ dst := some 53, op := Op.fieldAddr 50 (Operand.tmp 3) 7, type := 0, pos := "l5_replay.go:502", after := #[{ on := 0, ground := Ground.phase }, { on := 1, ground := Ground.phase }, { on := 2, ground := Ground.phase }, { on := 3, ground := Ground.phase }, { on := 4, ground := Ground.phase }, { on := 5, ground := Ground.phase }, { on := 6, ground := Ground.phase }, { on := 7, ground := Ground.phase }], guard := none } : Oper)) (v := .pointer (some ⟨b3, 7, none⟩)) rfl (by kernel_rfl) (by kernel_rfl) (by kernel_rfl) (fun _ _ _ h => h) (Or.inl ⟨by rfl, fun w hSw => by go_simp⟩) trivial ?_
                        simp only [Act.put, List.setIfInBounds_toArray, List.set_cons_zero, List.set_cons_succ]
                        refine wpAnyH_ready (rs := [9]) (by kernel_rfl) (by simp) ?_
                        refine AllReadyH.cons (o := ({ dst := none, op := Op.store 48 (Operand.tmp 53) (Operand.tmp 52), type := 0, pos := "l5_replay.go:502", after := #[{ on := 8, ground := Ground.data }, { on := 7, ground := Ground.data }, { on := 7, ground := Ground.chain }, { on := 0, ground := Ground.phase }, { on := 1, ground := Ground.phase }, { on := 2, ground := Ground.phase }, { on := 3, ground := Ground.phase }, { on := 4, ground := Ground.phase }, { on := 5, ground := Ground.phase }, { on := 6, ground := Ground.phase }, { on := 7, ground := Ground.phase }], guard := none } : Oper)) rfl (fun K hK => ?_) AllReadyH.nil
                        go_simp
                        refine hK.out _ _ trivial (fun _ => ?_)
                        clear hK K
                        refine wpAnyH_done (by kernel_rfl) ?_ _
                        go_wp2
                        go_roundw
                        case rel => exact ⟨j + 1, z9, s9, some ⟨g11, 0, none⟩, cap11, _, by omega, by go_num, by omega, J12, own_gr hO11 (gset w11 b3 7 _) hl6, hOsl.gr (gset w11 b3 7 _) (Or.inr (fun k e => by have e : b3 = k := Option.some.inj e; omega))⟩
                        case measure => simp [intOf]; omega
                  · have c6 := J8.m.r3.q.c6
                    have f6 := J8.m.r3.f 6 (by omega)
                    have J13 := J8.w6 aw nw cw (hiw.ka J8.ka hfaw) (by omega) hfaw
                    go_wp2
                    go_meet
                    exact ⟨_, zz, ss, by omega, J13, (fun e => absurd (show (5 : Int) = 1 from e) (by decide)), (fun e => absurd (show (5 : Int) = 2 from e) (by decide)), Or.inr (Or.inr (Or.inr (Or.inr ⟨rfl, rfl, rfl, rfl, rfl, by show 1 ≤ j; omega⟩)))⟩
      case rest =>
        obtain ⟨p, z5, s5, hz5, J0, hk1, hk2, hsh⟩ := hcut
        have HSH : Hid (Shp p) := hsh
        clear hsh
        clear J5 M5 hiw
        have hl7 := J0.m.lt3
        go_upto_if 117 with (go_at_call 16; refine (pick_any g B ca cn cc z5 s5 _ J0.m.cu (by omega) _ (by omega)).mono ?_; rintro e w6 ⟨r6, z6, s6, rfl, hr60, hr61, -, hz6, hCp, hGp⟩; have J1 := J0.call hGp hCp)
        have hl8 := J1.m.lt3
        have hs8 := J1.m.gr.size
        have c0 := J1.m.r3.q.c0
        go_cut [13, 128, 141, 162] (fun _ _ _ _ wx => ∃ (p' : SP) (z7 s7 : Nat), z7 ≤ z + 700 ∧ Mk8 g B ca cn cc w w.heap.size b3 p' z7 s7 wx ∧ Shp p')
        case first =>
          by_cases h5 : r6 = 5
          · subst h5
            by_cases e1 : p.k = 1
            · as_aux_lemma =>
                obtain ⟨h1n, h3n⟩ := hk1 e1
                obtain ⟨i0, hi, hi0, hi1, hi2⟩ := info_parts Try.info65c
                have HI : Hid (Try.prog.info? 65 = some i0) := hi
                clear hi
                obtain ⟨b, off, m, S, ea, d0, d1, hS⟩ := J1.m.sf.co 0 (by omega)
                have hbf : b3 < b := J1.m.sf.f2 b off ea
                have hpos : (0 : Int) < (p.n2 : Int) := by omega
                have hne0 : ¬ p.n2 = 0 := by omega
                rw [Nat.zero_mul, Nat.add_zero] at d0 d1
                go_wp2
                obtain ⟨Y, hY⟩ : ∃ Y, w6.drew = Y := ⟨_, rfl⟩
                have K0 : Mj g B ca cn cc w Y b3 p z6 s6 Y := ⟨by rw [← hY]; exact J1.dr.m, fun _ _ _ h => h, hB, hlt, by omega, Nat.le_refl _⟩
                have d0' : Y.cell? ⟨b, off, none⟩ = some (.string S) := by rw [← hY]; exact d0
                have d1' : Y.cell? ⟨b, off + 1, none⟩ = some (.int .i64 m) := by rw [← hY]; exact d1
                have hlY := K0.m.lt3
                have hsY := K0.m.gr.size
                have hbY := World.block_lt_of_cell? _ _ d0'
                have mkS : ∀ {X : World}, Mj g B ca cn cc w Y b3 p z6 s6 X → X.cell? ⟨b3, 2, none⟩ = some (.slice (some ⟨b, off, none⟩) p.n2 p.c2) ∧ X.cell? ⟨b, off, none⟩ = some (.string S) ∧ X.cell? ⟨b, off + 1, none⟩ = some (.int .i64 m) := fun K => ⟨by rw [← ea]; exact K.m.r3.q.c2, K.ka _ _ hbf d0', K.ka _ _ hbf d1'⟩
                obtain ⟨news, hN, hnews⟩ := co_list (w := Y) (b := b) (off := off) p.n2 (by rw [← ea]; exact K0.m.sf.co)
                have hkn : ∀ {X : World}, Mj g B ca cn cc w Y b3 p z6 s6 X → ∀ j u, news[j]? = some u → X.cell? ((⟨b, off, none⟩ : Addr).add j) = some u := fun K j u hu => by rw [addo]; exact K.ka _ _ hbf (hnews j u hu)
                have hNl := hN.1
                have S0 := mkS K0
                refine AnyT.begin (fun w' => w'.cell? ⟨b3, 2, none⟩ = some (.slice (some ⟨b, off, none⟩) p.n2 p.c2) ∧ w'.cell? ⟨b, off, none⟩ = some (.string S) ∧ w'.cell? ⟨b, off + 1, none⟩ = some (.int .i64 m)) 11 (by kernel_rfl) ?_
                rw [hY]
                refine AnyT.take (i := 1) (oi := ({ dst := some 131, op := Op.fieldAddr 50 (Operand.tmp 3) 2, type := 0, pos := "l5_replay.go:510", after := #[], guard := none } : Oper)) (ot := ({ dst := none, op := Op.store 45 (Operand.tmp 140) (Operand.tmp 139), type := 0, pos := "l5_replay.go:510", after := #[{ on := 10, ground := Ground.data }, { on := 9, ground := Ground.data }, { on := 9, ground := Ground.chain }, { on := 0, ground := Ground.phase }, { on := 1, ground := Ground.phase }, { on := 2, ground := Ground.phase }, { on := 3, ground := Ground.phase }, { on := 4, ground := Ground.phase }, { on := 5, ground := Ground.phase }, { on := 6, ground := Ground.phase }, { on := 7, ground := Ground.phase }, { on := 8, ground := Ground.phase }, { on := 9, ground := Ground.phase }], guard := none } : Oper)) (v := .pointer (some ⟨b3, 2, none⟩)) rfl (by decide) rfl (by kernel_rfl) (by kernel_rfl) (by kernel_rfl) (by kernel_rfl) (fun _ _ _ h => h) (Or.inl ⟨by rfl, fun w hSw => by obtain ⟨hs0, hs1, hs2⟩ := hSw; go_simp⟩) S0 ?_
                simp only [Act.put, List.setIfInBounds_toArray, List.set_cons_zero, List.set_cons_succ]
                refine AnyT.take (i := 2) (oi := ({ dst := some 132, op := Op.load 45 (Operand.tmp 131), type := 45, pos := "l5_replay.go:510", after := #[{ on := 1, ground := Ground.data }], guard := none } : Oper)) (ot := ({ dst := none, op := Op.store 45 (Operand.tmp 140) (Operand.tmp 139), type := 0, pos := "l5_replay.go:510", after := #[{ on := 10, ground := Ground.data }, { on := 9, ground := Ground.data }, { on := 9, ground := Ground.chain }, { on := 0, ground := Ground.phase }, { on := 1, ground := Ground.phase }, { on := 2, ground := Ground.phase }, { on := 3, ground := Ground.phase }, { on := 4, ground := Ground.phase }, { on := 5, ground := Ground.phase }, { on := 6, ground := Ground.phase }, { on := 7, ground := Ground.phase }, { on := 8, ground := Ground.phase }, { on := 9, ground := Ground.phase }], guard := none } : Oper)) (v := .slice (some ⟨b, off, none⟩) p.n2 p.c2) rfl (by decide) rfl (by kernel_rfl) (by kernel_rfl) (by kernel_rfl) (by kernel_rfl) (fun _ _ _ h => h) (Or.inl ⟨by rfl, fun w hSw => by obtain ⟨hs0, hs1, hs2⟩ := hSw; go_simp⟩) S0 ?_
                simp only [Act.put, List.setIfInBounds_toArray, List.set_cons_zero, List.set_cons_succ]
                refine AnyT.take (i := 4) (oi := ({ dst := some 134, op := Op.fieldAddr 50 (Operand.tmp 3) 2, type := 0, pos := "l5_replay.go:510", after := #[], guard := none } : Oper)) (ot := ({ dst := none, op := Op.store 45 (Operand.tmp 140) (Operand.tmp 139), type := 0, pos := "l5_replay.go:510", after := #[{ on := 10, ground := Ground.data }, { on := 9, ground := Ground.data }, { on := 9, ground := Ground.chain }, { on := 0, ground := Ground.phase }, { on := 1, ground := Ground.phase }, { on := 2, ground := Ground.phase }, { on := 3, ground := Ground.phase }, { on := 4, ground := Ground.phase }, { on := 5, ground := Ground.phase }, { on := 6, ground := Ground.phase }, { on := 7, ground := Ground.phase }, { on := 8, ground := Ground.phase }, { on := 9, ground := Ground.phase }], guard := none } : Oper)) (v := .pointer (some ⟨b3, 2, none⟩)) rfl (by decide) rfl (by kernel_rfl) (by kernel_rfl) (by kernel_rfl) (by kernel_rfl) (fun _ _ _ h => h) (Or.inl ⟨by rfl, fun w hSw => by obtain ⟨hs0, hs1, hs2⟩ := hSw; go_simp⟩) S0 ?_
                simp only [Act.put, List.setIfInBounds_toArray, List.set_cons_zero, List.set_cons_succ]
                refine AnyT.take (i := 5) (oi := ({ dst := some 135, op := Op.load 45 (Operand.tmp 134), type := 45, pos := "l5_replay.go:510", after := #[{ on := 4, ground := Ground.data }], guard := none } : Oper)) (ot := ({ dst := none, op := Op.store 45 (Operand.tmp 140) (Operand.tmp 139), type := 0, pos := "l5_replay.go:510", after := #[{ on := 10, ground := Ground.data }, { on := 9, ground := Ground.data }, { on := 9, ground := Ground.chain }, { on := 0, ground := Ground.phase }, { on := 1, ground := Ground.phase }, { on := 2, ground := Ground.phase }, { on := 3, ground := Ground.phase }, { on := 4, ground := Ground.phase }, { on := 5, ground := Ground.phase }, { on := 6, ground := Ground.phase }, { on := 7, ground := Ground.phase }, { on := 8, ground := Ground.phase }, { on := 9, ground := Ground.phase }], guard := none } : Oper)) (v := .slice (some ⟨b, off, none⟩) p.n2 p.c2) rfl (by decide) rfl (by kernel_rfl) (by kernel_rfl) (by kernel_rfl) (by kernel_rfl) (fun _ _ _ h => h) (Or.inl ⟨by rfl, fun w hSw => by obtain ⟨hs0, hs1, hs2⟩ := hSw; go_simp⟩) S0 ?_
                simp only [Act.put, List.setIfInBounds_toArray, List.set_cons_zero, List.set_cons_succ]
                refine AnyT.take (i := 6) (oi := ({ dst := some 136, op := Op.indexAddr 45 (Operand.tmp 135) (Operand.const (Value.int IntKind.i64 0)), type := 0, pos := "l5_replay.go:510", after := #[{ on := 5, ground := Ground.data }], guard := none } : Oper)) (ot := ({ dst := none, op := Op.store 45 (Operand.tmp 140) (Operand.tmp 139), type := 0, pos := "l5_replay.go:510", after := #[{ on := 10, ground := Ground.data }, { on := 9, ground := Ground.data }, { on := 9, ground := Ground.chain }, { on := 0, ground := Ground.phase }, { on := 1, ground := Ground.phase }, { on := 2, ground := Ground.phase }, { on := 3, ground := Ground.phase }, { on := 4, ground := Ground.phase }, { on := 5, ground := Ground.phase }, { on := 6, ground := Ground.phase }, { on := 7, ground := Ground.phase }, { on := 8, ground := Ground.phase }, { on := 9, ground := Ground.phase }], guard := none } : Oper)) (v := .pointer (some ⟨b, off, none⟩)) rfl (by decide) rfl (by kernel_rfl) (by kernel_rfl) (by kernel_rfl) (by kernel_rfl) (fun _ _ _ h => h) (Or.inl ⟨by rfl, fun w hSw => by obtain ⟨hs0, hs1, hs2⟩ := hSw; go_simp⟩) S0 ?_
                simp only [Act.put, List.setIfInBounds_toArray, List.set_cons_zero, List.set_cons_succ]
                refine AnyT.take (i := 7) (oi := ({ dst := some 137, op := Op.load 65 (Operand.tmp 136), type := 65, pos := "l5_replay.go:510", after := #[{ on := 6, ground := Ground.data }], guard := none } : Oper)) (ot := ({ dst := none, op := Op.store 45 (Operand.tmp 140) (Operand.tmp 139), type := 0, pos := "l5_replay.go:510", after := #[{ on := 10, ground := Ground.data }, { on := 9, ground := Ground.data }, { on := 9, ground := Ground.chain }, { on := 0, ground := Ground.phase }, { on := 1, ground := Ground.phase }, { on := 2, ground := Ground.phase }, { on := 3, ground := Ground.phase }, { on := 4, ground := Ground.phase }, { on := 5, ground := Ground.phase }, { on := 6, ground := Ground.phase }, { on := 7, ground := Ground.phase }, { on := 8, ground := Ground.phase }, { on := 9, ground := Ground.phase }], guard := none } : Oper)) (v := .agg #[.string S, .int .i64 m]) rfl (by decide) rfl (by kernel_rfl) (by kernel_rfl) (by kernel_rfl) (by kernel_rfl) (fun _ _ _ h => h) (Or.inl ⟨by rfl, fun w hSw => by obtain ⟨hs0, hs1, hs2⟩ := hSw; go_simp⟩) S0 ?_
                simp only [Act.put, List.setIfInBounds_toArray, List.set_cons_zero, List.set_cons_succ]
                refine AnyT.ready (rs := [0, 8]) (by kernel_rfl) (by simp) ?_
                refine (ReadyT.cons (o := ({ dst := some 130, op := Op.buildSlice 45 0 #[], type := 45, pos := "l5_replay.go:510", after := #[], guard := none } : Oper)) rfl (fun K hK => ?_) (ReadyT.cons (o := ({ dst := some 138, op := Op.buildSlice 45 1 #[(0, Operand.tmp 137)], type := 45, pos := "l5_replay.go:510", after := #[{ on := 7, ground := Ground.data }], guard := none } : Oper)) rfl (fun K hK => ?_) ReadyT.nil))
                · have K1 := K0.al (.cells #[] 65)
                  have O1 : (Y.alloc (.cells #[] 65)).ownsRow Y.heap.size 65 2 (.slice (some ⟨Y.heap.size, 0, none⟩) 0 0) 0 [] := World.ownsRow_lit Y #[] 0 (Nat.le_refl _) (by simp [maxLen]) rfl
                  go_simp
                  refine hK.out _ _ (fun _ => (mkS K1)) ?_
                  clear hK K
                  refine AnyT.ready (rs := [3, 8]) (by kernel_rfl) (by simp) ?_
                  refine (ReadyT.cons (o := ({ dst := some 133, op := Op.call { callee := Callee.builtin Builtin.append, args := #[Operand.tmp 130, Operand.tmp 132], argTypes := #[45, 45] }, type := 45, pos := "l5_replay.go:510", after := #[{ on := 0, ground := Ground.data }, { on := 2, ground := Ground.data }], guard := none } : Oper)) rfl (fun K hK => ?_) (ReadyT.cons (o := ({ dst := some 138, op := Op.buildSlice 45 1 #[(0, Operand.tmp 137)], type := 45, pos := "l5_replay.go:510", after := #[{ on := 7, ground := Ground.data }], guard := none } : Oper)) rfl (fun K hK => ?_) ReadyT.nil))
                  · rw [if_pos (by kernel_rfl)]
                    refine wp_append_lies _ _ _ _ rfl Y.heap.size 65 i0 (.agg #[.string ⟨#[]⟩, .int .i64 0]) 2 24 Try.underlying45 HI.out hi0 hi1 hi2 rfl (by omega) (.slice (some ⟨Y.heap.size, 0, none⟩) 0 0) 0 [] rfl O1 ⟨b, off, none⟩ p.n2 p.c2 news rfl hNl (hkn K1) hN.cells1 (by omega) (by unfold maxLen; omega) (by omega) (K1.sz) _ rfl ?_
                    intro g3 cap3 X3 hO3 hgr3 hat3 hlt3
                    rw [Nat.zero_add, List.nil_append] at hO3
                    rw [Nat.zero_add]
                    have hr3 : ∀ k, Value.ownBlock (.slice (some ⟨Y.heap.size, 0, none⟩) 0 0) = some k → Y.heap.size ≤ k := fun k e => by have e : Y.heap.size = k := Option.some.inj e; omega
                    have K3 := K1.rowq K0.m.sf hgr3 hr3 hlY
                    refine hK.out _ _ (fun _ => (mkS K3)) ?_
                    clear hK K
                    simp only [Act.put, List.setIfInBounds_toArray, List.set_cons_zero, List.set_cons_succ]
                    have K4 := K3.al (.cells #[.string S, .int .i64 m] 65)
                    have x0 : (X3.alloc (.cells #[.string S, .int .i64 m] 65)).cell? ⟨X3.heap.size, 0, none⟩ = some (.string S) := (cell_of_row _ _ 0 _ _ _ (heap_alloc_new X3 _)).trans rfl
                    have x1 : (X3.alloc (.cells #[.string S, .int .i64 m] 65)).cell? ⟨X3.heap.size, 1, none⟩ = some (.int .i64 m) := (cell_of_row _ _ 1 _ _ _ (heap_alloc_new X3 _)).trans rfl
                    refine AnyT.ready (rs := [8]) (by kernel_rfl) (by simp) ?_
                    refine (ReadyT.cons (o := ({ dst := some 138, op := Op.buildSlice 45 1 #[(0, Operand.tmp 137)], type := 45, pos := "l5_replay.go:510", after := #[{ on := 7, ground := Ground.data }], guard := none } : Oper)) rfl (fun K hK => ?_) ReadyT.nil)
                    go_simp
                    refine hK.out _ _ (fun _ => (mkS K4)) ?_
                    clear hK K
                    refine AnyT.ready (rs := [9]) (by kernel_rfl) (by simp) ?_
                    refine (ReadyT.cons (o := ({ dst := some 139, op := Op.call { callee := Callee.builtin Builtin.append, args := #[Operand.tmp 133, Operand.tmp 138], argTypes := #[45, 45] }, type := 45, pos := "l5_replay.go:510", after := #[{ on := 3, ground := Ground.data }, { on := 8, ground := Ground.data }, { on := 3, ground := Ground.chain }], guard := none } : Oper)) rfl (fun K hK => ?_) ReadyT.nil)
                    rw [if_pos (by kernel_rfl)]
                    refine wp_append_lies _ _ _ _ rfl Y.heap.size 65 i0 (.agg #[.string ⟨#[]⟩, .int .i64 0]) 2 24 Try.underlying45 HI.out hi0 hi1 hi2 rfl (by omega) (.slice (some ⟨g3, 0, none⟩) p.n2 cap3) p.n2 news rfl (hO3.alloc _) ⟨X3.heap.size, 0, none⟩ 1 1 [.string S, .int .i64 m] rfl rfl (news2 x0 x1) (Cls.one _ _ hS).cells1 (by omega) (by unfold maxLen; omega) (by omega) (Nat.le_trans (Nat.le_refl _) K4.sz) _ rfl ?_
                    intro g9 cap9 X9 hO9 hgr9 hat9 hlt9
                    have hg3 := grow_le hO3
                    have hr9 : ∀ k, Value.ownBlock (.slice (some ⟨g3, 0, none⟩) p.n2 cap3) = some k → Y.heap.size ≤ k := fun k e => by have e : g3 = k := Option.some.inj e; omega
                    have K9 := K4.rowq K0.m.sf hgr9 hr9 hlY
                    refine hK.out _ _ (fun _ => (mkS K9)) ?_
                    clear hK K
                    simp only [Act.put, List.setIfInBounds_toArray, List.set_cons_zero, List.set_cons_succ]
                    have hg9 := grow_le hO9
                    have c2 := K9.m.r3.q.c2
                    have f2 := K9.m.r3.f 2 (by omega)
                    have K10 := K9.w2 (some ⟨g9, 0, none⟩) (p.n2 + 1) cap9 (co_own hO9 (hN.app (Cls.one m S hS))) (by omega) (far_some (by omega))
                    refine AnyT.take (i := 10) (oi := ({ dst := some 140, op := Op.fieldAddr 50 (Operand.tmp 3) 2, type := 0, pos := "l5_replay.go:510", after := #[{ on := 0, ground := Ground.phase }, { on := 1, ground := Ground.phase }, { on := 2, ground := Ground.phase }, { on := 3, ground := Ground.phase }, { on := 4, ground := Ground.phase }, { on := 5, ground := Ground.phase }, { on := 6, ground := Ground.phase }, { on := 7, ground := Ground.phase }, { on := 8, ground := Ground.phase }, { on := 9, ground := Ground.phase }], guard := none } : Oper)) (ot := ({ dst := none, op := Op.store 45 (Operand.tmp 140) (Operand.tmp 139), type := 0, pos := "l5_replay.go:510", after := #[{ on := 10, ground := Ground.data }, { on := 9, ground := Ground.data }, { on := 9, ground := Ground.chain }, { on := 0, ground := Ground.phase }, { on := 1, ground := Ground.phase }, { on := 2, ground := Ground.phase }, { on := 3, ground := Ground.phase }, { on := 4, ground := Ground.phase }, { on := 5, ground := Ground.phase }, { on := 6, ground := Ground.phase }, { on := 7, ground := Ground.phase }, { on := 8, ground := Ground.phase }, { on := 9, ground := Ground.phase }], guard := none } : Oper)) (v := .pointer (some ⟨b3, 2, none⟩)) rfl (by decide) rfl (by kernel_rfl) (by kernel_rfl) (by kernel_rfl) (by kernel_rfl) (fun _ _ _ h => h) (Or.inl ⟨by rfl, fun w hSw => by obtain ⟨hs0, hs1, hs2⟩ := hSw; go_simp⟩) (mkS K9) ?_
                    simp only [Act.put, List.setIfInBounds_toArray, List.set_cons_zero, List.set_cons_succ]
                    refine AnyT.ready (rs := [11]) (by kernel_rfl) (by simp) ?_
                    refine (ReadyT.cons (o := ({ dst := none, op := Op.store 45 (Operand.tmp 140) (Operand.tmp 139), type := 0, pos := "l5_replay.go:510", after := #[{ on := 10, ground := Ground.data }, { on := 9, ground := Ground.data }, { on := 9, ground := Ground.chain }, { on := 0, ground := Ground.phase }, { on := 1, ground := Ground.phase }, { on := 2, ground := Ground.phase }, { on := 3, ground := Ground.phase }, { on := 4, ground := Ground.phase }, { on := 5, ground := Ground.phase }, { on := 6, ground := Ground.phase }, { on := 7, ground := Ground.phase }, { on := 8, ground := Ground.phase }, { on := 9, ground := Ground.phase }], guard := none } : Oper)) rfl (fun K hK => ?_) ReadyT.nil)
                    go_simp
                    refine hK.out _ _ (fun e => absurd rfl e) ?_
                    clear hK K
                    refine AnyT.done (by kernel_rfl) ?_ _
                    go_wp2
                    go_meet
                    exact ⟨_, z6, s6, by omega, K10.m, shpC HSH.out e1 h3n⟩
                  · have K2 := K1.al (.cells #[.string S, .int .i64 m] 65)
                    have hY1 : (Y.alloc (.cells #[] 65)).heap.size = Y.heap.size + 1 := by simp
                    have y0 : ((Y.alloc (.cells #[] 65)).alloc (.cells #[.string S, .int .i64 m] 65)).cell? ⟨Y.heap.size + 1, 0, none⟩ = some (.string S) := by rw [← hY1]; exact (cell_of_row _ _ 0 _ _ _ (heap_alloc_new (Y.alloc (.cells #[] 65)) _)).trans rfl
                    have y1 : ((Y.alloc (.cells #[] 65)).alloc (.cells #[.string S, .int .i64 m] 65)).cell? ⟨Y.heap.size + 1, 1, none⟩ = some (.int .i64 m) := by rw [← hY1]; exact (cell_of_row _ _ 1 _ _ _ (heap_alloc_new (Y.alloc (.cells #[] 65)) _)).trans rfl
                    go_simp
                    refine hK.out _ _ (fun _ => (mkS K2)) ?_
                    clear hK K
                    refine AnyT.ready (rs := [3]) (by kernel_rfl) (by simp) ?_
                    refine (ReadyT.cons (o := ({ dst := some 133, op := Op.call { callee := Callee.builtin Builtin.append, args := #[Operand.tmp 130, Operand.tmp 132], argTypes := #[45, 45] }, type := 45, pos := "l5_replay.go:510", after := #[{ on := 0, ground := Ground.data }, { on := 2, ground := Ground.data }], guard := none } : Oper)) rfl (fun K hK => ?_) ReadyT.nil)
                    rw [if_pos (by kernel_rfl)]
                    refine wp_append_lies _ _ _ _ rfl Y.heap.size 65 i0 (.agg #[.string ⟨#[]⟩, .int .i64 0]) 2 24 Try.underlying45 HI.out hi0 hi1 hi2 rfl (by omega) (.slice (some ⟨Y.heap.size, 0, none⟩) 0 0) 0 [] rfl (O1.alloc _) ⟨b, off, none⟩ p.n2 p.c2 news rfl hNl (hkn K2) hN.cells1 (by omega) (by unfold maxLen; omega) (by omega) (K2.sz) _ rfl ?_
                    intro g3 cap3 X3 hO3 hgr3 hat3 hlt3
                    rw [Nat.zero_add, List.nil_append] at hO3
                    rw [Nat.zero_add]
                    have hr3 : ∀ k, Value.ownBlock (.slice (some ⟨Y.heap.size, 0, none⟩) 0 0) = some k → Y.heap.size ≤ k := fun k e => by have e : Y.heap.size = k := Option.some.inj e; omega
                    have K3 := K2.rowq K0.m.sf hgr3 hr3 hlY
                    refine hK.out _ _ (fun _ => (mkS K3)) ?_
                    clear hK K
                    simp only [Act.put, List.setIfInBounds_toArray, List.set_cons_zero, List.set_cons_succ]
                    have x0 := keepG hgr3 y0 (fun e => by have e : Y.heap.size + 1 = Y.heap.size := Option.some.inj e; omega)
                    have x1 := keepG hgr3 y1 (fun e => by have e : Y.heap.size + 1 = Y.heap.size := Option.some.inj e; omega)
                    refine AnyT.ready (rs := [9]) (by kernel_rfl) (by simp) ?_
                    refine (ReadyT.cons (o := ({ dst := some 139, op := Op.call { callee := Callee.builtin Builtin.append, args := #[Operand.tmp 133, Operand.tmp 138], argTypes := #[45, 45] }, type := 45, pos := "l5_replay.go:510", after := #[{ on := 3, ground := Ground.data }, { on := 8, ground := Ground.data }, { on := 3, ground := Ground.chain }], guard := none } : Oper)) rfl (fun K hK => ?_) ReadyT.nil)
                    rw [if_pos (by kernel_rfl)]
                    refine wp_append_lies _ _ _ _ rfl Y.heap.size 65 i0 (.agg #[.string ⟨#[]⟩, .int .i64 0]) 2 24 Try.underlying45 HI.out hi0 hi1 hi2 rfl (by omega) (.slice (some ⟨g3, 0, none⟩) p.n2 cap3) p.n2 news rfl hO3 ⟨Y.heap.size + 1, 0, none⟩ 1 1 [.string S, .int .i64 m] rfl rfl (news2 x0 x1) (Cls.one _ _ hS).cells1 (by omega) (by unfold maxLen; omega) (by omega) (Nat.le_trans (Nat.le_refl _) K3.sz) _ rfl ?_
                    intro g9 cap9 X9 hO9 hgr9 hat9 hlt9
                    have hg3 := grow_le hO3
                    have hr9 : ∀ k, Value.ownBlock (.slice (some ⟨g3, 0, none⟩) p.n2 cap3) = some k → Y.heap.size ≤ k := fun k e => by have e : g3 = k := Option.some.inj e; omega
                    have K9 := K3.rowq K0.m.sf hgr9 hr9 hlY
                    refine hK.out _ _ (fun _ => (mkS K9)) ?_
                    clear hK K
                    simp only [Act.put, List.setIfInBounds_toArray, List.set_cons_zero, List.set_cons_succ]
                    have hg9 := grow_le hO9
                    have c2 := K9.m.r3.q.c2
                    have f2 := K9.m.r3.f 2 (by omega)
                    have K10 := K9.w2 (some ⟨g9, 0, none⟩) (p.n2 + 1) cap9 (co_own hO9 (hN.app (Cls.one m S hS))) (by omega) (far_some (by omega))
                    refine AnyT.take (i := 10) (oi := ({ dst := some 140, op := Op.fieldAddr 50 (Operand.tmp 3) 2, type := 0, pos := "l5_replay.go:510", after := #[{ on := 0, ground := Ground.phase }, { on := 1, ground := Ground.phase }, { on := 2, ground := Ground.phase }, { on := 3, ground := Ground.phase }, { on := 4, ground := Ground.phase }, { on := 5, ground := Ground.phase }, { on := 6, ground := Ground.phase }, { on := 7, ground := Ground.phase }, { on := 8, ground := Ground.phase }, { on := 9, ground := Ground.phase }], guard := none } : Oper)) (ot := ({ dst := none, op := Op.store 45 (Operand.tmp 140) (Operand.tmp 139), type := 0, pos := "l5_replay.go:510", after := #[{ on := 10, ground := Ground.data }, { on := 9, ground := Ground.data }, { on := 9, ground := Ground.chain }, { on := 0, ground := Ground.phase }, { on := 1, ground := Ground.phase }, { on := 2, ground := Ground.phase }, { on := 3, ground := Ground.phase }, { on := 4, ground := Ground.phase }, { on := 5, ground := Ground.phase }, { on := 6, ground := Ground.phase }, { on := 7, ground := Ground.phase }, { on := 8, ground := Ground.phase }, { on := 9, ground := Ground.phase }], guard := none } : Oper)) (v := .pointer (some ⟨b3, 2, none⟩)) rfl (by decide) rfl (by kernel_rfl) (by kernel_rfl) (by kernel_rfl) (by kernel_rfl) (fun _ _ _ h => h) (Or.inl ⟨by rfl, fun w hSw => by obtain ⟨hs0, hs1, hs2⟩ := hSw; go_simp⟩) (mkS K9) ?_
                    simp only [Act.put, List.setIfInBounds_toArray, List.set_cons_zero, List.set_cons_succ]
                    refine AnyT.ready (rs := [11]) (by kernel_rfl) (by simp) ?_
                    refine (ReadyT.cons (o := ({ dst := none, op := Op.store 45 (Operand.tmp 140) (Operand.tmp 139), type := 0, pos := "l5_replay.go:510", after := #[{ on := 10, ground := Ground.data }, { on := 9, ground := Ground.data }, { on := 9, ground := Ground.chain }, { on := 0, ground := Ground.phase }, { on := 1, ground := Ground.phase }, { on := 2, ground := Ground.phase }, { on := 3, ground := Ground.phase }, { on := 4, ground := Ground.phase }, { on := 5, ground := Ground.phase }, { on := 6, ground := Ground.phase }, { on := 7, ground := Ground.phase }, { on := 8, ground := Ground.phase }, { on := 9, ground := Ground.phase }], guard := none } : Oper)) rfl (fun K hK => ?_) ReadyT.nil)
                    go_simp
                    refine hK.out _ _ (fun e => absurd rfl e) ?_
                    clear hK K
                    refine AnyT.done (by kernel_rfl) ?_ _
                    go_wp2
                    go_meet
                    exact ⟨_, z6, s6, by omega, K10.m, shpC HSH.out e1 h3n⟩
                · have K1 := K0.al (.cells #[.string S, .int .i64 m] 65)
                  have hY1 : (Y.alloc (.cells #[.string S, .int .i64 m] 65)).heap.size = Y.heap.size + 1 := by simp
                  have y0 : (Y.alloc (.cells #[.string S, .int .i64 m] 65)).cell? ⟨Y.heap.size, 0, none⟩ = some (.string S) := (cell_of_row _ _ 0 _ _ _ (heap_alloc_new Y _)).trans rfl
                  have y1 : (Y.alloc (.cells #[.string S, .int .i64 m] 65)).cell? ⟨Y.heap.size, 1, none⟩ = some (.int .i64 m) := (cell_of_row _ _ 1 _ _ _ (heap_alloc_new Y _)).trans rfl
                  go_simp
                  refine hK.out _ _ (fun _ => (mkS K1)) ?_
                  clear hK K
                  have K2 := K1.al (.cells #[] 65)
                  have O1 : ((Y.alloc (.cells #[.string S, .int .i64 m] 65)).alloc (.cells #[] 65)).ownsRow Y.heap.size 65 2 (.slice (some ⟨Y.heap.size + 1, 0, none⟩) 0 0) 0 [] := by rw [← hY1]; exact World.ownsRow_lit (Y.alloc (.cells #[.string S, .int .i64 m] 65)) #[] 0 (by omega) (by simp [maxLen]) rfl
                  refine AnyT.ready (rs := [0]) (by kernel_rfl) (by simp) ?_
                  refine (ReadyT.cons (o := ({ dst := some 130, op := Op.buildSlice 45 0 #[], type := 45, pos := "l5_replay.go:510", after := #[], guard := none } : Oper)) rfl (fun K hK => ?_) ReadyT.nil)
                  go_simp
                  refine hK.out _ _ (fun _ => (mkS K2)) ?_
                  clear hK K
                  refine AnyT.ready (rs := [3]) (by kernel_rfl) (by simp) ?_
                  refine (ReadyT.cons (o := ({ dst := some 133, op := Op.call { callee := Callee.builtin Builtin.append, args := #[Operand.tmp 130, Operand.tmp 132], argTypes := #[45, 45] }, type := 45, pos := "l5_replay.go:510", after := #[{ on := 0, ground := Ground.data }, { on := 2, ground := Ground.data }], guard := none } : Oper)) rfl (fun K hK => ?_) ReadyT.nil)
                  rw [if_pos (by kernel_rfl)]
                  refine wp_append_lies _ _ _ _ rfl Y.heap.size 65 i0 (.agg #[.string ⟨#[]⟩, .int .i64 0]) 2 24 Try.underlying45 HI.out hi0 hi1 hi2 rfl (by omega) (.slice (some ⟨Y.heap.size + 1, 0, none⟩) 0 0) 0 [] rfl O1 ⟨b, off, none⟩ p.n2 p.c2 news rfl hNl (hkn K2) hN.cells1 (by omega) (by unfold maxLen; omega) (by omega) (K2.sz) _ rfl ?_
                  intro g3 cap3 X3 hO3 hgr3 hat3 hlt3
                  rw [Nat.zero_add, List.nil_append] at hO3
                  rw [Nat.zero_add]
                  have hr3 : ∀ k, Value.ownBlock (.slice (some ⟨Y.heap.size + 1, 0, none⟩) 0 0) = some k → Y.heap.size ≤ k := fun k e => by have e : Y.heap.size + 1 = k := Option.some.inj e; omega
                  have K3 := K2.rowq K0.m.sf hgr3 hr3 hlY
                  refine hK.out _ _ (fun _ => (mkS K3)) ?_
                  clear hK K
                  simp only [Act.put, List.setIfInBounds_toArray, List.set_cons_zero, List.set_cons_succ]
                  have x0 := keepG hgr3 (keepG (galloc _ (.cells #[] 65) none) y0 (fun e => by cases e)) (fun e => by have e : Y.heap.size = Y.heap.size + 1 := Option.some.inj e; omega)
                  have x1 := keepG hgr3 (keepG (galloc _ (.cells #[] 65) none) y1 (fun e => by cases e)) (fun e => by have e : Y.heap.size = Y.heap.size + 1 := Option.some.inj e; omega)
                  refine AnyT.ready (rs := [9]) (by kernel_rfl) (by simp) ?_
                  refine (ReadyT.cons (o := ({ dst := some 139, op := Op.call { callee := Callee.builtin Builtin.append, args := #[Operand.tmp 133, Operand.tmp 138], argTypes := #[45, 45] }, type := 45, pos := "l5_replay.go:510", after := #[{ on := 3, ground := Ground.data }, { on := 8, ground := Ground.data }, { on := 3, ground := Ground.chain }], guard := none } : Oper)) rfl (fun K hK => ?_) ReadyT.nil)
                  rw [if_pos (by kernel_rfl)]
                  refine wp_append_lies _ _ _ _ rfl Y.heap.size 65 i0 (.agg #[.string ⟨#[]⟩, .int .i64 0]) 2 24 Try.underlying45 HI.out hi0 hi1 hi2 rfl (by omega) (.slice (some ⟨g3, 0, none⟩) p.n2 cap3) p.n2 news rfl hO3 ⟨Y.heap.size, 0, none⟩ 1 1 [.string S, .int .i64 m] rfl rfl (news2 x0 x1) (Cls.one _ _ hS).cells1 (by omega) (by unfold maxLen; omega) (by omega) (Nat.le_trans (Nat.le_refl _) K3.sz) _ rfl ?_
                  intro g9 cap9 X9 hO9 hgr9 hat9 hlt9
                  have hg3 := grow_le hO3
                  have hr9 : ∀ k, Value.ownBlock (.slice (some ⟨g3, 0, none⟩) p.n2 cap3) = some k → Y.heap.size ≤ k := fun k e => by have e : g3 = k := Option.some.inj e; omega
                  have K9 := K3.rowq K0.m.sf hgr9 hr9 hlY
                  refine hK.out _ _ (fun _ => (mkS K9)) ?_
                  clear hK K
                  simp only [Act.put, List.setIfInBounds_toArray, List.set_cons_zero, List.set_cons_succ]
                  have hg9 := grow_le hO9
                  have c2 := K9.m.r3.q.c2
                  have f2 := K9.m.r3.f 2 (by omega)
                  have K10 := K9.w2 (some ⟨g9, 0, none⟩) (p.n2 + 1) cap9 (co_own hO9 (hN.app (Cls.one m S hS))) (by omega) (far_some (by omega))
                  refine AnyT.take (i := 10) (oi := ({ dst := some 140, op := Op.fieldAddr 50 (Operand.tmp 3) 2, type := 0, pos := "l5_replay.go:510", after := #[{ on := 0, ground := Ground.phase }, { on := 1, ground := Ground.phase }, { on := 2, ground := Ground.phase }, { on := 3, ground := Ground.phase }, { on := 4, ground := Ground.phase }, { on := 5, ground := Ground.phase }, { on := 6, ground := Ground.phase }, { on := 7, ground := Ground.phase }, { on := 8, ground := Ground.phase }, { on := 9, ground := Ground.phase }], guard := none } : Oper)) (ot := ({ dst := none, op := Op.store 45 (Operand.tmp 140) (Operand.tmp 139), type := 0, pos := "l5_replay.go:510", after := #[{ on := 10, ground := Ground.data }, { on := 9, ground := Ground.data }, { on := 9, ground := Ground.chain }, { on := 0, ground := Ground.phase }, { on := 1, ground := Ground.phase }, { on := 2, ground := Ground.phase }, { on := 3, ground := Ground.phase }, { on := 4, ground := Ground.phase }, { on := 5, ground := Ground.phase }, { on := 6, ground := Ground.phase }, { on := 7, ground := Ground.phase }, { on := 8, ground := Ground.phase }, { on := 9, ground := Ground.phase }], guard := none } : Oper)) (v := .pointer (some ⟨b3, 2, none⟩)) rfl (by decide) rfl (by kernel_rfl) (by kernel_rfl) (by kernel_rfl) (by kernel_rfl) (fun _ _ _ h => h) (Or.inl ⟨by rfl, fun w hSw => by obtain ⟨hs0, hs1, hs2⟩ := hSw; go_simp⟩) (mkS K9) ?_
                  simp only [Act.put, List.setIfInBounds_toArray, List.set_cons_zero, List.set_cons_succ]
                  refine AnyT.ready (rs := [11]) (by kernel_rfl) (by simp) ?_
                  refine (ReadyT.cons (o := ({ dst := none, op := Op.store 45 (Operand.tmp 140) (Operand.tmp 139), type := 0, pos := "l5_replay.go:510", after := #[{ on := 10, ground := Ground.data }, { on := 9, ground := Ground.data }, { on := 9, ground := Ground.chain }, { on := 0, ground := Ground.phase }, { on := 1, ground := Ground.phase }, { on := 2, ground := Ground.phase }, { on := 3, ground := Ground.phase }, { on := 4, ground := Ground.phase }, { on := 5, ground := Ground.phase }, { on := 6, ground := Ground.phase }, { on := 7, ground := Ground.phase }, { on := 8, ground := Ground.phase }, { on := 9, ground := Ground.phase }], guard := none } : Oper)) rfl (fun K hK => ?_) ReadyT.nil)
                  go_simp
                  refine hK.out _ _ (fun e => absurd rfl e) ?_
                  clear hK K
                  refine AnyT.done (by kernel_rfl) ?_ _
                  go_wp2
                  go_meet
                  exact ⟨_, z6, s6, by omega, K10.m, shpC HSH.out e1 h3n⟩
            · by_cases e2 : p.k = 2
              · as_aux_lemma =>
                  obtain ⟨gv, nv, cv, xsv, ep, hnv1, hnv3, hOv, hIv⟩ := hk2 e2
                  subst ep
                  clear hk1 hk2
                  have hOv6 := own_gr hOv hGp (by omega)
                  have hgv := grow_le hOv
                  have hcv : nv ≤ cv := own_capn hOv
                  go_wp2_with (go_at_call 16; refine (pick_any g B ca cn cc z6 s6 _ J1.m.cu (by omega) _ (by omega)).mono ?_; rintro e w7 ⟨r7, z7, s7, rfl, hr70, hr71, -, hz7, hCq, hGq⟩; have J2 := J1.call hGq hCq)
                  have J2d := J2.dr
                  have hOv7 := (own_gr hOv6 hGq (by omega)).drew
                  have hs2 := J2d.m.gr.size
                  have hpos : (0 : Int) < (nv : Int) := by omega
                  have hne0 : ¬ nv = 0 := by omega
                  have S0 : w7.drew.cell? ⟨b3, 3, none⟩ = some (.slice (some ⟨gv, 0, none⟩) nv cv) := J2d.m.r3.q.c3
                  refine AnyT.begin (fun w' => w'.cell? ⟨b3, 3, none⟩ = some (.slice (some ⟨gv, 0, none⟩) nv cv)) 6 (by kernel_rfl) ?_
                  refine AnyT.take (i := 0) (oi := ({ dst := some 146, op := Op.fieldAddr 50 (Operand.tmp 3) 3, type := 0, pos := "l5_replay.go:513", after := #[], guard := none } : Oper)) (ot := ({ dst := none, op := Op.store 67 (Operand.tmp 151) (Operand.tmp 150), type := 0, pos := "l5_replay.go:513", after := #[{ on := 5, ground := Ground.data }, { on := 4, ground := Ground.data }, { on := 4, ground := Ground.chain }, { on := 0, ground := Ground.phase }, { on := 1, ground := Ground.phase }, { on := 2, ground := Ground.phase }, { on := 3, ground := Ground.phase }, { on := 4, ground := Ground.phase }], guard := none } : Oper)) (v := .pointer (some ⟨b3, 3, none⟩)) rfl (by decide) rfl (by kernel_rfl) (by kernel_rfl) (by kernel_rfl) (by kernel_rfl) (fun _ _ _ h => h) (Or.inl ⟨by rfl, fun w hSw => by go_simp⟩) S0 ?_
                  simp only [Act.put, List.setIfInBounds_toArray, List.set_cons_zero, List.set_cons_succ]
                  refine AnyT.take (i := 1) (oi := ({ dst := some 147, op := Op.load 46 (Operand.tmp 146), type := 46, pos := "l5_replay.go:513", after := #[{ on := 0, ground := Ground.data }], guard := none } : Oper)) (ot := ({ dst := none, op := Op.store 67 (Operand.tmp 151) (Operand.tmp 150), type := 0, pos := "l5_replay.go:513", after := #[{ on := 5, ground := Ground.data }, { on := 4, ground := Ground.data }, { on := 4, ground := Ground.chain }, { on := 0, ground := Ground.phase }, { on := 1, ground := Ground.phase }, { on := 2, ground := Ground.phase }, { on := 3, ground := Ground.phase }, { on := 4, ground := Ground.phase }], guard := none } : Oper)) (v := .slice (some ⟨gv, 0, none⟩) nv cv) rfl (by decide) rfl (by kernel_rfl) (by kernel_rfl) (by kernel_rfl) (by kernel_rfl) (fun _ _ _ h => h) (Or.inl ⟨by rfl, fun w hSw => by go_simp⟩) S0 ?_
                  simp only [Act.put, List.setIfInBounds_toArray, List.set_cons_zero, List.set_cons_succ]
                  refine AnyT.take (i := 2) (oi := ({ dst := some 148, op := Op.move (Operand.tmp 0), type := 32, pos := "l5_replay.go:513", after := #[], guard := none } : Oper)) (ot := ({ dst := none, op := Op.store 67 (Operand.tmp 151) (Operand.tmp 150), type := 0, pos := "l5_replay.go:513", after := #[{ on := 5, ground := Ground.data }, { on := 4, ground := Ground.data }, { on := 4, ground := Ground.chain }, { on := 0, ground := Ground.phase }, { on := 1, ground := Ground.phase }, { on := 2, ground := Ground.phase }, { on := 3, ground := Ground.phase }, { on := 4, ground := Ground.phase }], guard := none } : Oper)) (v := .pointer (some ⟨g, 0, none⟩)) rfl (by decide) rfl (by kernel_rfl) (by kernel_rfl) (by kernel_rfl) (by kernel_rfl) (fun _ _ _ h => h) (Or.inl ⟨by rfl, fun w hSw => by go_simp⟩) S0 ?_
                  simp only [Act.put, List.setIfInBounds_toArray, List.set_cons_zero, List.set_cons_succ]
                  refine AnyT.take (i := 3) (oi := ({ dst := some 149, op := Op.move (Operand.tmp 13), type := 3, pos := "l5_replay.go:513", after := #[], guard := none } : Oper)) (ot := ({ dst := none, op := Op.store 67 (Operand.tmp 151) (Operand.tmp 150), type := 0, pos := "l5_replay.go:513", after := #[{ on := 5, ground := Ground.data }, { on := 4, ground := Ground.data }, { on := 4, ground := Ground.chain }, { on := 0, ground := Ground.phase }, { on := 1, ground := Ground.phase }, { on := 2, ground := Ground.phase }, { on := 3, ground := Ground.phase }, { on := 4, ground := Ground.phase }], guard := none } : Oper)) (v := .int .i64 (1 + r7)) rfl (by decide) rfl (by kernel_rfl) (by kernel_rfl) (by kernel_rfl) (by kernel_rfl) (fun _ _ _ h => h) (Or.inl ⟨by rfl, fun w hSw => by go_simp⟩) S0 ?_
                  simp only [Act.put, List.setIfInBounds_toArray, List.set_cons_zero, List.set_cons_succ]
                  refine AnyT.ready (rs := [4]) (by kernel_rfl) (by simp) ?_
                  refine (ReadyT.cons (o := ({ dst := some 150, op := Op.call { callee := Callee.value (Operand.func 32), args := #[Operand.tmp 148, Operand.tmp 149], argTypes := #[32, 3] }, type := 67, pos := "l5_replay.go:513", after := #[{ on := 2, ground := Ground.data }, { on := 3, ground := Ground.data }], guard := none } : Oper)) rfl (fun K hK => ?_) ReadyT.nil)
                  go_simp
                  refine (drawValue_any g B ca cn cc z7 s7 (1 + r7) _ J2d.m.cu (by omega) (by omega)).mono ?_
                  rintro e w8 ⟨o8, q8, T8, z8, s8, rfl, hT8, hz8, hC8, hG8⟩
                  have J3 := J2d.call hG8 hC8
                  have S1 : w8.cell? ⟨b3, 3, none⟩ = some (.slice (some ⟨gv, 0, none⟩) nv cv) := J3.m.r3.q.c3
                  have hOv8 := own_gr hOv7 hG8 (by omega)
                  refine hK.out _ _ (fun _ => S1) ?_
                  clear hK K
                  refine AnyT.take (i := 5) (oi := ({ dst := some 151, op := Op.indexAddr 46 (Operand.tmp 147) (Operand.const (Value.int IntKind.i64 0)), type := 0, pos := "l5_replay.go:513", after := #[{ on := 1, ground := Ground.data }, { on := 0, ground := Ground.phase }, { on := 1, ground := Ground.phase }, { on := 2, ground := Ground.phase }, { on := 3, ground := Ground.phase }, { on := 4, ground := Ground.phase }], guard := none } : Oper)) (ot := ({ dst := none, op := Op.store 67 (Operand.tmp 151) (Operand.tmp 150), type := 0, pos := "l5_replay.go:513", after := #[{ on := 5, ground := Ground.data }, { on := 4, ground := Ground.data }, { on := 4, ground := Ground.chain }, { on := 0, ground := Ground.phase }, { on := 1, ground := Ground.phase }, { on := 2, ground := Ground.phase }, { on := 3, ground := Ground.phase }, { on := 4, ground := Ground.phase }], guard := none } : Oper)) (v := .pointer (some ⟨gv, 0, none⟩)) rfl (by decide) rfl (by kernel_rfl) (by kernel_rfl) (by kernel_rfl) (by kernel_rfl) (fun _ _ _ h => h) (Or.inl ⟨by rfl, fun w hSw => by go_simp⟩) S1 ?_
                  simp only [Act.put, List.setIfInBounds_toArray, List.set_cons_zero, List.set_cons_succ]
                  obtain ⟨x0, x1, x2, hx0, hx1, hx2⟩ := own_three hOv8 (by omega)
                  have y0 := hOv8.frozenAt 0
                  have y1 := hOv8.frozenAt 1
                  have y2 := hOv8.frozenAt 2
                  refine AnyT.ready (rs := [6]) (by kernel_rfl) (by simp) ?_
                  refine (ReadyT.cons (o := ({ dst := none, op := Op.store 67 (Operand.tmp 151) (Operand.tmp 150), type := 0, pos := "l5_replay.go:513", after := #[{ on := 5, ground := Ground.data }, { on := 4, ground := Ground.data }, { on := 4, ground := Ground.chain }, { on := 0, ground := Ground.phase }, { on := 1, ground := Ground.phase }, { on := 2, ground := Ground.phase }, { on := 3, ground := Ground.phase }, { on := 4, ground := Ground.phase }], guard := none } : Oper)) rfl (fun K hK => ?_) ReadyT.nil)
                  go_simp
                  refine hK.out _ _ (fun e => absurd rfl e) ?_
                  clear hK K
                  refine AnyT.done (by kernel_rfl) ?_ _
                  have M4 : Mk8 g B ca cn cc w w.heap.size b3 { p0 2 tb with a3 := some ⟨gv, 0, none⟩, n3 := nv, c3 := cv } z8 s8 (((w8.setCell ⟨gv, 0, none⟩ (.int .i64 o8)).setCell ⟨gv, 1, none⟩ (.int .i64 q8)).setCell ⟨gv, 2, none⟩ (.string T8)) := J3.m.rowset (gset3 w8 gv _ _ _) hB (Nat.le_refl _) (by omega) (by omega) ((sf0 b3 _ 2 tb htb).w3 _ _ _ (it_set0 (it_own hOv8 hIv) o8 q8 T8 hT8) (by omega) (far_some (by omega)))
                  obtain ⟨X, hX⟩ : ∃ X, (((w8.setCell ⟨gv, 0, none⟩ (.int .i64 o8)).setCell ⟨gv, 1, none⟩ (.int .i64 q8)).setCell ⟨gv, 2, none⟩ (.string T8)) = X := ⟨_, rfl⟩
                  rw [hX] at M4 ⊢
                  clear hX J3 J2 J2d S1 hOv8 hOv7 hOv6 hx0 hx1 hx2 y0 y1 y2
                  go_wp2
                  have J4 : Mj g B ca cn cc w X b3 _ z8 s8 X := ⟨M4, fun _ _ _ h => h, hB, hlt, by omega, Nat.le_refl _⟩
                  have J4d := J4.dr
                  have hs4 := J4d.m.gr.size
                  have S2 : X.drew.cell? ⟨b3, 3, none⟩ = some (.slice (some ⟨gv, 0, none⟩) nv cv) := J4d.m.r3.q.c3
                  refine AnyT.begin (fun w' => w'.cell? ⟨b3, 3, none⟩ = some (.slice (some ⟨gv, 0, none⟩) nv cv)) 10 (by kernel_rfl) ?_
                  refine AnyT.take (i := 0) (oi := ({ dst := some 152, op := Op.fieldAddr 50 (Operand.tmp 3) 3, type := 0, pos := "l5_replay.go:514", after := #[], guard := none } : Oper)) (ot := ({ dst := none, op := Op.store 46 (Operand.tmp 161) (Operand.tmp 160), type := 0, pos := "l5_replay.go:514", after := #[{ on := 9, ground := Ground.data }, { on := 8, ground := Ground.data }, { on := 6, ground := Ground.chain }, { on := 0, ground := Ground.phase }, { on := 1, ground := Ground.phase }, { on := 2, ground := Ground.phase }, { on := 3, ground := Ground.phase }, { on := 4, ground := Ground.phase }, { on := 5, ground := Ground.phase }, { on := 6, ground := Ground.phase }, { on := 7, ground := Ground.phase }, { on := 8, ground := Ground.phase }], guard := none } : Oper)) (v := .pointer (some ⟨b3, 3, none⟩)) rfl (by decide) rfl (by kernel_rfl) (by kernel_rfl) (by kernel_rfl) (by kernel_rfl) (fun _ _ _ h => h) (Or.inl ⟨by rfl, fun w hSw => by go_simp⟩) S2 ?_
                  simp only [Act.put, List.setIfInBounds_toArray, List.set_cons_zero, List.set_cons_succ]
                  refine AnyT.take (i := 1) (oi := ({ dst := some 153, op := Op.load 46 (Operand.tmp 152), type := 46, pos := "l5_replay.go:514", after := #[{ on := 0, ground := Ground.data }], guard := none } : Oper)) (ot := ({ dst := none, op := Op.store 46 (Operand.tmp 161) (Operand.tmp 160), type := 0, pos := "l5_replay.go:514", after := #[{ on := 9, ground := Ground.data }, { on := 8, ground := Ground.data }, { on := 6, ground := Ground.chain }, { on := 0, ground := Ground.phase }, { on := 1, ground := Ground.phase }, { on := 2, ground := Ground.phase }, { on := 3, ground := Ground.phase }, { on := 4, ground := Ground.phase }, { on := 5, ground := Ground.phase }, { on := 6, ground := Ground.phase }, { on := 7, ground := Ground.phase }, { on := 8, ground := Ground.phase }], guard := none } : Oper)) (v := .slice (some ⟨gv, 0, none⟩) nv cv) rfl (by decide) rfl (by kernel_rfl) (by kernel_rfl) (by kernel_rfl) (by kernel_rfl) (fun _ _ _ h => h) (Or.inl ⟨by rfl, fun w hSw => by go_simp⟩) S2 ?_
                  simp only [Act.put, List.setIfInBounds_toArray, List.set_cons_zero, List.set_cons_succ]
                  refine AnyT.take (i := 2) (oi := ({ dst := some 154, op := Op.move (Operand.tmp 0), type := 32, pos := "l5_replay.go:514", after := #[], guard := none } : Oper)) (ot := ({ dst := none, op := Op.store 46 (Operand.tmp 161) (Operand.tmp 160), type := 0, pos := "l5_replay.go:514", after := #[{ on := 9, ground := Ground.data }, { on := 8, ground := Ground.data }, { on := 6, ground := Ground.chain }, { on := 0, ground := Ground.phase }, { on := 1, ground := Ground.phase }, { on := 2, ground := Ground.phase }, { on := 3, ground := Ground.phase }, { on := 4, ground := Ground.phase }, { on := 5, ground := Ground.phase }, { on := 6, ground := Ground.phase }, { on := 7, ground := Ground.phase }, { on := 8, ground := Ground.phase }], guard := none } : Oper)) (v := .pointer (some ⟨g, 0, none⟩)) rfl (by decide) rfl (by kernel_rfl) (by kernel_rfl) (by kernel_rfl) (by kernel_rfl) (fun _ _ _ h => h) (Or.inl ⟨by rfl, fun w hSw => by go_simp⟩) S2 ?_
                  simp only [Act.put, List.setIfInBounds_toArray, List.set_cons_zero, List.set_cons_succ]
                  refine AnyT.take (i := 3) (oi := ({ dst := some 155, op := Op.fieldAddr 50 (Operand.tmp 3) 3, type := 0, pos := "l5_replay.go:514", after := #[], guard := none } : Oper)) (ot := ({ dst := none, op := Op.store 46 (Operand.tmp 161) (Operand.tmp 160), type := 0, pos := "l5_replay.go:514", after := #[{ on := 9, ground := Ground.data }, { on := 8, ground := Ground.data }, { on := 6, ground := Ground.chain }, { on := 0, ground := Ground.phase }, { on := 1, ground := Ground.phase }, { on := 2, ground := Ground.phase }, { on := 3, ground := Ground.phase }, { on := 4, ground := Ground.phase }, { on := 5, ground := Ground.phase }, { on := 6, ground := Ground.phase }, { on := 7, ground := Ground.phase }, { on := 8, ground := Ground.phase }], guard := none } : Oper)) (v := .pointer (some ⟨b3, 3, none⟩)) rfl (by decide) rfl (by kernel_rfl) (by kernel_rfl) (by kernel_rfl) (by kernel_rfl) (fun _ _ _ h => h) (Or.inl ⟨by rfl, fun w hSw => by go_simp⟩) S2 ?_
                  simp only [Act.put, List.setIfInBounds_toArray, List.set_cons_zero, List.set_cons_succ]
                  refine AnyT.take (i := 4) (oi := ({ dst := some 156, op := Op.load 46 (Operand.tmp 155), type := 46, pos := "l5_replay.go:514", after := #[{ on := 3, ground := Ground.data }], guard := none } : Oper)) (ot := ({ dst := none, op := Op.store 46 (Operand.tmp 161) (Operand.tmp 160), type := 0, pos := "l5_replay.go:514", after := #[{ on := 9, ground := Ground.data }, { on := 8, ground := Ground.data }, { on := 6, ground := Ground.chain }, { on := 0, ground := Ground.phase }, { on := 1, ground := Ground.phase }, { on := 2, ground := Ground.phase }, { on := 3, ground := Ground.phase }, { on := 4, ground := Ground.phase }, { on := 5, ground := Ground.phase }, { on := 6, ground := Ground.phase }, { on := 7, ground := Ground.phase }, { on := 8, ground := Ground.phase }], guard := none } : Oper)) (v := .slice (some ⟨gv, 0, none⟩) nv cv) rfl (by decide) rfl (by kernel_rfl) (by kernel_rfl) (by kernel_rfl) (by kernel_rfl) (fun _ _ _ h => h) (Or.inl ⟨by rfl, fun w hSw => by go_simp⟩) S2 ?_
                  simp only [Act.put, List.setIfInBounds_toArray, List.set_cons_zero, List.set_cons_succ]
                  refine AnyT.take (i := 5) (oi := ({ dst := some 157, op := Op.call { callee := Callee.builtin Builtin.len, args := #[Operand.tmp 156], argTypes := #[46] }, type := 3, pos := "l5_replay.go:514", after := #[{ on := 4, ground := Ground.data }], guard := none } : Oper)) (ot := ({ dst := none, op := Op.store 46 (Operand.tmp 161) (Operand.tmp 160), type := 0, pos := "l5_replay.go:514", after := #[{ on := 9, ground := Ground.data }, { on := 8, ground := Ground.data }, { on := 6, ground := Ground.chain }, { on := 0, ground := Ground.phase }, { on := 1, ground := Ground.phase }, { on := 2, ground := Ground.phase }, { on := 3, ground := Ground.phase }, { on := 4, ground := Ground.phase }, { on := 5, ground := Ground.phase }, { on := 6, ground := Ground.phase }, { on := 7, ground := Ground.phase }, { on := 8, ground := Ground.phase }], guard := none } : Oper)) (v := .int .i64 (nv : Int)) rfl (by decide) rfl (by kernel_rfl) (by kernel_rfl) (by kernel_rfl) (by kernel_rfl) (fun _ _ _ h => h) (Or.inl ⟨by rfl, fun w hSw => by go_simp⟩) S2 ?_
                  simp only [Act.put, List.setIfInBounds_toArray, List.set_cons_zero, List.set_cons_succ]
                  refine AnyT.ready (rs := [6]) (by kernel_rfl) (by simp) ?_
                  refine (ReadyT.cons (o := ({ dst := some 158, op := Op.call { callee := Callee.value (Operand.func 16), args := #[Operand.tmp 154, Operand.tmp 157], argTypes := #[32, 3] }, type := 3, pos := "l5_replay.go:514", after := #[{ on := 2, ground := Ground.data }, { on := 5, ground := Ground.data }], guard := none } : Oper)) rfl (fun K hK => ?_) ReadyT.nil)
                  go_simp
                  refine (pick_any g B ca cn cc z8 s8 _ J4d.m.cu (by omega) _ (by omega)).mono ?_
                  rintro e w9 ⟨r9, z9, s9, rfl, hr90, hr91, -, hz9, hC9, hG9⟩
                  obtain ⟨kk, rfl⟩ : ∃ k : Nat, r9 = k := ⟨r9.toNat, by omega⟩
                  have J5 := J4d.call hG9 hC9
                  have S3 : w9.cell? ⟨b3, 3, none⟩ = some (.slice (some ⟨gv, 0, none⟩) nv cv) := J5.m.r3.q.c3
                  have e7 : IntKind.i64.wrap (1 + (kk : Int)) = 1 + kk := by rw [IntKind.wrap_i64]; omega
                  have b1 : (0 : Int) ≤ 1 + (kk : Int) := by omega
                  have b2 : (1 : Int) + (kk : Int) ≤ (cv : Int) := by omega
                  have e8 : ((1 : Int) + (kk : Int)).toNat = 1 + kk := by omega
                  refine hK.out _ _ (fun _ => S3) ?_
                  clear hK K
                  refine AnyT.take (i := 7) (oi := ({ dst := some 159, op := Op.binOp BinOp.add 3 (Operand.const (Value.int IntKind.i64 1)) (Operand.tmp 158) 3, type := 3, pos := "l5_replay.go:514", after := #[{ on := 6, ground := Ground.data }], guard := none } : Oper)) (ot := ({ dst := none, op := Op.store 46 (Operand.tmp 161) (Operand.tmp 160), type := 0, pos := "l5_replay.go:514", after := #[{ on := 9, ground := Ground.data }, { on := 8, ground := Ground.data }, { on := 6, ground := Ground.chain }, { on := 0, ground := Ground.phase }, { on := 1, ground := Ground.phase }, { on := 2, ground := Ground.phase }, { on := 3, ground := Ground.phase }, { on := 4, ground := Ground.phase }, { on := 5, ground := Ground.phase }, { on := 6, ground := Ground.phase }, { on := 7, ground := Ground.phase }, { on := 8, ground := Ground.phase }], guard := none } : Oper)) (v := .int .i64 (1 + (kk : Int))) rfl (by decide) rfl (by kernel_rfl) (by kernel_rfl) (by kernel_rfl) (by kernel_rfl) (fun _ _ _ h => h) (Or.inl ⟨by rfl, fun w hSw => by go_simp⟩) S3 ?_
                  simp only [Act.put, List.setIfInBounds_toArray, List.set_cons_zero, List.set_cons_succ]
                  refine AnyT.take (i := 8) (oi := ({ dst := some 160, op := Op.slice 46 (Operand.tmp 153) none (some (Operand.tmp 159)) none, type := 46, pos := "l5_replay.go:514", after := #[{ on := 1, ground := Ground.data }, { on := 7, ground := Ground.data }], guard := none } : Oper)) (ot := ({ dst := none, op := Op.store 46 (Operand.tmp 161) (Operand.tmp 160), type := 0, pos := "l5_replay.go:514", after := #[{ on := 9, ground := Ground.data }, { on := 8, ground := Ground.data }, { on := 6, ground := Ground.chain }, { on := 0, ground := Ground.phase }, { on := 1, ground := Ground.phase }, { on := 2, ground := Ground.phase }, { on := 3, ground := Ground.phase }, { on := 4, ground := Ground.phase }, { on := 5, ground := Ground.phase }, { on := 6, ground := Ground.phase }, { on := 7, ground := Ground.phase }, { on := 8, ground := Ground.phase }], guard := none } : Oper)) (v := .slice (some ⟨gv, 0, none⟩) (1 + kk) cv) rfl (by decide) rfl (by kernel_rfl) (by kernel_rfl) (by kernel_rfl) (by kernel_rfl) (fun _ _ _ h => h) (Or.inl ⟨by rfl, fun w hSw => by go_simp⟩) S3 ?_
                  simp only [Act.put, List.setIfInBounds_toArray, List.set_cons_zero, List.set_cons_succ]
                  refine AnyT.take (i := 9) (oi := ({ dst := some 161, op := Op.fieldAddr 50 (Operand.tmp 3) 3, type := 0, pos := "l5_replay.go:514", after := #[{ on := 0, ground := Ground.phase }, { on := 1, ground := Ground.phase }, { on := 2, ground := Ground.phase }, { on := 3, ground := Ground.phase }, { on := 4, ground := Ground.phase }, { on := 5, ground := Ground.phase }, { on := 6, ground := Ground.phase }, { on := 7, ground := Ground.phase }, { on := 8, ground := Ground.phase }], guard := none } : Oper)) (ot := ({ dst := none, op := Op.store 46 (Operand.tmp 161) (Operand.tmp 160), type := 0, pos := "l5_replay.go:514", after := #[{ on := 9, ground := Ground.data }, { on := 8, ground := Ground.data }, { on := 6, ground := Ground.chain }, { on := 0, ground := Ground.phase }, { on := 1, ground := Ground.phase }, { on := 2, ground := Ground.phase }, { on := 3, ground := Ground.phase }, { on := 4, ground := Ground.phase }, { on := 5, ground := Ground.phase }, { on := 6, ground := Ground.phase }, { on := 7, ground := Ground.phase }, { on := 8, ground := Ground.phase }], guard := none } : Oper)) (v := .pointer (some ⟨b3, 3, none⟩)) rfl (by decide) rfl (by kernel_rfl) (by kernel_rfl) (by kernel_rfl) (by kernel_rfl) (fun _ _ _ h => h) (Or.inl ⟨by rfl, fun w hSw => by go_simp⟩) S3 ?_
                  simp only [Act.put, List.setIfInBounds_toArray, List.set_cons_zero, List.set_cons_succ]
                  have c3 := J5.m.r3.q.c3
                  have f3 := J5.m.r3.f 3 (by omega)
                  have J6 := J5.w3 (some ⟨gv, 0, none⟩) (1 + kk) cv (fun j hj => J5.m.sf.va j (by show j < nv; omega)) (by omega) (far_some (by omega))
                  refine AnyT.ready (rs := [10]) (by kernel_rfl) (by simp) ?_
                  refine (ReadyT.cons (o := ({ dst := none, op := Op.store 46 (Operand.tmp 161) (Operand.tmp 160), type := 0, pos := "l5_replay.go:514", after := #[{ on := 9, ground := Ground.data }, { on := 8, ground := Ground.data }, { on := 6, ground := Ground.chain }, { on := 0, ground := Ground.phase }, { on := 1, ground := Ground.phase }, { on := 2, ground := Ground.phase }, { on := 3, ground := Ground.phase }, { on := 4, ground := Ground.phase }, { on := 5, ground := Ground.phase }, { on := 6, ground := Ground.phase }, { on := 7, ground := Ground.phase }, { on := 8, ground := Ground.phase }], guard := none } : Oper)) rfl (fun K hK => ?_) ReadyT.nil)
                  go_simp
                  refine hK.out _ _ (fun e => absurd rfl e) ?_
                  clear hK K
                  refine AnyT.done (by kernel_rfl) ?_ _
                  go_wp2
                  go_meet
                  exact ⟨_, z9, s9, by omega, J6.m, Or.inr (Or.inl ⟨rfl, rfl, by show 1 ≤ 1 + kk; omega, by show 1 + kk ≤ 20; omega, rfl, rfl, rfl, rfl⟩)⟩
              · as_aux_lemma =>
                  by_cases e3 : p.k = 3
                  · have J2 := J1.al (.cells #[.string ⟨#[105, 100]⟩, .string ⟨#[110, 97, 109, 101]⟩, .string ⟨#[122, 122]⟩] 9)
                    go_wp2_with (go_at_call 16; refine (pick_any g B ca cn cc z6 s6 _ J2.m.cu (by omega) _ (by omega)).mono ?_; rintro e w7 ⟨r7, z7, s7, rfl, hr70, hr71, -, hz7, hCq, hGq⟩; obtain ⟨kk, rfl⟩ : ∃ k : Nat, r7 = k := ⟨r7.toNat, by omega⟩; obtain ⟨X, hX, hXs⟩ := cell_after okName hGq (by omega) (by kernel_rfl) kk (by show kk < 3; omega); have J3 := J2.call hGq hCq; have c4 := J3.m.r3.q.c4; have f4 := J3.m.r3.f 4 (by omega); have J4 := J3.w4 X (Or.inr hXs))
                    go_meet
                    exact ⟨_, z7, s7, by omega, J4.m, shpN HSH.out e3 hXs⟩
                  · have J2 := J1.al (.cells #[.string ⟨#[110, 97, 109, 101]⟩, .string ⟨#[105, 100]⟩, .string ⟨#[122, 122]⟩, .string ⟨#[107, 101, 121]⟩] 9)
                    go_wp2_with (go_at_call 16; refine (pick_any g B ca cn cc z6 s6 _ J2.m.cu (by omega) _ (by omega)).mono ?_; rintro e w7 ⟨r7, z7, s7, rfl, hr70, hr71, -, hz7, hCq, hGq⟩; obtain ⟨kk, rfl⟩ : ∃ k : Nat, r7 = k := ⟨r7.toNat, by omega⟩; obtain ⟨X, hX, hXs⟩ := cell_after okName hGq (by omega) (by kernel_rfl) kk (by show kk < 4; omega); have J3 := J2.call hGq hCq; have hl9 := J3.m.lt3; have c6' := J3.m.r3.q.c6; have f6' := J3.m.r3.f 6 (by omega); have J4 := J3.al (.cells #[.int .i64 3, .int .i64 0, .string X] 74); have c6 := J4.m.r3.q.c6; have f6 := J4.m.r3.f 6 (by omega); have J5 := J4.w6 (some ⟨w7.heap.size, 0, none⟩) 1 1 (ie_own (own1 w7 0 3 0 X (Nat.zero_le _)) (Ied.one _ _ _ (okI_nm hXs) rfl) (by omega) (by omega)) (by omega) (far_some hl9))
                    go_meet
                    rw [World.setCell_alloc_past _ _ _ _ hl9] at J5
                    exact ⟨_, z7, s7, by omega, J5.m, shpW HSH.out e1 e2 e3⟩
          · go_wp2
            go_meet
            exact ⟨_, z6, s6, by omega, J1.m, HSH.out⟩
        case rest =>
          obtain ⟨p', z7, s7, hz7, M7, hsh⟩ := hcut
          have HSH' : Hid (Shp p') := hsh
          clear hsh
          obtain ⟨p2, W2⟩ := M7.r2
          have hs7 := M7.gr.size
          obtain ⟨q0, q1, q2, q3, q4, q5, q6, q7⟩ := M7.r3.q
          obtain ⟨v0, v1, v2, v3, v4, v5, v6, v7⟩ := W2.q
          have x0 := W2.f 0 (by omega)
          have x1 := W2.f 1 (by omega)
          have x2 := W2.f 2 (by omega)
          have x3 := W2.f 3 (by omega)
          have x4 := W2.f 4 (by omega)
          have x5 := W2.f 5 (by omega)
          have x6 := W2.f 6 (by omega)
          have x7 := W2.f 7 (by omega)
          have W3 := W2.all p'
          obtain ⟨r0, r1, r2, r3, r4, r5, r6, r7⟩ := W3.q
          clear J0 J1 hk1 hk2 hco5
          go_wp2
          exact bodyPost_ret (v := .agg p'.cs) (by simp [results, Try.results17, go_sem, r0, r1, r2, r3, r4, r5, r6, r7]) rfl ⟨p', z7, s7, rfl, (M7.sf.ka (KA.gr (gsets8 wc w.heap.size p') (fun k e => by have e : w.heap.size = k := Option.some.inj e; omega))).sm, HSH'.out, by omega, M7.cu.gw (gsets8 wc w.heap.size p') hB (by omega), gjoin M7.gr (gsets8 wc w.heap.size p') (fun k e => by have e : w.heap.size = k := Option.some.inj e; omega)⟩
end Go.Proofs.Ytlilmbeehmjpkaa
