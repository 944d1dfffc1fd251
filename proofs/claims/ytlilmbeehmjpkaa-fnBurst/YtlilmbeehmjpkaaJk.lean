/-
  What the specification draws: expressions.
-/
import Derived.Test.YtlilmbeehmjpkaaJj
import Derived.Deep.DeepCutAuto
namespace Go.Proofs.Ytlilmbeehmjpkaa
open Go.RowKit
theorem ones3 (a b : Int) (s : ByteArray) : ∀ u ∈ [Value.int .i64 a, .int .i64 b, .string s], u.oneCell' = true := fun u hu => by
  simp only [List.mem_cons, List.not_mem_nil, or_false] at hu
  rcases hu with rfl | rfl | rfl <;> rfl
theorem ar_one {x r : Int} (h : btw x 4 13 = true) (hr : arity x = r) (h2 : ¬ r = 2) : r = 1 := by
  simp only [btw, Bool.and_eq_true, decide_eq_true_eq] at h
  subst hr
  unfold arity at h2 ⊢
  split
  · omega
  · split
    · rfl
    · rename_i a b
      rw [if_neg a, if_neg b] at h2
      exact absurd rfl h2
set_option maxRecDepth 20000 in
set_option maxHeartbeats 4000000 in
theorem drawExp_any (g B : Nat) (ca : Option Addr) (cn cc : Nat) (f : Nat) : f ≤ 3 → ∀ (d : Int) (z s : Nat) (a : Option Addr) (n c : Nat) (kd : Int) (w : World), d + f = 3 → Cu w g B ca cn cc z s → z + 200 * f ≤ 10000000000 → B ≤ w.heap.size → Co w a n → (∀ b off, a = some ⟨b, off, none⟩ → b ≠ g) → 1 ≤ n → n ≤ 100 →
    Calls Try.prog 31 #[.pointer (some ⟨g, 0, none⟩), .slice a n c, .int .i64 kd, .int .i64 d] w fun e w' => ∃ (m gz cap z' s' : Nat) (xs : List Value), e = .returned (.slice (some ⟨gz, 0, none⟩) m cap) ∧ 1 ≤ m ∧ m ≤ nb f ∧ Ied 1 m xs ∧ w'.ownsRow w.heap.size 74 3 (.slice (some ⟨gz, 0, none⟩) m cap) m xs ∧ z' ≤ z + pb f ∧ Cu w' g B ca cn cc z' s' ∧ w.grownBy w' (some g) := by
  induction f with
  | zero =>
    intro hf d z s a n c kd w hd h hz hB hco ha hn1 hn
    exact drawExp_leaf g B ca cn cc d z s a n c kd w (by omega) h (by omega) hB hco ha hn1 hn
  | succ f ih =>
    intro hf d z s a n c kd w hd h hz hB hco ha hn1 hn
    obtain ⟨i0, hi, hi0, hi1, hi2⟩ := info_parts Try.info74i
    have HI : Hid (Try.prog.info? 74 = some i0) := hi
    clear hi
    have hlt := h.lt
    have hd2 : d ≤ 2 := by omega
    have hd0 : -1 ≤ d := by omega
    have hpf : pb f ≤ 100 := by
      rcases f with _ | _ | _ | f
      · decide
      · decide
      · decide
      · omega
    go_enter Try.func31, Try.ntmps31
    go_upto_if 51 with (go_at_call 16; refine (pick_any g B ca cn cc z s _ h (by omega) _ (by omega)).mono ?_; rintro e w1 ⟨r, z1, s1, rfl, hr0, hr1, -, hz1, hC1, hG1⟩)
    · go_loopw [8, 9, 10] (fun _ i _ wr => ∃ j zz ss : Nat, j ≤ 3 ∧ i = .int .i64 j ∧ Cu wr g B ca cn cc zz ss ∧ zz ≤ z1 + j ∧ w.grownBy wr (some g)) (fun _ i _ _ => 3 - (intOf i).toNat)
      case atStart => exact ⟨0, z1, s1, by omega, rfl, hC1, by omega, hG1⟩
      case round =>
        obtain ⟨j, zz, ss, hj, rfl, hC, hzz, hG⟩ := hrel
        have hsr := hG.size
        by_cases hj3 : j < 3
        · go_wp2_with (go_at_call 16; refine (pick_any g B ca cn cc zz ss _ hC (by omega) _ (by omega)).mono ?_; rintro e w2 ⟨r, z2, s2, rfl, hr0, hr1, -, hz2, hC2, hG2⟩; obtain ⟨k, rfl⟩ : ∃ k : Nat, r = k := ⟨r.toNat, by omega⟩; have hG3 := gtrans hG hG2; have hs3 := hG3.size; obtain ⟨b, off, m, S, rfl, c0, c1, hS⟩ := co_gr hco hG3 ha k (by omega))
          · go_ret
            exact ⟨1, _, _, z2, s2, _, rfl, by omega, nb_pos _, Ied.one _ _ _ (okI_col hS) rfl, own2 w2 _ w.heap.size _ _ _ (by omega), by rw [pb1]; omega, (hC2.al (by omega) _).al (by simp; omega) _, gtrans (gtrans hG3 (galloc _ _ _)) (galloc _ _ _)⟩
          · go_roundw
            case rel => exact ⟨j + 1, z2, s2, by omega, by go_num, hC2.al (by omega) _, by omega, gtrans hG3 (galloc _ _ _)⟩
            case measure => simp [intOf]; omega
        · go_wp2_with (first | (go_at_call 41; refine (drawInt_any g B ca cn cc zz ss _ hC (by omega) (by omega)).mono ?_; rintro e w2 ⟨x, z2, s2, rfl, hxn, hz2, hC2, hG2⟩; have hG3 := gtrans hG hG2; have hs3 := hG3.size) | (go_at_call 42; refine (drawText_any g B ca cn cc zz ss _ hC (by omega) (by omega)).mono ?_; rintro e w2 ⟨T, z2, s2, rfl, hT, hz2, hC2, hG2⟩; have hG3 := gtrans hG hG2; have hs3 := hG3.size))
          · go_ret
            exact ⟨1, _, _, z2, s2, _, rfl, by omega, nb_pos _, Ied.one _ _ _ (okI_int hxn) rfl, own1 w2 w.heap.size _ _ _ (by omega), by rw [pb1]; omega, hC2.al (by omega) _, gtrans hG3 (galloc _ _ _)⟩
          · go_ret
            exact ⟨1, _, _, z2, s2, _, rfl, by omega, nb_pos _, Ied.one _ _ _ (okI_txt hT) rfl, own1 w2 w.heap.size _ _ _ (by omega), by rw [pb1]; omega, hC2.al (by omega) _, gtrans hG3 (galloc _ _ _)⟩
    have hs1 := hG1.size
    have hfst : True := trivial
    go_cut [11, 12] (fun o i wx => ∃ (x y : Int) (zc sc : Nat), o = .int .i64 x ∧ i = .int .i64 y ∧ Cu wx g B ca cn cc zc sc ∧ zc ≤ z + 3 ∧ w.grownBy wx (some g) ∧ btw x 4 13 = true)
    case first =>
      go_wp2_with (first | (go_at_call 16; have _h := hfst; refine (pick_any g B ca cn cc z1 s1 _ (hC1.al (by omega) _) (by omega) _ (by omega)).mono ?_; rintro e w2 ⟨r2, z2, s2, rfl, hr20, hr21, -, hz2, hC2, hG2⟩; obtain ⟨k, rfl⟩ : ∃ k : Nat, r2 = k := ⟨r2.toNat, by omega⟩; obtain ⟨op, hop, hopb⟩ := cell_afterI (fun x => btw x 4 13) hG2 (by omega) (by kernel_rfl) k (by show k < 11; omega); have HOB : Hid (btw op 4 13 = true) := hopb; clear hopb; replace hG2 := gtrans hG1 (gAl hG2); clear hfst) | (go_at_call 16; refine (pick_any g B ca cn cc z2 s2 _ hC2 (by omega) _ (by omega)).mono ?_; rintro e w3 ⟨r3, z3, s3, rfl, hr30, hr31, -, hz3, hC3, hG3⟩; replace hG3 := gtrans hG2 hG3))
      all_goals go_meet
      all_goals first | exact ⟨_, _, z3, s3, rfl, rfl, hC3, by omega, hG3, by first | exact HOB.out | kernel_rfl⟩ | exact ⟨_, _, z2, s2, rfl, rfl, hC2, by omega, hG2, by first | exact HOB.out | kernel_rfl⟩ | exact ⟨_, _, z1, s1, rfl, rfl, hC1, by omega, hG1, by kernel_rfl⟩
    case rest =>
      obtain ⟨x, ic, zc, sc, rfl, rfl, hCc, hzc, hGc, hxb⟩ := hcut
      have HXB : Hid (btw x 4 13 = true) := hxb
      clear hxb
      have hsc := hGc.size
      have hcoc := co_gr hco hGc ha
      have hone : True := trivial
      go_upto_if 80 with (first | (go_at_call 31; have _h := hone; refine (ih (by omega) (d + 1) zc sc a n c ic _ (by omega) hCc (by omega) (by omega) hcoc ha hn1 hn).mono ?_; rintro e w3 ⟨m1, g1, cap1, z3, s3, xs1, rfl, hm1, hm1', hI1, hO1, hz3, hC3, hG3⟩; replace hG3 := gtrans hGc hG3; have hs3 := hG3.size; clear hone) | (go_at_call 43; refine (sArity x _).mono ?_; rintro e w4 ⟨rfl, rfl⟩; obtain ⟨r, hrx⟩ : ∃ r, arity x = r := ⟨_, rfl⟩; rw [hrx]; have HR : Hid (arity x = r) := hrx; clear hrx))
      go_cut [13] (fun o wx => ∃ (m gz cap z' s' : Nat) (xs : List Value), o = .slice (some ⟨gz, 0, none⟩) m cap ∧ 1 ≤ m ∧ m ≤ 2 * nb f ∧ Ied (arity x) m xs ∧ wx.ownsRow w.heap.size 74 3 (.slice (some ⟨gz, 0, none⟩) m cap) m xs ∧ z' ≤ z + 3 + 2 * pb f ∧ Cu wx g B ca cn cc z' s' ∧ w.grownBy wx (some g))
      case first =>
        have hnbf := nb_pos f
        have hnbf8 : nb f ≤ 100 := by
          rcases f with _ | _ | _ | f
          · decide
          · decide
          · decide
          · omega
        by_cases hr2 : r = 2
        rotate_left
        · go_wp2
          all_goals go_meet
          exact ⟨m1, g1, cap1, z3, s3, xs1, rfl, hm1, by omega, by rw [HR.out, ar_one HXB.out HR.out hr2]; exact hI1, hO1.mono hsc, by omega, hC3, hG3⟩
        go_wp2_with (first | (go_at_call 31; refine (ih (by omega) (d + 1) z3 s3 a n c ic _ (by omega) hC3 (by omega) (by omega) (co_gr hco hG3 ha) ha hn1 hn).mono ?_; rintro e w5 ⟨m2, g2, cap2, z5, s5, xs2, rfl, hm2, hm2', hI2, hO2, hz5, hC5, hG5⟩; replace hO1 := own_gr hO1 hG5 (by omega); replace hG5 := gtrans hG3 hG5; have hs5 := hG5.size) | (at_builtin; refine wpList_append_lies _ rfl _ _ _ rfl w.heap.size 74 i0 (.agg #[.int .i64 0, .int .i64 0, .string ⟨#[]⟩]) 3 32 Try.underlying47 HI.out hi0 hi1 hi2 rfl (by omega) _ m1 _ rfl (hO1.mono hsc) ⟨g2, 0, none⟩ m2 cap2 xs2 rfl hI2.len (fun j u hu => hO2.cells rfl j u hu) hI2.cells1 (by omega) (by unfold maxLen; omega) (by omega) (by omega) _ rfl ?_; intro g6 cap6 w6 hO6 hgrow6 hat6 hlt6; replace hgrow6 : w5.grownBy w6 (some g1) := hgrow6; have hge1 := grow_le hO1; have hC6 := hC5.gw hgrow6 (by omega) (by omega); have hG6 := gjoin hG5 hgrow6 (fun q hq => by have e : g1 = q := Option.some.inj hq; omega)))
        all_goals go_meet
        exact ⟨m1 + m2, g6, cap6, z5, s5, xs1 ++ xs2, rfl, by omega, by omega, by rw [HR.out, hr2]; exact hI1.app hI2, hO6, by omega, hC6, hG6⟩
      case rest =>
        obtain ⟨m1, g1, cap1, z7, s7, xs1, rfl, hm1, hm1', hI1, hO1, hz7, hC7, hG7⟩ := hcut
        have hs7 := hG7.size
        have hnbf8 : nb f ≤ 100 := by
          rcases f with _ | _ | _ | f
          · decide
          · decide
          · decide
          · omega
        go_wp2_with (at_builtin; refine wpList_append_lies _ rfl _ _ _ rfl w.heap.size 74 i0 (.agg #[.int .i64 0, .int .i64 0, .string ⟨#[]⟩]) 3 32 Try.underlying47 HI.out hi0 hi1 hi2 rfl (by omega) _ m1 _ rfl (hO1.alloc _) ⟨wc.heap.size, 0, none⟩ 1 1 [.int .i64 x, .int .i64 0, .string ⟨#[]⟩] rfl rfl (World.news_of_block (heap_alloc_new wc _)) (ones3 _ _ _) (by omega) (by unfold maxLen; omega) (by omega) (by simp; omega) _ rfl ?_; intro g8 cap8 w8 hO8 hgrow8 hat8 hlt8; replace hgrow8 : (wc.alloc (.cells #[.int .i64 x, .int .i64 0, .string ⟨#[]⟩] 74)).grownBy w8 (some g1) := hgrow8; have hge1 := grow_le hO1; have hC8 := (hC7.al (by omega) _).gw hgrow8 (by omega) (by simp; omega); have hG8 := gjoin (gtrans hG7 (galloc _ _ _)) hgrow8 (fun q hq => by have e : g1 = q := Option.some.inj hq; omega))
        go_ret
        exact ⟨m1 + 1, g8, cap8, z7, s7, _, rfl, by omega, by rw [nb1]; omega, by have q := hI1.op x 0 ⟨#[]⟩ (okI_op HXB.out) (Int.le_refl _); rwa [show arity x + (1 - arity x) = 1 by omega] at q, hO8, by rw [pb1]; omega, hC8, hG8⟩
end Go.Proofs.Ytlilmbeehmjpkaa
