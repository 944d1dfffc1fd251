/-
  What is drawn for the law on paths: a kind, a list, an entry, a number, a path.
-/
import Derived.Test.YtlbackkjjhpljaaGreatDoorCe
namespace Go.Proofs.YtlbackkjjhpljaaGreatDoor
open Go.RowKit
theorem own_mono {w : World} {b b' e n : Nat} {v : Value} {xs : List Value} (h : w.ownsRow b e 1 v n xs) (hb : b' ≤ b) : w.ownsRow b' e 1 v n xs := by
  obtain ⟨hl, hh⟩ := h
  refine ⟨hl, ?_⟩
  rcases hh with hh | ⟨gg, cap, cur, e1, e2, e3⟩
  · exact Or.inl hh
  · exact Or.inr ⟨gg, cap, cur, e1, by omega, e3⟩
theorem LsAt.mono {w : World} {b b' : Nat} {v : Value} {L : List ByteArray} (h : LsAt w b v L) (hb : b' ≤ b) : LsAt w b' v L := by
  obtain ⟨g, c, e, ho⟩ := h
  exact ⟨g, c, e, own_mono ho hb⟩
theorem LsAt.gr {w w' : World} {b g : Nat} {v : Value} {L : List ByteArray} (h : LsAt w b v L) (hg : w.grownBy w' (some g)) (hgb : g < b) : LsAt w' b v L := by
  obtain ⟨gz, c, e, ho⟩ := h
  exact ⟨gz, c, e, own_gr ho hg hgb⟩
theorem LsAt.below {w w' : World} {b : Nat} {v : Value} {L : List ByteArray} (h : LsAt w b v L) (hb : Below w.heap.size w w') : LsAt w' b v L := by
  obtain ⟨gz, c, e, ho⟩ := h
  exact ⟨gz, c, e, own_below ho hb⟩
/-- A list and a path as they are drawn. -/
structure Fin2 (w w' : World) (g : Nat) (vL vM : Value) (L M : List ByteArray) : Prop where
  l1 : 1 ≤ L.length
  l2 : L.length ≤ 10
  l3 : ∀ T ∈ L, T.size ≤ 3
  m2 : M.length ≤ 32
  m3 : ∀ T ∈ M, T.size ≤ 32
  la : LsAt w' w.heap.size vL L
  ma : LsAt w' w.heap.size vM M
  gr : w.grownBy w' (some g)
  lt : g < w.heap.size
theorem Fin2.more {w w' w2 : World} {g : Nat} {vL vM : Value} {L M : List ByteArray} (h : Fin2 w w' g vL vM L M) (hg : w'.grownBy w2 (some g)) : Fin2 w w2 g vL vM L M :=
  ⟨h.l1, h.l2, h.l3, h.m2, h.m3, h.la.gr hg h.lt, h.ma.gr hg h.lt, gtrans h.gr hg, h.lt⟩
theorem own_gr2 {w w' : World} {base e n g : Nat} {cap : Nat} {xs : List Value} {r : Option Nat} (h : w.ownsRow base e 1 (.slice (some ⟨g, 0, none⟩) n cap) n xs) (hg : w.grownBy w' r) (hr : r ≠ some g) : w'.ownsRow base e 1 (.slice (some ⟨g, 0, none⟩) n cap) n xs := by
  obtain ⟨hl, hh⟩ := h
  refine ⟨hl, ?_⟩
  rcases hh with ⟨e1, _⟩ | ⟨gg, cap', cur, e1, e2, e3, e4⟩
  · cases e1
  · cases e1
    exact Or.inr ⟨g, cap, cur, rfl, e2, (hg.block g (blk_lt e3) (fun e => hr e.symm)).trans e3, e4⟩
theorem size3 {n : Nat} {L : List ByteArray} (h : ∀ T ∈ L, T.size ≤ n) (i : Nat) (hi : i < L.length) : (L.getD i ⟨#[]⟩).size ≤ n := by
  have e : L.getD i ⟨#[]⟩ = L[i] := by simp [List.getD, hi]
  rw [e]
  exact h _ (List.getElem_mem hi)
set_option maxRecDepth 20000 in
set_option maxHeartbeats 4000000 in
theorem drawPath_any (g B : Nat) (ca : Option Addr) (cn cc z s : Nat) (w : World) (h : Cu w g B ca cn cc z s) (hz : z ≤ 10000000000) (hB : B ≤ w.heap.size) :
    Calls Tryz.prog 35 #[.pointer (some ⟨g, 0, none⟩)] w fun e w' => ∃ (k x : Int) (E : ByteArray) (L M : List ByteArray) (vL vM : Value), e = .returned (.tuple #[.int .i64 k, vL, .string E, .int .i64 x, vM]) ∧ E.size ≤ 3 ∧ Fin2 w w' g vL vM L M := by
  obtain ⟨i0, hi0, hz0, hz1, hz2⟩ := info_parts Tryz.info9
  have HI : Hid (Tryz.prog.info? 9 = some i0) := hi0
  clear hi0
  have hlt := h.lt
  go_enter Tryz.func35, Tryz.ntmps35
  go_wp2_with (first | (go_at_call 47; have _h := hF7; refine (pick_any g B ca cn cc z7 s7 _ hC7 (by omega) _ (by omega)).mono ?_; rintro e w8 ⟨r8, z8, s8, rfl, hr80, hr81, hr82, hz8', hC8, hG8⟩; have hF8 := hF7.more hG8; have hs8 := hG8.size) | (go_at_call 47; have _h := hM6; refine (pick_any g B ca cn cc z6 s6 _ hC6 (by omega) _ (by omega)).mono ?_; rintro e w7 ⟨r7, z7, s7, rfl, hr70, hr71, hr72, hz7', hC7, hG7⟩; have hF7 := hF6.more hG7; have hs7 := hG7.size; have hO7 := own_gr hO6 hG7 (by omega); have hM7 := own_gr hM6 hG7 (by omega); have hgM := grow_le hM6; have hg4 := (hO5.lt g4 rfl).2; obtain rfl | rfl | rfl | rfl | rfl | rfl | rfl | rfl | rfl | rfl : r7 = 0 ∨ r7 = 1 ∨ r7 = 2 ∨ r7 = 3 ∨ r7 = 4 ∨ r7 = 5 ∨ r7 = 6 ∨ r7 = 7 ∨ r7 = 8 ∨ r7 = 9 := (by omega)) | (go_at_call 47; have _h := hO4; refine (pick_any g B ca cn cc z4 s4 _ hC4 (by omega) _ (by omega)).mono ?_; rintro e w5 ⟨r5, z5, s5, rfl, hr50, hr51, hr52, hz5', hC5, hG5⟩; have hs5 := hG5.size; have hO5 := own_gr hO4 hG5 (by omega); obtain ⟨i, rfl⟩ : ∃ i : Nat, r5 = i := ⟨r5.toNat, (by omega)⟩; have hin : i < n := (by omega); obtain ⟨hSl5, hcap5, hszL5⟩ := sl_own (L := L) (by rw [hLn]; exact hO5) (by omega) (fun U hU => Nat.le_trans (hLs U hU) (by omega)); rw [hLn] at hSl5 hcap5 hszL5) | (go_at_call 47; have _h := hG1; refine (pick_any g B ca cn cc z1 s1 _ hC1 (by omega) _ (by omega)).mono ?_; rintro e w2 ⟨r2, z2, s2, rfl, hr20, hr21, hr22, hz2', hC2, hG2⟩; have hs2 := hG2.size) | (go_at_call 47; refine (pick_any g B ca cn cc z s _ h (by omega) _ (by omega)).mono ?_; rintro e w1 ⟨r1, z1, s1, rfl, hr10, hr11, hr12, hz1', hC1, hG1⟩; have hs1 := hG1.size) | (go_at_call 69; refine (drawEntries_any g B ca cn cc z2 s2 _ hC2 (by omega) (by omega) 9 (by omega)).mono ?_; rintro e w3 ⟨L0, g3, cap3, z3, s3, rfl, hL0, hT0, hO3, hz3', hC3, hG3⟩; have hs3 := hG3.size; have hC3x := hC3.gr (galloc w3 (.cells #[.string ⟨#[101]⟩] 9) none) (fun _ h => by cases h) (by omega); have hg3 := grow_le hO3) | (at_builtin; have _h := hbT; refine wpList_append_lies _ rfl _ _ _ rfl w5.heap.size 9 i0 (.string ⟨#[]⟩) 1 16 Tryz.underlying22 HI.out hz0 hz1 hz2 rfl (by omega) _ M0.length _ rfl (hM8.alloc _) ⟨w8.heap.size, 0, none⟩ 1 1 [.string T8] rfl rfl (World.news_of_block (heap_alloc_new w8 _)) (ones _ rfl) (by omega) (by unfold maxLen; omega) (by omega) (by simp; omega) _ rfl ?_; intro g9 cap9 w9 hown9 hgr9 hat9 hlt9; have hF9 : Fin2 w w9 g (.slice (some ⟨g4, 0, none⟩) n cap4) (.slice (some ⟨g9, 0, none⟩) (M0.length + 1) cap9) L (M0 ++ [T8]) := ⟨hF8t.l1, hF8t.l2, hF8t.l3, by simp; omega, all_put hF8t.m3 hT8, ⟨g4, cap4, by rw [hLn], by rw [hLn]; exact own_mono (own_gr2 (hO8.alloc _) hgr9 (fun e => by have e2 : gM = g4 := Option.some.inj e; omega)) (by omega)⟩, ⟨g9, cap9, by simp, by rw [← strs_put]; simpa using own_mono hown9 (by omega)⟩, gjoin (gtrans hF8t.gr (galloc w8 _ _)) hgr9 (fun q hq => by have e : gM = q := Option.some.inj hq; omega), hF8t.lt⟩) | (at_builtin; refine wpList_append_lies _ rfl _ _ _ rfl w2.heap.size 9 i0 (.string ⟨#[]⟩) 1 16 Tryz.underlying22 HI.out hz0 hz1 hz2 rfl (by omega) _ L0.length _ rfl (hO3.alloc _) ⟨w3.heap.size, 0, none⟩ 1 1 [.string ⟨#[101]⟩] rfl rfl (World.news_of_block (heap_alloc_new w3 _)) (ones _ rfl) (by omega) (by unfold maxLen; omega) (by omega) (by simp; omega) _ rfl ?_; intro g4 cap4 w4 hown4 hgr4 hat4 hlt4; obtain ⟨L, hL⟩ : ∃ L, L0 ++ [(⟨#[101]⟩ : ByteArray)] = L := ⟨_, rfl⟩; obtain ⟨n, hn⟩ : ∃ n, L0.length + 1 = n := ⟨_, rfl⟩; have hLn : L.length = n := (by rw [← hL, ← hn]; simp); have hLs : ∀ U ∈ L, U.size ≤ 3 := (by rw [← hL]; exact all_put hT0 (by decide)); have hO4 : w4.ownsRow w2.heap.size 9 1 (.slice (some ⟨g4, 0, none⟩) n cap4) n (L.map .string) := (by rw [← hL, ← strs_put, ← hn]; exact hown4); have hC4 := hC3x.gr hgr4 (fun q hq => by have e : g3 = q := Option.some.inj hq; omega) (by simp; omega); have hG4 : w.grownBy w4 (some g) := gjoin (gtrans (gtrans (gtrans hG1 hG2) hG3) (galloc w3 _ _)) hgr4 (fun q hq => by have e : g3 = q := Option.some.inj hq; omega); have hs4 : w3.heap.size + 1 ≤ w4.heap.size := (by have := hgr4.size; simpa using this); have hn1 : 1 ≤ n := (by omega); have hn10 : n ≤ 10 := (by omega); obtain ⟨z4, hz4⟩ : ∃ z4, z3 = z4 := ⟨_, rfl⟩; obtain ⟨s4, hs4'⟩ : ∃ s4, s3 = s4 := ⟨_, rfl⟩; rw [hz4, hs4'] at hC4; rw [hn]; clear hown4 hL hn) | (go_at_call 70; refine (specPath_any n _ _ n (fun j => L.getD j ⟨#[]⟩) _ cap4 _ (Nat.le_refl _) (by omega) hSl5 hcap5 (fun j hj => Nat.le_trans (hszL5 j hj) (by omega))).mono ?_; rintro e w6 ⟨M0, v6, rfl, hM0, hT6, ⟨gM, capM, rfl, hM6⟩, hb6⟩; have hs6 := hb6.size; have hO6 := own_below hO5 hb6; have hSl6 := hSl5.later hb6; have hC6 := hC5.gr (gbelow hb6 none) (fun _ h => by cases h) (by omega); have hF6 : Fin2 w w6 g (.slice (some ⟨g4, 0, none⟩) n cap4) (.slice (some ⟨gM, 0, none⟩) M0.length capM) L M0 := ⟨by omega, by omega, hLs, by omega, hT6, ⟨g4, cap4, by rw [hLn], by rw [hLn]; exact own_mono hO6 (by omega)⟩, ⟨gM, capM, rfl, own_mono hM6 (by omega)⟩, gtrans (gtrans hG4 hG5) (gbelow hb6 _), by omega⟩; obtain ⟨z6, hz6⟩ : ∃ z6, z5 = z6 := ⟨_, rfl⟩; obtain ⟨s6, hs6'⟩ : ∃ s6, s5 = s6 := ⟨_, rfl⟩; rw [hz6, hs6'] at hC6; obtain ⟨b6, o6, e6, hc6⟩ := hSl6.at i hin; cases e6; rw [Nat.zero_add] at hc6; have hEs := size3 hLs i (by omega); obtain ⟨E0, hE0⟩ : ∃ E0, L.getD i ⟨#[]⟩ = E0 := ⟨_, rfl⟩; replace hc6 : w6.cell? ⟨g4, i, none⟩ = some (.string E0) := (by rw [← hE0]; exact hc6); rw [hE0] at hEs; clear hE0) | (go_at_call 71; have _h := hr80; refine (drawBytes_any g B ca cn cc z8 s8 _ hC8 (by omega) (by omega) 2 (by omega)).mono ?_; rintro e w9 ⟨T9, z9, s9, rfl, hT9, hz9', hC9, hG9⟩; have hF9 := hF8.more hG9; have hs9 := hG9.size; obtain ⟨j, rfl⟩ : ∃ j : Nat, r8 = j := ⟨r8.toNat, (by omega)⟩; have hj : j < M0.length := (by omega); have hM9 := own_gr (own_gr hM7 hG8 (by omega)) hG9 (by omega); have hcl : w9.cell? ⟨gM, j, none⟩ = some (.string (M0.getD j ⟨#[]⟩)) := (by rw [hM9.cellAt j (by omega)]; simp [List.getD, hj]); have hfl := hM9.frozenAt j; have hO9 := own_gr (own_gr hO7 hG8 (by omega)) hG9 (by omega); have hFst : Fin2 w (w9.setCell ⟨gM, j, none⟩ (.string T9)) g (.slice (some ⟨g4, 0, none⟩) n cap4) (.slice (some ⟨gM, 0, none⟩) M0.length capM) L (M0.set j T9) := ⟨hF9.l1, hF9.l2, hF9.l3, by rw [List.length_set]; exact hF9.m2, all_set hF9.m3 (by omega) j, ⟨g4, cap4, by rw [hLn], by rw [hLn]; exact own_mono (own_gr2 hO9 (gset w9 gM j (.string T9)) (fun e => by have := Option.some.inj e; omega)) (by omega)⟩, ⟨gM, capM, by rw [List.length_set], by rw [List.length_set, List.map_set]; exact own_mono (own_put hM9 j (.string T9)) (by omega)⟩, gjoin hF9.gr (gset w9 gM j (.string T9)) (fun q hq => by have e : gM = q := Option.some.inj hq; omega), hF9.lt⟩) | (go_at_call 71; have _h := hF7; refine (drawBytes_any g B ca cn cc z7 s7 _ hC7 (by omega) (by omega) 2 (by omega)).mono ?_; rintro e w8 ⟨T8, z8, s8, rfl, hT8, hz8', hC8, hG8⟩; have hF8 := hF7.more hG8; have hs8 := hG8.size; have hO8 := own_gr hO7 hG8 (by omega); obtain ⟨hSl8, hcap8, hsz8⟩ := sl_own (L := L) (by rw [hLn]; exact hO8) (by omega) (fun U hU => Nat.le_trans (hLs U hU) (by omega)); rw [hLn] at hSl8 hcap8 hsz8) | (go_at_call 16; refine (specRoot_as _ n (fun j => L.getD j ⟨#[]⟩) _ cap4 _ _ hSl8 hcap8 (by omega) (fun j hj => Nat.le_trans (hsz8 j hj) (by omega)) rfl).mono ?_; rintro e w9 ⟨rfl, hb9⟩; have hs9 := hb9.size; have hF9 := hF8.more (gbelow hb9 _); have hC9 := hC8.gr (gbelow hb9 none) (fun _ h => by cases h) (by omega)) | (go_at_call 72; refine (specForge_any g B ca cn cc z8 s8 _ T8 _ i n _ hC9 (by omega) (by omega) (by omega) hin (by omega)).mono ?_; rintro e w10 ⟨M1, v10, z10, s10, rfl, hM1, hT10, ⟨gN, capN, rfl, hN10⟩, hz10', hC10, hG10⟩; have hF10 : Fin2 w w10 g (.slice (some ⟨g4, 0, none⟩) n cap4) (.slice (some ⟨gN, 0, none⟩) M1.length capN) L M1 := ⟨hF9.l1, hF9.l2, hF9.l3, by omega, fun U hU => Nat.le_trans (hT10 U hU) (by omega), hF9.la.gr hG10 hF9.lt, ⟨gN, capN, rfl, own_mono hN10 (by omega)⟩, gtrans hF9.gr hG10, hF9.lt⟩) | (go_at_call 48; refine (width_any _ _).mono ?_; rintro e w0 ⟨rfl, hw0⟩; subst w0) | (go_at_call 73; refine (times_any _ (wid_le _) _).mono ?_; rintro e w8 ⟨T8, rfl, hT8, hbT⟩; have hs8 := hbT.size; have hM8 := own_below hM7 hbT; have hO8 := own_below hO7 hbT; have hF8t := hF7.more (gbelow hbT _)) | (go_at_call 74; refine (drawKind_any g B ca cn cc z7 s7 _ hC7 (by omega) (by omega)).mono ?_; rintro e w8 ⟨r8k, z8, s8, rfl, hC8, hG8⟩; have hF8 := hF7.more hG8))
  all_goals
    refine bodyPost_ret (by simp [results, Tryz.results35, go_sem]; rfl) rfl ?_
    first
      | exact ⟨_, _, T8, L, M1, _, _, rfl, by omega, hF10⟩
      | exact ⟨_, _, _, L, M0.set j T9, _, _, rfl, hEs, hFst⟩
      | exact ⟨_, _, _, L, M0 ++ [T8], _, _, rfl, hEs, hF9⟩
      | exact ⟨_, _, T8, L, M0, _, _, rfl, by omega, hF8⟩
      | exact ⟨_, _, _, L, M0, _, _, rfl, hEs, hF8⟩
      | exact ⟨_, _, _, L, M0, _, _, rfl, hEs, hF7⟩
end Go.Proofs.YtlbackkjjhpljaaGreatDoor
