/-
  A forged path: as far as what is drawn wants it.
-/
import Derived.Test.YtlbackkjjhpljaaGreatDoorCc
namespace Go.Proofs.YtlbackkjjhpljaaGreatDoor
open Go.RowKit
theorem own_put {w : World} {base g n cap : Nat} {xs : List Value} (h : w.ownsRow base 9 1 (.slice (some ⟨g, 0, none⟩) n cap) n xs) (i : Nat) (u : Value) : (w.setCell ⟨g, i, none⟩ u).ownsRow base 9 1 (.slice (some ⟨g, 0, none⟩) n cap) n (xs.set i u) := by
  obtain ⟨hl, hh⟩ := h
  refine ⟨by rw [List.length_set]; exact hl, ?_⟩
  rcases hh with ⟨e, _⟩ | ⟨gg, cap', cur, e1, e2, e3, e4, e5, e6, e7⟩
  · cases e
  · cases e1
    refine Or.inr ⟨g, cap, cur.setIfInBounds i u, rfl, e2, heap_setCell_same w g i cur 9 u e3, e4, e5, by simpa using e6, ?_⟩
    rw [← e7, Array.toList_setIfInBounds, List.take_set]
theorem conv_one (w : World) (x : Int) (h0 : 0 ≤ x) (h1 : x ≤ 255) :
    (convert 33 9 (.slice (some ⟨w.heap.size, 0, none⟩) 1 1)).run Tryz.prog (w.alloc (.cells #[.int .u8 x] 5)) = .ok (.string ⟨#[UInt8.ofNat x.toNat]⟩) (w.alloc (.cells #[.int .u8 x] 5)) := by
  refine run_convert_bytes_back _ 33 9 5 ⟨w.heap.size, 0, none⟩ _ [UInt8.ofNat x.toNat] Tryz.underlying33 Tryz.underlying5 Tryz.underlying9 ?_
  intro j hj
  obtain rfl : j = 0 := by simpa using hj
  rw [show (⟨w.heap.size, 0, none⟩ : Addr).add 0 = ⟨w.heap.size, 0, none⟩ from rfl, World.cell?_alloc_at _ _ _ _ rfl]
  simp
  omega
theorem sl_own {w : World} {base g cap : Nat} {L : List ByteArray} (h : w.ownsRow base 9 1 (.slice (some ⟨g, 0, none⟩) L.length cap) L.length (L.map .string)) (hL : L.length ≤ 1048576) (hs : ∀ T ∈ L, T.size ≤ 1048576) : Sl w (some ⟨g, 0, none⟩) L.length (fun j => L.getD j ⟨#[]⟩) ∧ L.length ≤ cap ∧ (∀ j, j < L.length → (L.getD j ⟨#[]⟩).size ≤ 1048576) := by
  have hb : ∀ j, j < L.length → (L.getD j ⟨#[]⟩).size ≤ 1048576 := fun j hj => by
    have e : L.getD j ⟨#[]⟩ = L[j] := by simp [List.getD, hj]
    rw [e]
    exact hs _ (List.getElem_mem hj)
  refine ⟨⟨by omega, fun j hj => ⟨Nat.le_trans (hb j hj) (by omega), g, 0, rfl, ?_⟩⟩, ?_, hb⟩
  · rw [Nat.zero_add, h.cellAt j (by omega)]
    simp [List.getD, hj]
  · obtain ⟨_, hh⟩ := h
    rcases hh with ⟨e, _⟩ | ⟨gg, cap', cur, e1, e2, e3, e4, e5⟩
    · cases e
    · cases e1
      exact e4
theorem gbelow {w w' : World} (h : Below w.heap.size w w') (r : Option Nat) : w.grownBy w' r := ⟨h.os, h.tape, h.output, h.size, fun k hk _ => h.block k hk⟩
theorem all_set {n : Nat} {L : List ByteArray} {T : ByteArray} (h : ∀ U ∈ L, U.size ≤ n) (hT : T.size ≤ n) (i : Nat) : ∀ U ∈ L.set i T, U.size ≤ n := by
  intro U hU
  rcases List.mem_or_eq_of_mem_set hU with h1 | h1
  · exact h U h1
  · rw [h1]
    exact hT
set_option maxRecDepth 20000 in
set_option maxHeartbeats 4000000 in
theorem specForge_any (g B : Nat) (ca : Option Addr) (cn cc z s : Nat) (k : Int) (E R : ByteArray) (i n : Nat) (w : World) (h : Cu w g B ca cn cc z s) (hz : z ≤ 100000000000) (hB : B ≤ w.heap.size) (hE : E.size ≤ 1048576) (hi : i < n) (hn : n ≤ 64) :
    Calls Tryz.prog 72 #[.pointer (some ⟨g, 0, none⟩), .int .i64 k, .string E, .int .i64 i, .int .i64 n, .string R] w fun e w' => ∃ (L : List ByteArray) (v : Value) (z' s' : Nat), e = .returned v ∧ L.length ≤ 31 ∧ (∀ T ∈ L, T.size ≤ 1) ∧ LsAt w' w.heap.size v L ∧ z' ≤ z + 31 ∧ Cu w' g B ca cn cc z' s' ∧ w.grownBy w' (some g) := by
  obtain ⟨i0, hi0, hz0, hz1, hz2⟩ := info_parts Tryz.info9
  have HI : Hid (Tryz.prog.info? 9 = some i0) := hi0
  clear hi0
  have hlt := h.lt
  have h0 := h.gr (galloc w (.cells #[] 9) none) (fun _ h => by cases h) hB
  have hO0 : (w.alloc (.cells #[] 9)).ownsRow w.heap.size 9 1 (.slice (some ⟨w.heap.size, 0, none⟩) 0 0) 0 [] := World.ownsRow_lit w #[] 0 (Nat.le_refl _) (by simp [maxLen]) rfl
  obtain ⟨p, hp⟩ : ∃ p, pl 31 i n = p := ⟨_, rfl⟩
  have HP : Hid (pl 31 i n = p) := hp
  have hp31 : p ≤ 31 := by rw [← hp]; exact pl_le _ _ _
  clear hp
  go_enter Tryz.func72, Tryz.ntmps72
  go_wp2
  go_loopw [13] (fun o wr => ∃ (q : Nat) (L : List ByteArray) (gz cap zz ss : Nat), q ≤ p ∧ o = .slice (some ⟨gz, 0, none⟩) q cap ∧ L.length = q ∧ (∀ T ∈ L, T.size ≤ 1) ∧ wr.ownsRow w.heap.size 9 1 (.slice (some ⟨gz, 0, none⟩) q cap) q (L.map .string) ∧ Cu wr g B ca cn cc zz ss ∧ zz ≤ z + q ∧ w.grownBy wr (some g)) (fun o _ => p - (match o with | .slice _ q _ => q | _ => 0))
  case atStart => exact ⟨0, [], w.heap.size, 0, z, s, by omega, rfl, rfl, by simp, hO0, h0, by omega, galloc w _ _⟩
  case round =>
    obtain ⟨q, L, gz, cap, zz, ss, hq, rfl, hL, hT, hO, hC, hzz, hG⟩ := hrel
    have HL : Hid (L.length = q) := hL
    have hgz := grow_le hO
    have hwr := hG.size
    clear hL
    by_cases hlt2 : q < p
    · go_wp2_with (first | (go_at_call 52; refine (specPathLen_as 31 i n _ _ p _ (by omega) (by omega) (by omega) hi (by rfl) (by rfl) HP.out).mono ?_; rintro e w0 ⟨rfl, hw0⟩; subst w0) | (go_at_call 47; refine (pick_any g B ca cn cc zz ss _ hC (by omega) _ (by omega)).mono ?_; rintro e w2 ⟨y, z2, s2, rfl, hy0, hy1, hy2, hz2', hC2, hG2⟩; have hO2 := own_gr hO hG2 (by omega); have hs2 := hG2.size; have hC3 := (hC2.gr (galloc w2 (.cells #[.int .u8 y] 5) none) (fun _ h => by cases h) (by omega)); have ey : y % 256 = y := (by omega); have hcv := conv_one w2 y hy0 hy2; obtain ⟨T, hTe⟩ : ∃ T : ByteArray, ⟨#[UInt8.ofNat y.toNat]⟩ = T := ⟨_, rfl⟩; have hTs : T.size ≤ 1 := (by rw [← hTe]; exact Nat.le_refl 1); rw [hTe] at hcv; clear hTe) | (at_builtin; refine wpList_append_lies _ rfl _ _ _ rfl w.heap.size 9 i0 (.string ⟨#[]⟩) 1 16 Tryz.underlying22 HI.out hz0 hz1 hz2 rfl (by omega) _ q _ rfl ((hO2.alloc _).alloc _) ⟨w2.heap.size + 1, 0, none⟩ 1 1 [.string T] rfl rfl (World.news_of_block (by have := heap_alloc_new (w2.alloc (.cells #[.int .u8 y] 5)) (.cells #[.string T] 9); simpa using this)) (ones _ rfl) (by omega) (by unfold maxLen; omega) (by omega) (by simp; omega) _ rfl ?_; intro g1 cap1 w3 hown1 hgrow hat hlt1))
      go_roundw
      case rel => exact ⟨q + 1, L ++ [T], g1, cap1, z2, s2, by omega, rfl, by simp [HL.out], all_put hT hTs, by rw [← strs_put L T]; simpa using hown1, (hC3.gr (galloc _ (.cells #[.string T] 9) none) (fun _ h => by cases h) (by simp; omega)).gr hgrow (fun j hj => by have e : gz = j := Option.some.inj hj; omega) (by simp; omega), by omega, gjoin (gtrans (gtrans (gtrans hG hG2) (galloc w2 _ _)) (galloc _ _ _)) hgrow (fun j hj => by have e : gz = j := Option.some.inj hj; omega)⟩
      case measure => simp; omega
    · obtain rfl : q = p := by omega
      by_cases hq0 : q = 0
      · subst hq0
        go_wp2_with (go_at_call 52; refine (specPathLen_as 31 i n _ _ 0 _ (by omega) (by omega) (by omega) hi (by rfl) (by rfl) HP.out).mono ?_; rintro e w0 ⟨rfl, hw0⟩; subst w0)
        go_ret
        exact ⟨L, _, zz, ss, rfl, by rw [HL.out]; omega, hT, ⟨gz, cap, by rw [HL.out]; rfl, by rw [HL.out]; exact hO⟩, by omega, hC, hG⟩
      · have hqz : ¬ (q : Int) = 0 := by omega
        have dqz : ((q : Int) == 0) = false := beq_eq_false_iff_ne.2 hqz
        by_cases hk1 : k = 1
        · subst hk1
          go_wp2_with (go_at_call 52; refine (specPathLen_as 31 i n _ _ q _ (by omega) (by omega) (by omega) hi (by rfl) (by rfl) HP.out).mono ?_; rintro e w0 ⟨rfl, hw0⟩; subst w0)
          obtain ⟨r, rfl⟩ : ∃ r, q = r + 1 := ⟨q - 1, by omega⟩
          clear hlt2 hq0 hqz dqz
          go_loopw [14] (fun xv wr => ∃ (j : Nat) (L2 : List ByteArray) (s2 : Nat), j ≤ 256 ∧ xv = .int .i64 j ∧ L2.length = r + 1 ∧ (∀ T ∈ L2, T.size ≤ 1) ∧ wr.ownsRow w.heap.size 9 1 (.slice (some ⟨gz, 0, none⟩) (r + 1) cap) (r + 1) (L2.map .string) ∧ Cu wr g B ca cn cc zz s2 ∧ w.grownBy wr (some g)) (fun xv _ => 256 - (intOf xv).toNat)
          case atStart => exact ⟨0, L, ss, by omega, rfl, HL.out, hT, hO, hC, hG⟩
          case round =>
            obtain ⟨j, L2, s2, hj, rfl, hL2, hT2, hO2, hC2, hG2⟩ := hrel
            have HL2 : Hid (L2.length = r + 1) := hL2
            have hwrb := hG2.size
            by_cases hj2 : j < 256
            · have hcv := conv_one wr (j : Int) (by omega) (by omega)
              obtain ⟨T, hTe⟩ : ∃ T : ByteArray, ⟨#[UInt8.ofNat (j : Int).toNat]⟩ = T := ⟨_, rfl⟩
              have hTs : T.size ≤ 1 := by rw [← hTe]; exact Nat.le_refl 1
              rw [hTe] at hcv
              clear hTe
              have ej : (j : Int) % 256 = j := by omega
              have hO3 := hO2.alloc (.cells #[.int .u8 (j : Int)] 5)
              have hcell : (wr.alloc (.cells #[.int .u8 (j : Int)] 5)).cell? ⟨gz, r, none⟩ = some (.string (L2.getD r ⟨#[]⟩)) := by rw [hO3.cellAt r (by omega)]; simp [List.getD, hL2]
              have hfr := hO3.frozenAt r
              have hO4 : ((wr.alloc (.cells #[.int .u8 (j : Int)] 5)).setCell ⟨gz, r, none⟩ (.string T)).ownsRow w.heap.size 9 1 (.slice (some ⟨gz, 0, none⟩) (r + 1) cap) (r + 1) ((L2.set r T).map .string) := by have := own_put hO3 r (.string T); rw [List.map_set]; exact this
              have hl4 : (L2.set r T).length = r + 1 := by rw [List.length_set]; exact hL2
              have hT4 := all_set hT2 hTs r
              obtain ⟨hSl, hcap, -⟩ := sl_own (L := L2.set r T) (by rw [hl4]; exact hO4) (by omega) (fun U hU => Nat.le_trans (hT4 U hU) (by omega))
              rw [hl4] at hSl hcap
              have hC4 : Cu ((wr.alloc (.cells #[.int .u8 (j : Int)] 5)).setCell ⟨gz, r, none⟩ (.string T)) g B ca cn cc zz s2 := (hC2.gr (galloc wr (.cells #[.int .u8 (j : Int)] 5) none) (fun _ h => by cases h) (by omega)).gr (gset _ gz r (.string T)) (fun q hq => by have e : gz = q := Option.some.inj hq; omega) (by simp; omega)
              have hG4 : w.grownBy ((wr.alloc (.cells #[.int .u8 (j : Int)] 5)).setCell ⟨gz, r, none⟩ (.string T)) (some g) := gjoin (gtrans hG2 (galloc wr _ _)) (gset _ gz r (.string T)) (fun q hq => by have e : gz = q := Option.some.inj hq; omega)
              obtain ⟨bb, hbb⟩ : ∃ bb, chkB 1 i n E R (r + 1) (fun j => (L2.set r T).getD j ⟨#[]⟩) = bb := ⟨_, rfl⟩
              have HBB : Hid (chkB 1 i n E R (r + 1) (fun j => (L2.set r T).getD j ⟨#[]⟩) = bb) := hbb
              have H4 : Hid (((wr.alloc (.cells #[.int .u8 (j : Int)] 5)).setCell ⟨gz, r, none⟩ (.string T)).ownsRow w.heap.size 9 1 (.slice (some ⟨gz, 0, none⟩) (r + 1) cap) (r + 1) ((L2.set r T).map .string)) := hO4
              have HC4 : Hid (Cu ((wr.alloc (.cells #[.int .u8 (j : Int)] 5)).setCell ⟨gz, r, none⟩ (.string T)) g B ca cn cc zz s2) := hC4
              have HG4 : Hid (w.grownBy ((wr.alloc (.cells #[.int .u8 (j : Int)] 5)).setCell ⟨gz, r, none⟩ (.string T)) (some g)) := hG4
              have HS4 : Hid (Sl ((wr.alloc (.cells #[.int .u8 (j : Int)] 5)).setCell ⟨gz, r, none⟩ (.string T)) (some ⟨gz, 0, none⟩) (r + 1) (fun j => (L2.set r T).getD j ⟨#[]⟩)) := hSl
              have HT4 : Hid (∀ U ∈ L2.set r T, U.size ≤ 1) := hT4
              have HL4 : Hid ((L2.set r T).length = r + 1) := hl4
              have hB4 : B ≤ ((wr.alloc (.cells #[.int .u8 (j : Int)] 5)).setCell ⟨gz, r, none⟩ (.string T)).heap.size := by simp [World.setCell]; omega
              clear hbb hO4 hC4 hG4 hSl hT4 hl4 hL2
              cases bb
              · go_wp2_with (go_at_call 17; refine (specCheckPath_any 1 _ _ E R _ (r + 1) cap _ _ (by omega) HS4.out hcap).mono ?_; rw [HBB.out]; rintro e w3 ⟨rfl, hb3⟩)
                go_roundw
                case rel => exact ⟨_, .int .i64 ((j : Int) + 1), _, _, _, _, _, _, _, _, _, _, _, _, _, _, _, _, _, _, _, _, _, ⟨j + 1, L2.set r T, s2, by omega, by go_num, HL4.out, HT4.out, own_below H4.out hb3, HC4.out.gr (gbelow hb3 none) (fun _ h => by cases h) hB4, gtrans HG4.out (gbelow hb3 _)⟩, rfl⟩
                case measure => simp [intOf]; omega
              · go_wp2_with (go_at_call 17; refine (specCheckPath_any 1 _ _ E R _ (r + 1) cap _ _ (by omega) HS4.out hcap).mono ?_; rw [HBB.out]; rintro e w3 ⟨rfl, hb3⟩)
                go_ret
                exact ⟨L2.set r T, _, zz, s2, rfl, by rw [HL4.out]; omega, HT4.out, ⟨gz, cap, by rw [HL4.out]; rfl, by rw [HL4.out]; exact own_below H4.out hb3⟩, by omega, HC4.out.gr (gbelow hb3 none) (fun _ h => by cases h) hB4, gtrans HG4.out (gbelow hb3 _)⟩
            · obtain rfl : j = 256 := by omega
              go_wp2
              go_ret
              exact ⟨L2, _, zz, s2, rfl, by rw [HL2.out]; omega, hT2, ⟨gz, cap, by rw [HL2.out]; rfl, by rw [HL2.out]; exact hO2⟩, by omega, hC2, hG2⟩
        · have dk1 : (k == 1) = false := beq_eq_false_iff_ne.2 hk1
          go_wp2_with (go_at_call 52; refine (specPathLen_as 31 i n _ _ q _ (by omega) (by omega) (by omega) hi (by rfl) (by rfl) HP.out).mono ?_; rintro e w0 ⟨rfl, hw0⟩; subst w0)
          go_ret
          exact ⟨L, _, zz, ss, rfl, by rw [HL.out]; omega, hT, ⟨gz, cap, by rw [HL.out]; rfl, by rw [HL.out]; exact hO⟩, by omega, hC, hG⟩
end Go.Proofs.YtlbackkjjhpljaaGreatDoor
