/-
  What the specification draws: a work.
-/
import Derived.Test.YtjbbbfplephkpaaGreatDoorJm
namespace Go.Proofs.YtjbbbfplephkpaaGreatDoor
open Go.RowKit
theorem co_nil (w : World) (a : Option Addr) : Co w a 0 := fun _ h => absurd h (Nat.not_lt_zero _)
/-- A statement that makes a table. -/
def pC (tb : ByteArray) (a : Option Addr) (n c : Nat) : SP := ⟨1, tb, a, n, c, none, 0, 0, ⟨#[]⟩, none, 0, 0, none, 0, 0, none, 0, 0⟩
theorem smC {w : World} {tb : ByteArray} {a : Option Addr} {n c : Nat} (ht : tb.size ≤ 40) (h : Co w a n) (hn : n ≤ 100) : Sm w (pC tb a n c) :=
  ⟨ht, Nat.zero_le _, h, fun _ h => absurd h (Nat.not_lt_zero _), fun _ h => absurd h (Nat.not_lt_zero _), fun _ h => absurd h (Nat.not_lt_zero _), fun _ h => absurd h (Nat.not_lt_zero _), hn, Nat.zero_le _, Nat.zero_le _, Nat.zero_le _, Nat.zero_le _⟩
set_option maxRecDepth 20000 in
set_option maxHeartbeats 2000000 in
theorem head_any (w : World) : Calls Tryz.prog 29 #[] w fun e w' => ∃ (gh a1 n1 a2 n2 : Nat), e = .returned (.slice (some ⟨gh, 0, none⟩) 2 2) ∧ w.heap.size ≤ gh ∧ w.heap.size ≤ a1 ∧ w.heap.size ≤ a2 ∧ n1 ≤ 3 ∧ n2 ≤ 3 ∧ Co w' (some ⟨a1, 0, none⟩) n1 ∧ Co w' (some ⟨a2, 0, none⟩) n2 ∧ w'.heap[gh]? = some (.cells ((pC ⟨#[116]⟩ (some ⟨a1, 0, none⟩) n1 n1).cs ++ (pC ⟨#[117]⟩ (some ⟨a2, 0, none⟩) n2 n2).cs) 61 (0, 0)) ∧ w.grownBy w' none := by
  have hone : True := trivial
  go_enter Tryz.func29, Tryz.ntmps29
  go_wp2_with (first | (go_at_call 41; have _h := hone; refine (usual_any _ _).mono ?_; rintro e w1 ⟨n1, hn11, hn13, rfl, hco1, hs1, hG1⟩; clear hone) | (go_at_call 41; refine (usual_any _ _).mono ?_; rintro e w2 ⟨n2, hn21, hn23, rfl, hco2, hs2, hG2⟩))
  go_ret
  refine ⟨w2.heap.size, w.heap.size, n1, w1.heap.size, n2, rfl, Nat.le_trans hG1.size hG2.size, Nat.le_refl _, hG1.size, hn13, hn23, ?_, ?_, ?_, gtrans (gtrans hG1 hG2) (galloc _ _ _)⟩
  · exact ((hco1.later ⟨hG2.os, hG2.tape, hG2.output, hG2.size, fun k hk => hG2.block k hk (fun e => by cases e)⟩).later (bal _ _))
  · exact hco2.later (bal _ _)
  · exact heap_alloc_new w2 _
theorem gB {w w' : World} {r : Option Nat} (hb : Below w.heap.size w w') : w.grownBy w' r := ⟨hb.os, hb.tape, hb.output, hb.size, fun k hk _ => hb.block k hk⟩
theorem encode_as (v : Value) (w : World) (hv : ∃ p : SP, v = .agg p.cs ∧ Sm w p) : Calls Tryz.prog 30 #[v] w fun e w' => IsT 60000 e ∧ Below w.heap.size w w' := by
  obtain ⟨p, rfl, h⟩ := hv
  exact encode_any p w h
/-- Texts of an entry's length. -/
def Es (L : List ByteArray) : Prop := ∀ T ∈ L, T.size ≤ 60000
theorem Es.put {L : List ByteArray} {T : ByteArray} (h : Es L) (hT : T.size ≤ 60000) : Es (L ++ [T]) := all_put h hT
set_option maxRecDepth 20000 in
theorem Tryz.info9q : (Tryz.prog.info? 9).map (fun i => (i.zero, i.size, i.bytes)) = some (some (.string ⟨#[]⟩), 1, 16) := by kernel_rfl
set_option maxRecDepth 20000 in
set_option maxHeartbeats 4000000 in
theorem entries_any (g B : Nat) (ca : Option Addr) (cn cc z s : Nat) (w : World) (h : Cu w g B ca cn cc z s) (hz : z ≤ 100000000) (hB : B ≤ w.heap.size) :
    Calls Tryz.prog 11 #[.pointer (some ⟨g, 0, none⟩), .int .i64 12] w fun e w' => ∃ (L : List ByteArray) (gz cap z' s' : Nat), e = .returned (.slice (some ⟨gz, 0, none⟩) L.length cap) ∧ L.length ≤ 15 ∧ 1 ≤ L.length ∧ Es L ∧ w'.ownsRow w.heap.size 9 1 (.slice (some ⟨gz, 0, none⟩) L.length cap) L.length (L.map .string) ∧ z' ≤ z + 20000 ∧ Cu w' g B ca cn cc z' s' ∧ w.grownBy w' (some g) := by
  obtain ⟨i0, hi, hi0, hi1, hi2⟩ := info_parts Tryz.info9q
  have HI : Hid (Tryz.prog.info? 9 = some i0) := hi
  clear hi
  have hlt := h.lt
  have hO0 : (w.alloc (.cells #[] 9)).ownsRow w.heap.size 9 1 (.slice (some ⟨w.heap.size, 0, none⟩) 0 0) 0 [] := World.ownsRow_lit w #[] 0 (Nat.le_refl _) (by simp [maxLen]) rfl
  go_enter Tryz.func11, Tryz.ntmps11
  go_wp2_with (go_at_call 29; refine (head_any _).mono ?_; rintro e w1 ⟨gh, a1, n1, a2, n2, rfl, hgh, ha1, ha2, hn1, hn2, hco1, hco2, hbl, hG1⟩)
  have hs1 := hG1.size
  have hsa : (w.alloc (.cells #[] 9)).heap.size = w.heap.size + 1 := by simp
  rw [hsa] at hs1 hgh ha1 ha2
  have hO1 := own_gr hO0 (gnone hG1 : (w.alloc (.cells #[] 9)).grownBy w1 (some g)) (by omega)
  have hC1 := (h.al hB (.cells #[] 9)).gr hG1 (fun _ e => by cases e) (by rw [hsa]; omega)
  have hGG : w.grownBy w1 (some g) := gtrans (galloc w _ _) (gnone hG1)
  have cel : ∀ i v, ((pC ⟨#[116]⟩ (some ⟨a1, 0, none⟩) n1 n1).cs ++ (pC ⟨#[117]⟩ (some ⟨a2, 0, none⟩) n2 n2).cs)[i]? = some v → w1.cell? ⟨gh, i, none⟩ = some v := fun i v hv => (cell_of_row _ _ i _ _ _ hbl).trans hv
  go_loopw [5, 7, 13] (fun o _ i wr => ∃ (k : Nat) (L : List ByteArray) (gz cap : Nat), k ≤ 2 ∧ i = .int .i64 k ∧ o = .slice (some ⟨gz, 0, none⟩) k cap ∧ L.length = k ∧ Es L ∧ wr.ownsRow w.heap.size 9 1 (.slice (some ⟨gz, 0, none⟩) k cap) k (L.map .string) ∧ (gz = w.heap.size ∨ w1.heap.size ≤ gz) ∧ (∀ q v, w.heap.size < q.block → w1.cell? q = some v → wr.cell? q = some v) ∧ w1.heap.size ≤ wr.heap.size ∧ Cu wr g B ca cn cc z s ∧ w.grownBy wr (some g)) (fun _ _ i _ => 2 - (intOf i).toNat)
  case atStart => exact ⟨0, [], w.heap.size, 0, by omega, rfl, rfl, rfl, (fun T hT => by cases hT), hO1, Or.inl rfl, (fun _ _ _ h => h), Nat.le_refl _, hC1, hGG⟩
  case round =>
    obtain ⟨k, L, gz, cap, hk, rfl, rfl, hL, hE, hO, hgz, hkk, hsr, hC, hG⟩ := hrel
    by_cases hk2 : k < 2
    · rcases (show k = 0 ∨ k = 1 by omega) with rfl | rfl
      · have f0 := hkk ⟨gh, 0, none⟩ _ (by show w.heap.size < gh; omega) (cel 0 _ rfl)
        have f1 := hkk ⟨gh, 1, none⟩ _ (by show w.heap.size < gh; omega) (cel 1 _ rfl)
        have f2 := hkk ⟨gh, 2, none⟩ _ (by show w.heap.size < gh; omega) (cel 2 _ rfl)
        have f3 := hkk ⟨gh, 3, none⟩ _ (by show w.heap.size < gh; omega) (cel 3 _ rfl)
        have f4 := hkk ⟨gh, 4, none⟩ _ (by show w.heap.size < gh; omega) (cel 4 _ rfl)
        have f5 := hkk ⟨gh, 5, none⟩ _ (by show w.heap.size < gh; omega) (cel 5 _ rfl)
        have f6 := hkk ⟨gh, 6, none⟩ _ (by show w.heap.size < gh; omega) (cel 6 _ rfl)
        have f7 := hkk ⟨gh, 7, none⟩ _ (by show w.heap.size < gh; omega) (cel 7 _ rfl)
        have hcoA := (hco1.ka hkk (far_some (by omega))).later (bal wr (.cells (pC ⟨#[116]⟩ (some ⟨a1, 0, none⟩) n1 n1).cs 61))
        have hCa := hC.al (by omega) (.cells (pC ⟨#[116]⟩ (some ⟨a1, 0, none⟩) n1 n1).cs 61)
        have hOa := hO.alloc (.cells (pC ⟨#[116]⟩ (some ⟨a1, 0, none⟩) n1 n1).cs 61)
        go_wp2_with (first | (go_at_call 30; refine (encode_as _ _ (by exact ⟨pC ⟨#[116]⟩ (some ⟨a1, 0, none⟩) n1 n1, rfl, smC (by decide) hcoA (by omega)⟩)).mono ?_; rintro e w2 ⟨⟨T, rfl, hT⟩, hb2⟩; have hG2 : (wr.alloc (.cells (pC ⟨#[116]⟩ (some ⟨a1, 0, none⟩) n1 n1).cs 61)).grownBy w2 (some g) := gB hb2; have hO2 := own_gr hOa hG2 (by omega); have hC2 := hCa.gr (gB hb2 : (wr.alloc (.cells (pC ⟨#[116]⟩ (some ⟨a1, 0, none⟩) n1 n1).cs 61)).grownBy w2 none) (fun _ e => by cases e) (by simp; omega); have hs2 := hG2.size; have hss : (wr.alloc (.cells (pC ⟨#[116]⟩ (some ⟨a1, 0, none⟩) n1 n1).cs 61)).heap.size = wr.heap.size + 1 := (by simp); rw [hss] at hs2) | (at_builtin; refine wpList_append_lies _ rfl _ _ _ rfl w.heap.size 9 i0 (.string ⟨#[]⟩) 1 16 Tryz.underlying23 HI.out hi0 hi1 hi2 rfl (by omega) _ 0 _ rfl (hO2.alloc _) ⟨w2.heap.size, 0, none⟩ 1 1 [.string T] rfl rfl (World.news_of_block (heap_alloc_new w2 _)) (ones _ rfl) (by omega) (by unfold maxLen; omega) (by omega) (by simp; omega) _ rfl ?_; intro g1 cap1 w3 hO3 hgr3 hat3 hlt3; replace hgr3 : (w2.alloc (.cells #[.string T] 9)).grownBy w3 (some gz) := hgr3; have hs3 := hgr3.size; have hsz : (w2.alloc (.cells #[.string T] 9)).heap.size = w2.heap.size + 1 := (by simp); rw [hsz] at hs3; have hge := grow_le hO))
        go_roundw
        case rel => exact ⟨1, L ++ [T], g1, cap1, by omega, by go_num, rfl, by simp [hL], hE.put hT, by rw [← strs_put L T]; simpa using hO3, (hat3.elim (fun e => by have e : gz = g1 := Option.some.inj e; subst e; exact hgz) (fun e => Or.inr (by omega))), (fun q v hq hc => keepG hgr3 (keepG (galloc w2 _ none) (keepG (gB hb2 : (wr.alloc (.cells (pC ⟨#[116]⟩ (some ⟨a1, 0, none⟩) n1 n1).cs 61)).grownBy w2 none) (keepG (galloc wr _ none) (hkk q v hq hc) (fun e => by cases e)) (fun e => by cases e)) (fun e => by cases e)) (fun e => by have e : q.block = gz := Option.some.inj e; have := World.block_lt_of_cell? _ _ hc; omega)), by omega, (hC2.al (by omega) _).gw hgr3 (by omega) (by omega), gjoin (gtrans (gtrans (gtrans hG (galloc wr _ _)) hG2) (galloc w2 _ _)) hgr3 (fun j e => by have e : gz = j := Option.some.inj e; omega)⟩
        case measure => simp [intOf]
      · have f0 := hkk ⟨gh, 8, none⟩ _ (by show w.heap.size < gh; omega) (cel 8 _ rfl)
        have f1 := hkk ⟨gh, 9, none⟩ _ (by show w.heap.size < gh; omega) (cel 9 _ rfl)
        have f2 := hkk ⟨gh, 10, none⟩ _ (by show w.heap.size < gh; omega) (cel 10 _ rfl)
        have f3 := hkk ⟨gh, 11, none⟩ _ (by show w.heap.size < gh; omega) (cel 11 _ rfl)
        have f4 := hkk ⟨gh, 12, none⟩ _ (by show w.heap.size < gh; omega) (cel 12 _ rfl)
        have f5 := hkk ⟨gh, 13, none⟩ _ (by show w.heap.size < gh; omega) (cel 13 _ rfl)
        have f6 := hkk ⟨gh, 14, none⟩ _ (by show w.heap.size < gh; omega) (cel 14 _ rfl)
        have f7 := hkk ⟨gh, 15, none⟩ _ (by show w.heap.size < gh; omega) (cel 15 _ rfl)
        have hcoA := (hco2.ka hkk (far_some (by omega))).later (bal wr (.cells (pC ⟨#[117]⟩ (some ⟨a2, 0, none⟩) n2 n2).cs 61))
        have hCa := hC.al (by omega) (.cells (pC ⟨#[117]⟩ (some ⟨a2, 0, none⟩) n2 n2).cs 61)
        have hOa := hO.alloc (.cells (pC ⟨#[117]⟩ (some ⟨a2, 0, none⟩) n2 n2).cs 61)
        go_wp2_with (first | (go_at_call 30; refine (encode_as _ _ (by exact ⟨pC ⟨#[117]⟩ (some ⟨a2, 0, none⟩) n2 n2, rfl, smC (by decide) hcoA (by omega)⟩)).mono ?_; rintro e w2 ⟨⟨T, rfl, hT⟩, hb2⟩; have hG2 : (wr.alloc (.cells (pC ⟨#[117]⟩ (some ⟨a2, 0, none⟩) n2 n2).cs 61)).grownBy w2 (some g) := gB hb2; have hO2 := own_gr hOa hG2 (by omega); have hC2 := hCa.gr (gB hb2 : (wr.alloc (.cells (pC ⟨#[117]⟩ (some ⟨a2, 0, none⟩) n2 n2).cs 61)).grownBy w2 none) (fun _ e => by cases e) (by simp; omega); have hs2 := hG2.size; have hss : (wr.alloc (.cells (pC ⟨#[117]⟩ (some ⟨a2, 0, none⟩) n2 n2).cs 61)).heap.size = wr.heap.size + 1 := (by simp); rw [hss] at hs2) | (at_builtin; refine wpList_append_lies _ rfl _ _ _ rfl w.heap.size 9 i0 (.string ⟨#[]⟩) 1 16 Tryz.underlying23 HI.out hi0 hi1 hi2 rfl (by omega) _ 1 _ rfl (hO2.alloc _) ⟨w2.heap.size, 0, none⟩ 1 1 [.string T] rfl rfl (World.news_of_block (heap_alloc_new w2 _)) (ones _ rfl) (by omega) (by unfold maxLen; omega) (by omega) (by simp; omega) _ rfl ?_; intro g1 cap1 w3 hO3 hgr3 hat3 hlt3; replace hgr3 : (w2.alloc (.cells #[.string T] 9)).grownBy w3 (some gz) := hgr3; have hs3 := hgr3.size; have hsz : (w2.alloc (.cells #[.string T] 9)).heap.size = w2.heap.size + 1 := (by simp); rw [hsz] at hs3; have hge := grow_le hO))
        go_roundw
        case rel => exact ⟨2, L ++ [T], g1, cap1, by omega, by go_num, rfl, by simp [hL], hE.put hT, by rw [← strs_put L T]; simpa using hO3, (hat3.elim (fun e => by have e : gz = g1 := Option.some.inj e; subst e; exact hgz) (fun e => Or.inr (by omega))), (fun q v hq hc => keepG hgr3 (keepG (galloc w2 _ none) (keepG (gB hb2 : (wr.alloc (.cells (pC ⟨#[117]⟩ (some ⟨a2, 0, none⟩) n2 n2).cs 61)).grownBy w2 none) (keepG (galloc wr _ none) (hkk q v hq hc) (fun e => by cases e)) (fun e => by cases e)) (fun e => by cases e)) (fun e => by have e : q.block = gz := Option.some.inj e; have := World.block_lt_of_cell? _ _ hc; omega)), by omega, (hC2.al (by omega) _).gw hgr3 (by omega) (by omega), gjoin (gtrans (gtrans (gtrans hG (galloc wr _ _)) hG2) (galloc w2 _ _)) hgr3 (fun j e => by have e : gz = j := Option.some.inj e; omega)⟩
        case measure => simp [intOf]
    · obtain rfl : k = 2 := by omega
      go_wp2_with (go_at_call 31; refine (pick_any g B ca cn cc z s _ hC (by omega) _ (by omega)).mono ?_; rintro e w2 ⟨r, z1, s1, rfl, hr0, hr1, -, hz1', hC2, hG2⟩)
      obtain ⟨n, rfl⟩ : ∃ n : Nat, r = n := ⟨r.toNat, by omega⟩
      have hn12 : n ≤ 11 := by omega
      have hge2 := grow_le hO
      have hs2 := hG2.size
      have hO2 := own_gr hO hG2 (by omega)
      have hGw : w.grownBy w2 (some g) := gtrans hG hG2
      have HL : Hid (L.length = 2) := hL
      clear hL
      go_loopw [5, 9] (fun o i wx => ∃ (m : Nat) (M : List ByteArray) (gy cy zz ss : Nat), m ≤ n + 2 ∧ i = .int .i64 m ∧ o = .slice (some ⟨gy, 0, none⟩) (m + 2) cy ∧ M.length = m + 2 ∧ Es M ∧ wx.ownsRow w.heap.size 9 1 (.slice (some ⟨gy, 0, none⟩) (m + 2) cy) (m + 2) (M.map .string) ∧ Cu wx g B ca cn cc zz ss ∧ zz ≤ z + 1 + 1000 * m ∧ w.grownBy wx (some g)) (fun _ i _ => n + 2 - (intOf i).toNat)
      case atStart => exact ⟨0, L, gz, cap, z1, s1, by omega, rfl, rfl, HL.out, hE, hO2, hC2, by omega, hGw⟩
      case round =>
        obtain ⟨m, M, gy, cy, zz, ss, hm, rfl, rfl, hM, hE2, hOx, hCx, hzz, hGx⟩ := hrel
        have HM : Hid (M.length = m + 2) := hM
        have hgy := grow_le hOx
        have hwx := hGx.size
        clear hM
        by_cases hlt2 : m < n + 2
        · go_wp2_with (first | (go_at_call 32; refine (drawStm_any g B ca cn cc zz ss _ hCx (by omega) (by omega)).mono ?_; rintro e w3 ⟨p, z2, s2, rfl, hSm, hz2, hC3, hG3⟩; have hO3 := own_gr hOx hG3 (by omega); have hs3 := hG3.size) | (go_at_call 30; refine (encode_as _ _ (by exact ⟨p, rfl, hSm⟩)).mono ?_; rintro e w4 ⟨⟨T, rfl, hT⟩, hb4⟩; have hG4 : w3.grownBy w4 (some g) := gB hb4; have hO4 := own_gr hO3 hG4 (by omega); have hC4 := hC3.gr (gB hb4 : w3.grownBy w4 none) (fun _ e => by cases e) (by omega); have hs4 := hG4.size) | (at_builtin; refine wpList_append_lies _ rfl _ _ _ rfl w.heap.size 9 i0 (.string ⟨#[]⟩) 1 16 Tryz.underlying23 HI.out hi0 hi1 hi2 rfl (by omega) _ (m + 2) _ rfl (hO4.alloc _) ⟨w4.heap.size, 0, none⟩ 1 1 [.string T] rfl rfl (World.news_of_block (heap_alloc_new w4 _)) (ones _ rfl) (by omega) (by unfold maxLen; omega) (by omega) (by simp; omega) _ rfl ?_; intro g1 cap1 w5 hown1 hgrow hat hlt1))
          go_roundw
          case rel => exact ⟨m + 1, M ++ [T], g1, cap1, z2, s2, by omega, by go_num, rfl, by simp [HM.out], hE2.put hT, by rw [← strs_put M T]; simpa using hown1, (hC4.gr (galloc w4 _ none) (fun _ h => by cases h) (by omega)).gr hgrow (fun q hq => by have e : gy = q := Option.some.inj hq; omega) (by simp; omega), by omega, gjoin (gtrans (gtrans (gtrans hGx hG3) hG4) (galloc w4 _ _)) hgrow (fun q hq => by have e : gy = q := Option.some.inj hq; omega)⟩
          case measure => simp [intOf]; omega
        · obtain rfl : m = n + 2 := by omega
          go_wp2
          go_ret
          exact ⟨M, gy, cy, zz, ss, by rw [HM.out]; rfl, by rw [HM.out]; omega, by rw [HM.out]; omega, hE2, by rw [HM.out]; exact hOx, by omega, hCx, hGx⟩
end Go.Proofs.YtjbbbfplephkpaaGreatDoor
namespace Go.Proofs.YtjbbbfplephkpaaGreatDoor
open Go.RowKit
theorem own_wk {w : World} {B B' g n cap : Nat} {xs : List Value} (h : w.ownsRow B 9 1 (.slice (some ⟨g, 0, none⟩) n cap) n xs) (hB : B' ≤ B) : w.ownsRow B' 9 1 (.slice (some ⟨g, 0, none⟩) n cap) n xs := by
  obtain ⟨hl, hh⟩ := h
  refine ⟨hl, ?_⟩
  rcases hh with hh | ⟨gg, cap', cur, e1, e2, e3⟩
  · exact Or.inl hh
  · exact Or.inr ⟨gg, cap', cur, e1, Nat.le_trans hB e2, e3⟩
theorem own_oth {w w' : World} {B g n cap : Nat} {xs : List Value} {r : Option Nat} (h : w.ownsRow B 9 1 (.slice (some ⟨g, 0, none⟩) n cap) n xs) (hg : w.grownBy w' r) (hne : some g ≠ r) : w'.ownsRow B 9 1 (.slice (some ⟨g, 0, none⟩) n cap) n xs :=
  h.kept hg (Or.inr (by simpa [Value.ownBlock] using hne))
theorem own_lt {w : World} {B g n cap : Nat} {xs : List Value} (h : w.ownsRow B 9 1 (.slice (some ⟨g, 0, none⟩) n cap) n xs) : g < w.heap.size := by
  rcases h.2 with ⟨e, _⟩ | ⟨g', cap', cur, e, _, hg, _⟩
  · cases e
  · cases e
    exact blk_lt hg
/-- A code of cn bytes. -/
def CodeAt (w : World) (ca : Option Addr) (cn : Nat) : Prop := ∀ j, j < cn → ∃ b off v, ca = some ⟨b, off, none⟩ ∧ w.cell? ⟨b, off + j, none⟩ = some (.int .u8 v) ∧ 0 ≤ v ∧ v ≤ 255
theorem cu_new (w : World) (ca : Option Addr) (cn cc : Nat) (h : CodeAt w ca cn) (hn : cn ≤ 1048576) : Cu (w.alloc (.cells #[.slice ca cn cc, .int .i64 0, .int .i64 0] 36)) w.heap.size (w.heap.size + 1) ca cn cc 0 0 := by
  have hh := heap_alloc_new w (.cells #[.slice ca cn cc, .int .i64 0, .int .i64 0] 36)
  refine ⟨(cell_of_row _ _ 0 _ _ _ hh).trans rfl, (cell_of_row _ _ 1 _ _ _ hh).trans rfl, (cell_of_row _ _ 2 _ _ _ hh).trans rfl, frozen_of_row _ _ 1 _ _ hh, frozen_of_row _ _ 2 _ _ hh, by omega, hn, by omega, fun j hj => ?_⟩
  obtain ⟨b, off, v, e, hc, h0, h1⟩ := h j hj
  have hb := World.block_lt_of_cell? _ _ hc
  exact ⟨b, off, v, e, Nat.ne_of_lt hb, Nat.lt_succ_of_lt hb, keepB (bal w _) hc, h0, h1⟩
set_option maxRecDepth 20000 in
set_option maxHeartbeats 4000000 in
theorem drawWork_any (ca : Option Addr) (cn cc : Nat) (w : World) (h : CodeAt w ca cn) (hn : cn ≤ 1048576) :
    Calls Tryz.prog 4 #[.slice ca cn cc] w fun e w' => ∃ (L M : List ByteArray) (g1 c1 g2 c2 : Nat), e = .returned (.tuple #[.slice (some ⟨g1, 0, none⟩) L.length c1, .slice (some ⟨g2, 0, none⟩) 6 c2]) ∧ L.length ≤ 15 ∧ M.length = 6 ∧ Es L ∧ Es M ∧ w'.ownsRow w.heap.size 9 1 (.slice (some ⟨g1, 0, none⟩) L.length c1) L.length (L.map .string) ∧ w'.ownsRow w.heap.size 9 1 (.slice (some ⟨g2, 0, none⟩) 6 c2) 6 (M.map .string) ∧ Below w.heap.size w w' := by
  obtain ⟨i0, hi, hi0, hi1, hi2⟩ := info_parts Tryz.info9q
  have HI : Hid (Tryz.prog.info? 9 = some i0) := hi
  clear hi
  have hC := cu_new w ca cn cc h hn
  have hz : (w.alloc (.cells #[.slice ca cn cc, .int .i64 0, .int .i64 0] 36)).heap.size = w.heap.size + 1 := by simp
  have hb := bal w (.cells #[.slice ca cn cc, .int .i64 0, .int .i64 0] 36)
  go_enter Tryz.func4, Tryz.ntmps4
  go_wp2_with (go_at_call 11; refine (entries_any w.heap.size (w.heap.size + 1) ca cn cc 0 0 _ hC (by omega) (by simp)).mono ?_; rintro e w1 ⟨L, g1, c1, z1, s1, rfl, hL15, hL1, hE, hO, hz1, hC1, hG1⟩)
  have hs1 := hG1.size
  rw [hz] at hs1 hO
  obtain ⟨n, hln⟩ : ∃ n, L.length = n := ⟨_, rfl⟩
  have HLn : Hid (L.length = n) := hln
  rw [hln] at hL15 hL1 hO ⊢
  have hO1 := hO.alloc (.cells #[] 9)
  clear hln
  have hO2 : (w1.alloc (.cells #[] 9)).ownsRow (w.heap.size + 1) 9 1 (.slice (some ⟨w1.heap.size, 0, none⟩) 0 0) 0 [] := World.ownsRow_lit w1 #[] 0 (by omega) (by simp [maxLen]) rfl
  have hg1 := grow_le hO
  have hg1' := own_lt hO
  have hCa := hC1.al (by omega) (.cells #[] 9)
  have hGa : (w.alloc (.cells #[.slice ca cn cc, .int .i64 0, .int .i64 0] 36)).grownBy (w1.alloc (.cells #[] 9)) (some w.heap.size) := gtrans hG1 (galloc _ _ _)
  go_loopw [6, 7] (fun o i wr => ∃ (k : Nat) (M : List ByteArray) (gz cap zz ss : Nat), k ≤ 6 ∧ i = .int .i64 k ∧ o = .slice (some ⟨gz, 0, none⟩) k cap ∧ M.length = k ∧ Es M ∧ w1.heap.size ≤ gz ∧ wr.ownsRow (w.heap.size + 1) 9 1 (.slice (some ⟨gz, 0, none⟩) k cap) k (M.map .string) ∧ wr.ownsRow (w.heap.size + 1) 9 1 (.slice (some ⟨g1, 0, none⟩) n c1) n (L.map .string) ∧ w1.heap.size ≤ wr.heap.size ∧ Cu wr w.heap.size (w.heap.size + 1) ca cn cc zz ss ∧ zz ≤ z1 + 100 * k ∧ (w.alloc (.cells #[.slice ca cn cc, .int .i64 0, .int .i64 0] 36)).grownBy wr (some w.heap.size)) (fun _ i _ => 6 - (intOf i).toNat)
  case atStart => exact ⟨0, [], w1.heap.size, 0, z1, s1, by omega, rfl, rfl, rfl, (fun T hT => by cases hT), Nat.le_refl _, hO2, hO1, by simp, hCa, by omega, hGa⟩
  case round =>
    obtain ⟨k, M, gz, cap, zz, ss, hk, rfl, rfl, hM, hEM, hgz, hOM, hOL, hsr, hCr, hzz, hGr⟩ := hrel
    have HM : Hid (M.length = k) := hM
    have hgM := grow_le hOM
    clear hM
    by_cases hlt : k < 6
    · go_wp2_with (first | (go_at_call 12; refine (drawBytes_any w.heap.size (w.heap.size + 1) ca cn cc zz ss _ hCr (by omega) (by omega) 40 (by omega)).mono ?_; rintro e w2 ⟨T, z2, s2, rfl, hTs, hz2', hC2, hG2⟩; have hOM2 := own_gr hOM hG2 (by omega); have hOL2 := own_gr hOL hG2 (by omega); have hs2 := hG2.size) | (at_builtin; refine wpList_append_lies _ rfl _ _ _ rfl (w.heap.size + 1) 9 i0 (.string ⟨#[]⟩) 1 16 Tryz.underlying23 HI.out hi0 hi1 hi2 rfl (by omega) _ k _ rfl (hOM2.alloc _) ⟨w2.heap.size, 0, none⟩ 1 1 [.string T] rfl rfl (World.news_of_block (heap_alloc_new w2 _)) (ones _ rfl) (by omega) (by unfold maxLen; omega) (by omega) (by simp; omega) _ rfl ?_; intro g3 cap3 w3 hown3 hgrow hat hlt3; replace hgrow : (w2.alloc (.cells #[.string T] 9)).grownBy w3 (some gz) := hgrow; have hs3 := hgrow.size; have hsz : (w2.alloc (.cells #[.string T] 9)).heap.size = w2.heap.size + 1 := (by simp); rw [hsz] at hs3))
      go_roundw
      case rel => exact ⟨k + 1, M ++ [T], g3, cap3, z2, s2, by omega, by go_num, rfl, by simp [HM.out], hEM.put (by omega), (hat.elim (fun e => by have e : gz = g3 := Option.some.inj e; omega) (fun e => by omega)), by rw [← strs_put M T]; simpa using hown3, own_oth (hOL2.alloc _) hgrow (fun e => by have e : g1 = gz := Option.some.inj e; omega), by omega, (hC2.al (by omega) _).gr hgrow (fun q hq => by have e : gz = q := Option.some.inj hq; omega) (by simp; omega), by omega, gjoin (gtrans (gtrans hGr hG2) (galloc w2 _ _)) hgrow (fun q hq => by have e : gz = q := Option.some.inj hq; omega)⟩
      case measure => simp [intOf]; omega
    · obtain rfl : k = 6 := by omega
      go_wp2
      refine bodyPost_ret (by simp [results, Tryz.results4, go_sem]; rfl) rfl ?_
      refine ⟨L, M, g1, c1, gz, cap, by rw [HLn.out], by rw [HLn.out]; exact hL15, HM.out, hE, hEM, by rw [HLn.out]; exact own_wk hOL (by omega), own_wk hOM (by omega), hb.trans ⟨hGr.os, hGr.tape, hGr.output, hGr.size, fun j hj => hGr.block j (by omega) (fun e => by have := Option.some.inj e; omega)⟩⟩
end Go.Proofs.YtjbbbfplephkpaaGreatDoor
