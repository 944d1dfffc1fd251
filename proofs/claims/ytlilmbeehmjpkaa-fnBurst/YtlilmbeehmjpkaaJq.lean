/-
  What the specification draws: the entries of a work.
-/
import Derived.Test.YtlilmbeehmjpkaaJm
import Derived.Test.YtlilmbeehmjpkaaJx
namespace Go.Proofs.Ytlilmbeehmjpkaa
open Go.RowKit
theorem co_nil (w : World) (a : Option Addr) : Co w a 0 := fun _ h => absurd h (Nat.not_lt_zero _)
/-- A statement that makes a table. -/
def pC (tb : ByteArray) (a : Option Addr) (n c : Nat) : SP := ⟨1, tb, a, n, c, none, 0, 0, ⟨#[]⟩, none, 0, 0, none, 0, 0, none, 0, 0⟩
theorem smC {w : World} {tb : ByteArray} {a : Option Addr} {n c : Nat} (ht : okName tb = true) (h : Co w a n) (hn : n ≤ 100) : Sm w (pC tb a n c) :=
  ⟨ht, Or.inl rfl, h, fun _ h => absurd h (Nat.not_lt_zero _), ie_nil _ _, ie_nil _ _, fun _ h => absurd h (Nat.not_lt_zero _), hn, Nat.zero_le _, Nat.zero_le _⟩
theorem shC {tb : ByteArray} {a : Option Addr} {n c : Nat} (h1 : 1 ≤ n) (h2 : n ≤ 20) : Shp (pC tb a n c) := Or.inl ⟨rfl, h1, h2, rfl, rfl, rfl, rfl, rfl⟩
set_option maxRecDepth 20000 in
set_option maxHeartbeats 2000000 in
theorem head_any (w : World) : Calls Try.prog 14 #[] w fun e w' => ∃ (gh a1 n1 a2 n2 : Nat), e = .returned (.slice (some ⟨gh, 0, none⟩) 2 2) ∧ w.heap.size ≤ gh ∧ w.heap.size ≤ a1 ∧ w.heap.size ≤ a2 ∧ n1 ≤ 3 ∧ n2 ≤ 3 ∧ 1 ≤ n1 ∧ 1 ≤ n2 ∧ Co w' (some ⟨a1, 0, none⟩) n1 ∧ Co w' (some ⟨a2, 0, none⟩) n2 ∧ w'.heap[gh]? = some (.cells ((pC ⟨#[116]⟩ (some ⟨a1, 0, none⟩) n1 n1).cs ++ (pC ⟨#[117]⟩ (some ⟨a2, 0, none⟩) n2 n2).cs) 50 (0, 0)) ∧ w.grownBy w' none := by
  have hone : True := trivial
  go_enter Try.func14, Try.ntmps14
  go_wp2_with (first | (go_at_call 23; have _h := hone; refine (usual_any _ _).mono ?_; rintro e w1 ⟨n1, hn11, hn13, rfl, hco1, hs1, hG1⟩; clear hone) | (go_at_call 23; refine (usual_any _ _).mono ?_; rintro e w2 ⟨n2, hn21, hn23, rfl, hco2, hs2, hG2⟩))
  go_ret
  refine ⟨w2.heap.size, w.heap.size, n1, w1.heap.size, n2, rfl, Nat.le_trans hG1.size hG2.size, Nat.le_refl _, hG1.size, hn13, hn23, hn11, hn21, ?_, ?_, ?_, gtrans (gtrans hG1 hG2) (galloc _ _ _)⟩
  · exact ((hco1.later ⟨hG2.os, hG2.tape, hG2.output, hG2.size, fun k hk => hG2.block k hk (fun e => by cases e)⟩).later (bal _ _))
  · exact hco2.later (bal _ _)
  · exact heap_alloc_new w2 _
theorem gB {w w' : World} {r : Option Nat} (hb : Below w.heap.size w w') : w.grownBy w' r := ⟨hb.os, hb.tape, hb.output, hb.size, fun k hk _ => hb.block k hk⟩
theorem encode_as (v : Value) (w : World) (hv : ∃ p : SP, v = .agg p.cs ∧ Sm w p ∧ Shp p) : Calls Try.prog 15 #[v] w fun e w' => (∃ T : ByteArray, e = .returned (.string T) ∧ 1 ≤ T.size ∧ T.size ≤ 60000) ∧ Below w.heap.size w w' := by
  obtain ⟨p, rfl, h, hs⟩ := hv
  exact sp_enc p w h hs
/-- Texts of an entry's length. -/
def Es (L : List ByteArray) : Prop := ∀ T ∈ L, 1 ≤ T.size ∧ T.size ≤ 60000
theorem Es.put {L : List ByteArray} {T : ByteArray} (h : Es L) (hT : 1 ≤ T.size ∧ T.size ≤ 60000) : Es (L ++ [T]) := fun U hU => by
  rcases List.mem_append.1 hU with h1 | h1
  · exact h U h1
  · rw [List.mem_singleton.1 h1]; exact hT
set_option maxRecDepth 20000 in
theorem Try.info9q : (Try.prog.info? 9).map (fun i => (i.zero, i.size, i.bytes)) = some (some (.string ⟨#[]⟩), 1, 16) := by kernel_rfl
set_option maxRecDepth 20000 in
set_option maxHeartbeats 4000000 in
theorem entries_any (g B : Nat) (ca : Option Addr) (cn cc z s : Nat) (w : World) (h : Cu w g B ca cn cc z s) (hz : z ≤ 100000000) (hB : B ≤ w.heap.size) :
    Calls Try.prog 9 #[.pointer (some ⟨g, 0, none⟩), .int .i64 12] w fun e w' => ∃ (L : List ByteArray) (gz cap z' s' : Nat), e = .returned (.slice (some ⟨gz, 0, none⟩) L.length cap) ∧ L.length ≤ 15 ∧ 1 ≤ L.length ∧ Es L ∧ w'.ownsRow w.heap.size 9 1 (.slice (some ⟨gz, 0, none⟩) L.length cap) L.length (L.map .string) ∧ z' ≤ z + 20000 ∧ Cu w' g B ca cn cc z' s' ∧ w.grownBy w' (some g) := by
  obtain ⟨i0, hi, hi0, hi1, hi2⟩ := info_parts Try.info9q
  have HI : Hid (Try.prog.info? 9 = some i0) := hi
  clear hi
  have hlt := h.lt
  have hO0 : (w.alloc (.cells #[] 9)).ownsRow w.heap.size 9 1 (.slice (some ⟨w.heap.size, 0, none⟩) 0 0) 0 [] := World.ownsRow_lit w #[] 0 (Nat.le_refl _) (by simp [maxLen]) rfl
  go_enter Try.func9, Try.ntmps9
  go_wp2_with (go_at_call 14; refine (head_any _).mono ?_; rintro e w1 ⟨gh, a1, n1, a2, n2, rfl, hgh, ha1, ha2, hn1, hn2, hn1p, hn2p, hco1, hco2, hbl, hG1⟩)
  have hs1 := hG1.size
  have hsa : (w.alloc (.cells #[] 9)).heap.size = w.heap.size + 1 := by simp
  rw [hsa] at hs1 hgh ha1 ha2
  have hO1 := own_gr hO0 (gnone hG1 : (w.alloc (.cells #[] 9)).grownBy w1 (some g)) (by omega)
  have hC1 := (h.al hB (.cells #[] 9)).gr hG1 (fun _ e => by cases e) (by rw [hsa]; omega)
  have hGG : w.grownBy w1 (some g) := gtrans (galloc w _ _) (gnone hG1)
  have cel : ∀ i v, ((pC ⟨#[116]⟩ (some ⟨a1, 0, none⟩) n1 n1).cs ++ (pC ⟨#[117]⟩ (some ⟨a2, 0, none⟩) n2 n2).cs)[i]? = some v → w1.cell? ⟨gh, i, none⟩ = some v := fun i v hv => (cell_of_row _ _ i _ _ _ hbl).trans hv
  go_loopw [5, 7, 13] (fun o _ i wr => ∃ (k : Nat) (L : List ByteArray) (gz cap : Nat), k ≤ 2 ∧ i = .int .i64 k ∧ o = .slice (some ⟨gz, 0, none⟩) k cap ∧ L.length = k ∧ Es L ∧ wr.ownsRow w.heap.size 9 1 (.slice (some ⟨gz, 0, none⟩) k cap) k (L.map .string) ∧ (gz = w.heap.size ∨ w1.heap.size ≤ gz) ∧ (∀ q v, w.heap.size < q.block → w1.cell? q = some v → wr.cell? q = some v) ∧ w1.heap.size ≤ wr.heap.size ∧ Cu wr g B ca cn cc z s ∧ w.grownBy wr (some g)) (fun _ _ i _ => 2 - (intOf i).toNat)
  case atStart => exact ⟨0, [], w.heap.size, 0, by omega, rfl, rfl, rfl, (fun T hT => by cases hT), hO1, Or.inl rfl, (fun _ _ _ h => h), Nat.le_refl _, hC1, hGG⟩
  case round =>
    obtain ⟨k, L, gz, cap, hk, rfl, rfl, hL, hE, hO, hgz, hkk, hsr, hC, hG⟩ := hrel
    by_cases hk2 : k < 2
    · rcases (show k = 0 ∨ k = 1 by omega) with rfl | rfl
      · have f0 := hkk ⟨gh, 0, none⟩ _ (by show w.heap.size < gh; omega) (cel 0 _ rfl)
        have f1 := hkk ⟨gh, 1, none⟩ _ (by show w.heap.size < gh; omega) (cel 1 _ rfl)
        have f2 := hkk ⟨gh, 2, none⟩ _ (by show w.heap.size < gh; omega) (cel 2 _ rfl)
        have f3 := hkk ⟨gh, 3, none⟩ _ (by show w.heap.size < gh; omega) (cel 3 _ rfl)
        have f4 := hkk ⟨gh, 4, none⟩ _ (by show w.heap.size < gh; omega) (cel 4 _ rfl)
        have f5 := hkk ⟨gh, 5, none⟩ _ (by show w.heap.size < gh; omega) (cel 5 _ rfl)
        have f6 := hkk ⟨gh, 6, none⟩ _ (by show w.heap.size < gh; omega) (cel 6 _ rfl)
        have f7 := hkk ⟨gh, 7, none⟩ _ (by show w.heap.size < gh; omega) (cel 7 _ rfl)
        have hcoA := (hco1.ka hkk (far_some (by omega))).later (bal wr (.cells (pC ⟨#[116]⟩ (some ⟨a1, 0, none⟩) n1 n1).cs 50))
        have hCa := hC.al (by omega) (.cells (pC ⟨#[116]⟩ (some ⟨a1, 0, none⟩) n1 n1).cs 50)
        have hOa := hO.alloc (.cells (pC ⟨#[116]⟩ (some ⟨a1, 0, none⟩) n1 n1).cs 50)
        go_wp2_with (first | (go_at_call 15; refine (encode_as _ _ (by exact ⟨pC ⟨#[116]⟩ (some ⟨a1, 0, none⟩) n1 n1, rfl, smC (by kernel_rfl) hcoA (by omega), shC (by omega) (by omega)⟩)).mono ?_; rintro e w2 ⟨⟨T, rfl, hT⟩, hb2⟩; have hG2 : (wr.alloc (.cells (pC ⟨#[116]⟩ (some ⟨a1, 0, none⟩) n1 n1).cs 50)).grownBy w2 (some g) := gB hb2; have hO2 := own_gr hOa hG2 (by omega); have hC2 := hCa.gr (gB hb2 : (wr.alloc (.cells (pC ⟨#[116]⟩ (some ⟨a1, 0, none⟩) n1 n1).cs 50)).grownBy w2 none) (fun _ e => by cases e) (by simp; omega); have hs2 := hG2.size; have hss : (wr.alloc (.cells (pC ⟨#[116]⟩ (some ⟨a1, 0, none⟩) n1 n1).cs 50)).heap.size = wr.heap.size + 1 := (by simp); rw [hss] at hs2) | (at_builtin; refine wpList_append_lies _ rfl _ _ _ rfl w.heap.size 9 i0 (.string ⟨#[]⟩) 1 16 Try.underlying23 HI.out hi0 hi1 hi2 rfl (by omega) _ 0 _ rfl (hO2.alloc _) ⟨w2.heap.size, 0, none⟩ 1 1 [.string T] rfl rfl (World.news_of_block (heap_alloc_new w2 _)) (ones _ rfl) (by omega) (by unfold maxLen; omega) (by omega) (by simp; omega) _ rfl ?_; intro g1 cap1 w3 hO3 hgr3 hat3 hlt3; replace hgr3 : (w2.alloc (.cells #[.string T] 9)).grownBy w3 (some gz) := hgr3; have hs3 := hgr3.size; have hsz : (w2.alloc (.cells #[.string T] 9)).heap.size = w2.heap.size + 1 := (by simp); rw [hsz] at hs3; have hge := grow_le hO))
        go_roundw
        case rel => exact ⟨1, L ++ [T], g1, cap1, by omega, by go_num, rfl, by simp [hL], hE.put hT, by rw [← strs_put L T]; simpa using hO3, (hat3.elim (fun e => by have e : gz = g1 := Option.some.inj e; subst e; exact hgz) (fun e => Or.inr (by omega))), (fun q v hq hc => keepG hgr3 (keepG (galloc w2 _ none) (keepG (gB hb2 : (wr.alloc (.cells (pC ⟨#[116]⟩ (some ⟨a1, 0, none⟩) n1 n1).cs 50)).grownBy w2 none) (keepG (galloc wr _ none) (hkk q v hq hc) (fun e => by cases e)) (fun e => by cases e)) (fun e => by cases e)) (fun e => by have e : q.block = gz := Option.some.inj e; have := World.block_lt_of_cell? _ _ hc; omega)), by omega, (hC2.al (by omega) _).gw hgr3 (by omega) (by omega), gjoin (gtrans (gtrans (gtrans hG (galloc wr _ _)) hG2) (galloc w2 _ _)) hgr3 (fun j e => by have e : gz = j := Option.some.inj e; omega)⟩
        case measure => simp [intOf]
      · have f0 := hkk ⟨gh, 8, none⟩ _ (by show w.heap.size < gh; omega) (cel 8 _ rfl)
        have f1 := hkk ⟨gh, 9, none⟩ _ (by show w.heap.size < gh; omega) (cel 9 _ rfl)
        have f2 := hkk ⟨gh, 10, none⟩ _ (by show w.heap.size < gh; omega) (cel 10 _ rfl)
        have f3 := hkk ⟨gh, 11, none⟩ _ (by show w.heap.size < gh; omega) (cel 11 _ rfl)
        have f4 := hkk ⟨gh, 12, none⟩ _ (by show w.heap.size < gh; omega) (cel 12 _ rfl)
        have f5 := hkk ⟨gh, 13, none⟩ _ (by show w.heap.size < gh; omega) (cel 13 _ rfl)
        have f6 := hkk ⟨gh, 14, none⟩ _ (by show w.heap.size < gh; omega) (cel 14 _ rfl)
        have f7 := hkk ⟨gh, 15, none⟩ _ (by show w.heap.size < gh; omega) (cel 15 _ rfl)
        have hcoA := (hco2.ka hkk (far_some (by omega))).later (bal wr (.cells (pC ⟨#[117]⟩ (some ⟨a2, 0, none⟩) n2 n2).cs 50))
        have hCa := hC.al (by omega) (.cells (pC ⟨#[117]⟩ (some ⟨a2, 0, none⟩) n2 n2).cs 50)
        have hOa := hO.alloc (.cells (pC ⟨#[117]⟩ (some ⟨a2, 0, none⟩) n2 n2).cs 50)
        go_wp2_with (first | (go_at_call 15; refine (encode_as _ _ (by exact ⟨pC ⟨#[117]⟩ (some ⟨a2, 0, none⟩) n2 n2, rfl, smC (by kernel_rfl) hcoA (by omega), shC (by omega) (by omega)⟩)).mono ?_; rintro e w2 ⟨⟨T, rfl, hT⟩, hb2⟩; have hG2 : (wr.alloc (.cells (pC ⟨#[117]⟩ (some ⟨a2, 0, none⟩) n2 n2).cs 50)).grownBy w2 (some g) := gB hb2; have hO2 := own_gr hOa hG2 (by omega); have hC2 := hCa.gr (gB hb2 : (wr.alloc (.cells (pC ⟨#[117]⟩ (some ⟨a2, 0, none⟩) n2 n2).cs 50)).grownBy w2 none) (fun _ e => by cases e) (by simp; omega); have hs2 := hG2.size; have hss : (wr.alloc (.cells (pC ⟨#[117]⟩ (some ⟨a2, 0, none⟩) n2 n2).cs 50)).heap.size = wr.heap.size + 1 := (by simp); rw [hss] at hs2) | (at_builtin; refine wpList_append_lies _ rfl _ _ _ rfl w.heap.size 9 i0 (.string ⟨#[]⟩) 1 16 Try.underlying23 HI.out hi0 hi1 hi2 rfl (by omega) _ 1 _ rfl (hO2.alloc _) ⟨w2.heap.size, 0, none⟩ 1 1 [.string T] rfl rfl (World.news_of_block (heap_alloc_new w2 _)) (ones _ rfl) (by omega) (by unfold maxLen; omega) (by omega) (by simp; omega) _ rfl ?_; intro g1 cap1 w3 hO3 hgr3 hat3 hlt3; replace hgr3 : (w2.alloc (.cells #[.string T] 9)).grownBy w3 (some gz) := hgr3; have hs3 := hgr3.size; have hsz : (w2.alloc (.cells #[.string T] 9)).heap.size = w2.heap.size + 1 := (by simp); rw [hsz] at hs3; have hge := grow_le hO))
        go_roundw
        case rel => exact ⟨2, L ++ [T], g1, cap1, by omega, by go_num, rfl, by simp [hL], hE.put hT, by rw [← strs_put L T]; simpa using hO3, (hat3.elim (fun e => by have e : gz = g1 := Option.some.inj e; subst e; exact hgz) (fun e => Or.inr (by omega))), (fun q v hq hc => keepG hgr3 (keepG (galloc w2 _ none) (keepG (gB hb2 : (wr.alloc (.cells (pC ⟨#[117]⟩ (some ⟨a2, 0, none⟩) n2 n2).cs 50)).grownBy w2 none) (keepG (galloc wr _ none) (hkk q v hq hc) (fun e => by cases e)) (fun e => by cases e)) (fun e => by cases e)) (fun e => by have e : q.block = gz := Option.some.inj e; have := World.block_lt_of_cell? _ _ hc; omega)), by omega, (hC2.al (by omega) _).gw hgr3 (by omega) (by omega), gjoin (gtrans (gtrans (gtrans hG (galloc wr _ _)) hG2) (galloc w2 _ _)) hgr3 (fun j e => by have e : gz = j := Option.some.inj e; omega)⟩
        case measure => simp [intOf]
    · obtain rfl : k = 2 := by omega
      go_wp2_with (go_at_call 16; refine (pick_any g B ca cn cc z s _ hC (by omega) _ (by omega)).mono ?_; rintro e w2 ⟨r, z1, s1, rfl, hr0, hr1, -, hz1', hC2, hG2⟩)
      obtain ⟨n, rfl⟩ : ∃ n : Nat, r = n := ⟨r.toNat, by omega⟩
      have hn12 : n ≤ 11 := by omega
      have hge2 := grow_le hO
      have hs2 := hG2.size
      have hO2 := own_gr hO hG2 (by omega)
      have hGw : w.grownBy w2 (some g) := gtrans hG hG2
      have HL : Hid (L.length = 2) := hL
      clear hL
      go_loopw [5, 9] (fun o i wx => ∃ (m : Nat) (M : List ByteArray) (gy cy zz ss : Nat), m ≤ n + 2 ∧ i = .int .i64 m ∧ o = .slice (some ⟨gy, 0, none⟩) (m + 2) cy ∧ M.length = m + 2 ∧ Es M ∧ wx.ownsRow w.heap.size 9 1 (.slice (some ⟨gy, 0, none⟩) (m + 2) cy) (m + 2) (M.map .string) ∧ Cu wx g B ca cn cc zz ss ∧ zz ≤ z + 1 + 1000 * m ∧ w.grownBy wx (some g)) (fun _ i _ => n + 2 - (intOf i).toNat)
      case atStart => exact ⟨0, L, gz, cap, z1, s1, by omega, rfl, rfl, HL.out, hE, hO2, hC2, by omega, hGw⟩
      case round =>
        obtain ⟨m, M, gy, cy, zz, ss, hm, rfl, rfl, hM, hE2, hOx, hCx, hzz, hGx⟩ := hrel
        have HM : Hid (M.length = m + 2) := hM
        have hgy := grow_le hOx
        have hwx := hGx.size
        clear hM
        by_cases hlt2 : m < n + 2
        · go_wp2_with (first | (go_at_call 17; refine (drawStm_any g B ca cn cc zz ss _ hCx (by omega) (by omega)).mono ?_; rintro e w3 ⟨p, z2, s2, rfl, hSm, hSh, hz2, hC3, hG3⟩; have hO3 := own_gr hOx hG3 (by omega); have hs3 := hG3.size) | (go_at_call 15; refine (encode_as _ _ (by exact ⟨p, rfl, hSm, hSh⟩)).mono ?_; rintro e w4 ⟨⟨T, rfl, hT⟩, hb4⟩; have hG4 : w3.grownBy w4 (some g) := gB hb4; have hO4 := own_gr hO3 hG4 (by omega); have hC4 := hC3.gr (gB hb4 : w3.grownBy w4 none) (fun _ e => by cases e) (by omega); have hs4 := hG4.size) | (at_builtin; refine wpList_append_lies _ rfl _ _ _ rfl w.heap.size 9 i0 (.string ⟨#[]⟩) 1 16 Try.underlying23 HI.out hi0 hi1 hi2 rfl (by omega) _ (m + 2) _ rfl (hO4.alloc _) ⟨w4.heap.size, 0, none⟩ 1 1 [.string T] rfl rfl (World.news_of_block (heap_alloc_new w4 _)) (ones _ rfl) (by omega) (by unfold maxLen; omega) (by omega) (by simp; omega) _ rfl ?_; intro g1 cap1 w5 hown1 hgrow hat hlt1))
          go_roundw
          case rel => exact ⟨m + 1, M ++ [T], g1, cap1, z2, s2, by omega, by go_num, rfl, by simp [HM.out], hE2.put hT, by rw [← strs_put M T]; simpa using hown1, (hC4.gr (galloc w4 _ none) (fun _ h => by cases h) (by omega)).gr hgrow (fun q hq => by have e : gy = q := Option.some.inj hq; omega) (by simp; omega), by omega, gjoin (gtrans (gtrans (gtrans hGx hG3) hG4) (galloc w4 _ _)) hgrow (fun q hq => by have e : gy = q := Option.some.inj hq; omega)⟩
          case measure => simp [intOf]; omega
        · obtain rfl : m = n + 2 := by omega
          go_wp2
          go_ret
          exact ⟨M, gy, cy, zz, ss, by rw [HM.out]; rfl, by rw [HM.out]; omega, by rw [HM.out]; omega, hE2, by rw [HM.out]; exact hOx, by omega, hCx, hGx⟩
end Go.Proofs.Ytlilmbeehmjpkaa
