/-
  What the specification draws: a work.
-/
import Derived.Test.YtlilmbeehmjpkaaJq
namespace Go.Proofs.Ytlilmbeehmjpkaa
open Go.RowKit
def Et (L : List ByteArray) : Prop := ∀ T ∈ L, T.size ≤ 60000
theorem Et.put {L : List ByteArray} {T : ByteArray} (h : Et L) (hT : T.size ≤ 60000) : Et (L ++ [T]) := all_put h hT
theorem own_wk {w : World} {B B' g n cap : Nat} {xs : List Value} (h : w.ownsRow B 9 1 (.slice (some ⟨g, 0, none⟩) n cap) n xs) (hB : B' ≤ B) : w.ownsRow B' 9 1 (.slice (some ⟨g, 0, none⟩) n cap) n xs := by
  obtain ⟨hl, hh⟩ := h
  refine ⟨hl, ?_⟩
  rcases hh with hh | ⟨gg, cap', cur, e1, e2, e3⟩
  · exact Or.inl hh
  · exact Or.inr ⟨gg, cap', cur, e1, Nat.le_trans hB e2, e3⟩
theorem own_oth {w w' : World} {B g n cap : Nat} {xs : List Value} {r : Option Nat} (h : w.ownsRow B 9 1 (.slice (some ⟨g, 0, none⟩) n cap) n xs) (hg : w.grownBy w' r) (hne : some g ≠ r) : w'.ownsRow B 9 1 (.slice (some ⟨g, 0, none⟩) n cap) n xs :=
  h.kept hg (Or.inr (by simpa [Value.ownBlock] using hne))
theorem own_lt {w : World} {B g n cap : Nat} {xs : List Value} (h : w.ownsRow B 9 1 (.slice (some ⟨g, 0, none⟩) n cap) n xs) : g < w.heap.size := by
  rcases h.2 with ⟨e, _⟩ | ⟨g', cap', cur, e, _, hg, _⟩
  · cases e
  · cases e
    exact blk_lt hg
/-- A code of cn bytes. -/
def CodeAt (w : World) (ca : Option Addr) (cn : Nat) : Prop := ∀ j, j < cn → ∃ b off v, ca = some ⟨b, off, none⟩ ∧ w.cell? ⟨b, off + j, none⟩ = some (.int .u8 v) ∧ 0 ≤ v ∧ v ≤ 255
theorem cu_new (w : World) (ca : Option Addr) (cn cc : Nat) (h : CodeAt w ca cn) (hn : cn ≤ 1048576) : Cu (w.alloc (.cells #[.slice ca cn cc, .int .i64 0, .int .i64 0] 34)) w.heap.size (w.heap.size + 1) ca cn cc 0 0 := by
  have hh := heap_alloc_new w (.cells #[.slice ca cn cc, .int .i64 0, .int .i64 0] 34)
  refine ⟨(cell_of_row _ _ 0 _ _ _ hh).trans rfl, (cell_of_row _ _ 1 _ _ _ hh).trans rfl, (cell_of_row _ _ 2 _ _ _ hh).trans rfl, frozen_of_row _ _ 1 _ _ hh, frozen_of_row _ _ 2 _ _ hh, by omega, hn, by omega, fun j hj => ?_⟩
  obtain ⟨b, off, v, e, hc, h0, h1⟩ := h j hj
  have hb := World.block_lt_of_cell? _ _ hc
  exact ⟨b, off, v, e, Nat.ne_of_lt hb, Nat.lt_succ_of_lt hb, keepB (bal w _) hc, h0, h1⟩
set_option maxRecDepth 20000 in
set_option maxHeartbeats 4000000 in
theorem drawWork_any (ca : Option Addr) (cn cc : Nat) (w : World) (h : CodeAt w ca cn) (hn : cn ≤ 1048576) :
    Calls Try.prog 4 #[.slice ca cn cc] w fun e w' => ∃ (L M : List ByteArray) (g1 c1 g2 c2 : Nat), e = .returned (.tuple #[.slice (some ⟨g1, 0, none⟩) L.length c1, .slice (some ⟨g2, 0, none⟩) 6 c2]) ∧ L.length ≤ 15 ∧ 1 ≤ L.length ∧ M.length = 6 ∧ Es L ∧ Et M ∧ w'.ownsRow w.heap.size 9 1 (.slice (some ⟨g1, 0, none⟩) L.length c1) L.length (L.map .string) ∧ w'.ownsRow w.heap.size 9 1 (.slice (some ⟨g2, 0, none⟩) 6 c2) 6 (M.map .string) ∧ Below w.heap.size w w' := by
  obtain ⟨i0, hi, hi0, hi1, hi2⟩ := info_parts Try.info9q
  have HI : Hid (Try.prog.info? 9 = some i0) := hi
  clear hi
  have hC := cu_new w ca cn cc h hn
  have hz : (w.alloc (.cells #[.slice ca cn cc, .int .i64 0, .int .i64 0] 34)).heap.size = w.heap.size + 1 := by simp
  have hb := bal w (.cells #[.slice ca cn cc, .int .i64 0, .int .i64 0] 34)
  go_enter Try.func4, Try.ntmps4
  go_wp2_with (go_at_call 9; refine (entries_any w.heap.size (w.heap.size + 1) ca cn cc 0 0 _ hC (by omega) (by simp)).mono ?_; rintro e w1 ⟨L, g1, c1, z1, s1, rfl, hL15, hL1, hE, hO, hz1, hC1, hG1⟩)
  have hs1 := hG1.size
  rw [hz] at hs1 hO
  obtain ⟨n, hln⟩ : ∃ n, L.length = n := ⟨_, rfl⟩
  have HLn : Hid (L.length = n) := hln
  rw [hln] at hL15 hL1 hO ⊢
  have hO1 := hO.alloc (.cells #[] 9)
  clear hln
  have hO2 : (w1.alloc (.cells #[] 9)).ownsRow (w.heap.size + 1) 9 1 (.slice (some ⟨w1.heap.size, 0, none⟩) 0 0) 0 [] := World.ownsRow_lit w1 #[] 0 (by omega) (by simp [maxLen]) rfl
  have hg1 := grow_le hO
  have hg1' := own_lt hO
  have hCa := hC1.al (by omega) (.cells #[] 9)
  have hGa : (w.alloc (.cells #[.slice ca cn cc, .int .i64 0, .int .i64 0] 34)).grownBy (w1.alloc (.cells #[] 9)) (some w.heap.size) := gtrans hG1 (galloc _ _ _)
  go_loopw [6, 7] (fun o i wr => ∃ (k : Nat) (M : List ByteArray) (gz cap zz ss : Nat), k ≤ 6 ∧ i = .int .i64 k ∧ o = .slice (some ⟨gz, 0, none⟩) k cap ∧ M.length = k ∧ Et M ∧ w1.heap.size ≤ gz ∧ wr.ownsRow (w.heap.size + 1) 9 1 (.slice (some ⟨gz, 0, none⟩) k cap) k (M.map .string) ∧ wr.ownsRow (w.heap.size + 1) 9 1 (.slice (some ⟨g1, 0, none⟩) n c1) n (L.map .string) ∧ w1.heap.size ≤ wr.heap.size ∧ Cu wr w.heap.size (w.heap.size + 1) ca cn cc zz ss ∧ zz ≤ z1 + 100 * k ∧ (w.alloc (.cells #[.slice ca cn cc, .int .i64 0, .int .i64 0] 34)).grownBy wr (some w.heap.size)) (fun _ i _ => 6 - (intOf i).toNat)
  case atStart => exact ⟨0, [], w1.heap.size, 0, z1, s1, by omega, rfl, rfl, rfl, (fun T hT => by cases hT), Nat.le_refl _, hO2, hO1, by simp, hCa, by omega, hGa⟩
  case round =>
    obtain ⟨k, M, gz, cap, zz, ss, hk, rfl, rfl, hM, hEM, hgz, hOM, hOL, hsr, hCr, hzz, hGr⟩ := hrel
    have HM : Hid (M.length = k) := hM
    have hgM := grow_le hOM
    clear hM
    by_cases hlt : k < 6
    · go_wp2_with (first | (go_at_call 10; refine (drawBytes_any w.heap.size (w.heap.size + 1) ca cn cc zz ss _ hCr (by omega) (by omega) 40 (by omega)).mono ?_; rintro e w2 ⟨T, z2, s2, rfl, hTs, hz2', hC2, hG2⟩; have hOM2 := own_gr hOM hG2 (by omega); have hOL2 := own_gr hOL hG2 (by omega); have hs2 := hG2.size) | (at_builtin; refine wpList_append_lies _ rfl _ _ _ rfl (w.heap.size + 1) 9 i0 (.string ⟨#[]⟩) 1 16 Try.underlying23 HI.out hi0 hi1 hi2 rfl (by omega) _ k _ rfl (hOM2.alloc _) ⟨w2.heap.size, 0, none⟩ 1 1 [.string T] rfl rfl (World.news_of_block (heap_alloc_new w2 _)) (ones _ rfl) (by omega) (by unfold maxLen; omega) (by omega) (by simp; omega) _ rfl ?_; intro g3 cap3 w3 hown3 hgrow hat hlt3; replace hgrow : (w2.alloc (.cells #[.string T] 9)).grownBy w3 (some gz) := hgrow; have hs3 := hgrow.size; have hsz : (w2.alloc (.cells #[.string T] 9)).heap.size = w2.heap.size + 1 := (by simp); rw [hsz] at hs3))
      go_roundw
      case rel => exact ⟨k + 1, M ++ [T], g3, cap3, z2, s2, by omega, by go_num, rfl, by simp [HM.out], hEM.put (by omega), (hat.elim (fun e => by have e : gz = g3 := Option.some.inj e; omega) (fun e => by omega)), by rw [← strs_put M T]; simpa using hown3, own_oth (hOL2.alloc _) hgrow (fun e => by have e : g1 = gz := Option.some.inj e; omega), by omega, (hC2.al (by omega) _).gr hgrow (fun q hq => by have e : gz = q := Option.some.inj hq; omega) (by simp; omega), by omega, gjoin (gtrans (gtrans hGr hG2) (galloc w2 _ _)) hgrow (fun q hq => by have e : gz = q := Option.some.inj hq; omega)⟩
      case measure => simp [intOf]; omega
    · obtain rfl : k = 6 := by omega
      go_wp2
      refine bodyPost_ret (by simp [results, Try.results4, go_sem]; rfl) rfl ?_
      refine ⟨L, M, g1, c1, gz, cap, by rw [HLn.out], by rw [HLn.out]; exact hL15, by rw [HLn.out]; exact hL1, HM.out, hE, hEM, by rw [HLn.out]; exact own_wk hOL (by omega), own_wk hOM (by omega), hb.trans ⟨hGr.os, hGr.tape, hGr.output, hGr.size, fun j hj => hGr.block j (by omega) (fun e => by have := Option.some.inj e; omega)⟩⟩
end Go.Proofs.Ytlilmbeehmjpkaa
