/-
  A text of one sign again and again; a drawn kind.
-/
import Derived.Test.YtlbackkjjhpljaaGreatDoorCd
import Derived.Lib.AppendStr
import Derived.Test.YtlbackkjjhpljaaGreatDoorIr
namespace Go.Proofs.YtlbackkjjhpljaaGreatDoor
open Go.RowKit
theorem cell_gr {w w' : World} {g : Nat} {p : Addr} {v : Value} (hg : w.grownBy w' (some g)) (hc : w.cell? p = some v) (hne : p.block ≠ g) : w'.cell? p = some v := (World.cell?_of_block (hg.block _ (World.block_lt_of_cell? _ _ hc) (fun e => hne (Option.some.inj e)))).trans hc
theorem own_some {w : World} {base e n : Nat} {v : Value} {xs : List Value} (h : w.ownsRow base e 1 v n xs) (hn : 0 < n) : ∃ g cap, v = .slice (some ⟨g, 0, none⟩) n cap := by
  obtain ⟨_, hh⟩ := h
  rcases hh with ⟨_, e⟩ | ⟨gg, cap, cur, e1, _⟩
  · omega
  · exact ⟨gg, cap, e1⟩
set_option maxRecDepth 20000 in
set_option maxHeartbeats 4000000 in
theorem times_any (m : Nat) (hm : m ≤ 32) (w : World) :
    Calls Tryz.prog 73 #[.string ⟨#[119]⟩, .int .i64 m] w fun e w' => ∃ T : ByteArray, e = .returned (.string T) ∧ T.size ≤ 32 ∧ Below w.heap.size w w' := by
  obtain ⟨i0, hi, hz0, hz1, hz2⟩ := info_parts Tryz.info5
  have HI : Hid (Tryz.prog.info? 5 = some i0) := hi
  clear hi
  obtain ⟨Sg, hSg⟩ : ∃ Sg : ByteArray, ⟨#[119]⟩ = Sg := ⟨_, rfl⟩
  have hs1 : Sg.size = 1 := by rw [← hSg]; rfl
  have hsc : Lib.strCells Sg = cells8 [119] := by rw [← hSg]; rfl
  rw [hSg]
  clear hSg
  go_enter Tryz.func73, Tryz.ntmps73
  go_wp2
  go_loopw [5, 6] (fun o i wr => ∃ (k : Nat) (L : List UInt8) (gz cap : Nat), k ≤ m ∧ i = .int .i64 k ∧ o = .slice (some ⟨gz, 0, none⟩) k cap ∧ L.length = k ∧ wr.ownsRow w.heap.size 5 1 (.slice (some ⟨gz, 0, none⟩) k cap) k (cells8 L) ∧ Below w.heap.size w wr) (fun _ i _ => m - (intOf i).toNat)
  case atStart => exact ⟨0, [], w.heap.size, 0, by omega, rfl, rfl, rfl, World.ownsRow_lit w #[] 0 (Nat.le_refl _) (by simp [maxLen]) rfl, below1 _ _⟩
  case round =>
    obtain ⟨k, L, gz, cap, hk, rfl, rfl, hL, hO, hb⟩ := hrel
    have HL : Hid (L.length = k) := hL
    have hgz := grow_le hO
    have hwr := hb.size
    clear hL
    by_cases hlt2 : k < m
    · go_wp2_with (at_builtin; refine Lib.wpList_append_own_string _ rfl _ _ _ _ rfl w.heap.size 5 i0 Tryz.underlying33 Tryz.underlying9 HI.out hz0 hz1 hz2 _ k _ rfl hO Sg rfl (by unfold maxLen; omega) (by omega) (by omega) ?_; intro v1 w1 hown1 hgrow _; rw [hs1] at hown1; obtain ⟨g1, cap1, rfl⟩ := own_some hown1 (by omega))
      go_roundw
      case rel => exact ⟨k + 1, L ++ [119], g1, cap1, by omega, by go_num, rfl, by simp [HL.out], by rw [hsc] at hown1; simpa [cells8] using hown1, hb.grown hgrow (by omega) (fun q hq => by have e : gz = q := Option.some.inj hq; omega)⟩
      case measure => simp [intOf]; omega
    · obtain rfl : k = m := by omega
      have hc := conv_any wr w.heap.size gz cap L (by rw [HL.out]; exact hO)
      rw [HL.out] at hc
      go_wp2
      go_ret
      exact ⟨_, rfl, by show L.toArray.size ≤ 32; simp [HL.out]; omega, hb⟩
set_option maxRecDepth 20000 in
set_option maxHeartbeats 4000000 in
theorem drawKind_any (g B : Nat) (ca : Option Addr) (cn cc z s : Nat) (w : World) (h : Cu w g B ca cn cc z s) (hz : z ≤ 100000000000) (hB : B ≤ w.heap.size) :
    Calls Tryz.prog 74 #[.pointer (some ⟨g, 0, none⟩)] w fun e w' => ∃ (r : Int) (z' s' : Nat), e = .returned (.int .i64 r) ∧ Cu w' g B ca cn cc z' s' ∧ w.grownBy w' (some g) := by
  have hlt := h.lt
  go_enter Tryz.func74, Tryz.ntmps74
  go_wp2_with (first | (go_at_call 47; have _h := hG1; refine (pick_any g B ca cn cc z1 s1 _ hC1x (by omega) _ (by omega)).mono ?_; rintro e w2 ⟨r2, z2, s2, rfl, hr20, hr21, -, hz2', hC2, hG2⟩; have b0 := cell_gr hG2 (boxes2 w1 (.int .i64 2) (.int .i64 (-1)) 3).1 (by show w1.heap.size ≠ g; omega); have b1 := cell_gr hG2 (boxes2 w1 (.int .i64 2) (.int .i64 (-1)) 3).2 (by show w1.heap.size ≠ g; omega); obtain rfl | rfl : r2 = 0 ∨ r2 = 1 := (by omega)) | (go_at_call 47; refine (pick_any g B ca cn cc z s _ h (by omega) _ (by omega)).mono ?_; rintro e w1 ⟨r, z1, s1, rfl, hr0, hr1, -, hz1', hC1, hG1⟩; have hs1 := hG1.size; have hC1x := hC1.gr (galloc w1 (.cells #[.int .i64 2, .int .i64 (-1)] 3) none) (fun _ h => by cases h) (by omega)))
  all_goals
    go_ret
    first
      | exact ⟨_, z2, s2, rfl, hC2, gtrans (gtrans hG1 (galloc w1 _ _)) hG2⟩
      | exact ⟨_, z1, s1, rfl, hC1, hG1⟩
end Go.Proofs.YtlbackkjjhpljaaGreatDoor
