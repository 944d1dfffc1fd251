/-
  A frame whose entry was changed: what is scanned; the law's small helpers.
-/
import Derived.Test.YtlilmbeehmjpkaaHe
import Derived.Test.YtlilmbeehmjpkaaBa
import Derived.Test.YtlilmbeehmjpkaaJr
namespace Go.Proofs.Ytlilmbeehmjpkaa
open Go.RowKit
theorem bs_ext (L : List UInt8) (i j : Nat) : (bs L).extract i j = bs ((L.drop i).take (j - i)) := by
  apply bytes_eq
  rw [ext_list, bs_data, bs_data]
/-- A frame's parts. -/
theorem frame_parts {n c : Nat} {E : List UInt8} (hE : E.length = n) (hn : n < 4294967296) (hc : c < 4294967296) :
    be (bs (numI 4 (n : Int) ++ numI 4 (c : Int) ++ E)) 0 4 = n ∧ be (bs (numI 4 (n : Int) ++ numI 4 (c : Int) ++ E)) 4 4 = c ∧ (bs (numI 4 (n : Int) ++ numI 4 (c : Int) ++ E)).extract 8 (8 + n) = bs E ∧ (bs (numI 4 (n : Int) ++ numI 4 (c : Int) ++ E)).size = 8 + n := by
  have l1 := numI_len 4 (n : Int)
  have l2 := numI_len 4 (c : Int)
  have hs : (bs (numI 4 (n : Int) ++ numI 4 (c : Int) ++ E)).size = 8 + n := by rw [bs_size]; simp [l1, l2, hE]; omega
  have e0 := num_be (bs (numI 4 (n : Int) ++ numI 4 (c : Int) ++ E)) 0 (by omega)
  have e4 := num_be (bs (numI 4 (n : Int) ++ numI 4 (c : Int) ++ E)) 4 (by omega)
  have x0 : (bs (numI 4 (n : Int) ++ numI 4 (c : Int) ++ E)).extract 0 (0 + 4) = bs (numI 4 (n : Int)) := by
    rw [bs_ext]
    congr 1
  have x4 : (bs (numI 4 (n : Int) ++ numI 4 (c : Int) ++ E)).extract 4 (4 + 4) = bs (numI 4 (c : Int)) := by
    rw [bs_ext]
    congr 1
  refine ⟨num_inj _ _ (be4_lt _ _) hn (e0.trans x0), num_inj _ _ (be4_lt _ _) hc (e4.trans x4), ?_, hs⟩
  rw [bs_ext]
  congr 1
  rw [List.drop_append_of_le_length (by simp [l1, l2]), List.drop_of_length_le (by simp [l1, l2]), List.nil_append, List.take_of_length_le (by omega)]
/-- The frame of an entry begins with the entry. -/
theorem fst_frame {E : List UInt8} (h1 : 1 ≤ E.length) (h2 : E.length ≤ 60000) : fst (bs (numI 4 (E.length : Int) ++ numI 4 ((crcOf (bs E) : Nat) : Int) ++ E)) = bs E := by
  obtain ⟨a, b, c, d⟩ := frame_parts (E := E) rfl (by omega) (crcOf_lt (bs E))
  rw [fst_e (by omega) (by omega) (by omega) (by rw [a, c, b]), a, c]
/-- A frame whose entry was changed has none. -/
theorem fst_burst {E E' : List UInt8} (hl : E'.length = E.length) (h1 : 1 ≤ E.length) (h2 : E.length ≤ 60000) (hc : crc E' ≠ crc E) : fst (bs (numI 4 (E.length : Int) ++ numI 4 ((crcOf (bs E) : Nat) : Int) ++ E')) = ByteArray.empty := by
  obtain ⟨a, b, c, d⟩ := frame_parts (E := E') hl (by omega) (crcOf_lt (bs E))
  refine fst_d ?_
  rw [a, c, b]
  intro e
  have k1 := crc_lt E'
  have k2 := crc_lt E
  unfold crcOf at e
  rw [bs_data, bs_data] at e
  omega
theorem frm_bs {e : ByteArray} (h1 : 1 ≤ e.size) (h2 : e.size ≤ 60000) : frm e = bs (numI 4 (e.data.toList.length : Int) ++ numI 4 ((crcOf (bs e.data.toList) : Nat) : Int) ++ e.data.toList) := by
  have hl : e.data.toList.length = e.size := by simp
  rw [frm_yes (by simp [btw]; omega), bs_of, hl, ← bs_app, ← bs_app, bs_of]
theorem rst_nil {s : ByteArray} : (fst (rst s s.size)).size = 0 := by
  have : (rst s s.size).size = 0 := by rw [rst_size _ _ (Nat.le_refl _)]; omega
  rw [fst_a (by omega)]
  rfl
theorem ch_frame {E : List UInt8} (h1 : 1 ≤ E.length) (h2 : E.length ≤ 60000) : Ch (bs (numI 4 (E.length : Int) ++ numI 4 ((crcOf (bs E) : Nat) : Int) ++ E)) 0 [bs E] (8 + E.length) := by
  have h0 : Ch (bs (numI 4 (E.length : Int) ++ numI 4 ((crcOf (bs E) : Nat) : Int) ++ E)) 0 [] 0 := rfl
  have := h0.snoc (bs E) (by rw [rst_zero, fst_frame h1 h2]) (by rw [bs_size]; omega)
  rw [bs_size, Nat.zero_add] at this
  exact this
theorem CodeAt.later {w w' : World} {ca : Option Addr} {cn : Nat} (h : CodeAt w ca cn) (hb : Below w.heap.size w w') : CodeAt w' ca cn := fun j hj => by
  obtain ⟨b, off, v, e, hc, h0, h1⟩ := h j hj
  exact ⟨b, off, v, e, keepB hb hc, h0, h1⟩
set_option maxRecDepth 20000 in
set_option maxHeartbeats 4000000 in
theorem hPickB (ca : Option Addr) (cn cc : Nat) (i n : Int) (w : World) (h : CodeAt w ca cn) (hcn : cn ≤ 1048576) (hi0 : 0 ≤ i) (hn1 : 1 ≤ n) (hn2 : n ≤ 256) :
    Calls Try.prog 5 #[.slice ca cn cc, .int .i64 i, .int .i64 n] w fun e w' => ∃ r : Int, e = .returned (.int .i64 r) ∧ 0 ≤ r ∧ r < n ∧ w' = w := by
  by_cases h0 : cn = 0
  · subst h0
    go_enter Try.func5, Try.ntmps5
    go_wp2
    go_ret
    exact ⟨0, rfl, by omega, by omega, rfl⟩
  · have hb0 : ((cn : Int) == 0) = false := by simpa using h0
    by_cases hn : n ≤ 1
    · clear h0
      go_enter Try.func5, Try.ntmps5
      go_wp2
      go_ret
      exact ⟨0, rfl, by omega, by omega, rfl⟩
    · obtain ⟨j, hj, hjl⟩ : ∃ j : Nat, i.tmod (cn : Int) = (j : Int) ∧ j < cn := by
        refine ⟨(i % (cn : Int)).toNat, ?_, ?_⟩
        · rw [Int.tmod_eq_emod_of_nonneg hi0]
          have := Int.emod_nonneg i (show (cn : Int) ≠ 0 by omega)
          omega
        · have := Int.emod_lt_of_pos i (show (0 : Int) < cn by omega)
          have := Int.emod_nonneg i (show (cn : Int) ≠ 0 by omega)
          omega
      obtain ⟨b, off, v, rfl, hc, hv0, hv1⟩ := h j hjl
      have hne : ¬ (cn : Int) = 0 := by omega
      have hnn : ¬ n = 0 := by omega
      have hjI : (j : Int) < cn := by omega
      have hj0 : (0 : Int) ≤ (j : Int) := by omega
      clear h0
      go_enter Try.func5, Try.ntmps5
      go_wp2
      go_ret
      have m0 := Int.emod_nonneg v (show n ≠ 0 by omega)
      have m1 := Int.emod_lt_of_pos v (show (0 : Int) < n by omega)
      first
        | exact ⟨v % n, rfl, m0, m1, rfl⟩
        | exact ⟨v.tmod n, rfl, by rw [Int.tmod_eq_emod_of_nonneg hv0]; exact m0, by rw [Int.tmod_eq_emod_of_nonneg hv0]; exact m1, rfl⟩
set_option maxRecDepth 20000 in
set_option maxHeartbeats 4000000 in
theorem hStr1 (g g' c c' : Nat) (s : ByteArray) (w : World) (h : w.cell? ⟨g, 0, none⟩ = some (.string s)) (h' : w.cell? ⟨g', 0, none⟩ = some (.string s)) :
    Calls Try.prog 8 #[.slice (some ⟨g, 0, none⟩) 1 c, .slice (some ⟨g', 0, none⟩) 1 c'] w fun e w' => e = .returned (.bool true) ∧ Below w.heap.size w w' := by
  go_enter Try.func8, Try.ntmps8
  go_wp2
  go_loopw [13] (fun i wr => ∃ k q : Nat, k ≤ 1 ∧ i = .int .i64 k ∧ wr = w.drewN q) (fun i _ => 1 - (intOf i).toNat)
  case atStart => exact ⟨0, 0, by omega, rfl, rfl⟩
  case round =>
    obtain ⟨k, q, hk, rfl, hwr⟩ := hrel
    have HR : Hid (wr = w.drewN q) := hwr
    have hc1 : wr.cell? ⟨g, 0, none⟩ = some (.string s) := by rw [hwr]; exact h
    have hc2 : wr.cell? ⟨g', 0, none⟩ = some (.string s) := by rw [hwr]; exact h'
    clear hwr
    by_cases hk1 : k = 0
    · subst hk1
      go_wp2
      go_quiet (fail)
      go_wp2
      go_roundw
      case rel => exact ⟨1, q + nq, by omega, by go_num, by rw [HR.out]; simp⟩
      case measure => simp [intOf]
    · obtain rfl : k = 1 := by omega
      go_wp2
      go_ret
      exact ⟨rfl, by rw [HR.out]; exact undrewN _⟩
end Go.Proofs.Ytlilmbeehmjpkaa
