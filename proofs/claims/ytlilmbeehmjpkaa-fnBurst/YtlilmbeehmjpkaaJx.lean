/-
  A statement that was drawn is written as bytes: some, and not too many.
-/
import Derived.Test.YtlilmbeehmjpkaaJd
import Derived.Deep.Slices
namespace Go.Proofs.Ytlilmbeehmjpkaa
open Go.RowKit Go.Deep
theorem co_cl {w : World} {a : Option Addr} {n : Nat} (h : Co w a n) : ∃ C : Nat → Clm, CL w a n C ∧ ∀ k, k < n → okCol (C k).s (C k).t = true := by
  obtain ⟨C, hC⟩ := @choose_lt Clm ⟨⟨⟨#[]⟩, 0⟩⟩ n (fun k c => (∃ b off, a = some ⟨b, off, none⟩ ∧ w.cell? ⟨b, off + k * 2, none⟩ = some (.string c.s) ∧ w.cell? ⟨b, off + k * 2 + 1, none⟩ = some (.int .i64 c.t)) ∧ okCol c.s c.t = true) (fun k hk => by
    obtain ⟨b, off, m, s, e, h0, h1, hs⟩ := h k hk
    exact ⟨⟨s, m⟩, ⟨b, off, e, h0, h1⟩, hs⟩)
  refine ⟨C, fun k hk => ?_, fun k hk => (hC k hk).2⟩
  obtain ⟨⟨b, off, e, h0, h1⟩, hs⟩ := hC k hk
  refine ⟨b, off, e, h0, h1, ?_⟩
  simp only [okCol, Bool.and_eq_true] at hs
  have := okName_len hs.1
  omega
theorem it_il {w : World} {a : Option Addr} {n : Nat} (h : It w a n) : ∃ V : Nat → Itm, IL w a n V ∧ ∀ k, k < n → okValue (V k).o (V k).m (V k).s = true := by
  obtain ⟨V, hV⟩ := @choose_lt Itm ⟨⟨0, 0, ⟨#[]⟩⟩⟩ n (fun k c => (∃ b off, a = some ⟨b, off, none⟩ ∧ w.cell? ⟨b, off + k * 3, none⟩ = some (.int .i64 c.o) ∧ w.cell? ⟨b, off + k * 3 + 1, none⟩ = some (.int .i64 c.m) ∧ w.cell? ⟨b, off + k * 3 + 2, none⟩ = some (.string c.s)) ∧ okValue c.o c.m c.s = true) (fun k hk => by
    obtain ⟨b, off, o, m, s, e, h0, h1, h2, hs⟩ := h k hk
    exact ⟨⟨o, m, s⟩, ⟨b, off, e, h0, h1, h2⟩, hs⟩)
  refine ⟨V, fun k hk => ?_, fun k hk => (hV k hk).2⟩
  obtain ⟨⟨b, off, e, h0, h1, h2⟩, hs⟩ := hV k hk
  have := okValue_len hs
  exact ⟨b, off, e, h0, h1, h2, by omega⟩
structure Rj where
  m : Nat
  I : Nat → Itm
theorem where_exp {I : Nat → Itm} {n : Nat} (h : okWhere I n = true) (h1 : 1 ≤ n) : okExp I n = true := by
  simp only [okWhere, Bool.or_eq_true, decide_eq_true_eq] at h
  rcases h with h | h
  · omega
  · exact h
theorem ou_ol {w : World} {a : Option Addr} {n : Nat} (h : Ou w a n) : ∃ (m : Nat → Nat) (O : Nat → Nat → Itm), OL w a n m O ∧ ∀ k, k < n → okExp (O k) (m k) = true ∧ m k ≤ 15 := by
  obtain ⟨R, hR⟩ := @choose_lt Rj ⟨⟨0, fun _ => ⟨0, 0, ⟨#[]⟩⟩⟩⟩ n (fun k r => (∃ b off i c, a = some ⟨b, off, none⟩ ∧ w.cell? ⟨b, off + k, none⟩ = some (.slice i r.m c) ∧ IL w i r.m r.I) ∧ okExp r.I r.m = true ∧ r.m ≤ 15) (fun k hk => by
    obtain ⟨b, off, i, m, c, e, h0, ⟨I, hi, hw, h15⟩, hm⟩ := h k hk
    exact ⟨⟨m, I⟩, ⟨b, off, i, c, e, h0, hi⟩, where_exp hw hm, h15⟩)
  refine ⟨fun k => (R k).m, fun k => (R k).I, fun k hk => ?_, fun k hk => (hR k hk).2⟩
  obtain ⟨⟨b, off, i, c, e, h0, hi⟩, -, h15⟩ := hR k hk
  exact ⟨b, off, i, c, e, h0, hi, by show (R k).m ≤ _; omega⟩
theorem exp_small {I : Nat → Itm} {n : Nat} (h : okWhere I n = true) (hn : n ≤ 15) : (expB I n).length ≤ 4502 := by
  have h2 := (okWhere_len h).2
  have := listB_len (B := fun k => itmB (I k)) (c := 300) (n := n) (fun k hk => itmB_len _ (h2 k hk))
  unfold expB
  rw [List.length_append, numI_len]
  omega
theorem exp_where {I : Nat → Itm} {n : Nat} (h : okExp I n = true) : okWhere I n = true := by simp [okWhere, h]
/-- Its bytes: some, and not too many. -/
theorem enc_small {D : St} (h : okStm D = true) (h5 : okWhere D.E D.n5 = true) (h5' : D.n5 ≤ 15) (h6 : okWhere D.W D.n6 = true) (h6' : D.n6 ≤ 15) (h7 : D.n7 ≤ 3) (h7' : ∀ k, k < D.n7 → okWhere (D.O k) (D.m7 k) = true ∧ D.m7 k ≤ 15) : 1 ≤ (encS D).size ∧ (encS D).size ≤ 60000 := by
  have e5 := exp_small h5 h5'
  have e6 := exp_small h6 h6'
  have htb := okStm_tb h
  have hl : (encL D).length ≤ 60000 := by
    unfold encL
    rw [List.length_append, List.length_append, numI_len, s8_len]
    have ht : (tailL D).length ≤ 40000 := by
      rcases okStm_k h with e | e | e | e | e
      · obtain ⟨a, b⟩ := ok1 h e
        have := listB_len (B := fun j => colB (D.C j)) (c := 100) (n := D.n2) (fun j hj => by have := b j hj; simp [colB, s8_len, numI_len]; omega)
        unfold tailL
        rw [if_pos e, List.length_append, numI_len]
        omega
      · obtain ⟨a, b⟩ := ok2 h e
        have := listB_len (B := fun j => valB (D.V j)) (c := 300) (n := D.n3) (fun j hj => by
          have := b j hj
          unfold valB
          rw [List.length_append, numI_len]
          split
          · rw [numI_len]; omega
          · rw [s16_len]; omega)
        unfold tailL
        rw [if_neg (by omega), if_pos e, List.length_append, numI_len]
        omega
      · obtain ⟨a, -⟩ := ok3 h e
        unfold tailL
        rw [if_neg (by omega), if_neg (by omega), if_pos e, List.length_append, List.length_append, s8_len]
        omega
      · unfold tailL
        rw [if_neg (by omega), if_neg (by omega), if_neg (by omega), if_pos e]
        omega
      · have := listB_len (B := fun j => expB (D.O j) (D.m7 j)) (c := 4502) (n := D.n7) (fun j hj => exp_small (h7' j hj).1 (h7' j hj).2)
        unfold tailL
        rw [if_neg (by omega), if_neg (by omega), if_neg (by omega), if_neg (by omega), List.length_append, List.length_append, numI_len]
        omega
    omega
  have hs : (bs (encL D)).size = (encL D).length := bs_size _
  have e : encS D = bs (encL D) := enc_yes h rfl (by omega)
  rw [e, hs]
  refine ⟨?_, hl⟩
  unfold encL
  rw [List.length_append, List.length_append, numI_len]
  omega
set_option maxRecDepth 20000 in
theorem sp_enc (p : SP) (w : World) (h : Sm w p) (hs : Shp p) : Calls Try.prog 15 #[.agg p.cs] w fun e w' => (∃ T : ByteArray, e = .returned (.string T) ∧ 1 ≤ T.size ∧ T.size ≤ 60000) ∧ Below w.heap.size w w' := by
  obtain ⟨C, hC, hC'⟩ := co_cl h.co
  obtain ⟨V, hV, hV'⟩ := it_il h.va
  obtain ⟨E, hE, hE', hE5⟩ := h.ex
  obtain ⟨W, hW, hW', hW6⟩ := h.wh
  obtain ⟨m7, O, hO, hO'⟩ := ou_ol h.ou
  have htb := okName_len h.tb
  have hcol : p.col.size ≤ 30 := by
    rcases h.col with e | e
    · omega
    · exact okName_len e
  have hl2 := h.l2
  have hl3 := h.l3
  have hl7 := h.l7
  have hM : SM w ⟨p.k, p.tb, p.n2, C, p.n3, V, p.col, p.n5, E, p.n6, W, p.n7, m7, O⟩ ⟨p.a2, p.c2, p.a3, p.c3, p.a5, p.c5, p.a6, p.c6, p.a7, p.c7⟩ := ⟨by show p.tb.size ≤ _; omega, by show p.col.size ≤ _; omega, hC, hV, hE, hW, hO, by show p.n2 ≤ _; omega, by show p.n3 ≤ _; omega, by show p.n5 ≤ _; omega, by show p.n6 ≤ _; omega, by show p.n7 ≤ _; omega⟩
  obtain ⟨D, hD⟩ : ∃ D : St, D = ⟨p.k, p.tb, p.n2, C, p.n3, V, p.col, p.n5, E, p.n6, W, p.n7, m7, O⟩ := ⟨_, rfl⟩
  have ok : okStm D = true := by
    rcases hs with ⟨k1, a, b, c, d, e, f, g⟩ | ⟨k1, a, b, c, d, e, f, g⟩ | ⟨k1, a, b, c, d, e⟩ | ⟨k1, a, b, c, d, e⟩ | ⟨k1, a, b, c, d, e⟩
    · rw [stm1 D (by rw [hD]; exact k1)]
      subst hD
      simp only [bareB, h.tb, c, d, e, f, g, Bool.true_and, Bool.and_eq_true]
      refine ⟨by simp, by simp [btw]; omega, allN_true fun j hj => hC' j hj⟩
    · rw [stm2 D (by rw [hD]; exact k1)]
      subst hD
      simp only [bareB, h.tb, a, d, e, f, g, Bool.true_and, Bool.and_eq_true]
      refine ⟨by simp, by simp [btw]; omega, allN_true fun j hj => hV' j hj⟩
    · rw [stm3 D (by rw [hD]; exact k1)]
      subst hD
      have z : (⟨#[]⟩ : ByteArray).size = 0 := rfl
      simp only [bareB, h.tb, a, b, c, e, z, Bool.true_and, Bool.and_eq_true]
      refine ⟨by simp, where_exp hE' d, hW'⟩
    · rw [stm4 D (by rw [hD]; exact k1)]
      subst hD
      simp only [bareB, h.tb, a, b, c, d, e, Bool.true_and, Bool.and_eq_true]
      refine ⟨by simp, hW'⟩
    · rw [stm5 D (by rw [hD]; exact k1)]
      subst hD
      simp only [bareB, h.tb, a, b, c, d, Bool.true_and, Bool.and_eq_true]
      refine ⟨by simp, ⟨by simp [btw]; omega, allN_true fun j hj => (hO' j hj).1⟩, hW'⟩
  have sml := enc_small ok (by subst hD; exact hE') (by subst hD; exact hE5) (by subst hD; exact hW') (by subst hD; exact hW6) (by subst hD; exact hl7) (fun k hk => by subst hD; exact ⟨exp_where (hO' k hk).1, (hO' k hk).2⟩)
  rw [hD] at sml
  refine (sEnc _ _ w hM).mono ?_
  rintro e w' ⟨rfl, hb⟩
  exact ⟨⟨_, rfl, sml⟩, hb⟩
end Go.Proofs.Ytlilmbeehmjpkaa
