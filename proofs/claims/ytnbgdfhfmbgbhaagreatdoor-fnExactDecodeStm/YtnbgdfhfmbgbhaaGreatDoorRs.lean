/-
  Statements read: if what was read is written as the text, nothing was short.
-/
import Derived.Test.YtnbgdfhfmbgbhaaGreatDoorRk
import Derived.Test.YtnbgdfhfmbgbhaaGreatDoorRr
namespace Go.Proofs.YtnbgdfhfmbgbhaaGreatDoor
open Go.RowKit Go.Maps Go.WideMaps
/-- The place behind a statement's head. -/
def hd2 (s : ByteArray) : Option Nat := txtP s 1 (numP s 1 (some 0))
theorem head_rt {s : ByteArray} {d : St} (h : At s 0 (encL d)) (hok : okStm d = true) : numV s 1 (some 0) = d.k ∧ txtV s 1 (numP s 1 (some 0)) = d.tb ∧ ∃ a, hd2 s = some a ∧ At s a (tailL d) ∧ a + (tailL d).length = (encL d).length := by
  have hk := okK hok
  have ht := (okS hok).1
  unfold encL at h
  have h1 := num_rt h.left.left (wrap_1 (by omega) (by omega))
  have hr := h.left.right
  rw [numI_len] at hr
  have h2 := txt1_rt hr (by omega)
  refine ⟨h1.2, ?_, 0 + 1 + 1 + d.tb.size, ?_, ?_, ?_⟩
  · rw [h1.1]; exact h2.2
  · unfold hd2; rw [h1.1]; exact h2.1
  · have h3 := h.right
    rw [List.length_append, numI_len, s8_len] at h3
    rw [show 0 + 1 + 1 + d.tb.size = 0 + (1 + (1 + d.tb.size)) by omega]
    exact h3
  · unfold encL
    rw [List.length_append, List.length_append, numI_len, s8_len]
    omega
/-- A list that stands behind its number of one byte. -/
theorem lst_rt {s : ByteArray} {a n : Nat} {F : Nat → List UInt8} {f : Option Nat → Option Nat} (h : At s a (numI 1 n ++ listB F n)) (hn : n ≤ 20) (hf : ∀ j, j < n → ∀ b, At s b (F j) → f (some b) = some (b + (F j).length)) :
    lenV s 1 (some a) = n ∧ numP s 1 (some a) = some (a + 1) ∧ (∀ j, j ≤ n → rep f (some (a + 1)) j = some (a + 1 + (listB F j).length)) ∧ ∀ j, j < n → At s (a + 1 + (listB F j).length) (F j) := by
  have h1 := num_rt h.left (wrap_1 (by omega) (by omega))
  have hr := h.right
  rw [numI_len] at hr
  exact ⟨by unfold lenV; rw [h1.2]; omega, h1.1, list_rt hr hf, listB_at hr⟩
theorem stm1_rt {s : ByteArray} {d : St} (h : At s 0 (encL d)) (hz : (encL d).length = s.size) (hok : okStm d = true) (e : d.k = 1) :
    lenV s 1 (hd2 s) = d.n2 ∧ (∀ j, j < d.n2 → clV s (rep (clP s) (numP s 1 (hd2 s)) j) = d.C j) ∧ rep (clP s) (numP s 1 (hd2 s)) d.n2 = some s.size := by
  obtain ⟨-, -, a, ha, hA, hl⟩ := head_rt h hok
  have hr := (okS hok).2
  unfold restS at hr
  unfold tailL at hA hl
  rw [if_pos e] at hA hl hr
  rw [Bool.and_eq_true] at hr
  have hc := fun j hj => allN_at' hr.2 j hj
  obtain ⟨q1, q2, q3, q4⟩ := lst_rt (f := clP s) hA (btw20 hr.1) (fun j hj b hb => (col_rt hb (hc j hj)).1)
  rw [ha, q2]
  refine ⟨q1, fun j hj => ?_, ?_⟩
  · rw [q3 j (by omega)]
    exact (col_rt (q4 j hj) (hc j hj)).2
  · rw [q3 _ (Nat.le_refl _)]
    rw [List.length_append, numI_len] at hl
    congr 1
    omega
theorem stm2_rt {s : ByteArray} {d : St} (h : At s 0 (encL d)) (hz : (encL d).length = s.size) (hok : okStm d = true) (hR : RG d) (e : d.k = 2) :
    lenV s 1 (hd2 s) = d.n3 ∧ (∀ j, j < d.n3 → vlV s (rep (vlP s) (numP s 1 (hd2 s)) j) = d.V j) ∧ rep (vlP s) (numP s 1 (hd2 s)) d.n3 = some s.size := by
  obtain ⟨-, -, a, ha, hA, hl⟩ := head_rt h hok
  have hr := (okS hok).2
  unfold restS at hr
  unfold tailL at hA hl
  rw [if_neg (by omega), if_pos e] at hA hl hr
  rw [Bool.and_eq_true] at hr
  have hc := fun j hj => allN_at' hr.2 j hj
  obtain ⟨q1, q2, q3, q4⟩ := lst_rt (f := vlP s) hA (btw20 hr.1) (fun j hj b hb => (val_rt hb (hc j hj) (hR.va j hj)).1)
  rw [ha, q2]
  refine ⟨q1, fun j hj => ?_, ?_⟩
  · rw [q3 j (by omega)]
    exact (val_rt (q4 j hj) (hc j hj) (hR.va j hj)).2
  · rw [q3 _ (Nat.le_refl _)]
    rw [List.length_append, numI_len] at hl
    congr 1
    omega
theorem exp_its {I : Nat → Itm} {n : Nat} (h : okExp I n = true) : n ≤ 100 ∧ ∀ j, j < n → okItem (I j).o (I j).m (I j).s = true := by
  simp only [okExp, Bool.and_eq_true, decide_eq_true_eq, btw] at h
  exact ⟨by omega, ex_items h.2⟩
theorem whr_its {I : Nat → Itm} {n : Nat} (h : okWhere I n = true) : n ≤ 100 ∧ ∀ j, j < n → okItem (I j).o (I j).m (I j).s = true := by
  simp only [okWhere, Bool.or_eq_true, decide_eq_true_eq] at h
  rcases h with h | h
  · subst h; exact ⟨by omega, fun j hj => by omega⟩
  · exact exp_its h
theorem stm4_rt {s : ByteArray} {d : St} (h : At s 0 (encL d)) (hz : (encL d).length = s.size) (hok : okStm d = true) (hR : RG d) (e : d.k = 4) :
    lenV s 2 (hd2 s) = d.n6 ∧ (∀ j, j < d.n6 → itmV s (rep (itmP s) (numP s 2 (hd2 s)) j) = d.W j) ∧ exPl s (hd2 s) = some s.size := by
  obtain ⟨-, -, a, ha, hA, hl⟩ := head_rt h hok
  obtain ⟨w1, w2⟩ := whr_its (m4 hok e)
  unfold tailL at hA hl
  rw [if_neg (by omega), if_neg (by omega), if_neg (by omega), if_pos e] at hA hl
  obtain ⟨q1, q2, q3, q4⟩ := exp_rt hA w1 w2 hR.wh
  rw [ha, q2]
  exact ⟨q1, q4, by rw [q3]; congr 1; omega⟩
theorem stm3_rt {s : ByteArray} {d : St} (h : At s 0 (encL d)) (hz : (encL d).length = s.size) (hok : okStm d = true) (hR : RG d) (e : d.k = 3) :
    txtV s 1 (hd2 s) = d.col ∧ lenV s 2 (txtP s 1 (hd2 s)) = d.n5 ∧ (∀ j, j < d.n5 → itmV s (rep (itmP s) (numP s 2 (txtP s 1 (hd2 s))) j) = d.E j) ∧ lenV s 2 (exPl s (txtP s 1 (hd2 s))) = d.n6 ∧ (∀ j, j < d.n6 → itmV s (rep (itmP s) (numP s 2 (exPl s (txtP s 1 (hd2 s)))) j) = d.W j) ∧ exPl s (exPl s (txtP s 1 (hd2 s))) = some s.size := by
  obtain ⟨-, -, a, ha, hA, hl⟩ := head_rt h hok
  obtain ⟨c1, c2, c3⟩ := m3 hok e
  obtain ⟨e1, e2⟩ := exp_its c2
  obtain ⟨w1, w2⟩ := whr_its c3
  unfold tailL at hA hl
  rw [if_neg (by omega), if_neg (by omega), if_pos e] at hA hl
  have h1 := txt1_rt hA.left.left (by omega)
  have hE := hA.left.right
  rw [s8_len] at hE
  have hW := hA.right
  rw [List.length_append, s8_len] at hW
  rw [ha, h1.1, h1.2, show a + 1 + d.col.size = a + (1 + d.col.size) by omega]
  obtain ⟨q1, q2, q3, q4⟩ := exp_rt hE e1 e2 hR.ex
  rw [q2, q3, show a + (1 + d.col.size) + (expB d.E d.n5).length = a + (1 + d.col.size + (expB d.E d.n5).length) by omega]
  obtain ⟨r1, r2, r3, r4⟩ := exp_rt hW w1 w2 hR.wh
  rw [r2, r3]
  rw [List.length_append, List.length_append, s8_len] at hl
  exact ⟨rfl, q1, q4, r1, r4, by congr 1; omega⟩
theorem stm5_rt {s : ByteArray} {d : St} (h : At s 0 (encL d)) (hz : (encL d).length = s.size) (hok : okStm d = true) (hR : RG d) (e : d.k = 5) :
    lenV s 1 (hd2 s) = d.n7 ∧ (∀ i, i < d.n7 → lenV s 2 (rep (exPl s) (numP s 1 (hd2 s)) i) = d.m7 i ∧ ∀ j, j < d.m7 i → itmV s (rep (itmP s) (numP s 2 (rep (exPl s) (numP s 1 (hd2 s)) i)) j) = d.O i j) ∧ lenV s 2 (rep (exPl s) (numP s 1 (hd2 s)) d.n7) = d.n6 ∧ (∀ j, j < d.n6 → itmV s (rep (itmP s) (numP s 2 (rep (exPl s) (numP s 1 (hd2 s)) d.n7)) j) = d.W j) ∧ exPl s (rep (exPl s) (numP s 1 (hd2 s)) d.n7) = some s.size := by
  obtain ⟨-, -, a, ha, hA, hl⟩ := head_rt h hok
  obtain ⟨c1, c2, -, c3⟩ := m5 hok e
  obtain ⟨w1, w2⟩ := whr_its c3
  unfold tailL at hA hl
  rw [if_neg (by omega), if_neg (by omega), if_neg (by omega), if_neg (by omega)] at hA hl
  have hX := fun i (hi : i < d.n7) => exp_its (c2 i hi)
  obtain ⟨q1, q2, q3, q4⟩ := lst_rt (f := exPl s) hA.left c1 (fun i hi b hb => (exp_rt hb (hX i hi).1 (hX i hi).2 (hR.ou i hi)).2.2.1)
  have hW := hA.right
  rw [List.length_append, numI_len, ← Nat.add_assoc] at hW
  obtain ⟨r1, r2, r3, r4⟩ := exp_rt hW w1 w2 hR.wh
  rw [ha, q2]
  refine ⟨q1, fun i hi => ?_, ?_, ?_, ?_⟩
  · rw [q3 i (by omega)]
    obtain ⟨x1, x2, x3, x4⟩ := exp_rt (q4 i hi) (hX i hi).1 (hX i hi).2 (hR.ou i hi)
    rw [x2]
    exact ⟨x1, x4⟩
  · rw [q3 _ (Nat.le_refl _)]
    exact r1
  · rw [q3 _ (Nat.le_refl _), r2]
    exact r4
  · rw [q3 _ (Nat.le_refl _), r3]
    rw [List.length_append, List.length_append, numI_len] at hl
    congr 1
    omega
end Go.Proofs.YtnbgdfhfmbgbhaaGreatDoor
namespace Go.Proofs.YtnbgdfhfmbgbhaaGreatDoor
open Go.RowKit Go.Maps Go.WideMaps
theorem enc_at {d : St} {s : ByteArray} (h : encS d = s) (hs : 0 < s.size) : okStm d = true ∧ At s 0 (encL d) ∧ (encL d).length = s.size := by
  unfold encS at h
  rcases hok : okStm d
  · rw [hok] at h
    simp at h
    subst h
    exact absurd hs (by decide)
  · rw [hok, if_pos rfl] at h
    split at h
    · subst h
      exact absurd hs (by decide)
    · subst h
      have := at_all (bs (encL d))
      unfold bs at this ⊢
      simp only at this
      exact ⟨rfl, this, by simp [ByteArray.size]⟩
def z3 : Itm := ⟨0, 0, ⟨#[]⟩⟩
def zC : Clm := ⟨⟨#[]⟩, 0⟩
def tbS (s : ByteArray) : ByteArray := txtV s 1 (numP s 1 (some 0))
/-- What is read, by kinds. -/
def rd1 (s : ByteArray) (m : Nat) : St := ⟨1, tbS s, m, fun j => clV s (rep (clP s) (numP s 1 (hd2 s)) j), 0, fun _ => z3, ⟨#[]⟩, 0, fun _ => z3, 0, fun _ => z3, 0, fun _ => 0, fun _ _ => z3⟩
def rd2 (s : ByteArray) (m : Nat) : St := ⟨2, tbS s, 0, fun _ => zC, m, fun j => vlV s (rep (vlP s) (numP s 1 (hd2 s)) j), ⟨#[]⟩, 0, fun _ => z3, 0, fun _ => z3, 0, fun _ => 0, fun _ _ => z3⟩
def rd3 (s : ByteArray) (m m' : Nat) : St := ⟨3, tbS s, 0, fun _ => zC, 0, fun _ => z3, txtV s 1 (hd2 s), m, fun j => itmV s (rep (itmP s) (numP s 2 (txtP s 1 (hd2 s))) j), m', fun j => itmV s (rep (itmP s) (numP s 2 (exPl s (txtP s 1 (hd2 s)))) j), 0, fun _ => 0, fun _ _ => z3⟩
def rd4 (s : ByteArray) (m' : Nat) : St := ⟨4, tbS s, 0, fun _ => zC, 0, fun _ => z3, ⟨#[]⟩, 0, fun _ => z3, m', fun j => itmV s (rep (itmP s) (numP s 2 (hd2 s)) j), 0, fun _ => 0, fun _ _ => z3⟩
def rd5 (s : ByteArray) (m : Nat) (M : Nat → Nat) (m' : Nat) : St := ⟨5, tbS s, 0, fun _ => zC, 0, fun _ => z3, ⟨#[]⟩, 0, fun _ => z3, m', fun j => itmV s (rep (itmP s) (numP s 2 (rep (exPl s) (numP s 1 (hd2 s)) m)) j), m, M, fun i j => itmV s (rep (itmP s) (numP s 2 (rep (exPl s) (numP s 1 (hd2 s)) i)) j)⟩
theorem dec1 {s : ByteArray} {m : Nat} (h : encS (rd1 s m) = s) (hs : 0 < s.size) : lenV s 1 (hd2 s) = m ∧ rep (clP s) (numP s 1 (hd2 s)) m = some s.size := by
  obtain ⟨hok, hA, hl⟩ := enc_at h hs
  obtain ⟨q1, -, q3⟩ := stm1_rt hA hl hok rfl
  exact ⟨q1, q3⟩
theorem dec2 {s : ByteArray} {m : Nat} (h : encS (rd2 s m) = s) (hs : 0 < s.size) : lenV s 1 (hd2 s) = m ∧ rep (vlP s) (numP s 1 (hd2 s)) m = some s.size := by
  obtain ⟨hok, hA, hl⟩ := enc_at h hs
  obtain ⟨q1, -, q3⟩ := stm2_rt hA hl hok ⟨fun j _ => vl_rng _ _, fun j hj => absurd hj (Nat.not_lt_zero _), fun j hj => absurd hj (Nat.not_lt_zero _), fun j hj => absurd hj (Nat.not_lt_zero _)⟩ rfl
  exact ⟨q1, q3⟩
theorem dec3 {s : ByteArray} {m m' : Nat} (h : encS (rd3 s m m') = s) (hs : 0 < s.size) : lenV s 2 (txtP s 1 (hd2 s)) = m ∧ lenV s 2 (exPl s (txtP s 1 (hd2 s))) = m' ∧ exPl s (exPl s (txtP s 1 (hd2 s))) = some s.size := by
  obtain ⟨hok, hA, hl⟩ := enc_at h hs
  obtain ⟨-, q1, -, q2, -, q3⟩ := stm3_rt hA hl hok ⟨fun j hj => absurd hj (Nat.not_lt_zero _), fun j _ => itm_rng _ _, fun j _ => itm_rng _ _, fun j hj => absurd hj (Nat.not_lt_zero _)⟩ rfl
  exact ⟨q1, q2, q3⟩
theorem dec4 {s : ByteArray} {m' : Nat} (h : encS (rd4 s m') = s) (hs : 0 < s.size) : lenV s 2 (hd2 s) = m' ∧ exPl s (hd2 s) = some s.size := by
  obtain ⟨hok, hA, hl⟩ := enc_at h hs
  obtain ⟨q1, -, q3⟩ := stm4_rt hA hl hok ⟨fun j hj => absurd hj (Nat.not_lt_zero _), fun j hj => absurd hj (Nat.not_lt_zero _), fun j _ => itm_rng _ _, fun j hj => absurd hj (Nat.not_lt_zero _)⟩ rfl
  exact ⟨q1, q3⟩
theorem dec5 {s : ByteArray} {m : Nat} {M : Nat → Nat} {m' : Nat} (h : encS (rd5 s m M m') = s) (hs : 0 < s.size) : lenV s 1 (hd2 s) = m ∧ (∀ i, i < m → lenV s 2 (rep (exPl s) (numP s 1 (hd2 s)) i) = M i) ∧ lenV s 2 (rep (exPl s) (numP s 1 (hd2 s)) m) = m' ∧ exPl s (rep (exPl s) (numP s 1 (hd2 s)) m) = some s.size := by
  obtain ⟨hok, hA, hl⟩ := enc_at h hs
  obtain ⟨q1, q2, q3, -, q5⟩ := stm5_rt hA hl hok ⟨fun j hj => absurd hj (Nat.not_lt_zero _), fun j hj => absurd hj (Nat.not_lt_zero _), fun j _ => itm_rng _ _, fun i _ j _ => itm_rng _ _⟩ rfl
  exact ⟨q1, fun i hi => (q2 i hi).1, q3, q5⟩
end Go.Proofs.YtnbgdfhfmbgbhaaGreatDoor
