/-
  What a step keeps: a valid file system stays valid.
-/
import Derived.Test.YtngppfjphbodcaaGreatDoorOk
namespace Go.Proofs.YtngppfjphbodcaaGreatDoor
open Go.RowKit
def sumL (L : List Fil) : Nat := (L.map fun f => f.d.size).sum
def sumN (L : List Fil) : Nat := (L.map fun f => f.s.size).sum
theorem sumD_take (L : List Fil) (m : Nat) (hm : m ≤ L.length) : sumD (nthF L) m = sumL (L.take m) := by
  induction m with
  | zero => simp [sumD, sumL]
  | succ m ih =>
    rw [List.take_succ_eq_append_getElem (by omega)]
    unfold sumD
    rw [ih (by omega), nthF_at L m (by omega)]
    unfold sumL
    rw [List.map_append, List.sum_append]
    simp only [List.map_cons, List.map_nil, List.sum_cons, List.sum_nil, Nat.add_zero]
theorem sumD_list (L : List Fil) : sumD (nthF L) L.length = sumL L := by
  rw [sumD_take L _ (Nat.le_refl _), List.take_length]
theorem sumS_take (L : List Fil) (m : Nat) (hm : m ≤ L.length) : sumS (nthF L) m = sumN (L.take m) := by
  induction m with
  | zero => simp [sumS, sumN]
  | succ m ih =>
    rw [List.take_succ_eq_append_getElem (by omega)]
    unfold sumS
    rw [ih (by omega), nthF_at L m (by omega)]
    unfold sumN
    rw [List.map_append, List.sum_append]
    simp only [List.map_cons, List.map_nil, List.sum_cons, List.sum_nil, Nat.add_zero]
theorem sumS_list (L : List Fil) : sumS (nthF L) L.length = sumN L := by
  rw [sumS_take L _ (Nat.le_refl _), List.take_length]
theorem sumL_set (L : List Fil) (i : Nat) (f : Fil) (hi : i < L.length) : sumL (L.set i f) + (nthF L i).d.size = sumL L + f.d.size := by
  induction L generalizing i with
  | nil => simp at hi
  | cons g L ih =>
    cases i with
    | zero => simp [sumL, nthF]; omega
    | succ i =>
      have h1 := ih i (by simpa using hi)
      simp only [sumL, nthF] at h1
      simp [sumL, nthF] at h1 ⊢
      omega
theorem sumL_app (A B : List Fil) : sumL (A ++ B) = sumL A + sumL B := by simp [sumL]
theorem sumL_cons (f : Fil) (B : List Fil) : sumL (f :: B) = f.d.size + sumL B := by simp [sumL]
theorem sumL_cut (L : List Fil) (i : Nat) : sumL (L.take i) + sumL (L.drop i) = sumL L := by rw [← sumL_app, List.take_append_drop]
theorem sumN_le (L : List Fil) (h : ∀ g ∈ L, g.s.size ≤ 30) : sumN L ≤ L.length * 30 := by
  induction L with
  | nil => simp [sumN]
  | cons g L ih =>
    have h1 := ih (fun x hx => h x (List.mem_cons_of_mem _ hx))
    have h2 := h g (List.mem_cons_self ..)
    simp [sumN] at h1 ⊢
    omega
def pwF (L : List Fil) : Prop := L.Pairwise fun a b => Op.bytesLess a.s.toList b.s.toList = true
theorem Srt.pw {L : List Fil} (h : Srt L) : pwF L := by
  unfold pwF
  rw [List.pairwise_iff_getElem]
  intro i j hi hj hij
  have := h i j hij hj
  rwa [nthF_at L i hi, nthF_at L j hj] at this
theorem pwF.srt {L : List Fil} (h : pwF L) : Srt L := by
  intro j k hjk hk
  unfold pwF at h
  rw [List.pairwise_iff_getElem] at h
  have := h j k (by omega) hk hjk
  rwa [nthF_at L j (by omega), nthF_at L k hk]
theorem pwF.set {L : List Fil} (h : pwF L) (i : Nat) (f : Fil) (hi : i < L.length) (hf : f.s = (nthF L i).s) : pwF (L.set i f) := by
  have h1 : (L.map fun g => g.s).Pairwise fun a b => Op.bytesLess a.toList b.toList = true := List.pairwise_map.2 h
  have h2 : ((L.set i f).map fun g => g.s) = L.map fun g => g.s := by
    rw [List.map_set, hf, nthF_at L i hi]
    apply List.ext_getElem (by simp)
    intro k hk hk'
    rw [List.getElem_set]
    split
    · subst_vars
      simp
    · rfl
  rw [← h2] at h1
  exact List.pairwise_map.1 h1
/-- A file system's files, as they may be. -/
structure Good (L : List Fil) (x1 : Int) : Prop where
  len : L.length ≤ 300
  sum : (sumL L : Int) ≤ x1
  each : ∀ g ∈ L, okFn g.s = true ∧ 0 ≤ g.y ∧ g.y ≤ g.d.size
  pw : pwF L
theorem okFn_size {s : ByteArray} (h : okFn s = true) : 1 ≤ s.size ∧ s.size ≤ 30 := by
  unfold okFn btw at h
  simp only [Bool.and_eq_true, decide_eq_true_eq] at h
  omega
theorem Good.ne {L : List Fil} {x1 : Int} (h : Good L x1) : ∀ g ∈ L, g.s ≠ ⟨#[]⟩ := fun g hg e => by
  have h1 := okFn_size (h.each g hg).1
  rw [e] at h1
  simp [ByteArray.size] at h1
theorem Good.nm {L : List Fil} {x1 : Int} (h : Good L x1) : sumN L ≤ 9000 := by
  have h1 := sumN_le L (fun g hg => (okFn_size (h.each g hg).1).2)
  have h2 := h.len
  omega
theorem Good.small {L : List Fil} {x1 : Int} (h : Good L x1) (hs : sumL L ≤ 1048576 + 131072) : Small L.length (nthF L) := by
  have h1 := h.nm
  have h2 := h.len
  unfold Small
  rw [sumD_list, sumS_list]
  omega
theorem get_allN {n : Nat} {p : Nat → Bool} (h : allN n p = true) (j : Nat) (hj : j < n) : p j = true := by
  unfold allN at h
  rw [List.all_eq_true] at h
  exact h j (List.mem_range.2 hj)
theorem of_srt {L : List Fil} (h : ∀ k, k < L.length → ltN (nthF L) k = true) : Srt L := by
  intro j k hjk hk
  induction k with
  | zero => omega
  | succ k ih =>
    have h1 := h (k + 1) hk
    simp only [ltN, Nat.add_sub_cancel, Bool.or_eq_true, decide_eq_true_eq] at h1
    have h2 : Op.bytesLess (nthF L k).s.toList (nthF L (k + 1)).s.toList = true := by rcases h1 with h1 | h1; omega; exact h1
    rcases Nat.lt_or_ge j k with h3 | h3
    · exact less_trans _ _ _ (ih h3 (by omega)) h2
    · obtain rfl : j = k := by omega
      exact h2
theorem okFs_iff (L : List Fil) (x1 x2 x3 x4 : Int) : okFs L.length (nthF L) x1 x2 x3 x4 = true ↔ Good L x1 ∧ (0 ≤ x1 ∧ x1 ≤ 1000000000) ∧ (0 ≤ x2 ∧ x2 ≤ 1000000000000000) ∧ (0 ≤ x3 ∧ x3 ≤ 1000000000000000) ∧ (0 ≤ x4 ∧ x4 ≤ 1000000000000000) := by
  unfold okFs
  rw [sumD_list]
  simp only [Bool.and_eq_true, decide_eq_true_eq, btw]
  constructor
  · rintro ⟨⟨⟨⟨⟨⟨h1, h2⟩, h3⟩, h4⟩, h5⟩, h6⟩, h7⟩
    have h8 := fun k hk => get_allN h4 k hk
    simp only [Bool.and_eq_true] at h8
    refine ⟨⟨h1, h3, ?_, (of_srt fun k hk => (h8 k hk).2).pw⟩, h2, h5, h6, h7⟩
    intro g hg
    obtain ⟨k, hk, rfl⟩ := List.getElem_of_mem hg
    have h9 := (h8 k hk).1
    unfold okFl btw at h9
    rw [nthF_at L k hk] at h9
    simpa using h9
  · rintro ⟨⟨h1, h3, h4, h5⟩, h2, h6, h7, h8⟩
    refine ⟨⟨⟨⟨⟨⟨h1, h2⟩, h3⟩, allN_true fun k hk => ?_⟩, h6⟩, h7⟩, h8⟩
    have h9 := h4 L[k] (List.getElem_mem hk)
    simp only [Bool.and_eq_true]
    constructor
    · unfold okFl btw
      rw [nthF_at L k hk]
      simpa using h9
    · unfold ltN
      rcases Nat.eq_zero_or_pos k with rfl | hk0
      · simp
      · simp only [Bool.or_eq_true, decide_eq_true_eq]
        exact .inr (h5.srt (k - 1) k (by omega) hk)
theorem lo_there (L : List Fil) (nm : ByteArray) (hs : Srt L) : ∃ i, LoB (nthF L) L.length nm i := by
  have key : ∀ m, m ≤ L.length → ∃ i, i ≤ m ∧ (∀ k, k < i → Op.bytesLess (nthF L k).s.toList nm.toList = true) ∧ (i = m ∨ Op.bytesLess (nthF L i).s.toList nm.toList = false) := by
    intro m
    induction m with
    | zero => exact fun _ => ⟨0, Nat.le_refl _, fun k hk => absurd hk (Nat.not_lt_zero _), .inl rfl⟩
    | succ m ih =>
      intro hm
      obtain ⟨i, h1, h2, h3⟩ := ih (by omega)
      rcases h3 with rfl | h3
      · rcases hb : Op.bytesLess (nthF L i).s.toList nm.toList
        · exact ⟨i, by omega, h2, .inr hb⟩
        · refine ⟨i + 1, Nat.le_refl _, fun k hk => ?_, .inl rfl⟩
          rcases Nat.lt_or_ge k i with h | h
          · exact h2 k h
          · obtain rfl : k = i := by omega
            exact hb
      · exact ⟨i, by omega, h2, .inr h3⟩
  obtain ⟨i, h1, h2, h3⟩ := key L.length (Nat.le_refl _)
  refine ⟨i, h1, h2, fun k hik hk => ?_⟩
  rcases h3 with h3 | h3
  · omega
  · rcases Nat.lt_or_ge i k with h | h
    · rcases hb : Op.bytesLess (nthF L k).s.toList nm.toList
      · rfl
      · rw [hs.mono nm i k h hk hb] at h3
        exact absurd h3 (by simp)
    · obtain rfl : k = i := by omega
      exact h3
theorem Good.set {L : List Fil} {x1 : Int} (h : Good L x1) (i : Nat) (f : Fil) (hi : i < L.length) (hf : f.s = (nthF L i).s) (hy : 0 ≤ f.y ∧ f.y ≤ f.d.size) (hs : (sumL L : Int) + f.d.size ≤ x1 + (nthF L i).d.size) : Good (L.set i f) x1 := by
  have h1 := sumL_set L i f hi
  refine ⟨by simpa using h.len, by omega, fun g hg => ?_, h.pw.set i f hi hf⟩
  rcases List.mem_or_eq_of_mem_set hg with h2 | rfl
  · exact h.each g h2
  · refine ⟨?_, hy⟩
    rw [hf, nthF_at L i hi]
    exact (h.each _ (List.getElem_mem hi)).1
theorem nth_mem (L : List Fil) (i : Nat) (hi : i < L.length) : nthF L i ∈ L := by rw [nthF_at L i hi]; exact List.getElem_mem hi
/-- What an operation leaves is good again, and no more than its bytes longer. -/
theorem do_good {L : List Fil} {x1 : Int} (h : Good L x1) (kd : Int) (nm dt : ByteArray) (sz r : Int) (hr : FdAt L nm r) (hnm : okFn nm = true) : Good (doS L x1 kd nm dt sz r).1 x1 ∧ sumL (doS L x1 kd nm dt sz r).1 ≤ sumL L + (if kd = 2 then dt.size else 0) := by
  have hs := h.pw.srt
  obtain ⟨i, hi⟩ := lo_there L nm hs
  have hsum := h.sum
  rcases hh : hitB (nthF L) L.length nm i
  · obtain rfl := fd_same hr (fd_miss hi hh hs)
    unfold doS
    by_cases hk : kd = 1
    · subst hk
      by_cases h3 : L.length = 300
      · simpa [h3] using h
      · simp only [h3, if_true, if_false, show ¬ (0 : Int) ≤ -1 by omega]
        rw [wth_ins hi hh hs ⟨nm, ⟨#[]⟩, 0⟩ rfl ⟨#[]⟩ h.ne]
        have hc := sumL_cut L i
        have hz : (⟨#[]⟩ : ByteArray).size = 0 := rfl
        refine ⟨⟨?_, ?_, ?_, ?_⟩, ?_⟩
        · have h5 := h.len
          simp
          omega
        · rw [sumL_app, sumL_cons]
          simp only [hz]
          omega
        · intro g hg
          rcases List.mem_append.1 hg with h6 | h6
          · exact h.each g (List.mem_of_mem_take h6)
          · rcases List.mem_cons.1 h6 with rfl | h6
            · exact ⟨hnm, by simp, by simp [hz]⟩
            · exact h.each g (List.mem_of_mem_drop h6)
        · unfold pwF
          rw [List.pairwise_append]
          refine ⟨h.pw.sublist (List.take_sublist _ _), ?_, ?_⟩
          · rw [List.pairwise_cons]
            exact ⟨fun g hg => (lo_at hi hh hs hg).2, h.pw.sublist (List.drop_sublist _ _)⟩
          · intro a ha b hb
            obtain ⟨k, hk, _, rfl⟩ := mem_take ha
            rcases List.mem_cons.1 hb with rfl | hb
            · exact hi.2.1 k hk
            · exact less_trans _ _ _ (hi.2.1 k hk) (lo_at hi hh hs hb).2
        · rw [sumL_app, sumL_cons]
          simp only [hz]
          omega
    · have h7 : (-1 : Int) < 0 := by omega
      simp only [hk, h7, if_true, if_false]
      exact ⟨h, by (try dsimp only); omega⟩
  · obtain rfl := fd_same hr (fd_hit hi hh)
    have hin := (hit_at hh).1
    have hie := (hit_at hh).2
    have hmem := nth_mem L i hin
    have hy := (h.each _ hmem).2
    have hpos : ¬ ((i : Int) < 0) := by omega
    have hdi : (nthF L i).d.size ≤ sumL L := by
      have := sumL_set L i ⟨(nthF L i).s, ⟨#[]⟩, 0⟩ hin
      have hz : (⟨#[]⟩ : ByteArray).size = 0 := rfl
      simp only [hz] at this
      omega
    unfold doS
    rw [sumD_list]
    simp only [Int.toNat_natCast, hpos, if_false]
    by_cases hk1 : kd = 1
    · subst hk1
      have h7 : (0 : Int) ≤ (i : Int) := by omega
      simp only [h7, if_true]
      exact ⟨h, by simp⟩
    simp only [hk1, if_false]
    by_cases hk2 : kd = 2
    · subst hk2
      simp only [if_true]
      split
      · rename_i hlt
        rw [wth_set hi hh hs ⟨(nthF L i).s, (nthF L i).d ++ dt.extract 0 (x1 - (sumL L : Int)).toNat, (nthF L i).y⟩ hie]
        have hsz : ((nthF L i).d ++ dt.extract 0 (x1 - (sumL L : Int)).toNat).size = (nthF L i).d.size + (x1 - (sumL L : Int)).toNat := by
          rw [ByteArray.size_append, ByteArray.size_extract]
          omega
        have h8 := sumL_set L i ⟨(nthF L i).s, (nthF L i).d ++ dt.extract 0 (x1 - (sumL L : Int)).toNat, (nthF L i).y⟩ hin
        simp only [hsz] at h8
        exact ⟨h.set i _ hin rfl ⟨hy.1, by simp only [hsz]; omega⟩ (by simp only [hsz]; omega), by (try dsimp only); omega⟩
      · rename_i hlt
        rw [wth_set hi hh hs ⟨(nthF L i).s, (nthF L i).d ++ dt, (nthF L i).y⟩ hie]
        have hsz : ((nthF L i).d ++ dt).size = (nthF L i).d.size + dt.size := ByteArray.size_append
        have h8 := sumL_set L i ⟨(nthF L i).s, (nthF L i).d ++ dt, (nthF L i).y⟩ hin
        simp only [hsz] at h8
        exact ⟨h.set i _ hin rfl ⟨hy.1, by simp only [hsz]; omega⟩ (by simp only [hsz]; omega), by (try dsimp only); omega⟩
    simp only [hk2, if_false]
    by_cases hk3 : kd = 3
    · subst hk3
      simp only [if_true]
      rw [wth_set hi hh hs ⟨(nthF L i).s, (nthF L i).d, ((nthF L i).d.size : Int)⟩ hie]
      have h8 := sumL_set L i ⟨(nthF L i).s, (nthF L i).d, ((nthF L i).d.size : Int)⟩ hin
      simp only at h8
      exact ⟨h.set i _ hin rfl ⟨by simp, by simp⟩ (by simp only; omega), by (try dsimp only); omega⟩
    simp only [hk3, if_false]
    by_cases hk4 : kd = 4
    · subst hk4
      simp only [if_true]
      split
      · rename_i hb
        unfold btw at hb
        simp only [Bool.and_eq_true, decide_eq_true_eq] at hb
        rw [wth_set hi hh hs ⟨(nthF L i).s, (nthF L i).d.extract 0 sz.toNat, sz⟩ hie]
        have hsz : ((nthF L i).d.extract 0 sz.toNat).size = sz.toNat := by
          rw [ByteArray.size_extract]
          omega
        have h8 := sumL_set L i ⟨(nthF L i).s, (nthF L i).d.extract 0 sz.toNat, sz⟩ hin
        simp only [hsz] at h8
        exact ⟨h.set i _ hin rfl ⟨hb.1, by simp only [hsz]; omega⟩ (by simp only [hsz]; omega), by (try dsimp only); omega⟩
      · exact ⟨h, by (try dsimp only); omega⟩
    simp only [hk4, if_false]
    rw [wth_del hi hh hs]
    have hsub : (L.eraseIdx i).Sublist L := List.eraseIdx_sublist ..
    have hsl : sumL (L.eraseIdx i) ≤ sumL L := by
      rw [List.eraseIdx_eq_take_drop_succ, sumL_app]
      have h8 := sumL_cut L i
      have h9 : sumL (L.drop i) = (L[i]).d.size + sumL (L.drop (i + 1)) := by rw [← List.getElem_cons_drop (h := hin), sumL_cons]
      omega
    refine ⟨⟨Nat.le_trans hsub.length_le h.len, by omega, fun g hg => h.each g (hsub.subset hg), h.pw.sublist hsub⟩, by (try dsimp only); omega⟩
theorem st_good {L : List Fil} {x1 x2 x3 x4 : Int} {x5 : Bool} (h : Good L x1) (hx0 : 0 ≤ x2) (hx1 : x2 ≤ 1000000000000000) (kd : Int) (nm dt : ByteArray) (sz r : Int) (hr : FdAt L nm r) (hnm : okFn nm = true) : Good (stS L x1 x2 x3 x4 x5 kd nm dt sz r).1 x1 ∧ sumL (stS L x1 x2 x3 x4 x5 kd nm dt sz r).1 ≤ sumL L + (if kd = 2 then dt.size else 0) ∧ 0 ≤ (stS L x1 x2 x3 x4 x5 kd nm dt sz r).2.1 ∧ (stS L x1 x2 x3 x4 x5 kd nm dt sz r).2.1 ≤ 1000000000000000 := by
  have h1 := do_good h kd nm dt sz r hr hnm
  unfold stS
  split
  · exact ⟨h, by dsimp only; omega, hx0, hx1⟩
  · split
    · exact ⟨h, by dsimp only; omega, hx0, hx1⟩
    · split
      · exact ⟨h, by dsimp only; omega, by dsimp only; omega, by (try dsimp only); omega⟩
      · split
        · exact ⟨h, by dsimp only; omega, by dsimp only; omega, by (try dsimp only); omega⟩
        · exact ⟨h1.1, h1.2, by dsimp only; omega, by (try dsimp only); omega⟩
end Go.Proofs.YtngppfjphbodcaaGreatDoor
