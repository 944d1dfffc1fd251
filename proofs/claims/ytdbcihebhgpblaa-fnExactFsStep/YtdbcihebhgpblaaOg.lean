/-
  FsStep: where a name belongs in files that are sorted; the two ways to say what an operation does.
-/
import Derived.Test.YtdbcihebhgpblaaOf
namespace Go.Proofs.Ytdbcihebhgpblaa
open Go.RowKit
theorem less_total (x y : List UInt8) (h1 : Op.bytesLess x y = false) (h2 : Op.bytesLess y x = false) : x = y := by
  induction x generalizing y with
  | nil =>
    cases y with
    | nil => rfl
    | cons b y => simp [Op.bytesLess] at h1
  | cons a x ih =>
    cases y with
    | nil => simp [Op.bytesLess] at h2
    | cons b y =>
      simp only [Op.bytesLess, Bool.or_eq_false_iff, decide_eq_false_iff_not, Bool.and_eq_false_iff, beq_eq_false_iff_ne] at h1 h2
      have hab : a = b := by
        have l1 := h1.1; have l2 := h2.1
        exact UInt8.le_antisymm (UInt8.not_lt.1 l2) (UInt8.not_lt.1 l1)
      subst hab
      have e1 : Op.bytesLess x y = false := by rcases h1.2 with h | h; exact absurd rfl h; exact h
      have e2 : Op.bytesLess y x = false := by rcases h2.2 with h | h; exact absurd rfl h; exact h
      rw [ih y e1 e2]
theorem less_asym (x y : List UInt8) (h : Op.bytesLess x y = true) : Op.bytesLess y x = false := by
  rcases h2 : Op.bytesLess y x
  · rfl
  · have := less_trans x y x h h2
    rw [less_irr] at this; cases this
theorem wth_tail (nm : ByteArray) (f : Fil) (A : List Fil) (h : ∀ g ∈ A, g.s ≠ nm) : wth nm f A true = A := by
  induction A with
  | nil => rfl
  | cons g A ih => simp [wth, h g (by simp), ih (fun x hx => h x (by simp [hx]))]
theorem wth_skip (nm : ByteArray) (f : Fil) (A C : List Fil) (h : ∀ g ∈ A, g.s ≠ nm ∧ Op.bytesLess f.s.toList g.s.toList = false) : wth nm f (A ++ C) false = A ++ wth nm f C false := by
  induction A with
  | nil => rfl
  | cons g A ih =>
    have hg := h g (by simp)
    simp [wth, hg.1, hg.2, ih (fun x hx => h x (by simp [hx]))]
theorem wth_skip1 (nm : ByteArray) (f : Fil) (A C : List Fil) (h : ∀ g ∈ A, g.s ≠ nm) : wth nm f (A ++ C) true = A ++ wth nm f C true := by
  induction A with
  | nil => rfl
  | cons g A ih => simp [wth, h g (by simp), ih (fun x hx => h x (by simp [hx]))]
theorem wth_front (nm : ByteArray) (f : Fil) (C : List Fil) (h : ∀ g ∈ C, g.s ≠ nm ∧ Op.bytesLess f.s.toList g.s.toList = true) : wth nm f C false = f :: C := by
  cases C with
  | nil => rfl
  | cons g C =>
    have hg := h g (by simp)
    simp [wth, hg.1, hg.2, wth_tail nm f C (fun x hx => (h x (by simp [hx])).1)]
/-- Files sorted by name. -/
def Srt (L : List Fil) : Prop := ∀ j k, j < k → k < L.length → Op.bytesLess (nthF L j).s.toList (nthF L k).s.toList = true
theorem mem_take {L : List Fil} {i : Nat} {g : Fil} (h : g ∈ L.take i) : ∃ k, k < i ∧ k < L.length ∧ nthF L k = g := by
  obtain ⟨k, hk, e⟩ := List.getElem_of_mem h
  have hk' : k < L.length := by rw [List.length_take] at hk; omega
  exact ⟨k, by rw [List.length_take] at hk; omega, hk', by rw [nthF_at L k hk', ← e, List.getElem_take]⟩
theorem mem_drop {L : List Fil} {i : Nat} {g : Fil} (h : g ∈ L.drop i) : ∃ k, i ≤ k ∧ k < L.length ∧ nthF L k = g := by
  obtain ⟨k, hk, e⟩ := List.getElem_of_mem h
  rw [List.length_drop] at hk
  exact ⟨i + k, by omega, by omega, by rw [nthF_at L (i + k) (by omega), ← e, List.getElem_drop]⟩
theorem Srt.mono {L : List Fil} (h : Srt L) (nm : ByteArray) : ∀ j k, j < k → k < L.length → Op.bytesLess (nthF L k).s.toList nm.toList = true → Op.bytesLess (nthF L j).s.toList nm.toList = true :=
  fun j k hjk hk hl => less_trans _ _ _ (h j k hjk hk) hl
theorem toList_inj {a b : ByteArray} (h : a.toList = b.toList) : a = b := by
  have := eqS a b
  rw [h] at this
  simpa using this
theorem lo_before {L : List Fil} {nm : ByteArray} {i : Nat} (h : LoB (nthF L) L.length nm i) {g : Fil} (hg : g ∈ L.take i) : g.s ≠ nm ∧ Op.bytesLess nm.toList g.s.toList = false := by
  obtain ⟨k, hk, _, rfl⟩ := mem_take hg
  have := h.2.1 k hk
  exact ⟨fun e => (by rw [e, less_irr] at this; cases this), less_asym _ _ this⟩
theorem lo_behind {L : List Fil} {nm : ByteArray} {i : Nat} (h : LoB (nthF L) L.length nm i) (hs : Srt L) {g : Fil} (hg : g ∈ L.drop (i + 1)) : g.s ≠ nm ∧ Op.bytesLess nm.toList g.s.toList = true := by
  obtain ⟨k, hk, hkl, rfl⟩ := mem_drop hg
  have h1 := h.2.2 i (Nat.le_refl _) (by omega)
  have h2 := hs i k (by omega) hkl
  have h3 : (nthF L k).s ≠ nm := fun e => by rw [e, h1] at h2; cases h2
  refine ⟨h3, ?_⟩
  rcases h4 : Op.bytesLess nm.toList (nthF L k).s.toList
  · exact absurd (toList_inj (less_total _ _ (h.2.2 k (by omega) hkl) h4)) h3
  · rfl
theorem lo_at {L : List Fil} {nm : ByteArray} {i : Nat} (h : LoB (nthF L) L.length nm i) (hn : hitB (nthF L) L.length nm i = false) (hs : Srt L) {g : Fil} (hg : g ∈ L.drop i) : g.s ≠ nm ∧ Op.bytesLess nm.toList g.s.toList = true := by
  obtain ⟨k, hk, hkl, rfl⟩ := mem_drop hg
  have h3 : (nthF L k).s ≠ nm := fun e => by
    rcases Nat.lt_or_ge i k with h4 | h4
    · have h1 := h.2.2 i (Nat.le_refl _) (by omega)
      have h2 := hs i k h4 hkl
      rw [e, h1] at h2; cases h2
    · obtain rfl : k = i := by omega
      unfold hitB at hn
      simp [hkl, e] at hn
  refine ⟨h3, ?_⟩
  rcases h4 : Op.bytesLess nm.toList (nthF L k).s.toList
  · exact absurd (toList_inj (less_total _ _ (h.2.2 k hk hkl) h4)) h3
  · rfl
theorem hit_at {L : List Fil} {nm : ByteArray} {i : Nat} (h : hitB (nthF L) L.length nm i = true) : i < L.length ∧ (nthF L i).s = nm := by
  unfold hitB at h
  simpa using h
theorem fd_hit {L : List Fil} {nm : ByteArray} {i : Nat} (h : LoB (nthF L) L.length nm i) (hh : hitB (nthF L) L.length nm i = true) : FdAt L nm (i : Int) := by
  obtain ⟨h1, h2⟩ := hit_at hh
  refine Or.inr ⟨i, h1, rfl, h2, fun j hj e => ?_⟩
  have := h.2.1 j hj
  rw [e, less_irr] at this; cases this
theorem fd_miss {L : List Fil} {nm : ByteArray} {i : Nat} (h : LoB (nthF L) L.length nm i) (hh : hitB (nthF L) L.length nm i = false) (hs : Srt L) : FdAt L nm (-1) := by
  refine Or.inl ⟨rfl, fun k hk e => ?_⟩
  rcases Nat.lt_or_ge k i with h1 | h1
  · have := h.2.1 k h1
    rw [e, less_irr] at this; cases this
  · exact (lo_at h hh hs (List.mem_drop_iff_getElem.2 ⟨k - i, by omega, rfl⟩)).1 (by rw [← e, nthF_at L k hk]; congr 1; congr 1; omega)
theorem wth_ins {L : List Fil} {nm : ByteArray} {i : Nat} (h : LoB (nthF L) L.length nm i) (hh : hitB (nthF L) L.length nm i = false) (hs : Srt L) (f : Fil) (hf : f.s = nm) (e : ByteArray) (hne : ∀ g ∈ L, g.s ≠ e) : wth e f L false = L.take i ++ f :: L.drop i := by
  subst hf
  conv => lhs; rw [← List.take_append_drop i L]
  rw [wth_skip e f _ _ (fun g hg => ⟨hne g (List.mem_of_mem_take hg), (lo_before h hg).2⟩), wth_front e f _ (fun g hg => ⟨hne g (List.mem_of_mem_drop hg), (lo_at h hh hs hg).2⟩)]
theorem wth_set {L : List Fil} {nm : ByteArray} {i : Nat} (h : LoB (nthF L) L.length nm i) (hh : hitB (nthF L) L.length nm i = true) (hs : Srt L) (f : Fil) (hf : f.s = nm) : wth nm f L false = L.set i f := by
  subst hf
  obtain ⟨h1, h2⟩ := hit_at hh
  rw [List.set_eq_take_append_cons_drop, if_pos h1]
  conv => lhs; rw [← List.take_append_drop i L]
  rw [wth_skip f.s f _ _ (fun g hg => lo_before h hg), List.drop_eq_getElem_cons h1]
  rw [nthF_at L i h1] at h2
  rw [wth, h2, less_irr]
  simp [wth_front f.s f _ (fun g hg => lo_behind h hs hg)]
theorem wth_del {L : List Fil} {nm : ByteArray} {i : Nat} (h : LoB (nthF L) L.length nm i) (hh : hitB (nthF L) L.length nm i = true) (hs : Srt L) (f : Fil) : wth nm f L true = L.eraseIdx i := by
  obtain ⟨h1, h2⟩ := hit_at hh
  rw [List.eraseIdx_eq_take_drop_succ]
  conv => lhs; rw [← List.take_append_drop i L]
  rw [wth_skip1 nm f _ _ (fun g hg => (lo_before h hg).1), List.drop_eq_getElem_cons h1]
  rw [nthF_at L i h1] at h2
  simp [wth, h2, wth_tail nm f _ (fun g hg => (lo_behind h hs hg).1)]
end Go.Proofs.Ytdbcihebhgpblaa
