/-
  Statements read: what was written is read again: items, columns, values, lists, expressions.
-/
import Derived.Test.YtnbgdfhfmbgbhaaGreatDoorRi
import Derived.Test.YtnbgdfhfmbgbhaaGreatDoorEm
import Derived.Test.YtnbgdfhfmbgbhaaGreatDoorQa
namespace Go.Proofs.YtnbgdfhfmbgbhaaGreatDoor
open Go.RowKit Go.Maps Go.WideMaps
/-- The bytes of s at place a are those of L. -/
def At (s : ByteArray) (a : Nat) (L : List UInt8) : Prop := a + L.length ≤ s.size ∧ ∀ i (h : i < L.length), at8 s (a + i) = L[i].toNat
theorem At.left {s : ByteArray} {a : Nat} {L M : List UInt8} (h : At s a (L ++ M)) : At s a L := by
  obtain ⟨h1, h2⟩ := h
  rw [List.length_append] at h1
  refine ⟨by omega, fun i hi => ?_⟩
  have := h2 i (by rw [List.length_append]; omega)
  rw [List.getElem_append_left hi] at this
  exact this
theorem At.right {s : ByteArray} {a : Nat} {L M : List UInt8} (h : At s a (L ++ M)) : At s (a + L.length) M := by
  obtain ⟨h1, h2⟩ := h
  rw [List.length_append] at h1
  refine ⟨by omega, fun i hi => ?_⟩
  have := h2 (L.length + i) (by rw [List.length_append]; omega)
  rw [List.getElem_append_right (by omega)] at this
  simp only [Nat.add_sub_cancel_left] at this
  rw [Nat.add_assoc]
  exact this
theorem at_all (s : ByteArray) : At s 0 s.data.toList := by
  refine ⟨by simp, fun i hi => ?_⟩
  have hi' : i < s.size := by simpa using hi
  unfold at8
  rw [dif_pos (by omega)]
  simp
  rfl
theorem mod_step (u m : Int) : (u / 256 % m) * 256 + u % 256 = u % (m * 256) := by
  have e1 : u / (m * 256) = u / 256 / m := by rw [Int.mul_comm, Int.ediv_ediv_of_nonneg (by omega)]
  have e2 := Int.emod_def u (m * 256)
  have e3 := Int.emod_def (u / 256) m
  have e4 := Int.emod_def u 256
  rw [e2, e1, e3, e4, Int.sub_mul]
  have e5 : m * (u / 256 / m) * 256 = m * 256 * (u / 256 / m) := by rw [Int.mul_assoc, Int.mul_comm (u / 256 / m) 256, ← Int.mul_assoc]
  rw [e5]
  omega
theorem be_num {s : ByteArray} {a k : Nat} {v : Int} (h : At s a (numI k v)) : ∀ j, j ≤ k → ((beA s a j : Nat) : Int) = v / 256 ^ (k - j) % 256 ^ j
  | 0, _ => by simp [beA, Int.emod_one]
  | j + 1, hj => by
    have ih := be_num h j (by omega)
    have hl : j < (numI k v).length := by rw [numI_len]; omega
    have h2 := h.2 j hl
    have h3 : (numI k v)[j] = byt v (k - 1 - j) := by simp [numI]
    rw [h3] at h2
    have h4 := byt_nat v (k - 1 - j)
    rw [beA, Int.natCast_add, Int.natCast_mul, ih, h2, h4]
    have e1 : v / 256 ^ (k - j) = v / 256 ^ (k - 1 - j) / 256 := by
      rw [show k - j = (k - 1 - j) + 1 by omega, Int.pow_succ, Int.ediv_ediv_of_nonneg (Int.pow_nonneg (by omega))]
    rw [e1, show k - (j + 1) = k - 1 - j by omega, Int.pow_succ]
    exact mod_step _ _
theorem num_rt {s : ByteArray} {a k : Nat} {v : Int} (h : At s a (numI k v)) (hv : wrap64 (v % 256 ^ k) = v) : numP s k (some a) = some (a + k) ∧ numV s k (some a) = v := by
  have h1 := h.1
  rw [numI_len] at h1
  have h2 := be_num h k (Nat.le_refl _)
  simp only [numP, numV, if_pos h1]
  refine ⟨trivial, ?_⟩
  rw [h2, Nat.sub_self, Int.pow_zero, Int.ediv_one]
  exact hv
theorem wrap_1 {v : Int} (h0 : 0 ≤ v) (h1 : v < 256) : wrap64 (v % 256 ^ 1) = v := by
  have : (256 : Int) ^ 1 = 256 := by decide
  rw [this]
  unfold wrap64
  omega
theorem wrap_2 {v : Int} (h0 : 0 ≤ v) (h1 : v < 65536) : wrap64 (v % 256 ^ 2) = v := by
  have : (256 : Int) ^ 2 = 65536 := by decide
  rw [this]
  unfold wrap64
  omega
theorem wrap_8 {v : Int} (h0 : -9223372036854775808 ≤ v) (h1 : v ≤ 9223372036854775807) : wrap64 (v % 256 ^ 8) = v := by
  have : (256 : Int) ^ 8 = 18446744073709551616 := by decide
  rw [this]
  unfold wrap64
  omega
theorem ext_at {s t : ByteArray} {a : Nat} (h : At s a t.data.toList) : s.extract a (a + t.size) = t := by
  have hl : t.data.toList.length = t.size := by simp
  have h1 := h.1
  rw [hl] at h1
  apply ByteArray.ext_getElem
  · rw [ByteArray.size_extract]; omega
  · intro i hi hj
    have h2 := h.2 i (by omega)
    unfold at8 at h2
    rw [dif_pos (by omega)] at h2
    rw [ByteArray.getElem_extract]
    apply UInt8.toNat_inj.1
    rw [h2]
    simp
    rfl
theorem txt1_rt {s t : ByteArray} {a : Nat} (h : At s a (s8 t)) (ht : t.size ≤ 255) : txtP s 1 (some a) = some (a + 1 + t.size) ∧ txtV s 1 (some a) = t := by
  have hn := num_rt h.left (wrap_1 (by omega) (by omega))
  have hr := h.right
  rw [numI_len] at hr
  have h1 := hr.1
  have hl : t.data.toList.length = t.size := by simp
  rw [hl] at h1
  unfold txtP txtV lenV
  rw [hn.1, hn.2]
  simp only [Int.toNat_natCast, cutP, cutV, if_pos h1]
  exact ⟨trivial, ext_at hr⟩
theorem txt2_rt {s t : ByteArray} {a : Nat} (h : At s a (s16 t)) (ht : t.size ≤ 65535) : txtP s 2 (some a) = some (a + 2 + t.size) ∧ txtV s 2 (some a) = t := by
  have hn := num_rt h.left (wrap_2 (by omega) (by omega))
  have hr := h.right
  rw [numI_len] at hr
  have h1 := hr.1
  have hl : t.data.toList.length = t.size := by simp
  rw [hl] at h1
  unfold txtP txtV lenV
  rw [hn.1, hn.2]
  simp only [Int.toNat_natCast, cutP, cutV, if_pos h1]
  exact ⟨trivial, ext_at hr⟩
end Go.Proofs.YtnbgdfhfmbgbhaaGreatDoor
namespace Go.Proofs.YtnbgdfhfmbgbhaaGreatDoor
open Go.RowKit Go.Maps Go.WideMaps
/-- All numbers of a statement are in range. -/
structure RG (d : St) : Prop where
  va : ∀ j, j < d.n3 → rng (d.V j).m
  ex : ∀ j, j < d.n5 → rng (d.E j).m
  wh : ∀ j, j < d.n6 → rng (d.W j).m
  ou : ∀ k, k < d.n7 → ∀ j, j < d.m7 k → rng (d.O k j).m
theorem name_len {s : ByteArray} (h : okName s = true) : s.size ≤ 30 := by
  simp [okName, okWord] at h
  omega
theorem allN_at' {n : Nat} {p : Nat → Bool} (h : allN n p = true) (j : Nat) (hj : j < n) : p j = true := by
  rcases hq : p j
  · rw [allN_false hj hq] at h; cases h
  · rfl
theorem btw20 {n : Nat} (h : btw n 1 20 = true) : n ≤ 20 := by
  simp [btw] at h
  omega
theorem okS {d : St} (h : okStm d = true) : d.tb.size ≤ 30 ∧ restS d = true := by
  simp only [okStm, Bool.and_eq_true] at h
  exact ⟨name_len h.1.1.1, h.2⟩
theorem okK {d : St} (h : okStm d = true) : d.k = 1 ∨ d.k = 2 ∨ d.k = 3 ∨ d.k = 4 ∨ d.k = 5 := by
  have := (okS h).2
  unfold restS at this
  by_cases e1 : d.k = 1
  · exact .inl e1
  by_cases e2 : d.k = 2
  · exact .inr (.inl e2)
  by_cases e3 : d.k = 3
  · exact .inr (.inr (.inl e3))
  by_cases e4 : d.k = 4
  · exact .inr (.inr (.inr (.inl e4)))
  by_cases e5 : d.k = 5
  · exact .inr (.inr (.inr (.inr e5)))
  rw [if_neg e1, if_neg e2, if_neg e3, if_neg e4, if_neg e5] at this
  cases this
theorem m3 {d : St} (h : okStm d = true) (e : d.k = 3) : d.col.size ≤ 30 ∧ okExp d.E d.n5 = true ∧ okWhere d.W d.n6 = true := by
  have := (okS h).2
  unfold restS at this
  rw [if_neg (by omega), if_neg (by omega), if_pos e, Bool.and_eq_true, Bool.and_eq_true] at this
  exact ⟨name_len this.1.1, this.1.2, this.2⟩
theorem m4 {d : St} (h : okStm d = true) (e : d.k = 4) : okWhere d.W d.n6 = true := by
  have := (okS h).2
  unfold restS at this
  rwa [if_neg (by omega), if_neg (by omega), if_neg (by omega), if_pos e] at this
theorem m5 {d : St} (h : okStm d = true) (e : d.k = 5) : d.n7 ≤ 20 ∧ (∀ k, k < d.n7 → okExp (d.O k) (d.m7 k) = true) ∧ True ∧ okWhere d.W d.n6 = true := by
  have := (okS h).2
  unfold restS at this
  rw [if_neg (by omega), if_neg (by omega), if_neg (by omega), if_neg (by omega), if_pos e, Bool.and_eq_true, Bool.and_eq_true] at this
  have h1 := fun k hk => allN_at' this.1.2 k hk
  exact ⟨btw20 this.1.1, h1, trivial, this.2⟩
theorem listB_at {s : ByteArray} {a : Nat} {F : Nat → List UInt8} : ∀ {n : Nat}, At s a (listB F n) → ∀ j, j < n → At s (a + (listB F j).length) (F j)
  | 0, _, j, hj => by omega
  | n + 1, h, j, hj => by
    rw [listB] at h
    by_cases e : j = n
    · subst e
      exact h.right
    · exact listB_at h.left j (by omega)
theorem list_rt {s : ByteArray} {a n : Nat} {F : Nat → List UInt8} {f : Option Nat → Option Nat} (h : At s a (listB F n)) (hf : ∀ j, j < n → ∀ b, At s b (F j) → f (some b) = some (b + (F j).length)) : ∀ j, j ≤ n → rep f (some a) j = some (a + (listB F j).length)
  | 0, _ => by simp [rep, listB]
  | j + 1, hj => by
    rw [rep, list_rt h hf j (by omega), hf j (by omega) _ (listB_at h j (by omega)), listB, List.length_append, Nat.add_assoc]
theorem empty_of {s : ByteArray} (h : s.size = 0) : s = ⟨#[]⟩ := bytes_inj2 (((empty_iff s).2 h).trans ((empty_iff ⟨#[]⟩).2 rfl).symm)
theorem itm_rt {s : ByteArray} {a : Nat} {i : Itm} (h : At s a (itmB i)) (hok : okItem i.o i.m i.s = true) (hr : rng i.m) : itmP s (some a) = some (a + (itmB i).length) ∧ itmV s (some a) = i := by
  obtain ⟨o, m, t⟩ := i
  dsimp only at hok hr
  unfold rng at hr
  have ho : 1 ≤ o ∧ o ≤ 13 := by
    simp [okItem, btw] at hok
    omega
  unfold itmB at h ⊢
  dsimp only at h ⊢
  have hn := num_rt h.left (wrap_1 (by omega) (by omega))
  have hrr := h.right
  rw [numI_len] at hrr
  unfold itmP itmV
  rw [hn.1, hn.2, List.length_append, numI_len]
  by_cases e1 : o = 1
  · subst e1
    have hs : t.size = 0 := by
      simp [okItem, btw] at hok
      rw [hok.2]
      rfl
    obtain rfl := empty_of hs
    rw [if_pos rfl] at hrr
    have h8 := num_rt hrr (wrap_8 hr.1 hr.2)
    rw [if_pos rfl, if_pos rfl, if_pos rfl, h8.1, h8.2, numI_len]
    exact ⟨rfl, rfl⟩
  by_cases e2 : o = 2
  · subst e2
    have hm : m = 0 ∧ t.size ≤ 200 := by
      simp [okItem, btw, okText] at hok
      omega
    obtain ⟨rfl, ht⟩ := hm
    rw [if_neg e1, if_pos rfl] at hrr
    have h8 := txt2_rt hrr (by omega)
    rw [if_neg e1, if_neg e1, if_neg e1, if_pos rfl, if_pos rfl, if_pos rfl, h8.1, h8.2, s16_len]
    exact ⟨by congr 1; omega, rfl⟩
  by_cases e3 : o = 3
  · subst e3
    have hm : m = 0 ∧ t.size ≤ 200 := by
      simp [okItem, btw, okName, okWord] at hok
      omega
    obtain ⟨rfl, ht⟩ := hm
    rw [if_neg e1, if_neg e2, if_pos rfl] at hrr
    have h8 := txt1_rt hrr (by omega)
    rw [if_neg e1, if_neg e1, if_neg e1, if_neg e2, if_neg e2, if_neg e2, if_pos rfl, if_pos rfl, if_pos rfl, h8.1, h8.2, s8_len]
    exact ⟨by congr 1; omega, rfl⟩
  · have hm : m = 0 ∧ t.size = 0 := by
      simp [okItem, btw, e1, e2, e3] at hok
      exact ⟨hok.1.2, by rw [hok.2]; rfl⟩
    obtain ⟨rfl, ht⟩ := hm
    obtain rfl := empty_of ht
    rw [if_neg e1, if_neg e1, if_neg e1, if_neg e2, if_neg e2, if_neg e2, if_neg e3, if_neg e3, if_neg e3]
    exact ⟨rfl, rfl⟩
theorem col_rt {s : ByteArray} {a : Nat} {c : Clm} (h : At s a (colB c)) (hok : okCol c.s c.t = true) : clP s (some a) = some (a + (colB c).length) ∧ clV s (some a) = c := by
  obtain ⟨n, t⟩ := c
  dsimp only at hok
  simp only [okCol, Bool.and_eq_true] at hok
  have hn := okName_len hok.1
  have ht : 1 ≤ t ∧ t ≤ 2 := by
    have := hok.2
    simp [isTyp] at this
    omega
  unfold colB at h ⊢
  dsimp only at h ⊢
  have h1 := txt1_rt h.left (by omega)
  have hr := h.right
  rw [s8_len, ← Nat.add_assoc] at hr
  have h2 := num_rt hr (wrap_1 (by omega) (by omega))
  unfold clP clV
  rw [h1.1, h1.2, h2.1, h2.2, List.length_append, s8_len, numI_len]
  exact ⟨by congr 1; omega, rfl⟩
theorem val_rt {s : ByteArray} {a : Nat} {i : Itm} (h : At s a (valB i)) (hok : okValue i.o i.m i.s = true) (hr : rng i.m) : vlP s (some a) = some (a + (valB i).length) ∧ vlV s (some a) = i := by
  obtain ⟨o, m, t⟩ := i
  dsimp only at hok hr
  unfold rng at hr
  have ho : o = 1 ∨ o = 2 := by
    simp [okValue] at hok
    omega
  unfold valB at h ⊢
  dsimp only at h ⊢
  have hn := num_rt h.left (wrap_1 (by omega) (by omega))
  have hrr := h.right
  rw [numI_len] at hrr
  unfold vlP vlV
  rw [hn.1, hn.2, List.length_append, numI_len]
  rcases ho with rfl | rfl
  · have hs : t.size = 0 := by
      simp [okValue] at hok
      rw [hok.2]
      rfl
    obtain rfl := empty_of hs
    rw [if_pos rfl] at hrr
    have h8 := num_rt hrr (wrap_8 hr.1 hr.2)
    rw [if_pos rfl, if_pos rfl, if_pos rfl, h8.1, h8.2, numI_len]
    exact ⟨rfl, rfl⟩
  · have hm : m = 0 ∧ t.size ≤ 200 := by
      simp [okValue, okText] at hok
      omega
    obtain ⟨rfl, ht⟩ := hm
    rw [if_neg (by omega)] at hrr
    have h8 := txt2_rt hrr (by omega)
    rw [if_neg (by omega), if_neg (by omega), if_neg (by omega), h8.1, h8.2, s16_len]
    exact ⟨by congr 1; omega, rfl⟩
theorem ex_items {I : Nat → Itm} : ∀ {n : Nat} {d : Int}, ex I n = some d → ∀ j, j < n → okItem (I j).o (I j).m (I j).s = true
  | 0, _, _, j, hj => by omega
  | n + 1, d, h, j, hj => by
    rw [ex] at h
    cases hs : ex I n with
    | none => rw [hs] at h; simp at h
    | some d' =>
      rw [hs] at h
      by_cases e : j = n
      · subst e
        rcases hq : okItem (I j).o (I j).m (I j).s
        · simp [hq] at h
        · rfl
      · exact ex_items hs j (by omega)
theorem exp_rt {s : ByteArray} {a n : Nat} {I : Nat → Itm} (h : At s a (expB I n)) (hn : n ≤ 100) (hI : ∀ j, j < n → okItem (I j).o (I j).m (I j).s = true) (hr : ∀ j, j < n → rng (I j).m) :
    lenV s 2 (some a) = n ∧ numP s 2 (some a) = some (a + 2) ∧ exPl s (some a) = some (a + (expB I n).length) ∧ ∀ j, j < n → itmV s (rep (itmP s) (some (a + 2)) j) = I j := by
  unfold expB at h ⊢
  have hn2 := num_rt h.left (wrap_2 (by omega) (by omega))
  have hrr := h.right
  rw [numI_len] at hrr
  have hl := list_rt (f := itmP s) hrr (fun j hj b hb => (itm_rt hb (hI j hj) (hr j hj)).1)
  have e1 : lenV s 2 (some a) = n := by unfold lenV; rw [hn2.2]; omega
  refine ⟨e1, hn2.1, ?_, fun j hj => ?_⟩
  · unfold exPl
    rw [hn2.1, e1, hl n (Nat.le_refl _), List.length_append, numI_len]
    congr 1
    omega
  · rw [hl j (by omega)]
    exact (itm_rt (listB_at hrr j hj) (hI j hj) (hr j hj)).2
end Go.Proofs.YtnbgdfhfmbgbhaaGreatDoor
