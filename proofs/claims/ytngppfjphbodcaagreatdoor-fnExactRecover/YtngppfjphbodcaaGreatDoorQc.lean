/-
  Recovery, the specification's side: what its walk shares.
-/
import Derived.Test.YtngppfjphbodcaaGreatDoorHe
namespace Go.Proofs.YtngppfjphbodcaaGreatDoor
open Go.RowKit
/-- The place of a name, or the number of the files. -/
def fdN : List Fil → ByteArray → Nat
  | [], _ => 0
  | f :: r, nm => if f.s = nm then 0 else fdN r nm + 1
theorem fdN_le (L : List Fil) (nm : ByteArray) : fdN L nm ≤ L.length := by
  induction L with
  | nil => exact Nat.le_refl _
  | cons f r ih => unfold fdN; split <;> simp <;> omega
theorem fdN_before (L : List Fil) (nm : ByteArray) : ∀ k, k < fdN L nm → (nthF L k).s ≠ nm := by
  induction L with
  | nil => intro k hk; simp [fdN] at hk
  | cons f r ih =>
    intro k hk
    unfold fdN at hk
    split at hk
    · omega
    · rename_i h
      cases k with
      | zero => exact h
      | succ k => exact ih k (by omega)
theorem fdN_at (L : List Fil) (nm : ByteArray) (h : fdN L nm < L.length) : (nthF L (fdN L nm)).s = nm := by
  induction L with
  | nil => simp [fdN] at h
  | cons f r ih =>
    unfold fdN at h ⊢
    split
    · rename_i e; exact e
    · rename_i e
      rw [if_neg e] at h
      exact ih (by simpa using h)
/-- The place of a name, or -1. -/
def fdI (L : List Fil) (nm : ByteArray) : Int := if fdN L nm < L.length then (fdN L nm : Int) else -1
theorem fd_at (L : List Fil) (nm : ByteArray) : FdAt L nm (fdI L nm) := by
  unfold fdI
  split
  · rename_i h
    exact .inr ⟨_, h, rfl, fdN_at L nm h, fdN_before L nm⟩
  · rename_i h
    have := fdN_le L nm
    exact .inl ⟨rfl, fun k hk => fdN_before L nm k (by omega)⟩
theorem fd_is {L : List Fil} {nm : ByteArray} {r : Int} (h : FdAt L nm r) : r = fdI L nm := fd_same h (fd_at L nm)
/-- The entries of a text, and where they end. -/
def scnF (s : ByteArray) : Nat → Nat → List ByteArray × Nat
  | 0, a => ([], a)
  | f + 1, a => if (fst (rst s a)).size = 0 then ([], a) else (fst (rst s a) :: (scnF s f (a + (8 + (fst (rst s a)).size))).1, (scnF s f (a + (8 + (fst (rst s a)).size))).2)
theorem scnF_ch (s : ByteArray) : ∀ f a, s.size - a ≤ f → a ≤ s.size → Ch s a (scnF s f a).1 (scnF s f a).2 ∧ (fst (rst s (scnF s f a).2)).size = 0 ∧ (scnF s f a).2 ≤ s.size ∧ (scnF s f a).1.length + a ≤ (scnF s f a).2 := by
  intro f
  induction f with
  | zero =>
    intro a hf ha
    by_cases h0 : (fst (rst s a)).size = 0
    · exact ⟨rfl, h0, ha, by simp [scnF]⟩
    · have := rst_fits ha h0
      omega
  | succ f ih =>
    intro a hf ha
    by_cases h0 : (fst (rst s a)).size = 0
    · have e : scnF s (f + 1) a = ([], a) := by unfold scnF; rw [if_pos h0]
      rw [e]
      exact ⟨rfl, h0, ha, by simp⟩
    · have := rst_fits ha h0
      obtain ⟨h1, h2, h3, h4⟩ := ih (a + (8 + (fst (rst s a)).size)) (by omega) this
      have e : scnF s (f + 1) a = (fst (rst s a) :: (scnF s f (a + (8 + (fst (rst s a)).size))).1, (scnF s f (a + (8 + (fst (rst s a)).size))).2) := by rw [scnF, if_neg h0]
      rw [e]
      exact ⟨⟨rfl, h0, h1⟩, h2, h3, by simp only [List.length_cons]; omega⟩
def scn (s : ByteArray) : List ByteArray × Nat := scnF s s.size 0
theorem scn_ch (s : ByteArray) : Ch s 0 (scn s).1 (scn s).2 ∧ (fst (rst s (scn s).2)).size = 0 ∧ (scn s).2 ≤ s.size ∧ (scn s).1.length ≤ (scn s).2 := by
  have := scnF_ch s s.size 0 (by omega) (by omega)
  exact ⟨this.1, this.2.1, this.2.2.1, by have := this.2.2.2; unfold scn; omega⟩
theorem scn_is {s : ByteArray} {L : List ByteArray} {b : Nat} (h : Ch s 0 L b) (e : (fst (rst s b)).size = 0) : L = (scn s).1 ∧ b = (scn s).2 := h.same (scn_ch s).1 e (scn_ch s).2.1
/-- How many files bear a number above l. -/
def abv (L : List Fil) (l : Nat) : Nat := L.countP fun f => decide (l < segN f.s)
theorem abv_mono (L : List Fil) (l : Nat) : abv L (l + 1) ≤ abv L l := by
  unfold abv
  refine List.countP_mono_left fun f _ h => ?_
  simp only [decide_eq_true_eq] at h ⊢
  omega
theorem abv_step (L : List Fil) (l : Nat) (hl : l + 1 ≤ 9999) (h : fdN L (seg (l + 1)) < L.length) : abv L (l + 1) + 1 ≤ abv L l := by
  induction L with
  | nil => simp [fdN] at h
  | cons f r ih =>
    have hm := abv_mono r l
    unfold fdN at h
    unfold abv at hm ih ⊢
    rw [List.countP_cons, List.countP_cons]
    by_cases e : f.s = seg (l + 1)
    · have hs : segN f.s = l + 1 := by rw [e, segN_seg _ hl]
      rw [if_neg (by simp [hs]), if_pos (by simp [hs])]
      omega
    · rw [if_neg e] at h
      have h1 := ih (by simpa using h)
      by_cases h2 : l + 1 < segN f.s
      · rw [if_pos (by simpa using h2), if_pos (by simp; omega)]
        omega
      · rw [if_neg (by simpa using h2)]
        split <;> omega
/-- The segments from l + 1 on. -/
def rdF (L : List Fil) : Nat → Nat → List ByteArray → Nat → Nat × List ByteArray × Nat
  | 0, l, E, g => (l, E, g)
  | f + 1, l, E, g => if fdN L (seg (l + 1)) < L.length then (if (scn (nthF L (fdN L (seg (l + 1)))).d).2 < (nthF L (fdN L (seg (l + 1)))).d.size then (l + 1, E ++ (scn (nthF L (fdN L (seg (l + 1)))).d).1, (scn (nthF L (fdN L (seg (l + 1)))).d).2) else rdF L f (l + 1) (E ++ (scn (nthF L (fdN L (seg (l + 1)))).d).1) (scn (nthF L (fdN L (seg (l + 1)))).d).2) else (l, E, g)
def rd (L : List Fil) : Nat × List ByteArray × Nat := rdF L 301 0 [] 0
theorem rd_no (L : List Fil) (f l : Nat) (E : List ByteArray) (g : Nat) (h : ¬ fdN L (seg (l + 1)) < L.length) : rdF L f l E g = (l, E, g) := by
  cases f with
  | zero => rfl
  | succ f => rw [rdF, if_neg h]
theorem rd_end (L : List Fil) (f l : Nat) (E : List ByteArray) (g : Nat) (d : ByteArray) (h : fdN L (seg (l + 1)) < L.length) (hd : (nthF L (fdN L (seg (l + 1)))).d = d) (hs : (scn d).2 < d.size) : rdF L (f + 1) l E g = (l + 1, E ++ (scn d).1, (scn d).2) := by
  subst hd
  rw [rdF, if_pos h, if_pos hs]
theorem rd_on (L : List Fil) (f l : Nat) (E : List ByteArray) (g : Nat) (d : ByteArray) (h : fdN L (seg (l + 1)) < L.length) (hd : (nthF L (fdN L (seg (l + 1)))).d = d) (hs : ¬ (scn d).2 < d.size) : rdF L (f + 1) l E g = rdF L f (l + 1) (E ++ (scn d).1) (scn d).2 := by
  subst hd
  rw [rdF, if_pos h, if_neg hs]
theorem rd_pre (L : List Fil) : ∀ (f l : Nat) (E : List ByteArray) (g : Nat), E.length ≤ (rdF L f l E g).2.1.length := by
  intro f
  induction f with
  | zero => intro l E g; exact Nat.le_refl _
  | succ f ih =>
    intro l E g
    rw [rdF]
    split
    · split
      · simp
      · exact Nat.le_trans (by simp) (ih _ _ _)
    · exact Nat.le_refl _
/-- Where the fuel serves: what was read. -/
structure Rd (L : List Fil) (R : Nat × List ByteArray × Nat) : Prop where
  top : R.1 ≤ 300
  zero : R.1 = 0 → ¬ fdN L (seg 1) < L.length ∧ R.2.2 = 0
  pos : 1 ≤ R.1 → fdN L (seg R.1) < L.length ∧ R.2.2 ≤ (nthF L (fdN L (seg R.1))).d.size
theorem rd_ok (L : List Fil) : ∀ (f l : Nat) (E : List ByteArray) (g : Nat), abv L l < f → abv L l + l ≤ 300 → (l = 0 → g = 0) → (1 ≤ l → fdN L (seg l) < L.length ∧ g ≤ (nthF L (fdN L (seg l))).d.size) → Rd L (rdF L f l E g) := by
  intro f
  induction f with
  | zero => intro l E g hf; omega
  | succ f ih =>
    intro l E g hf hl h0 hp
    by_cases h : fdN L (seg (l + 1)) < L.length
    · have hs := abv_step L l (by omega) h
      have hz := (scn_ch (nthF L (fdN L (seg (l + 1)))).d).2.2.1
      rw [rdF, if_pos h]
      split
      · exact ⟨by show l + 1 ≤ 300; omega, fun e => by simp at e, fun _ => ⟨h, hz⟩⟩
      · exact ih _ _ _ (by omega) (by omega) (fun e => by omega) (fun _ => ⟨h, hz⟩)
    · rw [rd_no L _ l E g h]
      exact ⟨by show l ≤ 300; omega, fun e => by
        have e' : l = 0 := e
        subst e'
        exact ⟨h, h0 rfl⟩, hp⟩
theorem abv_le (L : List Fil) (l : Nat) : abv L l ≤ L.length := List.countP_le_length
theorem rd_is (L : List Fil) (hn : L.length ≤ 300) : Rd L (rd L) := by
  have := abv_le L 0
  exact rd_ok L 301 0 [] 0 (by omega) (by omega) (fun _ => rfl) (fun h => by omega)
/-- An operation of recovery. -/
structure Op3 where
  kd : Int
  nm : ByteArray
  sz : Int
def delO (L : List Fil) (l : Nat) : List Op3 := (L.reverse.filter fun f => decide (l < segN f.s)).map fun f => ⟨5, f.s, 0⟩
def tailO (L : List Fil) (l g : Nat) : List Op3 :=
  if l = 0 then [⟨1, seg 1, 0⟩]
  else if g < (nthF L (fdN L (seg l))).d.size then [⟨4, seg l, (g : Int)⟩]
  else if (nthF L (fdN L (seg l))).y < ((nthF L (fdN L (seg l))).d.size : Int) then [⟨3, seg l, 0⟩] else []
def runO (x1 x3 x4 : Int) : List Op3 → List Fil → Int → Bool → List Fil × Int × Bool × Int
  | [], L, x2, x5 => (L, x2, x5, 0)
  | o :: r, L, x2, x5 => if (stS L x1 x2 x3 x4 x5 o.kd o.nm ⟨#[]⟩ o.sz (fdI L o.nm)).2.2.2 = 0 then runO x1 x3 x4 r (stS L x1 x2 x3 x4 x5 o.kd o.nm ⟨#[]⟩ o.sz (fdI L o.nm)).1 (stS L x1 x2 x3 x4 x5 o.kd o.nm ⟨#[]⟩ o.sz (fdI L o.nm)).2.1 (stS L x1 x2 x3 x4 x5 o.kd o.nm ⟨#[]⟩ o.sz (fdI L o.nm)).2.2.1 else stS L x1 x2 x3 x4 x5 o.kd o.nm ⟨#[]⟩ o.sz (fdI L o.nm)
theorem run_go {x1 x3 x4 : Int} {o : Op3} {r : List Op3} {L M : List Fil} {x2 z2 : Int} {x5 z5 : Bool} (h : stS L x1 x2 x3 x4 x5 o.kd o.nm ⟨#[]⟩ o.sz (fdI L o.nm) = (M, z2, z5, 0)) : runO x1 x3 x4 (o :: r) L x2 x5 = runO x1 x3 x4 r M z2 z5 := by
  rw [runO, h, if_pos rfl]
theorem run_stop {x1 x3 x4 : Int} {o : Op3} {r : List Op3} {L M : List Fil} {x2 z2 zc : Int} {x5 z5 : Bool} (h : stS L x1 x2 x3 x4 x5 o.kd o.nm ⟨#[]⟩ o.sz (fdI L o.nm) = (M, z2, z5, zc)) (hc : zc ≠ 0) : runO x1 x3 x4 (o :: r) L x2 x5 = (M, z2, z5, zc) := by
  rw [runO, h, if_neg hc]
theorem del_take (L : List Fil) (l i : Nat) (hi : i < L.length) : delO (L.take (i + 1)) l = (if l < segN (nthF L i).s then [⟨5, (nthF L i).s, 0⟩] else []) ++ delO (L.take i) l := by
  unfold delO
  rw [List.take_succ_eq_append_getElem hi, List.reverse_append, List.reverse_singleton, List.singleton_append, List.filter_cons, nthF_at L i hi]
  by_cases h : l < segN L[i].s
  · rw [if_pos (by simpa using h), if_pos h]; rfl
  · rw [if_neg (by simpa using h), if_neg h]; rfl
/-- What is left when the files from i on have been gone through. -/
def sv (L : List Fil) (l i : Nat) : List Fil := L.take i ++ (L.drop i).filter fun f => decide (segN f.s ≤ l)
theorem sv_all (L : List Fil) (l : Nat) : sv L l L.length = L := by unfold sv; simp
theorem sv_len (L : List Fil) (l i : Nat) (hi : i ≤ L.length) : i ≤ (sv L l i).length ∧ (sv L l i).length ≤ L.length := by
  unfold sv
  have := List.length_filter_le (fun f : Fil => decide (segN f.s ≤ l)) (L.drop i)
  simp at this ⊢
  omega
theorem sv_nth (L : List Fil) (l i j : Nat) (hj : j < i) (hi : i ≤ L.length) : nthF (sv L l i) j = nthF L j := by
  have hz := (sv_len L l i hi).1
  rw [nthF_at _ j (by omega), nthF_at L j (by omega)]
  unfold sv
  rw [List.getElem_append_left (by simp; omega), List.getElem_take]
theorem sv_keep (L : List Fil) (l i : Nat) (hi : i < L.length) (h : segN (nthF L i).s ≤ l) : sv L l (i + 1) = sv L l i := by
  unfold sv
  rw [List.take_succ_eq_append_getElem hi, List.append_assoc]
  congr 1
  rw [List.drop_eq_getElem_cons hi, List.filter_cons, ← nthF_at L i hi, if_pos (by simpa using h)]
  rfl
theorem sv_del (L : List Fil) (l i : Nat) (hi : i < L.length) (h : l < segN (nthF L i).s) : (sv L l (i + 1)).eraseIdx i = sv L l i := by
  unfold sv
  have e1 : (L.drop i).filter (fun f => decide (segN f.s ≤ l)) = (L.drop (i + 1)).filter (fun f => decide (segN f.s ≤ l)) := by
    rw [List.drop_eq_getElem_cons hi, List.filter_cons, ← nthF_at L i hi, if_neg (by simp; omega)]
  rw [e1, List.take_succ_eq_append_getElem hi, List.append_assoc, List.eraseIdx_append_of_length_le (by simp; omega)]
  simp [show i - min i L.length = 0 by omega]
theorem sv_mem (L : List Fil) (l i : Nat) {f : Fil} (h : f ∈ sv L l i) : f ∈ L := by
  unfold sv at h
  rcases List.mem_append.1 h with h | h
  · exact List.mem_of_mem_take h
  · exact List.mem_of_mem_drop (List.mem_filter.1 h).1
theorem sv_zero (L : List Fil) (l : Nat) (f : Fil) : f ∈ sv L l 0 ↔ f ∈ L ∧ segN f.s ≤ l := by
  unfold sv
  simp
theorem same_name {L : List Fil} (h : pwF L) {f g : Fil} (hf : f ∈ L) (hg : g ∈ L) (e : f.s = g.s) : f = g := by
  have hs := h.srt
  obtain ⟨i, hi, rfl⟩ := List.getElem_of_mem hf
  obtain ⟨j, hj, rfl⟩ := List.getElem_of_mem hg
  rcases Nat.lt_trichotomy i j with hij | rfl | hij
  · have := hs i j hij hj
    rw [nthF_at L i hi, nthF_at L j hj, e] at this
    exact absurd this (by rw [less_asym _ _ this]; decide)
  · rfl
  · have := hs j i hij hi
    rw [nthF_at L i hi, nthF_at L j hj, e] at this
    exact absurd this (by rw [less_asym _ _ this]; decide)
theorem fdN_mem (L : List Fil) (nm : ByteArray) : fdN L nm < L.length ↔ ∃ f ∈ L, f.s = nm := by
  constructor
  · intro h
    exact ⟨_, nth_mem L _ h, fdN_at L nm h⟩
  · rintro ⟨f, hf, e⟩
    obtain ⟨i, hi, rfl⟩ := List.getElem_of_mem hf
    have h1 := fdN_le L nm
    by_cases h : fdN L nm < L.length
    · exact h
    · have := fdN_before L nm i (by omega)
      rw [nthF_at L i hi] at this
      exact absurd e this
theorem orw_in {w : World} {B e size g n n' cap : Nat} {xs : List Value} (h : w.ownsRow B e size (.slice (some ⟨g, 0, none⟩) n cap) n' xs) : B ≤ g ∧ ∃ cur, w.heap[g]? = some (.cells cur e (0, 0)) := by
  rcases h.2 with ⟨e1, _⟩ | ⟨g', cap', cur, e1, hB, hg, _⟩
  · simp at e1
  · simp at e1
    obtain ⟨rfl, _, _⟩ := e1
    exact ⟨hB, cur, hg⟩
theorem orw_lt {w : World} {B e size g n n' cap : Nat} {xs : List Value} (h : w.ownsRow B e size (.slice (some ⟨g, 0, none⟩) n cap) n' xs) : g < w.heap.size := by
  obtain ⟨_, cur, hg⟩ := orw_in h
  exact (Array.getElem?_eq_some_iff.1 hg).1
theorem orw_at {w w' : World} {B e size g n n' cap : Nat} {xs : List Value} (h : w.ownsRow B e size (.slice (some ⟨g, 0, none⟩) n cap) n' xs) (hk : w'.heap[g]? = w.heap[g]?) : w'.ownsRow B e size (.slice (some ⟨g, 0, none⟩) n cap) n' xs := by
  refine ⟨h.1, ?_⟩
  rcases h.2 with ⟨e1, _⟩ | ⟨g', cap', cur, e1, hB, hg, h4⟩
  · simp at e1
  · simp at e1
    obtain ⟨rfl, rfl, rfl⟩ := e1
    exact .inr ⟨g, cap, cur, rfl, hB, hk.trans hg, h4⟩
theorem orw_wk {w : World} {B B' e size n : Nat} {v : Value} {xs : List Value} (h : w.ownsRow B e size v n xs) (hB : B' ≤ B) : w.ownsRow B' e size v n xs :=
  ⟨h.1, h.2.imp id (fun ⟨g, cap, cur, e1, e2, e3⟩ => ⟨g, cap, cur, e1, Nat.le_trans hB e2, e3⟩)⟩
theorem orw_ne {w : World} {B e size g n n' cap Q : Nat} {xs : List Value} {X : Array Value} {t : TypeId} {fr : Nat × Nat} (h : w.ownsRow B e size (.slice (some ⟨g, 0, none⟩) n cap) n' xs) (hQ : w.heap[Q]? = some (.cells X t fr)) (hne : t ≠ e) : g ≠ Q := by
  rintro rfl
  obtain ⟨_, cur, hg⟩ := orw_in h
  rw [hQ] at hg
  simp at hg
  exact hne hg.2.1
theorem orw_set {w : World} {B e size g n n' cap Q : Nat} {xs : List Value} (h : w.ownsRow B e size (.slice (some ⟨g, 0, none⟩) n cap) n' xs) (hne : g ≠ Q) (o : Nat) (v : Value) : (w.setCell ⟨Q, o, none⟩ v).ownsRow B e size (.slice (some ⟨g, 0, none⟩) n cap) n' xs := orw_at h (heap_setCell_other _ _ _ _ hne)
theorem orw_set6 {w : World} {B e size g n n' cap Q : Nat} {xs : List Value} (h : w.ownsRow B e size (.slice (some ⟨g, 0, none⟩) n cap) n' xs) (hne : g ≠ Q) (v0 v1 v2 v3 v4 v5 : Value) : ((((((w.setCell ⟨Q, 0, none⟩ v0).setCell ⟨Q, 1, none⟩ v1).setCell ⟨Q, 2, none⟩ v2).setCell ⟨Q, 3, none⟩ v3).setCell ⟨Q, 4, none⟩ v4).setCell ⟨Q, 5, none⟩ v5).ownsRow B e size (.slice (some ⟨g, 0, none⟩) n cap) n' xs :=
  orw_set (orw_set (orw_set (orw_set (orw_set (orw_set h hne 0 v0) hne 1 v1) hne 2 v2) hne 3 v3) hne 4 v4) hne 5 v5
theorem orw_set2 {w : World} {B e size g n n' cap Q : Nat} {xs : List Value} (h : w.ownsRow B e size (.slice (some ⟨g, 0, none⟩) n cap) n' xs) (hne : g ≠ Q) (v0 v1 : Value) : ((w.setCell ⟨Q, 0, none⟩ v0).setCell ⟨Q, 1, none⟩ v1).ownsRow B e size (.slice (some ⟨g, 0, none⟩) n cap) n' xs := orw_set (orw_set h hne 0 v0) hne 1 v1
theorem orw_grown {w w' : World} {B e size g n n' cap : Nat} {xs : List Value} {r : Option Nat} (h : w.ownsRow B e size (.slice (some ⟨g, 0, none⟩) n cap) n' xs) (hg : w.grownBy w' r) (hne : some g ≠ r) : w'.ownsRow B e size (.slice (some ⟨g, 0, none⟩) n cap) n' xs := orw_at h (hg.block g (orw_lt h) hne)
theorem rowGr {w w' : World} {q : Nat} {r : Option Nat} {o : Obj} (h : w.heap[q]? = some o) (hg : w.grownBy w' r) (hne : some q ≠ r) : w'.heap[q]? = some o := (hg.block q (Array.getElem?_eq_some_iff.1 h).1 hne).trans h
theorem own_nil (w : World) : OwnS (w.alloc (.cells #[] 9)) w.heap.size w.heap.size 0 [] := World.ownsRow_lit w #[] 0 (Nat.le_refl _) (by simp [maxLen]) rfl
theorem OwnS.later {w w' : World} {B g cap : Nat} {L : List ByteArray} (h : OwnS w B g cap L) (hb : Below w.heap.size w w') : OwnS w' B g cap L := own_below h hb
theorem OwnS.wk {w : World} {B B' g cap : Nat} {L : List ByteArray} (h : OwnS w B g cap L) (hB : B' ≤ B) : OwnS w B' g cap L := orw_wk h hB
theorem sFindE (g n cp : Nat) (L : List Fil) (hL : L.length = n) (x1 x2 x3 x4 : Int) (x5 : Bool) (s : ByteArray) (w : World) (h : FL w (some ⟨g, 0, none⟩) n (nthF L)) (hn : n ≤ 300) (r : Int) (hr : fdI L s = r) : Calls Tryz.prog 18 #[.agg #[.slice (some ⟨g, 0, none⟩) n cp, .int .i64 x1, .int .i64 x2, .int .i64 x3, .int .i64 x4, .bool x5], .string s] w fun e w' => e = .returned (.int .i64 r) ∧ Below w.heap.size w w' := by
  subst hL
  refine (sFind (some ⟨g, 0, none⟩) L.length cp (nthF L) x1 x2 x3 x4 x5 s w h (by omega)).mono ?_
  rintro e w' ⟨r', rfl, hr', hb⟩
  have e1 : r' = fdI L s := fd_is hr'
  rw [e1, hr]
  exact ⟨rfl, hb⟩
theorem sScanE (s : ByteArray) (xs : List ByteArray) (b : Nat) (hx : scn s = (xs, b)) (w : World) (hs : s.size ≤ 1048576) : Calls Tryz.prog 20 #[.string s] w fun e w' => ∃ g cap, e = .returned (.tuple #[.slice (some ⟨g, 0, none⟩) xs.length cap, .int .i64 (b : Nat)]) ∧ OwnS w' w.heap.size g cap xs ∧ Below w.heap.size w w' := by
  refine (sScan s w hs).mono ?_
  rintro e w' ⟨L, b', g, cap, rfl, hO, hC, hE, _, _, hb⟩
  obtain ⟨e1, e2⟩ := scn_is hC hE
  rw [hx] at e1 e2
  subst e1 e2
  exact ⟨g, cap, rfl, hO, hb⟩
/-- What recovery answers. -/
structure An where
  M : List Fil
  z2 : Int
  z5 : Bool
  l : Int
  g : Int
  E : List ByteArray
  c : Int
def RDone (w w' : World) (x1 x3 x4 : Int) (A : An) (e : Ending) : Prop := ∃ gm cp ge ce, e = .returned (.tuple #[.agg #[.slice (some ⟨gm, 0, none⟩) A.M.length cp, .int .i64 x1, .int .i64 A.z2, .int .i64 x3, .int .i64 x4, .bool A.z5], .agg #[.int .i64 A.l, .int .i64 A.g], .slice (some ⟨ge, 0, none⟩) A.E.length ce, .int .i64 A.c]) ∧ OwnL w' w.heap.size (.slice (some ⟨gm, 0, none⟩) A.M.length cp) A.M ∧ OwnS w' w.heap.size ge ce A.E ∧ Below w.heap.size w w'
/-- The boxes of the walk: the file system, the two results that are not yet written, the empty list. -/
structure SW (w V : World) (v : Value) (x1 x2 x3 x4 : Int) (x5 : Bool) : Prop where
  fs : V.heap[w.heap.size]? = some (.cells #[v, .int .i64 x1, .int .i64 x2, .int .i64 x3, .int .i64 x4, .bool x5] 28 (0, 0))
  r1 : V.heap[w.heap.size + 1]? = some (.cells #[.slice none 0 0, .int .i64 0, .int .i64 0, .int .i64 0, .int .i64 0, .bool false] 28 (0, 0))
  r2 : V.heap[w.heap.size + 1 + 1]? = some (.cells #[.int .i64 0, .int .i64 0] 30 (0, 0))
  b : Below w.heap.size w V
  no : OwnS V w.heap.size (w.heap.size + 1 + 1 + 1) 0 []
theorem SW.later {w V V' : World} {v : Value} {x1 x2 x3 x4 : Int} {x5 : Bool} (h : SW w V v x1 x2 x3 x4 x5) (hb : Below V.heap.size V V') : SW w V' v x1 x2 x3 x4 x5 := ⟨rowL h.fs hb, rowL h.r1 hb, rowL h.r2 hb, bstep h.b hb, h.no.later hb⟩
theorem SW.new (w : World) (v : Value) (x1 x2 x3 x4 : Int) (x5 : Bool) : SW w ((((w.alloc (.cells #[v, .int .i64 x1, .int .i64 x2, .int .i64 x3, .int .i64 x4, .bool x5] 28)).alloc (.cells #[.slice none 0 0, .int .i64 0, .int .i64 0, .int .i64 0, .int .i64 0, .bool false] 28)).alloc (.cells #[.int .i64 0, .int .i64 0] 30)).alloc (.cells #[] 9)) v x1 x2 x3 x4 x5 := by
  obtain ⟨h1, h2, h3, h4, hb⟩ := four w (.cells #[v, .int .i64 x1, .int .i64 x2, .int .i64 x3, .int .i64 x4, .bool x5] 28) (.cells #[.slice none 0 0, .int .i64 0, .int .i64 0, .int .i64 0, .int .i64 0, .bool false] 28) (.cells #[.int .i64 0, .int .i64 0] 30) (.cells #[] 9)
  exact ⟨h1, h2, h3, hb, by
    have := own_nil (((w.alloc (.cells #[v, .int .i64 x1, .int .i64 x2, .int .i64 x3, .int .i64 x4, .bool x5] 28)).alloc (.cells #[.slice none 0 0, .int .i64 0, .int .i64 0, .int .i64 0, .int .i64 0, .bool false] 28)).alloc (.cells #[.int .i64 0, .int .i64 0] 30))
    simp only [World.size_alloc] at this
    exact this.wk (by omega)⟩
theorem SW.set {w V : World} {v : Value} {x1 x2 x3 x4 : Int} {x5 : Bool} (h : SW w V v x1 x2 x3 x4 x5) (v' : Value) (y1 y2 y3 y4 : Int) (y5 : Bool) : SW w ((((((V.setCell ⟨w.heap.size, 0, none⟩ v').setCell ⟨w.heap.size, 1, none⟩ (.int .i64 y1)).setCell ⟨w.heap.size, 2, none⟩ (.int .i64 y2)).setCell ⟨w.heap.size, 3, none⟩ (.int .i64 y3)).setCell ⟨w.heap.size, 4, none⟩ (.int .i64 y4)).setCell ⟨w.heap.size, 5, none⟩ (.bool y5)) v' y1 y2 y3 y4 y5 :=
  ⟨set6_row _ _ _ _ _ _ h.fs, set6_oth _ _ _ _ _ _ h.r1 (by omega), set6_oth _ _ _ _ _ _ h.r2 (by omega), set6_below _ _ _ _ _ _ h.b (by omega), orw_set6 h.no (by omega) _ _ _ _ _ _⟩
theorem SW.grown {w V V' : World} {v : Value} {x1 x2 x3 x4 : Int} {x5 : Bool} {q : Nat} (h : SW w V v x1 x2 x3 x4 x5) (hg : V.grownBy V' (some q)) (hq : w.heap.size + 1 + 1 + 1 < q) : SW w V' v x1 x2 x3 x4 x5 :=
  have ne : ∀ {k : Nat}, k ≤ w.heap.size + 1 + 1 + 1 → some k ≠ some q := fun hk e => by have := Option.some.inj e; omega
  ⟨rowGr h.fs hg (ne (by omega)), rowGr h.r1 hg (ne (by omega)), rowGr h.r2 hg (ne (by omega)), h.b.grown hg h.b.size (fun k e => by have := Option.some.inj e; omega), orw_grown h.no hg (ne (by omega))⟩
theorem results_c2t2 {P : Program} {fn : Func} {p p' t0 t1 : Tmp} {ty ty' : TypeId} (h : fn.results = #[.cell p ty, .cell p' ty', .tmp t0, .tmp t1]) (tmps : Array Value) (w : World) (g : Nat) (t : TypeId) (cs : Array Value) (fr : Nat × Nat) (d : TypeDesc)
    (hp : tmps.getD p undef = .pointer (some ⟨g, 0, none⟩)) (hg : w.heap[g]? = some (.cells cs t fr))
    (hu : P.underlying ty = some d) (hd : (match d with | .struct _ | .array _ _ => true | _ => false) = true) (hi : (P.info? ty).map (·.size) = some cs.size)
    (g' : Nat) (t' : TypeId) (cs' : Array Value) (fr' : Nat × Nat) (d' : TypeDesc)
    (hp' : tmps.getD p' undef = .pointer (some ⟨g', 0, none⟩)) (hg' : w.heap[g']? = some (.cells cs' t' fr'))
    (hu' : P.underlying ty' = some d') (hd' : (match d' with | .struct _ | .array _ _ => true | _ => false) = true) (hi' : (P.info? ty').map (·.size) = some cs'.size) :
    (results fn tmps).run P w = .ok (.tuple #[.agg cs, .agg cs', tmps.getD t0 undef, tmps.getD t1 undef]) w := by
  have hp1 : tmps[p]?.getD undef = .pointer (some ⟨g, 0, none⟩) := by simpa using hp
  have hp2 : tmps[p']?.getD undef = .pointer (some ⟨g', 0, none⟩) := by simpa using hp'
  simp [results, h, hp1, hp2, asAddr, run_loadVar_row w g t ty cs fr d hg hu hd hi, run_loadVar_row w g' t' ty' cs' fr' d' hg' hu' hd' hi']
theorem SW.done {w V : World} {v : Value} {gm cp ge ce : Nat} {M : List Fil} {E : List ByteArray} {x1 x2 x3 x4 : Int} {x5 : Bool} (h : SW w V v x1 x2 x3 x4 x5) (hL : OwnL V w.heap.size (.slice (some ⟨gm, 0, none⟩) M.length cp) M) (hE : OwnS V w.heap.size ge ce E) (l g c : Int) (v0 v1 v2 v3 v4 v5 l0 l1 : Value) :
    RDone w ((((((((V.setCell ⟨w.heap.size + 1, 0, none⟩ v0).setCell ⟨w.heap.size + 1, 1, none⟩ v1).setCell ⟨w.heap.size + 1, 2, none⟩ v2).setCell ⟨w.heap.size + 1, 3, none⟩ v3).setCell ⟨w.heap.size + 1, 4, none⟩ v4).setCell ⟨w.heap.size + 1, 5, none⟩ v5).setCell ⟨w.heap.size + 1 + 1, 0, none⟩ l0).setCell ⟨w.heap.size + 1 + 1, 1, none⟩ l1) x1 x3 x4 ⟨M, x2, x5, l, g, E, c⟩ (.returned (.tuple #[.agg #[.slice (some ⟨gm, 0, none⟩) M.length cp, .int .i64 x1, .int .i64 x2, .int .i64 x3, .int .i64 x4, .bool x5], .agg #[.int .i64 l, .int .i64 g], .slice (some ⟨ge, 0, none⟩) E.length ce, .int .i64 c])) := by
  refine ⟨gm, cp, ge, ce, rfl, finO hL h.r1 h.r2 (by omega), ?_, set2_below _ _ (set6_below _ _ _ _ _ _ h.b (by omega)) (by omega)⟩
  exact orw_set2 (orw_set6 hE (orw_ne hE h.r1 (by decide)) _ _ _ _ _ _) (orw_ne (orw_set6 hE (orw_ne hE h.r1 (by decide)) _ _ _ _ _ _) (set6_oth v0 v1 v2 v3 v4 v5 (Q := w.heap.size + 1) h.r2 (by omega)) (by decide)) _ _
def recA (L : List Fil) (x1 x2 x3 x4 : Int) (x5 : Bool) : An :=
  if x5 = true then ⟨L, x2, true, 0, 0, [], 11⟩
  else if 2000 < (rd L).2.1.length then ⟨L, x2, false, 0, 0, [], 22⟩
  else if (runO x1 x3 x4 (delO L (rd L).1 ++ tailO L (rd L).1 (rd L).2.2) L x2 false).2.2.2 = 0 then ⟨(runO x1 x3 x4 (delO L (rd L).1 ++ tailO L (rd L).1 (rd L).2.2) L x2 false).1, (runO x1 x3 x4 (delO L (rd L).1 ++ tailO L (rd L).1 (rd L).2.2) L x2 false).2.1, (runO x1 x3 x4 (delO L (rd L).1 ++ tailO L (rd L).1 (rd L).2.2) L x2 false).2.2.1, ((max (rd L).1 1 : Nat) : Int), ((rd L).2.2 : Int), (rd L).2.1, 0⟩
  else ⟨(runO x1 x3 x4 (delO L (rd L).1 ++ tailO L (rd L).1 (rd L).2.2) L x2 false).1, (runO x1 x3 x4 (delO L (rd L).1 ++ tailO L (rd L).1 (rd L).2.2) L x2 false).2.1, (runO x1 x3 x4 (delO L (rd L).1 ++ tailO L (rd L).1 (rd L).2.2) L x2 false).2.2.1, 0, 0, [], (runO x1 x3 x4 (delO L (rd L).1 ++ tailO L (rd L).1 (rd L).2.2) L x2 false).2.2.2⟩
theorem recA_many {L : List Fil} {x1 x2 x3 x4 : Int} {l g : Nat} {E : List ByteArray} (hr : rd L = (l, E, g)) (h : 2000 < E.length) : recA L x1 x2 x3 x4 false = ⟨L, x2, false, 0, 0, [], 22⟩ := by
  unfold recA
  rw [hr, if_neg (by decide), if_pos h]
theorem recA_ok {L M : List Fil} {x1 x2 x3 x4 z2 : Int} {z5 : Bool} {l g : Nat} {E : List ByteArray} (hr : rd L = (l, E, g)) (h : ¬ 2000 < E.length) (hq : runO x1 x3 x4 (delO L l ++ tailO L l g) L x2 false = (M, z2, z5, 0)) : recA L x1 x2 x3 x4 false = ⟨M, z2, z5, ((max l 1 : Nat) : Int), (g : Int), E, 0⟩ := by
  unfold recA
  rw [hr, if_neg (by decide), if_neg h]
  simp only []
  rw [hq, if_pos rfl]
theorem recA_code {L M : List Fil} {x1 x2 x3 x4 z2 zc : Int} {z5 : Bool} {l g : Nat} {E : List ByteArray} (hr : rd L = (l, E, g)) (h : ¬ 2000 < E.length) (hq : runO x1 x3 x4 (delO L l ++ tailO L l g) L x2 false = (M, z2, z5, zc)) (hc : zc ≠ 0) : recA L x1 x2 x3 x4 false = ⟨M, z2, z5, 0, 0, [], zc⟩ := by
  unfold recA
  rw [hr, if_neg (by decide), if_neg h]
  simp only []
  rw [hq, if_neg hc]
/-- How far reading has come: l segments, entries E, the last one's good bytes g; at is the place of the next segment, or -1. -/
def ReadI (L : List Fil) (l : Nat) (E : List ByteArray) (g : Nat) (at_ : Int) : Prop :=
  (at_ = -1 ∧ rd L = (l, E, g)) ∨ (at_ = (fdN L (seg (l + 1)) : Int) ∧ fdN L (seg (l + 1)) < L.length ∧ ∃ f, rd L = rdF L f l E g ∧ abv L l < f ∧ abv L l + l ≤ 300)
theorem ReadI.start (L : List Fil) (hn : L.length ≤ 300) : ReadI L 0 [] 0 (fdI L (seg 1)) := by
  have ha := abv_le L 0
  unfold fdI
  split
  · rename_i h
    exact .inr ⟨rfl, h, 301, rfl, by omega, by omega⟩
  · rename_i h
    exact .inl ⟨rfl, rd_no L 301 0 [] 0 h⟩
theorem ReadI.go {L : List Fil} {l f g : Nat} {E : List ByteArray} (h : fdN L (seg (l + 1)) < L.length) (hf : rd L = rdF L f l E g) (ha : abv L l < f) (hl : abv L l + l ≤ 300) {d : ByteArray} (hd : (nthF L (fdN L (seg (l + 1)))).d = d) {xs : List ByteArray} {b : Nat} (hs : scn d = (xs, b)) :
    l + 1 ≤ 300 ∧ (b < d.size → ReadI L (l + 1) (E ++ xs) b (-1)) ∧ (¬ b < d.size → ReadI L (l + 1) (E ++ xs) b (fdI L (seg (l + 1 + 1)))) := by
  have h2 := abv_step L l (by omega) h
  obtain ⟨f, rfl⟩ : ∃ f', f = f' + 1 := ⟨f - 1, by omega⟩
  refine ⟨by omega, fun hb => .inl ⟨rfl, ?_⟩, fun hb => ?_⟩
  · rw [hf, rd_end L f l E g d h hd (by rw [hs]; exact hb), hs]
  · have e := rd_on L f l E g d h hd (by rw [hs]; exact hb)
    rw [hs] at e
    unfold fdI
    split
    · rename_i h3
      exact .inr ⟨rfl, h3, f, by rw [hf, e], by omega, by omega⟩
    · rename_i h3
      exact .inl ⟨rfl, by rw [hf, e, rd_no L f (l + 1) _ _ h3]⟩
theorem fd_of {L : List Fil} {nm : ByteArray} (h : fdN L nm < L.length) : fdI L nm = (fdN L nm : Int) := by unfold fdI; rw [if_pos h]
theorem strs_ones (xs : List ByteArray) : ∀ u ∈ xs.map Value.string, u.oneCell' = true := by
  intro u hu
  obtain ⟨x, _, rfl⟩ := List.mem_map.1 hu
  rfl
theorem ownsRow_some {w : World} {B e size n : Nat} {v : Value} {xs : List Value} (h : w.ownsRow B e size v n xs) (hv : v ≠ .slice none 0 0) : ∃ g cap, v = .slice (some ⟨g, 0, none⟩) n cap := by
  rcases h.2 with ⟨e, _⟩ | ⟨g, cap, _, e, _⟩
  · exact absurd e hv
  · exact ⟨g, cap, e⟩
/-- How much reading is left. -/
def mu1 (a l : Value) : Nat := if intOf a < 0 then 0 else 302 - (intOf l).toNat
theorem mu1_lt {a a' : Int} {l : Nat} (ha : 0 ≤ a) (hl : l + 1 ≤ 300) : mu1 (.int .i64 a') (.int .i64 ((l + 1 : Nat) : Int)) < mu1 (.int .i64 a) (.int .i64 (l : Int)) := by
  show (if a' < 0 then 0 else 302 - (((l + 1 : Nat) : Int)).toNat) < (if a < 0 then 0 else 302 - ((l : Int)).toNat)
  rw [if_neg (by omega : ¬ a < 0)]
  split <;> omega
theorem sumL_one (L : List Fil) (i : Nat) (hi : i < L.length) : (nthF L i).d.size ≤ sumL L := by
  have h1 := sumD_le (nthF L) i L.length hi
  rwa [sumD_list] at h1
set_option maxRecDepth 20000 in
set_option maxHeartbeats 8000000 in
theorem sRecBad (a : Option Addr) (n c : Nat) (F : Nat → Fil) (x1 x2 x3 x4 : Int) (x5 : Bool) (w : World) (h : FL w a n F) (hsm : Small n F) (hno : okFs n F x1 x2 x3 x4 = false) :
    Calls Tryz.prog 5 #[.agg #[.slice a n c, .int .i64 x1, .int .i64 x2, .int .i64 x3, .int .i64 x4, .bool x5]] w fun e w' => ∃ ge ce, e = .returned (.tuple #[.agg #[.slice none 0 0, .int .i64 0, .int .i64 0, .int .i64 0, .int .i64 0, .bool false], .agg #[.int .i64 0, .int .i64 0], .slice (some ⟨ge, 0, none⟩) 0 ce, .int .i64 16]) ∧ OwnS w' w.heap.size ge ce [] ∧ Below w.heap.size w w' := by
  have hN := SW.new w (.slice a n c) x1 x2 x3 x4 x5
  obtain ⟨k0, k1, k2, k3, k4, k5⟩ := B6.of hN.fs
  go_enter Tryz.func5, Tryz.ntmps5
  go_upto_region 3 with (go_at_call 16; refine (sValid a n c F x1 x2 x3 x4 x5 _ (h.later hN.b) hsm).mono ?_; rw [hno]; rintro e w1 ⟨rfl, hb1⟩)
  have hM := hN.later hb1
  obtain ⟨p0, p1, p2, p3, p4, p5⟩ := B6.of hM.r1
  obtain ⟨q0, q1, q2, q3, q4, q5⟩ := F6.of hM.r1
  obtain ⟨r0, r1⟩ := B2.of hM.r2
  obtain ⟨s0, s1⟩ := F2.of hM.r2
  go_wp2
  refine bodyPost_ret (results_c2t2 Tryz.results5 _ _ (w.heap.size + 1) 28 _ (0, 0) _ rfl (fin8 _ _ _ _ _ _ _ _ hM.r1 (by omega)) Tryz.underlying28 rfl (by kernel_rfl) (w.heap.size + 1 + 1) 30 _ (0, 0) _ rfl (fin9 _ _ _ _ _ _ _ _ hM.r2 (by omega)) Tryz.underlying30 rfl (by kernel_rfl)) rfl ?_
  exact ⟨_, 0, rfl, orw_set2 (orw_set6 hM.no (by omega) _ _ _ _ _ _) (by omega) _ _, set2_below _ _ (set6_below _ _ _ _ _ _ hM.b (by omega)) (by omega)⟩
end Go.Proofs.YtngppfjphbodcaaGreatDoor
