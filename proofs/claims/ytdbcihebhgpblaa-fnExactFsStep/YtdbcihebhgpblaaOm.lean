/-
  FsStep: both sides, whatever comes in.
-/
import Derived.Test.YtdbcihebhgpblaaOl
namespace Go.Proofs.Ytdbcihebhgpblaa
open Go.RowKit
theorem doS_len (L : List Fil) (x1 kd : Int) (nm dt : ByteArray) (sz r : Int) : (doS L x1 kd nm dt sz r).1.length ≤ L.length + 1 := by
  have hw := fun nm f p => wth_len nm f L p
  unfold doS
  repeat' split
  all_goals first | exact hw _ _ _ | (simp; done) | omega
theorem stS_len (L : List Fil) (x1 x2 x3 x4 : Int) (x5 : Bool) (kd : Int) (nm dt : ByteArray) (sz r : Int) : (stS L x1 x2 x3 x4 x5 kd nm dt sz r).1.length ≤ L.length + 1 := by
  have hw := doS_len L x1 kd nm dt sz r
  unfold stS
  repeat' split
  all_goals first | exact hw | (simp; done)
theorem fd_there (L : List Fil) (nm : ByteArray) : ∃ r, FdAt L nm r := by
  induction L with
  | nil => exact ⟨-1, Or.inl ⟨rfl, fun k hk => absurd hk (Nat.not_lt_zero _)⟩⟩
  | cons g L ih =>
    by_cases h : g.s = nm
    · exact ⟨0, Or.inr ⟨0, by simp, rfl, h, fun j hj => absurd hj (Nat.not_lt_zero _)⟩⟩
    · obtain ⟨r, ⟨rfl, h1⟩ | ⟨k, hk, rfl, h2, h3⟩⟩ := ih
      · refine ⟨-1, Or.inl ⟨rfl, fun k hk => ?_⟩⟩
        cases k with
        | zero => exact h
        | succ k => exact h1 k (by simpa using hk)
      · refine ⟨(k + 1 : Nat), Or.inr ⟨k + 1, by simpa using hk, rfl, h2, fun j hj => ?_⟩⟩
        cases j with
        | zero => exact h
        | succ j => exact h3 j (by omega)
theorem allN_get {n : Nat} {p : Nat → Bool} (h : allN n p = true) (j : Nat) (hj : j < n) : p j = true := by
  unfold allN at h
  rw [List.all_eq_true] at h
  exact h j (List.mem_range.2 hj)
theorem srt_of {L : List Fil} (h : ∀ k, k < L.length → ltN (nthF L) k = true) : Srt L := by
  intro j k hjk hk
  induction k with
  | zero => omega
  | succ k ih =>
    have h1 := h (k + 1) hk
    simp only [ltN, Nat.add_sub_cancel, Bool.or_eq_true, decide_eq_true_eq] at h1
    have h2 : Op.bytesLess (nthF L k).s.toList (nthF L (k + 1)).s.toList = true := by rcases h1 with h1 | h1; omega; exact h1
    rcases Nat.lt_or_ge j k with h3 | h3
    · exact less_trans _ _ _ (ih h3 (by omega)) h2
    · obtain rfl : j = k := by omega
      exact h2
/-- What both sides answer. -/
def RS (M : List Fil) (z1 z2 z3 z4 : Int) (z5 : Bool) (zc : Int) (w : World) (e : Ending) (w' : World) : Prop := ∃ av cv, e = .returned (.tuple #[.agg #[.slice av M.length cv, .int .i64 z1, .int .i64 z2, .int .i64 z3, .int .i64 z4, .bool z5], .int .i64 zc]) ∧ OwnF w' w.heap.size (.slice av M.length cv) M.length (nthF M) ∧ Below w.heap.size w w'
theorem both (L : List Fil) (x1 x2 x3 x4 : Int) (x5 : Bool) (kd : Int) (nm dt : ByteArray) (sz : Int) (hsm : Small L.length (nthF L)) (hnm : nm.size ≤ 1048576) (hdt : dt.size ≤ 1048576) : ∃ M z1 z2 z3 z4 z5 zc, M.length ≤ 1048576 ∧
    (∀ w g, FL w (some ⟨g, 0, none⟩) L.length (nthF L) → Calls Try.prog 28 #[.agg #[.slice (some ⟨g, 0, none⟩) L.length L.length, .int .i64 x1, .int .i64 x2, .int .i64 x3, .int .i64 x4, .bool x5], .agg #[.int .i64 kd, .string nm, .string dt, .int .i64 sz]] w (RS M z1 z2 z3 z4 z5 zc w)) ∧
    (∀ w g, FL w (some ⟨g, 0, none⟩) L.length (nthF L) → Calls Try.prog 30 #[.agg #[.slice (some ⟨g, 0, none⟩) L.length L.length, .int .i64 x1, .int .i64 x2, .int .i64 x3, .int .i64 x4, .bool x5], .agg #[.int .i64 kd, .string nm, .string dt, .int .i64 sz]] w (RS M z1 z2 z3 z4 z5 zc w)) := by
  rcases hno : (okFs L.length (nthF L) x1 x2 x3 x4 && btw kd 1 5 && okFn nm)
  · refine ⟨[], 0, 0, 0, 0, false, 16, by simp, fun w g h => (sStepBad _ _ _ _ x1 x2 x3 x4 x5 kd nm dt sz w h hsm hnm hno).mono ?_, fun w g h => (iStepBad _ _ _ _ x1 x2 x3 x4 x5 kd nm dt sz w h hsm hnm hno).mono ?_⟩
    all_goals
      rintro e w' ⟨rfl, hb⟩
      exact ⟨none, 0, rfl, ⟨rfl, Or.inl ⟨rfl, rfl⟩⟩, hb⟩
  · have hno' := hno
    simp only [Bool.and_eq_true] at hno'
    obtain ⟨⟨ho, hk⟩, hf⟩ := hno'
    have ho' := ho
    unfold okFs at ho'
    simp only [Bool.and_eq_true, decide_eq_true_eq] at ho'
    obtain ⟨⟨⟨⟨⟨⟨hn3, hc1⟩, hc2⟩, hall⟩, hx2⟩, _⟩, _⟩ := ho'
    unfold btw at hk hc1 hx2
    simp only [Bool.and_eq_true, decide_eq_true_eq] at hk hc1 hx2
    have hall' := fun k hk => allN_get hall k hk
    simp only [Bool.and_eq_true] at hall'
    have hs : Srt L := srt_of (fun k hk => (hall' k hk).2)
    have hz : ∀ s : ByteArray, okFn s = true → s.size ≠ 0 := fun s h => by
      unfold okFn btw at h
      simp only [Bool.and_eq_true, decide_eq_true_eq] at h
      omega
    have hne : ∀ g ∈ L, g.s ≠ ⟨#[]⟩ := fun g hg e => by
      obtain ⟨k, hk, rfl⟩ := List.getElem_of_mem hg
      have h1 := (hall' k hk).1
      unfold okFl at h1
      simp only [Bool.and_eq_true] at h1
      refine hz _ h1.1 ?_
      rw [nthF_at L k hk, e]
      rfl
    have hF : Fit L x1 kd nm dt := ⟨hsm, hk.1, hk.2, hz nm hf, hnm, hdt, hc2, hc1.2⟩
    obtain ⟨r, hr⟩ := fd_there L nm
    have hlen := stS_len L x1 x2 x3 x4 x5 kd nm dt sz r
    obtain ⟨⟨M, z2, z5, zc⟩, hS⟩ : ∃ S, stS L x1 x2 x3 x4 x5 kd nm dt sz r = S := ⟨_, rfl⟩
    refine ⟨M, x1, z2, x3, x4, z5, zc, by rw [hS] at hlen; simp at hlen; omega, fun w g h => (sStep g 0 L.length L.length L rfl x1 x2 x3 x4 x5 kd nm dt sz r w h hF hr ho (by unfold btw; simp; omega) hf hx2.1 hx2.2).mono ?_, fun w g h => (iFsStep g 0 L.length L.length L rfl x1 x2 x3 x4 x5 kd nm dt sz r w h hF hr ho hf hs hne hn3 hx2.1 hx2.2).mono ?_⟩
    all_goals
      rw [hS]
      rintro e w' ⟨v, rfl, hO, hb⟩
      obtain ⟨av, cv, rfl⟩ := own_slice hO.f
      exact ⟨av, cv, rfl, hO.f, hb⟩
set_option maxRecDepth 20000 in
set_option maxHeartbeats 2000000 in
theorem szOp (kd : Int) (nm dt : ByteArray) (sz : Int) (w : World) (L : Int) (h0 : 0 ≤ L) (h1 : L ≤ 1048576) (hs : nm.size ≤ 9223372036854775807) (hd : dt.size ≤ 9223372036854775807) :
    Calls Try.prog 27 #[.agg #[.int .i64 kd, .string nm, .string dt, .int .i64 sz], .int .i64 L] w fun e w' => Below w.heap.size w w' ∧ ∃ r : Int, e = .returned (.int .i64 r) ∧ (0 ≤ r → r = L - nm.size - dt.size) := by
  go_enter Try.func27, Try.ntmps27
  by_cases hneg : (0 : Int) ≤ L - nm.size
  · by_cases hneg2 : (0 : Int) ≤ L - nm.size - dt.size
    · go_wp2
      go_ret
      exact ⟨bal _ _, _, rfl, fun _ => rfl⟩
    · go_wp2
      go_ret
      exact ⟨bal _ _, -1, rfl, fun hh => by omega⟩
  · go_wp2
    go_ret
    exact ⟨bal _ _, -1, rfl, fun hh => by omega⟩
end Go.Proofs.Ytdbcihebhgpblaa
