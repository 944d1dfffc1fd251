/-
  Statements as bytes: what an accepted statement's parts measure, and what its bytes are.
-/
import Derived.Test.YtfodndnkhgijmaaDoorEd
import Derived.Test.YtfodndnkhgijmaaDoorNn
import Derived.Test.YtfodndnkhgijmaaDoorNl
namespace Go.Proofs.YtfodndnkhgijmaaDoor
open Go.RowKit
theorem okName_len {s : ByteArray} (h : okName s = true) : s.size ≤ 30 := by simp [okName, okWord] at h; omega
theorem okText_len {s : ByteArray} (h : okText s = true) : s.size ≤ 200 := by simp [okText] at h; omega
theorem okItem_len {o m : Int} {s : ByteArray} (h : okItem o m s = true) : s.size ≤ 200 := by
  simp only [okItem, Bool.or_eq_true, Bool.and_eq_true, decide_eq_true_eq] at h
  rcases h with ((⟨-, h⟩ | ⟨-, h⟩) | ⟨-, h⟩) | ⟨-, h⟩
  · omega
  · exact okText_len h
  · have := okName_len h; omega
  · omega
theorem okValue_len {o m : Int} {s : ByteArray} (h : okValue o m s = true) : s.size ≤ 200 := by
  simp only [okValue, Bool.or_eq_true, Bool.and_eq_true, decide_eq_true_eq] at h
  rcases h with ⟨-, h⟩ | ⟨-, h⟩
  · omega
  · exact okText_len h
theorem ex_ok {I : Nat → Itm} : ∀ {n : Nat} {d : Int}, ex I n = some d → ∀ j, j < n → (I j).s.size ≤ 200 := by
  intro n
  induction n with
  | zero => intro d _ j hj; omega
  | succ n ih =>
    intro d h j hj
    rw [ex] at h
    split at h
    · cases h
    · rename_i x hx
      split at h
      · rename_i hc
        by_cases e : j = n
        · subst e; exact okItem_len hc.1
        · exact ih hx j (by omega)
      · cases h
theorem okExp_len {I : Nat → Itm} {n : Nat} (h : okExp I n = true) : n ≤ 100 ∧ ∀ j, j < n → (I j).s.size ≤ 200 := by
  simp only [okExp, Bool.and_eq_true, decide_eq_true_eq] at h
  refine ⟨?_, ex_ok h.2⟩
  have := h.1
  simp [btw] at this
  omega
theorem okWhere_len {I : Nat → Itm} {n : Nat} (h : okWhere I n = true) : n ≤ 100 ∧ ∀ j, j < n → (I j).s.size ≤ 200 := by
  simp only [okWhere, Bool.or_eq_true, decide_eq_true_eq] at h
  rcases h with rfl | h
  · exact ⟨by omega, fun j hj => by omega⟩
  · exact okExp_len h
theorem btw_len {n : Nat} (h : btw n 1 20 = true) : n ≤ 20 := by simp [btw] at h; omega
theorem allN_at {n : Nat} {p : Nat → Bool} (h : allN n p = true) : ∀ j, j < n → p j = true := by
  unfold allN at h
  rw [List.all_eq_true] at h
  exact fun j hj => h j (List.mem_range.2 hj)
theorem okStm_tb {D : St} (h : okStm D = true) : D.tb.size ≤ 30 := by
  simp only [okStm, Bool.and_eq_true] at h
  exact okName_len h.1.1.1
theorem okStm_k {D : St} (h : okStm D = true) : D.k = 1 ∨ D.k = 2 ∨ D.k = 3 ∨ D.k = 4 ∨ D.k = 5 := by
  by_cases e1 : D.k = 1
  · exact .inl e1
  by_cases e2 : D.k = 2
  · exact .inr (.inl e2)
  by_cases e3 : D.k = 3
  · exact .inr (.inr (.inl e3))
  by_cases e4 : D.k = 4
  · exact .inr (.inr (.inr (.inl e4)))
  by_cases e5 : D.k = 5
  · exact .inr (.inr (.inr (.inr e5)))
  rw [stm0 D e1 e2 e3 e4 e5] at h
  cases h
theorem ok1 {D : St} (h : okStm D = true) (e : D.k = 1) : D.n2 ≤ 20 ∧ ∀ j, j < D.n2 → (D.C j).s.size ≤ 30 := by
  rw [stm1 D e] at h
  simp only [Bool.and_eq_true] at h
  refine ⟨btw_len h.2.2.1, fun j hj => ?_⟩
  have := allN_at h.2.2.2 j hj
  simp only [okCol, Bool.and_eq_true] at this
  exact okName_len this.1
theorem ok2 {D : St} (h : okStm D = true) (e : D.k = 2) : D.n3 ≤ 20 ∧ ∀ j, j < D.n3 → (D.V j).s.size ≤ 200 := by
  rw [stm2 D e] at h
  simp only [Bool.and_eq_true] at h
  exact ⟨btw_len h.2.2.1, fun j hj => okValue_len (allN_at h.2.2.2 j hj)⟩
theorem ok3 {D : St} (h : okStm D = true) (e : D.k = 3) : D.col.size ≤ 30 ∧ (D.n5 ≤ 100 ∧ ∀ j, j < D.n5 → (D.E j).s.size ≤ 200) ∧ (D.n6 ≤ 100 ∧ ∀ j, j < D.n6 → (D.W j).s.size ≤ 200) := by
  rw [stm3 D e] at h
  simp only [Bool.and_eq_true] at h
  exact ⟨okName_len h.2.2.1.1, okExp_len h.2.2.1.2, okWhere_len h.2.2.2⟩
theorem ok4 {D : St} (h : okStm D = true) (e : D.k = 4) : D.n6 ≤ 100 ∧ ∀ j, j < D.n6 → (D.W j).s.size ≤ 200 := by
  rw [stm4 D e] at h
  simp only [Bool.and_eq_true] at h
  exact okWhere_len h.2.2
theorem ok5 {D : St} (h : okStm D = true) (e : D.k = 5) : D.n7 ≤ 20 ∧ (∀ j, j < D.n7 → D.m7 j ≤ 100 ∧ ∀ q, q < D.m7 j → (D.O j q).s.size ≤ 200) ∧ (D.n6 ≤ 100 ∧ ∀ j, j < D.n6 → (D.W j).s.size ≤ 200) := by
  rw [stm5 D e] at h
  simp only [Bool.and_eq_true] at h
  exact ⟨btw_len h.2.2.1.1, fun j hj => okExp_len (allN_at h.2.2.1.2 j hj), okWhere_len h.2.2.2⟩
/-- A statement's bytes. -/
def tailL (d : St) : List UInt8 :=
  if d.k = 1 then numI 1 d.n2 ++ listB (fun j => colB (d.C j)) d.n2
  else if d.k = 2 then numI 1 d.n3 ++ listB (fun j => valB (d.V j)) d.n3
  else if d.k = 3 then s8 d.col ++ expB d.E d.n5 ++ expB d.W d.n6
  else if d.k = 4 then expB d.W d.n6
  else (numI 1 d.n7 ++ listB (fun j => expB (d.O j) (d.m7 j)) d.n7) ++ expB d.W d.n6
def encL (d : St) : List UInt8 := numI 1 d.k ++ s8 d.tb ++ tailL d
/-- What is written. -/
def encS (d : St) : ByteArray := if okStm d = true then (if 60000 < (bs (encL d)).size then ⟨#[]⟩ else bs (encL d)) else ⟨#[]⟩
theorem enc_no {d : St} (h : okStm d = false) : encS d = ⟨#[]⟩ := by simp [encS, h]
theorem enc_big {d : St} {s : ByteArray} (h : okStm d = true) (e : s = bs (encL d)) (hs : 60000 < s.size) : encS d = ⟨#[]⟩ := by subst e; simp [encS, h, hs]
theorem enc_yes {d : St} {s : ByteArray} (h : okStm d = true) (e : s = bs (encL d)) (hs : ¬ 60000 < s.size) : encS d = s := by subst e; simp [encS, h, hs]
theorem iStmD (k : Int) (tb : ByteArray) (n2 : Nat) (C : Nat → Clm) (n3 : Nat) (V : Nat → Itm) (col : ByteArray) (n5 : Nat) (E : Nat → Itm) (n6 : Nat) (W : Nat → Itm) (n7 : Nat) (m7 : Nat → Nat) (O : Nat → Nat → Itm)
    (a2 : Option Addr) (c2 : Nat) (a3 : Option Addr) (c3 : Nat) (a5 : Option Addr) (c5 : Nat) (a6 : Option Addr) (c6 : Nat) (a7 : Option Addr) (c7 : Nat) (D : St) (hD : Hid ((⟨k, tb, n2, C, n3, V, col, n5, E, n6, W, n7, m7, O⟩ : St) = D))
    (w : World) (h : SM w ⟨k, tb, n2, C, n3, V, col, n5, E, n6, W, n7, m7, O⟩ ⟨a2, c2, a3, c3, a5, c5, a6, c6, a7, c7⟩) (hT : SpT w) :
    Calls Tryd.prog 14 #[.agg #[.int .i64 k, .string tb, .slice a2 n2 c2, .slice a3 n3 c3, .string col, .slice a5 n5 c5, .slice a6 n6 c6, .slice a7 n7 c7]] w fun e w' => e = .returned (.bool (okStm D)) ∧ Below w.heap.size w w' := by
  rw [← hD.out]
  exact iStm ⟨k, tb, n2, C, n3, V, col, n5, E, n6, W, n7, m7, O⟩ ⟨a2, c2, a3, c3, a5, c5, a6, c6, a7, c7⟩ w h hT
theorem sStmD (k : Int) (tb : ByteArray) (n2 : Nat) (C : Nat → Clm) (n3 : Nat) (V : Nat → Itm) (col : ByteArray) (n5 : Nat) (E : Nat → Itm) (n6 : Nat) (W : Nat → Itm) (n7 : Nat) (m7 : Nat → Nat) (O : Nat → Nat → Itm)
    (a2 : Option Addr) (c2 : Nat) (a3 : Option Addr) (c3 : Nat) (a5 : Option Addr) (c5 : Nat) (a6 : Option Addr) (c6 : Nat) (a7 : Option Addr) (c7 : Nat) (D : St) (hD : Hid ((⟨k, tb, n2, C, n3, V, col, n5, E, n6, W, n7, m7, O⟩ : St) = D))
    (w : World) (h : SM w ⟨k, tb, n2, C, n3, V, col, n5, E, n6, W, n7, m7, O⟩ ⟨a2, c2, a3, c3, a5, c5, a6, c6, a7, c7⟩) :
    Calls Tryd.prog 12 #[.agg #[.int .i64 k, .string tb, .slice a2 n2 c2, .slice a3 n3 c3, .string col, .slice a5 n5 c5, .slice a6 n6 c6, .slice a7 n7 c7]] w fun e w' => e = .returned (.bool (okStm D)) ∧ Below w.heap.size w w' := by
  rw [← hD.out]
  exact sStm ⟨k, tb, n2, C, n3, V, col, n5, E, n6, W, n7, m7, O⟩ ⟨a2, c2, a3, c3, a5, c5, a6, c6, a7, c7⟩ w h
end Go.Proofs.YtfodndnkhgijmaaDoor
