/-
  SelectRows: what the law does with the answer.
-/
import Derived.Test.YtgeiamgeclbiaaaGreatDoorWi
namespace Go.Proofs.YtgeiamgeclbiaaaGreatDoor
open Go.RowKit Go.Maps Go.WideMaps
set_option maxRecDepth 20000 in
set_option maxHeartbeats 2000000 in
theorem szDb' (a : Option Addr) (n c : Nat) (T : Nat → Td) (w : World) (h : TX w a n T) :
    Calls Tryz.prog 5 #[.agg #[.slice a n c], .int .i64 1048576] w fun e w' => Below w.heap.size w w' ∧ ∃ r : Int, e = .returned (.int .i64 r) ∧ r ≤ 1048576 ∧ (0 ≤ r → n ≤ 1048576 ∧ ∀ k, k < n → Sm3 (T k)) := by
  have hb0 := bal w (.cells #[.slice a n c] 24)
  have H0 := h.later hb0
  go_enter Tryz.func5, Tryz.ntmps5
  go_wp2_with (go_at_call 21; refine (szTabs _ _ _ _ _ H0 _ (by omega) (by omega)).mono ?_; rintro e w1 ⟨hb1, r1, rfl, hr1, hs1⟩; replace hb1 := bstep hb0 hb1; by_cases hp1 : (0 : Int) ≤ r1)
  all_goals go_ret
  · exact ⟨hb1, r1, rfl, hr1, hs1⟩
  · exact ⟨hb1, -1, rfl, by omega, fun hh => by omega⟩
set_option maxRecDepth 20000 in
set_option maxHeartbeats 4000000 in
theorem szStm' (d : St) (p : Sa) (w : World) (h : SX w d p) (L : Int) (h0 : 0 ≤ L) (h1 : L ≤ 1048576) : Calls Tryz.prog 6 #[.agg (cs8 d p), .int .i64 L] w fun e w' => Below w.heap.size w w' ∧ ∃ r : Int, e = .returned (.int .i64 r) ∧ (0 ≤ r → Sm8 d) := by
  have hb0 := bal w (.cells (cs8 d p) 30)
  have H0 := h.later hb0
  have Q0 := B8.new w d p 30
  obtain ⟨htb, hcol, -, -, -, -, -⟩ := id h
  obtain ⟨q0, q1, q2, q3, q4, q5, q6, q7⟩ := id Q0
  by_cases ht : (0 : Int) ≤ L - d.tb.size
  · go_enter Tryz.func6, Tryz.ntmps6
    go_wp2_with (first | (go_at_call 25; refine (szOuts _ _ _ _ _ _ H4.ou _ hp4 hr4).mono ?_; rintro e w5 ⟨hb5, r5, rfl, hr5, hs5⟩; have H5 := H4.later hb5; have Q5 := Q4.later hb5; obtain ⟨z0_5, z1_5, z2_5, z3_5, z4_5, z5_5, z6_5, z7_5⟩ := id Q5; replace hb5 := bstep hb4 hb5; by_cases hp5 : (0 : Int) ≤ r5) | (go_at_call 24; have _h := hs3; refine (szItms _ _ _ _ _ H3.wh _ hp3 hr3).mono ?_; rintro e w4 ⟨hb4, r4, rfl, hr4, hs4⟩; have H4 := H3.later hb4; have Q4 := Q3.later hb4; obtain ⟨z0_4, z1_4, z2_4, z3_4, z4_4, z5_4, z6_4, z7_4⟩ := id Q4; replace hb4 := bstep hb3 hb4; by_cases hp4 : (0 : Int) ≤ r4) | (go_at_call 24; refine (szItms _ _ _ _ _ H2.ex _ (by omega) (by omega)).mono ?_; rintro e w3 ⟨hb3, r3, rfl, hr3, hs3⟩; have H3 := H2.later hb3; have Q3 := Q2.later hb3; obtain ⟨z0_3, z1_3, z2_3, z3_3, z4_3, z5_3, z6_3, z7_3⟩ := id Q3; replace hb3 := bstep hb2 hb3; by_cases hp3 : (0 : Int) ≤ r3) | (go_at_call 23; refine (szVals _ _ _ _ _ H1.va _ hp1 hr1).mono ?_; rintro e w2 ⟨hb2, r2, rfl, hr2, hs2⟩; have H2 := H1.later hb2; have Q2 := Q1.later hb2; obtain ⟨z0_2, z1_2, z2_2, z3_2, z4_2, z5_2, z6_2, z7_2⟩ := id Q2; replace hb2 := bstep hb1 hb2; by_cases hp2 : (0 : Int) ≤ r2) | (go_at_call 22; refine (szCols _ _ _ _ _ H0.co _ (by omega) (by omega)).mono ?_; rintro e w1 ⟨hb1, r1, rfl, hr1, hs1⟩; have H1 := H0.later hb1; have Q1 := Q0.later hb1; obtain ⟨z0_1, z1_1, z2_1, z3_1, z4_1, z5_1, z6_1, z7_1⟩ := id Q1; replace hb1 := bstep hb0 hb1; by_cases hp1 : (0 : Int) ≤ r1))
    all_goals go_ret
    · exact ⟨hb2, -1, rfl, fun hh => by omega⟩
    · exact ⟨hb5, r5, rfl, fun _ => ⟨by omega, by omega, hs1 hp1, hs2 hp2, hs3 hp3, hs4 hp4, hs5 hp5⟩⟩
    · exact ⟨hb5, -1, rfl, fun hh => by omega⟩
    · exact ⟨hb4, -1, rfl, fun hh => by omega⟩
    · exact ⟨hb3, -1, rfl, fun hh => by omega⟩
    · exact ⟨hb2, -1, rfl, fun hh => by omega⟩
    · exact ⟨hb1, -1, rfl, fun hh => by omega⟩
  · go_enter Tryz.func6, Tryz.ntmps6
    go_wp2
    go_ret
    exact ⟨hb0, -1, rfl, fun hh => by omega⟩
end Go.Proofs.YtgeiamgeclbiaaaGreatDoor
namespace Go.Proofs.YtgeiamgeclbiaaaGreatDoor
open Go.RowKit Go.Maps Go.WideMaps
theorem selA_len (n : Nat) (T : Nat → Td) (D : St) : (selA n T D).1.length ≤ 1000000 := by
  by_cases hk : D.k = 5
  · by_cases h : (apA n T D).2 = 0
    · obtain ⟨j, e1, -, ok, -⟩ := sel_ok hk h
      unfold selA
      rw [if_neg (by simpa using hk), if_neg (by simpa using h), e1]
      simp only
      split
      · simp
      · have h1 := seS_len (C := (T j).C) (n := (T j).n) (R := (T j).R) (W := D.W) (n6 := D.n6) (m7 := D.m7) (O := D.O) (n7 := D.n7) (k := (T j).r)
        have h2 := (okTd_nice ok).r1
        simp only
        omega
    · unfold selA
      rw [if_neg (by simpa using hk), if_pos h]
      simp
  · unfold selA
    rw [if_pos hk]
    simp
theorem OD.mk {lo hi : Nat} {D : Nat → Prop} {w w' : World} {a : Option Addr} {A : List Rw} (h : OD D w a A) (k : Mk lo hi w w') (hD : ∀ b, D b → b < lo ∨ hi ≤ b) : OD D w' a A := fun j hj => by
  obtain ⟨b, off, i, c, e, hd, c0, hl⟩ := h j hj
  exact ⟨b, off, i, c, e, hd, (World.cell?_of_block (k.out _ (World.block_lt_of_cell? w _ c0) (hD _ hd))).trans c0, hl.step fun a v hx hc => (World.cell?_of_block (k.out _ (World.block_lt_of_cell? w _ hc) (hD _ hx))).trans hc⟩
theorem Apt.mk {lo hi lo' : Nat} {w w' : World} {a : Option Addr} {A : List Rw} (h : Apt lo' w a A) (k : Mk lo hi w w') (hh : hi ≤ lo') : Apt lo' w' a A := by
  rcases h with h | ⟨gg, cur, B, C, e1, e2, e3, e4, e5, e6, e7⟩
  · exact Or.inl h
  · refine Or.inr ⟨gg, cur, B, C, e1, e2, k.row e3 (Or.inr (by omega)), e4, fun i hi => ?_, e6, e7⟩
    rcases e5 i hi with h | ⟨g, c, q1, q2, q3, q4, q5⟩
    · exact Or.inl h
    · exact Or.inr ⟨g, c, q1, q2, Nat.lt_of_lt_of_le q3 k.size, k.row q4 (Or.inr (by omega)), q5⟩
theorem sm_mul {M : Nat → Nat} {b : Nat} : ∀ {n : Nat}, (∀ i, i < n → M i ≤ b) → sm M n ≤ n * b
  | 0, _ => by simp [sm]
  | n + 1, h => by
    have h1 := sm_mul (M := M) (b := b) (n := n) (fun i hi => h i (by omega))
    have h2 := h n (by omega)
    rw [sm_succ, Nat.add_mul]
    omega
/-- How many marks an answer bears. -/
def tG (A : List Rw) : Nat := 1 + 3 * sm (fun i => (A.getD i r0).1) A.length
theorem OD.wid {D : Nat → Prop} {w : World} {a : Option Addr} {A : List Rw} (h : OD D w a A) : ∀ i, i < A.length → (A.getD i r0).1 ≤ 1048576 := fun i hi => by
  obtain ⟨b, off, i', c, e, hd, c0, hl⟩ := h i hi
  obtain ⟨_, _, _, _, h2⟩ := hl.now
  exact h2
/-- The marks lie in the answer. -/
def Md (w : World) (a : Option Addr) (A : List Rw) : Prop := A.length = 0 ∨ ∃ (gg : Nat) (cur : Array Value) (B C : Nat → Nat), a = some ⟨gg, 0, none⟩ ∧ w.heap[gg]? = some (.cells cur 41 (0, 0)) ∧ (∀ i, i < A.length → cur[i]? = some (.slice (some ⟨B i, 0, none⟩) (A.getD i r0).1 (C i))) ∧ ∀ i, i < A.length → M3 w 66 (some ⟨B i, 0, none⟩) (A.getD i r0).1 (1 + 3 * sm (fun i => (A.getD i r0).1) i)
theorem markGot (lo : Nat) (a : Option Addr) (c : Nat) (A : List Rw) (w : World) (h : Apt lo w a A) (hlo : lo ≤ w.heap.size) (hl : A.length ≤ 1000000) (hm : ∀ i, i < A.length → (A.getD i r0).1 ≤ 1048576) :
    Calls Tryz.prog 16 #[.slice a A.length c, .int .i64 1] w fun e w' => ∃ K : Int, e = .returned (.int .i64 K) ∧ Hid (K = ((tG A : Nat) : Int)) ∧ Md w' a A ∧ Below lo w w' := by
  have hs := sm_mul (n := A.length) hm
  rcases h with h | ⟨gg, cur, B, C, rfl, e2, e3, e4, e5, e6, e7⟩
  · rw [h]
    refine (markVss0 a c 1 w).mono ?_
    rintro e w' ⟨rfl, rfl⟩
    exact ⟨1, rfl, (show (1 : Int) = _ by unfold tG; rw [h]; rfl), Or.inl h, Below.refl _ _⟩
  · refine (markVss lo w.heap.size gg A.length c 1 1 rfl cur (fun i => some ⟨B i, 0, none⟩) C (fun i => (A.getD i r0).1) w e3 e4 e5 (fun i hi e => ?_) (fun i k hk hi => Dj.of (by have := e7 i k hk hi; omega)) (by omega) (by omega) (by omega)).mono ?_
    · unfold bk at e
      split at e
      · cases e
      · have : B i = gg := Option.some.inj e
        exact e6 i hi this
    · rintro e w' ⟨K, rfl, hK, h1, h2, h3⟩
      refine ⟨K, rfl, hK, Or.inr ⟨gg, cur, B, C, rfl, h1, e4, h2⟩, h3.os, h3.tape, h3.output, h3.size, fun x hx => h3.block x (by omega) (fun i hi e => ?_)⟩
      rcases e5 i hi with q | ⟨g, cc, q1, q2, -⟩
      · unfold bk at e
        rw [if_pos q] at e
        cases e
      · have hg : B i = g := by simpa using q1
        unfold bk at e
        split at e
        · cases e
        · have : B i = x := Option.some.inj e
          omega
theorem heldGot (a : Option Addr) (c : Nat) (A : List Rw) (w : World) (h : Md w a A) (hl : A.length ≤ 1000000) (hm : ∀ i, i < A.length → (A.getD i r0).1 ≤ 1048576) :
    Calls Tryz.prog 17 #[.slice a A.length c, .int .i64 1] w fun e w' => ∃ K : Int, e = .returned (.int .i64 K) ∧ Hid (K = ((tG A : Nat) : Int)) ∧ Below w.heap.size w w' := by
  have hs := sm_mul (n := A.length) hm
  rcases h with h | ⟨gg, cur, B, C, rfl, e3, e4, e5⟩
  · rw [h]
    refine (heldVss0 a c 1 w).mono ?_
    rintro e w' ⟨rfl, rfl⟩
    exact ⟨1, rfl, (show (1 : Int) = _ by unfold tG; rw [h]; rfl), Below.refl _ _⟩
  · exact heldVss gg A.length c 1 1 rfl cur (fun i => some ⟨B i, 0, none⟩) C (fun i => (A.getD i r0).1) w e3 e4 e5 (by omega) (by omega) (by omega)
theorem below_mk {B lo hi : Nat} {w a b : World} (h : Below B w a) (k : Mk lo hi a b) (h1 : B ≤ lo) (h2 : B ≤ w.heap.size) : Below B w b :=
  ⟨k.os.trans h.os, k.tape.trans h.tape, k.output.trans h.output, Nat.le_trans h.size k.size, fun x hx => (k.out x (by have := h.size; omega) (Or.inl (by omega))).trans (h.block x hx)⟩
theorem specSel (n : Nat) (T : Nat → Td) (d : St) (hn : n ≤ 1048576) (g : Nat) (q : Sa) (W : World) (hT : TN W g n T) (hM : SM W d q) (hc : d.n2 ≤ q.c2) : Calls Tryz.prog 7 #[.agg #[.slice (some ⟨g, 0, none⟩) n n], .agg (cs8 d q)] W (RAns W (selA n T d).1 (selA n T d).2) :=
  sSelect g n n T d.k d.tb q.a2 d.n2 q.c2 q.a3 d.n3 q.c3 d.col q.a5 d.n5 q.c5 q.a6 d.n6 q.c6 q.a7 d.n7 q.c7 d.C d.V d.E d.W d.m7 d.O d rfl W hT hM hn hc
theorem implSel (n : Nat) (T : Nat → Td) (d : St) (hn : n ≤ 1048576) (g : Nat) (q : Sa) (W : World) (hSp : SpT W) (hT : TL W (some ⟨g, 0, none⟩) n T) (hM : SM W d q) : Calls Tryz.prog 10 #[.agg #[.slice (some ⟨g, 0, none⟩) n n], .agg (cs8 d q)] W (RApt W (selA n T d).1 (selA n T d).2) :=
  iSelect (some ⟨g, 0, none⟩) n n T d.k d.tb q.a2 d.n2 q.c2 q.a3 d.n3 q.c3 d.col q.a5 d.n5 q.c5 q.a6 d.n6 q.c6 q.a7 d.n7 q.c7 d.C d.V d.E d.W d.m7 d.O d rfl W hSp hT hM hn
end Go.Proofs.YtgeiamgeclbiaaaGreatDoor
