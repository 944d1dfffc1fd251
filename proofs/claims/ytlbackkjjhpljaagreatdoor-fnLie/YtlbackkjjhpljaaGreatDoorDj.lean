/-
  CollideProof: the specification's answer.
-/
import Derived.Test.YtlbackkjjhpljaaGreatDoorDe
import Derived.Test.YtlbackkjjhpljaaGreatDoorDc
import Derived.Test.YtlbackkjjhpljaaGreatDoorSb
namespace Go.Proofs.YtlbackkjjhpljaaGreatDoor
open Go.RowKit
/-- The first two texts that differ in the comparison of two lists of one length. -/
def cmq (k : Int) : Nat → (Nat → ByteArray) → (Nat → ByteArray) → Nat → Option (ByteArray × ByteArray)
  | 0, A, B, n => if ∀ j, j < n → A j = B j then none else some (zero1 (A 0), zero1 (B 0))
  | f + 1, A, B, n =>
    if ∀ j, j < n → A j = B j then none
    else if n = 1 then some (zero1 (A 0), zero1 (B 0))
    else if ins k A n (spl n) = ins k B n (spl n) then
      (if (cmq k f A B (spl n)).isSome = true then cmq k f A B (spl n) else cmq k f (fun j => A (spl n + j)) (fun j => B (spl n + j)) (n - spl n))
    else some (ins k A n (spl n), ins k B n (spl n))
theorem cmp_cmq (k : Int) (f : Nat) : ∀ (A B : Nat → ByteArray) (n : Nat), cmp k f A B n = (ofq k (cmq k f A B n), (cmq k f A B n).isSome) := by
  induction f with
  | zero =>
    intro A B n
    rw [cmp, cmq]
    split <;> rfl
  | succ f ih =>
    intro A B n
    rw [cmp, cmq]
    split
    · rfl
    · split
      · rfl
      · split
        · rw [ih A B (spl n), ih _ _ (n - spl n)]
          by_cases h : (cmq k f A B (spl n)).isSome = true
          · rw [if_pos h, if_pos h, h]
          · rw [if_neg h, if_neg h]
        · rfl
theorem ins_size (k : Int) (L : Nat → ByteArray) (n s : Nat) : (ins k L n s).size ≤ 65 := by
  unfold ins
  rw [one1_size]
  have h1 := rt_size k s L s
  have h2 := rt_size k (n - s) (fun j => L (s + j)) (n - s)
  unfold RT
  omega
/-- A pair of texts that are not too long. -/
def Short (o : Option (ByteArray × ByteArray)) : Prop := ∀ x y, o = some (x, y) → x.size ≤ 8388608 ∧ y.size ≤ 8388608
theorem Short.none : Short none := fun _ _ h => by cases h
theorem Short.pair {x y : ByteArray} (hx : x.size ≤ 8388608) (hy : y.size ≤ 8388608) : Short (some (x, y)) := fun u v h => by
  obtain ⟨rfl, rfl⟩ := Prod.mk.inj (Option.some.inj h)
  exact ⟨hx, hy⟩
theorem cmq_size (k : Int) (f : Nat) : ∀ (A B : Nat → ByteArray) (n : Nat), f ≤ 40 → 1 ≤ n → n ≤ 2 ^ f → (∀ j, j < n → (A j).size ≤ 1048576) → (∀ j, j < n → (B j).size ≤ 1048576) → Short (cmq k f A B n) := by
  have leaf : ∀ (A B : Nat → ByteArray), (A 0).size ≤ 1048576 → (B 0).size ≤ 1048576 → Short (some (zero1 (A 0), zero1 (B 0))) := fun A B ha hb => Short.pair (by rw [zero1_size]; omega) (by rw [zero1_size]; omega)
  induction f with
  | zero =>
    intro A B n _ h1 hf hA hB
    rw [cmq]
    split
    · exact Short.none
    · exact leaf A B (hA 0 (by omega)) (hB 0 (by omega))
  | succ f ih =>
    intro A B n h40 h1 hf hA hB
    have hcap := cap40 h40 hf
    rw [cmq]
    split
    · exact Short.none
    · split
      · exact leaf A B (hA 0 (by omega)) (hB 0 (by omega))
      · rename_i hn
        have hs := spl_in n (by omega) hcap
        have hh := spl_half f n (by omega) hcap hf
        split
        · split
          · exact ih A B (spl n) (by omega) (by omega) hh (fun j hj => hA j (by omega)) (fun j hj => hB j (by omega))
          · exact ih _ _ (n - spl n) (by omega) (by omega) (by omega) (fun j hj => hA (spl n + j) (by omega)) (fun j hj => hB (spl n + j) (by omega))
        · have := ins_size k A n (spl n)
          have := ins_size k B n (spl n)
          exact Short.pair (by omega) (by omega)
/-- The first two texts that differ, for a proof. -/
def stq (k : Int) (O : ByteArray) (S : Nat → ByteArray) : Nat → (Nat → ByteArray) → (Nat → ByteArray) → Nat → Nat → Nat → Bool → Option (ByteArray × ByteArray)
  | 0, A, B, _, n, _, _ => cmq k 0 A B n
  | f + 1, A, B, m, n, q, b =>
    if m = n then cmq k (f + 1) A B n
    else if m ≤ spl n then
      (if one1 (cq k O S f m (spl n) (q - 1) b).2 (S (q - 1)) = ins k B n (spl n) then stq k O S f A B m (spl n) (q - 1) b
      else some (one1 (cq k O S f m (spl n) (q - 1) b).2 (S (q - 1)), ins k B n (spl n)))
    else
      (if one1 (S (q - 1)) (cq k O S f (m - spl n) (n - spl n) (q - 1) false).1 = ins k A m (spl n) then
        (if one1 (S (q - 1)) (cq k O S f (m - spl n) (n - spl n) (q - 1) false).2 = ins k B n (spl n) then
          (if (cmq k f A B (spl n)).isSome = true then cmq k f A B (spl n) else stq k O S f (fun j => A (spl n + j)) (fun j => B (spl n + j)) (m - spl n) (n - spl n) (q - 1) false)
        else some (one1 (S (q - 1)) (cq k O S f (m - spl n) (n - spl n) (q - 1) false).2, ins k B n (spl n)))
      else some (one1 (S (q - 1)) (cq k O S f (m - spl n) (n - spl n) (q - 1) false).1, ins k A m (spl n)))
theorem stp_stq (k : Int) (O : ByteArray) (S : Nat → ByteArray) (f : Nat) : ∀ (A B : Nat → ByteArray) (m n q : Nat) (b : Bool), stp k O S f A B m n q b = ofq k (stq k O S f A B m n q b) := by
  induction f with
  | zero =>
    intro A B m n q b
    rw [stp, stq, cmp_cmq]
  | succ f ih =>
    intro A B m n q b
    rw [stp, stq]
    split
    · rw [cmp_cmq]
    · split
      · split
        · exact ih _ _ _ _ _ _
        · rfl
      · split
        · split
          · rw [cmp_cmq]
            by_cases h : (cmq k f A B (spl n)).isSome = true
            · rw [if_pos h, if_pos h]
            · rw [if_neg h, if_neg h]
              exact ih _ _ _ _ _ _
          · rfl
        · rfl
theorem stq_size (k : Int) (O : ByteArray) (S : Nat → ByteArray) (hO : O.size ≤ 2097152) (f : Nat) : ∀ (A B : Nat → ByteArray) (m n q : Nat) (b : Bool), f ≤ 40 → 1 ≤ m → m ≤ n → n ≤ 2 ^ f → q = ql f m n b → (∀ j, j < m → (A j).size ≤ 1048576) → (∀ j, j < n → (B j).size ≤ 1048576) → (∀ j, j < q → (S j).size ≤ 2097152) → Short (stq k O S f A B m n q b) := by
  induction f with
  | zero =>
    intro A B m n q b h40 h1 hmn hf hq hA hB hS
    rw [stq]
    obtain rfl : n = 1 := by simp at hf; omega
    exact cmq_size k 0 A B 1 h40 (by omega) hf (fun j hj => hA j (by omega)) hB
  | succ f ih =>
    intro A B m n q b h40 h1 hmn hf hq hA hB hS
    have hcap := cap40 h40 hf
    rw [stq]
    split
    · rename_i e
      subst e
      exact cmq_size k (f + 1) A B m h40 h1 hf hA hB
    · rename_i hn
      have hs := spl_in n (by omega) hcap
      have hh := spl_half f n (by omega) hcap hf
      rw [ql, if_neg hn] at hq
      split
      · rename_i hlt
        rw [if_pos hlt] at hq
        split
        · exact ih A B m (spl n) (q - 1) b (by omega) h1 hlt hh (by omega) hA (fun j hj => hB j (by omega)) (fun j hj => hS j (by omega))
        · have e1 := (cq_le k O S hO f m (spl n) (q - 1) b h1 hlt hh (by omega) (by omega) (fun j hj => hS j (by omega))).2
          have e2 := hS (q - 1) (by omega)
          have e3 := ins_size k B n (spl n)
          exact Short.pair (by rw [one1_size]; omega) (by omega)
      · rename_i hlt
        rw [if_neg hlt] at hq
        have e1 := cq_le k O S hO f (m - spl n) (n - spl n) (q - 1) false (by omega) (by omega) (by omega) (by omega) (by omega) (fun j hj => hS j (by omega))
        have e2 := hS (q - 1) (by omega)
        have e3 := ins_size k B n (spl n)
        have e4 := ins_size k A m (spl n)
        split
        · split
          · split
            · exact cmq_size k f A B (spl n) (by omega) (by omega) hh (fun j hj => hA j (by omega)) (fun j hj => hB j (by omega))
            · exact ih _ _ (m - spl n) (n - spl n) (q - 1) false (by omega) (by omega) (by omega) (by omega) (by omega) (fun j hj => hA (spl n + j) (by omega)) (fun j hj => hB (spl n + j) (by omega)) (fun j hj => hS j (by omega))
          · exact Short.pair (by rw [one1_size]; omega) (by omega)
        · exact Short.pair (by rw [one1_size]; omega) (by omega)
end Go.Proofs.YtlbackkjjhpljaaGreatDoor
namespace Go.Proofs.YtlbackkjjhpljaaGreatDoor
open Go.RowKit
/-- The first j entries of two lists are the same. -/
def eqB (A B : Nat → ByteArray) (j : Nat) : Bool := decide (∀ x, x < j → A x = B x)
theorem eqB_zero (A B : Nat → ByteArray) : eqB A B 0 = true := dT fun x hx => absurd hx (Nat.not_lt_zero x)
theorem eqB_succ (A B : Nat → ByteArray) (j : Nat) : eqB A B (j + 1) = (eqB A B j && decide (A j = B j)) := by
  unfold eqB
  by_cases h : A j = B j
  · rw [dT h, Bool.and_true]
    congr 1
    refine propext ⟨fun g x hx => g x (by omega), fun g x hx => ?_⟩
    by_cases e : x = j
    · subst e; exact h
    · exact g x (by omega)
  · rw [dF h, Bool.and_false]
    exact dF fun g => h (g j (by omega))
theorem ite_eqB {α : Type} (A B : Nat → ByteArray) (n : Nat) (x y : α) : (if ∀ j, j < n → A j = B j then x else y) = if eqB A B n = true then x else y := by
  by_cases h : ∀ j, j < n → A j = B j
  · rw [if_pos h, if_pos (show eqB A B n = true from dT h)]
  · rw [if_neg h, if_neg (show ¬ eqB A B n = true from fun g => h (oT g))]
theorem eqB_no {A B : Nat → ByteArray} {j : Nat} (h : eqB A B j = false) : ¬ ∀ x, x < j → A x = B x := of_decide_eq_false h
theorem eqB_yes {A B : Nat → ByteArray} {j : Nat} (h : eqB A B j = true) : ∀ x, x < j → A x = B x := oT h
theorem B3.drewN {w : World} {g : Nat} {x y z : Value} (h : B3 w g x y z) (q : Nat) : B3 (w.drewN q) g x y z := h.later (bdrew (Below.refl _ _) q)
theorem B3.set {w : World} {g : Nat} {x y z : Value} (h : B3 w g x y z) (x' y' z' : Value) : B3 (((w.setCell ⟨g, 0, none⟩ x').setCell ⟨g, 1, none⟩ y').setCell ⟨g, 2, none⟩ z') g x' y' z' := by
  obtain ⟨r0, r1, r2⟩ := triple_set w g _ _ _ x' y' z' h
  exact ⟨r0, r1, r2, by simpa using h.f0, by simpa using h.f1, by simpa using h.f2⟩
theorem B3.far3 {w : World} {g : Nat} {x y z : Value} (h : B3 w g x y z) (G : Nat) (hG : G ≠ g) (x' y' z' : Value) : B3 (((w.setCell ⟨G, 0, none⟩ x').setCell ⟨G, 1, none⟩ y').setCell ⟨G, 2, none⟩ z') g x y z :=
  ((h.far _ hG _).far _ hG _).far _ hG _
set_option maxRecDepth 20000 in
set_option maxHeartbeats 4000000 in
theorem specCompare_one (k : Int) (A B : Nat → ByteArray) (a b : Option Addr) (c d : Nat) (w : World) (p : Pr) (t : Bool) (h : Sl w a 1 A) (hsz : (A 0).size ≤ 1048576) (h' : Sl w b 1 B) (hsz' : (B 0).size ≤ 1048576)
    (hr : (if eqB A B 1 = true then (noPr, false) else (cand k (zero1 (A 0)) (zero1 (B 0)), true)) = (p, t)) :
    Calls Tryz.prog 66 #[.int .i64 k, .slice a 1 c, .slice b 1 d] w fun e w' => e = .returned (.tuple #[.agg #[.bool p.f, .string p.x, .string p.y], .bool t]) ∧ Below w.heap.size w w' := by
  have hb0 := below1 w (.cells #[.bool false, .string (⟨#[]⟩ : ByteArray), .string ⟨#[]⟩] 25)
  have q0 := B3.new w (.bool false) (.string (⟨#[]⟩ : ByteArray)) (.string ⟨#[]⟩) 25
  have h0 := h
  have h0' := h'
  go_enter Tryz.func66, Tryz.ntmps66
  go_wp2
  go_loopw [8, 17] (fun s i wr => ∃ j q : Nat, j ≤ 1 ∧ i = .int .i64 j ∧ s = .bool (eqB A B j) ∧ wr = World.drewN (w.alloc (.cells #[.bool false, .string (⟨#[]⟩ : ByteArray), .string ⟨#[]⟩] 25)) q) (fun _ i _ => 1 - (intOf i).toNat)
  case atStart => exact ⟨0, 0, by omega, rfl, by rw [eqB_zero], rfl⟩
  case round =>
    obtain ⟨j, q, hj, rfl, rfl, hwr⟩ := hrel
    have HR : Hid (wr = World.drewN (w.alloc (.cells #[.bool false, .string (⟨#[]⟩ : ByteArray), .string ⟨#[]⟩] 25)) q) := hwr
    by_cases hlt : j < 1
    · have hkk : (j : Int) < (1 : Nat) := by omega
      obtain ⟨P, off, rfl, hc1⟩ := ((h.later hb0).drew q).at j hlt
      obtain ⟨P', off', rfl, hc2⟩ := ((h'.later hb0).drew q).at j hlt
      rw [← hwr] at hc1 hc2
      clear hwr
      obtain ⟨x, hx⟩ : ∃ x, A j = x := ⟨_, rfl⟩
      obtain ⟨y, hy⟩ : ∃ y, B j = y := ⟨_, rfl⟩
      have HS : Hid (eqB A B (j + 1) = (eqB A B j && decide (x = y))) := by rw [← hx, ← hy]; exact eqB_succ A B j
      rw [hx] at hc1
      rw [hy] at hc2
      clear hx hy
      obtain ⟨s0, hs0⟩ : ∃ s, eqB A B j = s := ⟨_, rfl⟩
      rw [hs0] at HS ⊢
      clear hs0
      cases s0
      · go_wp2
        go_quiet (fail)
        go_wp2
        go_roundw
        case rel => exact ⟨j + 1, q + nq, by omega, by go_num, by rw [HS.out]; rfl, by rw [HR.out]; simp⟩
        case measure => simp [intOf]; omega
      · by_cases e : x = y
        · have te : (x.toList == y.toList) = true := by rw [bytes_eq]; exact dT e
          have HE : Hid (x = y) := e
          clear e
          go_wp2
          go_quiet (fail)
          go_wp2
          go_roundw
          case rel => exact ⟨j + 1, q + nq, by omega, by go_num, by rw [HS.out, dT HE.out]; rfl, by rw [HR.out]; simp⟩
          case measure => simp [intOf]; omega
        · have te : (x.toList == y.toList) = false := by rw [bytes_eq]; exact dF e
          have HE : Hid (¬ x = y) := e
          clear e
          go_wp2
          go_quiet (fail)
          go_wp2
          go_roundw
          case rel => exact ⟨j + 1, q + nq, by omega, by go_num, by rw [HS.out, dF HE.out]; rfl, by rw [HR.out]; simp⟩
          case measure => simp [intOf]; omega
    · have hjn : 1 = j := by omega
      subst hjn
      clear hlt
      have hbr : Below w.heap.size w wr := by rw [hwr]; exact bdrew hb0 q
      have qr : B3 wr w.heap.size (.bool false) (.string ⟨#[]⟩) (.string ⟨#[]⟩) := by rw [hwr]; exact q0.drewN q
      have hA := h.later hbr
      have hB := h'.later hbr
      clear hwr HR hj h h' hb0 q0
      obtain ⟨s0, hs0⟩ : ∃ s, eqB A B 1 = s := ⟨_, rfl⟩
      rw [hs0]
      cases s0
      · rw [if_neg (by rw [hs0]; simp)] at hr
        obtain ⟨hp, rfl⟩ : cand k (zero1 (A 0)) (zero1 (B 0)) = p ∧ true = t := by simpa using hr
        obtain ⟨X, hX⟩ : ∃ x, A 0 = x := ⟨_, rfl⟩
        obtain ⟨Y, hY⟩ : ∃ x, B 0 = x := ⟨_, rfl⟩
        obtain ⟨U, hUe⟩ : ∃ U, (⟨#[0]⟩ : ByteArray) ++ X = U := ⟨_, rfl⟩
        obtain ⟨V, hVe⟩ : ∃ U, (⟨#[0]⟩ : ByteArray) ++ Y = U := ⟨_, rfl⟩
        rw [hX, hY] at hp
        rw [hX] at hsz
        rw [hY] at hsz'
        have j1 : 1 + X.size ≤ 9223372036854775807 := by omega
        have j2 : 1 + Y.size ≤ 9223372036854775807 := by omega
        have hU : U.size ≤ 8388608 := by rw [← hUe, size1]; omega
        have hV : V.size ≤ 8388608 := by rw [← hVe, size1]; omega
        have HP : Hid (cand k U V = p) := by show cand k U V = p; rw [← hUe, ← hVe]; exact hp
        clear hp hr
        go_wp2
        obtain ⟨P, off, rfl, hc1⟩ := hA.drew1.at 0 (by omega)
        obtain ⟨P', off', rfl, hc2⟩ := hB.drew1.at 0 (by omega)
        rw [Nat.add_zero, hX] at hc1
        rw [Nat.add_zero, hY] at hc2
        have hbd : Below w.heap.size w wr.drew := bdrew hbr 1
        have qd := qr.drewN 1
        have n1 : w.heap.size ≠ P := by obtain ⟨_, _, e, g⟩ := h0.at 0 (by omega); cases e; exact Nat.ne_of_gt (World.block_lt_of_cell? _ _ g)
        have n2 : w.heap.size ≠ P' := by obtain ⟨_, _, e, g⟩ := h0'.at 0 (by omega); cases e; exact Nat.ne_of_gt (World.block_lt_of_cell? _ _ g)
        clear hX hY
        refine wp_region_held_drew (S := fun w' => w'.cell? ⟨P, off, none⟩ = some (.string X) ∧ w'.cell? ⟨P', off', none⟩ = some (.string Y)) (by kernel_rfl) ⟨hc1, hc2⟩ (fun _ => ?_)
        refine wpAnyH_take (i := 0) (oi := ({ dst := some 38, op := Op.move (Operand.tmp 0), type := 3, pos := "l3_verify.go:151", after := #[], guard := none } : Oper)) (v := .int .i64 k) rfl (by kernel_rfl) (by kernel_rfl) (by kernel_rfl) (fun _ _ _ h => h) (Or.inl ⟨by rfl, fun w hSw => by go_simp⟩) ⟨hc1, hc2⟩ ?_
        simp only [Act.put, List.setIfInBounds_toArray, List.set_cons_zero, List.set_cons_succ]
        refine wpAnyH_take (i := 1) (oi := ({ dst := some 39, op := Op.move (Operand.tmp 1), type := 22, pos := "l3_verify.go:151", after := #[], guard := none } : Oper)) (v := .slice (some ⟨P, off, none⟩) 1 c) rfl (by kernel_rfl) (by kernel_rfl) (by kernel_rfl) (fun _ _ _ h => h) (Or.inl ⟨by rfl, fun w hSw => by go_simp⟩) ⟨hc1, hc2⟩ ?_
        simp only [Act.put, List.setIfInBounds_toArray, List.set_cons_zero, List.set_cons_succ]
        refine wpAnyH_take (i := 2) (oi := ({ dst := some 40, op := Op.indexAddr 22 (Operand.tmp 39) (Operand.const (Value.int IntKind.i64 0)), type := 0, pos := "l3_verify.go:151", after := #[{ on := 1, ground := Ground.data }], guard := none } : Oper)) (v := .pointer (some ⟨P, off, none⟩)) rfl (by kernel_rfl) (by kernel_rfl) (by kernel_rfl) (fun _ _ _ h => h) (Or.inl ⟨by rfl, fun w hSw => by go_simp⟩) ⟨hc1, hc2⟩ ?_
        simp only [Act.put, List.setIfInBounds_toArray, List.set_cons_zero, List.set_cons_succ]
        refine wpAnyH_take (i := 3) (oi := ({ dst := some 41, op := Op.load 9 (Operand.tmp 40), type := 9, pos := "l3_verify.go:151", after := #[{ on := 2, ground := Ground.data }], guard := none } : Oper)) (v := .string X) rfl (by kernel_rfl) (by kernel_rfl) (by kernel_rfl) (fun _ _ _ h => h) (Or.inl ⟨by rfl, fun w hSw => by obtain ⟨hs0, hs1⟩ := hSw; go_simp⟩) ⟨hc1, hc2⟩ ?_
        simp only [Act.put, List.setIfInBounds_toArray, List.set_cons_zero, List.set_cons_succ]
        refine wpAnyH_take (i := 4) (oi := ({ dst := some 42, op := Op.binOp BinOp.add 9 (Operand.const (Value.string { data := #[0] })) (Operand.tmp 41) 9, type := 9, pos := "l3_verify.go:151", after := #[{ on := 3, ground := Ground.data }], guard := none } : Oper)) (v := .string U) rfl (by kernel_rfl) (by kernel_rfl) (by kernel_rfl) (fun _ _ _ h => h) (Or.inl ⟨by rfl, fun w hSw => by go_simp⟩) ⟨hc1, hc2⟩ ?_
        simp only [Act.put, List.setIfInBounds_toArray, List.set_cons_zero, List.set_cons_succ]
        refine wpAnyH_take (i := 5) (oi := ({ dst := some 43, op := Op.move (Operand.tmp 2), type := 22, pos := "l3_verify.go:151", after := #[], guard := none } : Oper)) (v := .slice (some ⟨P', off', none⟩) 1 d) rfl (by kernel_rfl) (by kernel_rfl) (by kernel_rfl) (fun _ _ _ h => h) (Or.inl ⟨by rfl, fun w hSw => by go_simp⟩) ⟨hc1, hc2⟩ ?_
        simp only [Act.put, List.setIfInBounds_toArray, List.set_cons_zero, List.set_cons_succ]
        refine wpAnyH_take (i := 6) (oi := ({ dst := some 44, op := Op.indexAddr 22 (Operand.tmp 43) (Operand.const (Value.int IntKind.i64 0)), type := 0, pos := "l3_verify.go:151", after := #[{ on := 5, ground := Ground.data }], guard := none } : Oper)) (v := .pointer (some ⟨P', off', none⟩)) rfl (by kernel_rfl) (by kernel_rfl) (by kernel_rfl) (fun _ _ _ h => h) (Or.inl ⟨by rfl, fun w hSw => by go_simp⟩) ⟨hc1, hc2⟩ ?_
        simp only [Act.put, List.setIfInBounds_toArray, List.set_cons_zero, List.set_cons_succ]
        refine wpAnyH_take (i := 7) (oi := ({ dst := some 45, op := Op.load 9 (Operand.tmp 44), type := 9, pos := "l3_verify.go:151", after := #[{ on := 6, ground := Ground.data }], guard := none } : Oper)) (v := .string Y) rfl (by kernel_rfl) (by kernel_rfl) (by kernel_rfl) (fun _ _ _ h => h) (Or.inl ⟨by rfl, fun w hSw => by obtain ⟨hs0, hs1⟩ := hSw; go_simp⟩) ⟨hc1, hc2⟩ ?_
        simp only [Act.put, List.setIfInBounds_toArray, List.set_cons_zero, List.set_cons_succ]
        refine wpAnyH_take (i := 8) (oi := ({ dst := some 46, op := Op.binOp BinOp.add 9 (Operand.const (Value.string { data := #[0] })) (Operand.tmp 45) 9, type := 9, pos := "l3_verify.go:151", after := #[{ on := 7, ground := Ground.data }], guard := none } : Oper)) (v := .string V) rfl (by kernel_rfl) (by kernel_rfl) (by kernel_rfl) (fun _ _ _ h => h) (Or.inl ⟨by rfl, fun w hSw => by go_simp⟩) ⟨hc1, hc2⟩ ?_
        simp only [Act.put, List.setIfInBounds_toArray, List.set_cons_zero, List.set_cons_succ]
        refine wpAnyH_ready (rs := [9]) (by kernel_rfl) (by simp) ?_
        refine AllReadyH.cons (o := ({ dst := some 47, op := Op.call { callee := Callee.value (Operand.func 53), args := #[Operand.tmp 38, Operand.tmp 42, Operand.tmp 46], argTypes := #[3, 9, 9] }, type := 25, pos := "l3_verify.go:151", after := #[{ on := 0, ground := Ground.data }, { on := 4, ground := Ground.data }, { on := 8, ground := Ground.data }], guard := none } : Oper)) rfl (fun K hK => ?_) AllReadyH.nil
        go_simp
        refine (specCand_any k U V _ hU hV p HP.out).mono ?_
        rintro e w1 ⟨rfl, hb1⟩
        refine hK.out _ _ ⟨keep hb1 hc1, keep hb1 hc2⟩ (fun _ => ?_)
        clear hK K
        have q1 := qd.later hb1
        obtain ⟨c0, c1, c2, f0, f1, f2⟩ := id q1
        have e1 := keep hb1 hc1
        have e2 := keep hb1 hc2
        refine wpAnyH_ready (rs := [10]) (by kernel_rfl) (by simp) ?_
        refine AllReadyH.cons (o := ({ dst := none, op := Op.store 25 (Operand.tmp 6) (Operand.tmp 47), type := 0, pos := "l3_verify.go:151", after := #[{ on := 9, ground := Ground.data }, { on := 9, ground := Ground.chain }, { on := 0, ground := Ground.phase }, { on := 1, ground := Ground.phase }, { on := 2, ground := Ground.phase }, { on := 3, ground := Ground.phase }, { on := 4, ground := Ground.phase }, { on := 5, ground := Ground.phase }, { on := 6, ground := Ground.phase }, { on := 7, ground := Ground.phase }, { on := 8, ground := Ground.phase }, { on := 9, ground := Ground.phase }], guard := none } : Oper)) rfl (fun K hK => ?_) AllReadyH.nil
        go_simp
        refine hK.out _ _ ⟨(World.cell?_setCell_far _ _ _ _ n1).trans ((World.cell?_setCell_far _ _ _ _ n1).trans ((World.cell?_setCell_far _ _ _ _ n1).trans e1)), (World.cell?_setCell_far _ _ _ _ n2).trans ((World.cell?_setCell_far _ _ _ _ n2).trans ((World.cell?_setCell_far _ _ _ _ n2).trans e2))⟩ (fun _ => ?_)
        clear hK K
        have e3 : World.cell? _ ⟨P, off, none⟩ = some (.string X) := (World.cell?_setCell_far (((w1.setCell ⟨w.heap.size, 0, none⟩ (.bool p.f)).setCell ⟨w.heap.size, 1, none⟩ (.string p.x))) ⟨w.heap.size, 2, none⟩ ⟨P, off, none⟩ (.string p.y) n1).trans ((World.cell?_setCell_far _ _ _ _ n1).trans ((World.cell?_setCell_far _ _ _ _ n1).trans e1))
        have e4 : World.cell? _ ⟨P', off', none⟩ = some (.string Y) := (World.cell?_setCell_far (((w1.setCell ⟨w.heap.size, 0, none⟩ (.bool p.f)).setCell ⟨w.heap.size, 1, none⟩ (.string p.x))) ⟨w.heap.size, 2, none⟩ ⟨P', off', none⟩ (.string p.y) n2).trans ((World.cell?_setCell_far _ _ _ _ n2).trans ((World.cell?_setCell_far _ _ _ _ n2).trans e2))
        refine wpAnyH_take (i := 11) (oi := ({ dst := some 7, op := Op.assign (Operand.const (Value.bool true)), type := 4, pos := "l3_verify.go:151", after := #[{ on := 10, ground := Ground.chain }, { on := 0, ground := Ground.phase }, { on := 1, ground := Ground.phase }, { on := 2, ground := Ground.phase }, { on := 3, ground := Ground.phase }, { on := 4, ground := Ground.phase }, { on := 5, ground := Ground.phase }, { on := 6, ground := Ground.phase }, { on := 7, ground := Ground.phase }, { on := 8, ground := Ground.phase }, { on := 9, ground := Ground.phase }, { on := 10, ground := Ground.phase }], guard := none } : Oper)) (v := .bool true) rfl (by kernel_rfl) (by kernel_rfl) (by kernel_rfl) (fun _ _ _ h => h) (Or.inl ⟨by rfl, fun w hSw => by go_simp⟩) ⟨e3, e4⟩ ?_
        simp only [Act.put, List.setIfInBounds_toArray, List.set_cons_zero, List.set_cons_succ]
        refine wpAnyH_done (by kernel_rfl) ?_ _
        go_wp2
        obtain ⟨r0, r1, r2⟩ := triple_set w1 _ _ _ _ (.bool p.f) (.string p.x) (.string p.y) q1
        exact bodyPost_ret (v := .tuple #[.agg #[.bool p.f, .string p.x, .string p.y], .bool true]) (by simp [results, Tryz.results66, go_sem, r0, r1, r2]) rfl ⟨rfl, below3s (hbd.trans (hb1.mono hbd.size)) (Nat.le_refl _) _ _ _⟩
      · rw [if_pos hs0] at hr
        obtain ⟨rfl, rfl⟩ : noPr = p ∧ false = t := by simpa using hr
        obtain ⟨c0, c1, c2, f0, f1, f2⟩ := id qr
        go_wp2
        obtain ⟨r0, r1, r2⟩ := triple_set wr _ _ _ _ (.bool false) (.string (⟨#[]⟩ : ByteArray)) (.string ⟨#[]⟩) qr
        exact bodyPost_ret (v := .tuple #[.agg #[.bool false, .string ⟨#[]⟩, .string ⟨#[]⟩], .bool false]) (by simp [results, Tryz.results66, go_sem, r0, r1, r2]) rfl ⟨rfl, below3s hbr (Nat.le_refl _) _ _ _⟩
end Go.Proofs.YtlbackkjjhpljaaGreatDoor
namespace Go.Proofs.YtlbackkjjhpljaaGreatDoor
open Go.RowKit
theorem bdrewS (w : World) : Below w.heap.size w w.drew := bdrew (Below.refl _ _) 1
set_option maxRecDepth 20000 in
set_option maxHeartbeats 4000000 in
theorem specCompare_as (k : Int) (f : Nat) : ∀ (A B : Nat → ByteArray) (n : Nat) (a b : Option Addr) (c d : Nat) (w : World) (p : Pr) (t : Bool), f ≤ 31 → 1 ≤ n → n ≤ 2 ^ f → n ≤ 1048576 → Sl w a n A → n ≤ c → (∀ j, j < n → (A j).size ≤ 1048576) → Sl w b n B → n ≤ d → (∀ j, j < n → (B j).size ≤ 1048576) → cmp k f A B n = (p, t) →
    Calls Tryz.prog 66 #[.int .i64 k, .slice a n c, .slice b n d] w fun e w' => e = .returned (.tuple #[.agg #[.bool p.f, .string p.x, .string p.y], .bool t]) ∧ Below w.heap.size w w' := by
  induction f with
  | zero =>
    intro A B n a b c d w p t _ h1 hf hn20 h hc hsz h' hd hsz' hr
    obtain rfl : n = 1 := by simp at hf; omega
    rw [cmp, ite_eqB] at hr
    exact specCompare_one k A B a b c d w p t h (hsz 0 (by omega)) h' (hsz' 0 (by omega)) hr
  | succ f ih =>
    intro A B n a b c d w p t h31 h1 hf hn20 h hc hsz h' hd hsz' hr
    have hcap := cap40 (by omega) hf
    rw [cmp, ite_eqB] at hr
    by_cases hn : n = 1
    · subst hn
      rw [if_pos rfl] at hr
      exact specCompare_one k A B a b c d w p t h (hsz 0 (by omega)) h' (hsz' 0 (by omega)) hr
    have hs := spl_in n (by omega) hcap
    have hh := spl_half f n (by omega) hcap hf
    obtain ⟨s, hsn⟩ : ∃ s, spl n = s := ⟨_, rfl⟩
    have HSP : Hid (spl n = s) := hsn
    rw [if_neg hn, hsn] at hr
    rw [hsn] at hs hh
    obtain ⟨hs1, hs2, hs3⟩ := hs
    have HF : Hid (s ≤ 2 ^ f) := hh
    have m1 : ¬ (n : Int) = 1 := by omega
    have hsz4 : ∀ j, j < n → (A j).size ≤ 4194304 := fun j hj => by have := hsz j hj; omega
    have hsz4' : ∀ j, j < n → (B j).size ≤ 4194304 := fun j hj => by have := hsz' j hj; omega
    obtain ⟨X, hX⟩ : ∃ X, ins k A n s = X := ⟨_, rfl⟩
    obtain ⟨Y, hY⟩ : ∃ Y, ins k B n s = Y := ⟨_, rfl⟩
    have HX : Hid (one1 (RT k A s) (RT k (fun j => A (s + j)) (n - s)) = X) := hX
    have HY : Hid (one1 (RT k B s) (RT k (fun j => B (s + j)) (n - s)) = Y) := hY
    have hXs : X.size ≤ 8388608 := by have := ins_size k A n s; rw [hX] at this; omega
    have hYs : Y.size ≤ 8388608 := by have := ins_size k B n s; rw [hY] at this; omega
    rw [hX, hY] at hr
    obtain ⟨⟨p1, t1⟩, hl⟩ : ∃ v, cmp k f A B s = v := ⟨_, rfl⟩
    have HL : Hid (cmp k f A B s = (p1, t1)) := hl
    rw [hl] at hr
    clear hf hh hsn hX hY hl
    have i0 : (0 : Int) ≤ (s : Int) := by omega
    have i1 : (s : Int) ≤ (n : Int) := by omega
    have i2 : (s : Int) ≤ (c : Int) := by omega
    have i2' : (s : Int) ≤ (d : Int) := by omega
    have i3 : (n : Int) ≤ (c : Int) := by omega
    have i3' : (n : Int) ≤ (d : Int) := by omega
    have i6 : ¬ c = s := by omega
    have i6' : ¬ d = s := by omega
    have i7 : ¬ n = s := by omega
    have h0 := h
    have h0' := h'
    have HRR : Hid ((if eqB A B n = true then (noPr, false) else if X = Y then (if t1 = true then (p1, true) else cmp k f (fun j => A (s + j)) (fun j => B (s + j)) (n - s)) else (cand k X Y, true)) = (p, t)) := hr
    clear hr
    have hb0 := below1 w (.cells #[.bool false, .string (⟨#[]⟩ : ByteArray), .string ⟨#[]⟩] 25)
    have q0 := B3.new w (.bool false) (.string (⟨#[]⟩ : ByteArray)) (.string ⟨#[]⟩) 25
    go_enter Tryz.func66, Tryz.ntmps66
    go_wp2
    go_loopw [8, 17] (fun s i wr => ∃ j q : Nat, j ≤ n ∧ i = .int .i64 j ∧ s = .bool (eqB A B j) ∧ wr = World.drewN (w.alloc (.cells #[.bool false, .string (⟨#[]⟩ : ByteArray), .string ⟨#[]⟩] 25)) q) (fun _ i _ => n - (intOf i).toNat)
    case atStart => exact ⟨0, 0, by omega, rfl, by rw [eqB_zero], rfl⟩
    case round =>
      obtain ⟨j, q, hj, rfl, rfl, hwr⟩ := hrel
      have HR : Hid (wr = World.drewN (w.alloc (.cells #[.bool false, .string (⟨#[]⟩ : ByteArray), .string ⟨#[]⟩] 25)) q) := hwr
      by_cases hlt : j < n
      · have hkk : (j : Int) < (n : Nat) := by omega
        obtain ⟨P, off, rfl, hc1⟩ := ((h.later hb0).drew q).at j hlt
        obtain ⟨P', off', rfl, hc2⟩ := ((h'.later hb0).drew q).at j hlt
        rw [← hwr] at hc1 hc2
        clear hwr
        obtain ⟨x, hx⟩ : ∃ x, A j = x := ⟨_, rfl⟩
        obtain ⟨y, hy⟩ : ∃ y, B j = y := ⟨_, rfl⟩
        have HS : Hid (eqB A B (j + 1) = (eqB A B j && decide (x = y))) := by rw [← hx, ← hy]; exact eqB_succ A B j
        rw [hx] at hc1
        rw [hy] at hc2
        clear hx hy
        obtain ⟨s0, hs0⟩ : ∃ s, eqB A B j = s := ⟨_, rfl⟩
        rw [hs0] at HS ⊢
        clear hs0
        cases s0
        · go_wp2
          go_quiet (fail)
          go_wp2
          go_roundw
          case rel => exact ⟨j + 1, q + nq, by omega, by go_num, by rw [HS.out]; rfl, by rw [HR.out]; simp⟩
          case measure => simp [intOf]; omega
        · by_cases e : x = y
          · have te : (x.toList == y.toList) = true := by rw [bytes_eq]; exact dT e
            have HE : Hid (x = y) := e
            clear e
            go_wp2
            go_quiet (fail)
            go_wp2
            go_roundw
            case rel => exact ⟨j + 1, q + nq, by omega, by go_num, by rw [HS.out, dT HE.out]; rfl, by rw [HR.out]; simp⟩
            case measure => simp [intOf]; omega
          · have te : (x.toList == y.toList) = false := by rw [bytes_eq]; exact dF e
            have HE : Hid (¬ x = y) := e
            clear e
            go_wp2
            go_quiet (fail)
            go_wp2
            go_roundw
            case rel => exact ⟨j + 1, q + nq, by omega, by go_num, by rw [HS.out, dF HE.out]; rfl, by rw [HR.out]; simp⟩
            case measure => simp [intOf]; omega
      · have hjn : n = j := by omega
        subst hjn
        clear hlt
        have hbr : Below w.heap.size w wr := by rw [hwr]; exact bdrew hb0 q
        have qr : B3 wr w.heap.size (.bool false) (.string ⟨#[]⟩) (.string ⟨#[]⟩) := by rw [hwr]; exact q0.drewN q
        have hA := h.later hbr
        have hB := h'.later hbr
        clear hwr HR hj h h' hb0 q0
        obtain ⟨s0, hs0⟩ : ∃ s, eqB A B n = s := ⟨_, rfl⟩
        have hr := HRR.out
        rw [hs0] at hr ⊢
        clear hs0 HRR
        cases s0
        · rw [if_neg (by simp)] at hr
          by_cases e : X = Y
          · have te : (X.toList == Y.toList) = true := by rw [bytes_eq]; exact dT e
            rw [if_pos e] at hr
            clear e
            cases t1
            · rw [if_neg (by simp)] at hr
              have HE : Hid (cmp k f (fun j => A (s + j)) (fun j => B (s + j)) (n - s) = (p, t)) := hr
              clear hr
              go_wp2_with (first | (go_at_call 38; refine (l2Split_as n _ _ (by rfl) hcap s HSP.out).mono ?_; rintro e w' ⟨rfl, rfl⟩) | (go_at_call 54; have _h := hb1; refine (specInside_any k n s B _ d _ _ (by rfl) hs2 hB1 hd hn20 hsz4' Y HY.out).mono ?_; rintro e w2 ⟨rfl, hb2⟩; have q2 := q1.later hb2; have hA2 := hA1.later hb2; have hB2 := hB1.later hb2) | (go_at_call 54; refine (specInside_any k n s A _ c _ _ (by rfl) hs2 hA hc hn20 hsz4 X HX.out).mono ?_; rintro e w1 ⟨rfl, hb1⟩; have q1 := qr.later hb1; have hA1 := hA.later hb1; have hB1 := hB.later hb1))
              obtain ⟨P, off, rfl, hc00⟩ := h0.at 0 (by omega)
              obtain ⟨P', off', rfl, hc00'⟩ := h0'.at 0 (by omega)
              have hbx : Below w.heap.size w w2 := (hbr.trans (hb1.mono hbr.size)).trans (hb2.mono (Nat.le_trans hbr.size hb1.size))
              clear hc00 hc00' te
              refine wp_region_held_drew (S := fun _ => True) (by kernel_rfl) trivial (fun _ => ?_)
              refine wpAnyH_take (i := 0) (oi := ({ dst := some 67, op := Op.move (Operand.tmp 0), type := 3, pos := "l3_verify.go:159", after := #[], guard := none } : Oper)) (v := .int .i64 k) rfl (by kernel_rfl) (by kernel_rfl) (by kernel_rfl) (fun _ _ _ h => h) (Or.inl ⟨by rfl, fun w hSw => by go_simp⟩) trivial ?_
              simp only [Act.put, List.setIfInBounds_toArray, List.set_cons_zero, List.set_cons_succ]
              refine wpAnyH_take (i := 1) (oi := ({ dst := some 68, op := Op.move (Operand.tmp 1), type := 22, pos := "l3_verify.go:159", after := #[], guard := none } : Oper)) (v := .slice (some ⟨P, off, none⟩) n c) rfl (by kernel_rfl) (by kernel_rfl) (by kernel_rfl) (fun _ _ _ h => h) (Or.inl ⟨by rfl, fun w hSw => by go_simp⟩) trivial ?_
              simp only [Act.put, List.setIfInBounds_toArray, List.set_cons_zero, List.set_cons_succ]
              refine wpAnyH_take (i := 2) (oi := ({ dst := some 69, op := Op.move (Operand.tmp 10), type := 3, pos := "l3_verify.go:159", after := #[], guard := none } : Oper)) (v := .int .i64 (s : Int)) rfl (by kernel_rfl) (by kernel_rfl) (by kernel_rfl) (fun _ _ _ h => h) (Or.inl ⟨by rfl, fun w hSw => by go_simp⟩) trivial ?_
              simp only [Act.put, List.setIfInBounds_toArray, List.set_cons_zero, List.set_cons_succ]
              refine wpAnyH_take (i := 3) (oi := ({ dst := some 70, op := Op.slice 22 (Operand.tmp 68) none (some (Operand.tmp 69)) none, type := 22, pos := "l3_verify.go:159", after := #[{ on := 1, ground := Ground.data }, { on := 2, ground := Ground.data }], guard := none } : Oper)) (v := .slice (some ⟨P, off, none⟩) s c) rfl (by kernel_rfl) (by kernel_rfl) (by kernel_rfl) (fun _ _ _ h => h) (Or.inl ⟨by rfl, fun w hSw => by go_simp⟩) trivial ?_
              simp only [Act.put, List.setIfInBounds_toArray, List.set_cons_zero, List.set_cons_succ]
              refine wpAnyH_take (i := 4) (oi := ({ dst := some 71, op := Op.move (Operand.tmp 2), type := 22, pos := "l3_verify.go:159", after := #[], guard := none } : Oper)) (v := .slice (some ⟨P', off', none⟩) n d) rfl (by kernel_rfl) (by kernel_rfl) (by kernel_rfl) (fun _ _ _ h => h) (Or.inl ⟨by rfl, fun w hSw => by go_simp⟩) trivial ?_
              simp only [Act.put, List.setIfInBounds_toArray, List.set_cons_zero, List.set_cons_succ]
              refine wpAnyH_take (i := 5) (oi := ({ dst := some 72, op := Op.move (Operand.tmp 10), type := 3, pos := "l3_verify.go:159", after := #[], guard := none } : Oper)) (v := .int .i64 (s : Int)) rfl (by kernel_rfl) (by kernel_rfl) (by kernel_rfl) (fun _ _ _ h => h) (Or.inl ⟨by rfl, fun w hSw => by go_simp⟩) trivial ?_
              simp only [Act.put, List.setIfInBounds_toArray, List.set_cons_zero, List.set_cons_succ]
              refine wpAnyH_take (i := 6) (oi := ({ dst := some 73, op := Op.slice 22 (Operand.tmp 71) none (some (Operand.tmp 72)) none, type := 22, pos := "l3_verify.go:159", after := #[{ on := 4, ground := Ground.data }, { on := 5, ground := Ground.data }], guard := none } : Oper)) (v := .slice (some ⟨P', off', none⟩) s d) rfl (by kernel_rfl) (by kernel_rfl) (by kernel_rfl) (fun _ _ _ h => h) (Or.inl ⟨by rfl, fun w hSw => by go_simp⟩) trivial ?_
              simp only [Act.put, List.setIfInBounds_toArray, List.set_cons_zero, List.set_cons_succ]
              refine wpAnyH_ready (rs := [7, 11]) (by kernel_rfl) (by simp) ?_
              refine AllReadyH.cons (o := ({ dst := some 74, op := Op.call { callee := Callee.value (Operand.func 66), args := #[Operand.tmp 67, Operand.tmp 70, Operand.tmp 73], argTypes := #[3, 22, 22] }, type := 94, pos := "l3_verify.go:159", after := #[{ on := 0, ground := Ground.data }, { on := 3, ground := Ground.data }, { on := 6, ground := Ground.data }], guard := none } : Oper)) rfl (fun K hK => ?_) (AllReadyH.cons (o := ({ dst := some 13, op := Op.alloc 25, type := 0, pos := "l3_verify.go:159", after := #[], guard := none } : Oper)) rfl (fun K hK => ?_) AllReadyH.nil)
              · go_simp
                refine (ih A B s (some ⟨P, off, none⟩) (some ⟨P', off', none⟩) c d _ p1 false (by omega) (by omega) HF.out (by omega) (hA2.drew1.left s (by omega)) (by omega) (fun j hj => hsz j (by omega)) (hB2.drew1.left s (by omega)) (by omega) (fun j hj => hsz' j (by omega)) HL.out).mono ?_
                rintro e w3 ⟨rfl, hb3⟩
                refine hK.out _ _ trivial (fun _ => ?_)
                clear hK K
                refine wpAnyH_take (i := 8) (oi := ({ dst := some 66, op := Op.move (Operand.tmp 74), type := 94, pos := "l3_verify.go:159", after := #[{ on := 7, ground := Ground.data }], guard := none } : Oper)) (v := .tuple #[.agg #[.bool p1.f, .string p1.x, .string p1.y], .bool false]) rfl (by kernel_rfl) (by kernel_rfl) (by kernel_rfl) (fun _ _ _ h => h) (Or.inl ⟨by rfl, fun w hSw => by go_simp⟩) trivial ?_
                simp only [Act.put, List.setIfInBounds_toArray, List.set_cons_zero, List.set_cons_succ]
                refine wpAnyH_take (i := 9) (oi := ({ dst := some 75, op := Op.extract (Operand.tmp 66) 0, type := 25, pos := "l3_verify.go:159", after := #[{ on := 8, ground := Ground.data }], guard := none } : Oper)) (v := .agg #[.bool p1.f, .string p1.x, .string p1.y]) rfl (by kernel_rfl) (by kernel_rfl) (by kernel_rfl) (fun _ _ _ h => h) (Or.inl ⟨by rfl, fun w hSw => by go_simp⟩) trivial ?_
                simp only [Act.put, List.setIfInBounds_toArray, List.set_cons_zero, List.set_cons_succ]
                refine wpAnyH_take (i := 10) (oi := ({ dst := some 76, op := Op.extract (Operand.tmp 66) 1, type := 4, pos := "l3_verify.go:159", after := #[{ on := 8, ground := Ground.data }, { on := 12, ground := Ground.gcOnly Departure.lateStores }], guard := none } : Oper)) (v := .bool false) rfl (by kernel_rfl) (by kernel_rfl) (by kernel_rfl) (fun _ _ _ h => h) (Or.inl ⟨by rfl, fun w hSw => by go_simp⟩) trivial ?_
                simp only [Act.put, List.setIfInBounds_toArray, List.set_cons_zero, List.set_cons_succ]
                refine wpAnyH_ready (rs := [11]) (by kernel_rfl) (by simp) ?_
                refine AllReadyH.cons (o := ({ dst := some 13, op := Op.alloc 25, type := 0, pos := "l3_verify.go:159", after := #[], guard := none } : Oper)) rfl (fun K hK => ?_) AllReadyH.nil
                go_simp
                refine hK.out _ _ trivial (fun _ => ?_)
                clear hK K
                have hbV : Below w.heap.size w (w3.alloc (.cells #[.bool false, .string (⟨#[]⟩ : ByteArray), .string ⟨#[]⟩] 25)) := ((hbx.trans ((bdrewS w2).mono hbx.size)).trans (hb3.mono hbx.size)).trans ((below1 w3 _).mono (Nat.le_trans hbx.size hb3.size))
                have qG : B3 (w3.alloc (.cells #[.bool false, .string (⟨#[]⟩ : ByteArray), .string ⟨#[]⟩] 25)) w3.heap.size (.bool false) (.string ⟨#[]⟩) (.string ⟨#[]⟩) := B3.new _ _ _ _ _
                have qR := ((q2.later (bdrewS w2)).later hb3).later (below1 w3 (.cells #[.bool false, .string (⟨#[]⟩ : ByteArray), .string ⟨#[]⟩] 25))
                have hG : w.heap.size < w3.heap.size := Nat.lt_of_lt_of_le (World.block_lt_of_cell? _ _ q2.c0) hb3.size
                clear hb3
                generalize w3.alloc (.cells #[.bool false, .string (⟨#[]⟩ : ByteArray), .string ⟨#[]⟩] 25) = V at *
                generalize w3.heap.size = G at *
                obtain ⟨c0, c1, c2, f0, f1, f2⟩ := id qG
                refine wpAnyH_ready (rs := [12]) (by kernel_rfl) (by simp) ?_
                refine AllReadyH.cons (o := ({ dst := none, op := Op.store 25 (Operand.tmp 13) (Operand.tmp 75), type := 0, pos := "l3_verify.go:159", after := #[{ on := 11, ground := Ground.data }, { on := 9, ground := Ground.data }, { on := 7, ground := Ground.chain }, { on := 0, ground := Ground.phase }, { on := 1, ground := Ground.phase }, { on := 2, ground := Ground.phase }, { on := 3, ground := Ground.phase }, { on := 4, ground := Ground.phase }, { on := 5, ground := Ground.phase }, { on := 6, ground := Ground.phase }, { on := 7, ground := Ground.phase }, { on := 8, ground := Ground.phase }, { on := 9, ground := Ground.phase }, { on := 10, ground := Ground.textOnly Departure.lateStores }, { on := 11, ground := Ground.phase }], guard := none } : Oper)) rfl (fun K hK => ?_) AllReadyH.nil
                go_simp
                refine hK.out _ _ trivial (fun _ => ?_)
                clear hK K
                have qG' := qG.set (.bool p1.f) (.string p1.x) (.string p1.y)
                have qR' := qR.far3 G (by omega) (.bool p1.f) (.string p1.x) (.string p1.y)
                have hbW : Below w.heap.size w (((V.setCell ⟨G, 0, none⟩ (.bool p1.f)).setCell ⟨G, 1, none⟩ (.string p1.x)).setCell ⟨G, 2, none⟩ (.string p1.y)) := below3s hbV (by omega) _ _ _
                clear c0 c1 c2 f0 f1 f2 qG qR hbV
                generalize ((V.setCell ⟨G, 0, none⟩ (.bool p1.f)).setCell ⟨G, 1, none⟩ (.string p1.x)).setCell ⟨G, 2, none⟩ (.string p1.y) = W at *
                refine wpAnyH_take (i := 13) (oi := ({ dst := some 14, op := Op.assign (Operand.tmp 76), type := 4, pos := "l3_verify.go:159", after := #[{ on := 10, ground := Ground.data }, { on := 12, ground := Ground.chain }, { on := 0, ground := Ground.phase }, { on := 1, ground := Ground.phase }, { on := 2, ground := Ground.phase }, { on := 3, ground := Ground.phase }, { on := 4, ground := Ground.phase }, { on := 5, ground := Ground.phase }, { on := 6, ground := Ground.phase }, { on := 7, ground := Ground.phase }, { on := 8, ground := Ground.phase }, { on := 9, ground := Ground.phase }, { on := 10, ground := Ground.phase }, { on := 11, ground := Ground.phase }, { on := 12, ground := Ground.phase }], guard := none } : Oper)) (v := .bool false) rfl (by kernel_rfl) (by kernel_rfl) (by kernel_rfl) (fun _ _ _ h => h) (Or.inl ⟨by rfl, fun w hSw => by go_simp⟩) trivial ?_
                simp only [Act.put, List.setIfInBounds_toArray, List.set_cons_zero, List.set_cons_succ]
                refine wpAnyH_done (by kernel_rfl) ?_ _
                have hA4 := h0.later hbW
                have hB4 := h0'.later hbW
                go_wp2
                refine wp_region_held_drew (S := fun _ => True) (by kernel_rfl) trivial (fun _ => ?_)
                refine wpAnyH_take (i := 0) (oi := ({ dst := some 79, op := Op.move (Operand.tmp 0), type := 3, pos := "l3_verify.go:163", after := #[], guard := none } : Oper)) (v := .int .i64 k) rfl (by kernel_rfl) (by kernel_rfl) (by kernel_rfl) (fun _ _ _ h => h) (Or.inl ⟨by rfl, fun w hSw => by go_simp⟩) trivial ?_
                simp only [Act.put, List.setIfInBounds_toArray, List.set_cons_zero, List.set_cons_succ]
                refine wpAnyH_take (i := 1) (oi := ({ dst := some 80, op := Op.move (Operand.tmp 1), type := 22, pos := "l3_verify.go:163", after := #[], guard := none } : Oper)) (v := .slice (some ⟨P, off, none⟩) n c) rfl (by kernel_rfl) (by kernel_rfl) (by kernel_rfl) (fun _ _ _ h => h) (Or.inl ⟨by rfl, fun w hSw => by go_simp⟩) trivial ?_
                simp only [Act.put, List.setIfInBounds_toArray, List.set_cons_zero, List.set_cons_succ]
                refine wpAnyH_take (i := 2) (oi := ({ dst := some 81, op := Op.move (Operand.tmp 10), type := 3, pos := "l3_verify.go:163", after := #[], guard := none } : Oper)) (v := .int .i64 (s : Int)) rfl (by kernel_rfl) (by kernel_rfl) (by kernel_rfl) (fun _ _ _ h => h) (Or.inl ⟨by rfl, fun w hSw => by go_simp⟩) trivial ?_
                simp only [Act.put, List.setIfInBounds_toArray, List.set_cons_zero, List.set_cons_succ]
                refine wpAnyH_take (i := 3) (oi := ({ dst := some 82, op := Op.slice 22 (Operand.tmp 80) (some (Operand.tmp 81)) none none, type := 22, pos := "l3_verify.go:163", after := #[{ on := 1, ground := Ground.data }, { on := 2, ground := Ground.data }], guard := none } : Oper)) (v := .slice (some ⟨P, off + s, none⟩) (n - s) (c - s)) rfl (by kernel_rfl) (by kernel_rfl) (by kernel_rfl) (fun _ _ _ h => h) (Or.inl ⟨by rfl, fun w hSw => by go_simp⟩) trivial ?_
                simp only [Act.put, List.setIfInBounds_toArray, List.set_cons_zero, List.set_cons_succ]
                refine wpAnyH_take (i := 4) (oi := ({ dst := some 83, op := Op.move (Operand.tmp 2), type := 22, pos := "l3_verify.go:163", after := #[], guard := none } : Oper)) (v := .slice (some ⟨P', off', none⟩) n d) rfl (by kernel_rfl) (by kernel_rfl) (by kernel_rfl) (fun _ _ _ h => h) (Or.inl ⟨by rfl, fun w hSw => by go_simp⟩) trivial ?_
                simp only [Act.put, List.setIfInBounds_toArray, List.set_cons_zero, List.set_cons_succ]
                refine wpAnyH_take (i := 5) (oi := ({ dst := some 84, op := Op.move (Operand.tmp 10), type := 3, pos := "l3_verify.go:163", after := #[], guard := none } : Oper)) (v := .int .i64 (s : Int)) rfl (by kernel_rfl) (by kernel_rfl) (by kernel_rfl) (fun _ _ _ h => h) (Or.inl ⟨by rfl, fun w hSw => by go_simp⟩) trivial ?_
                simp only [Act.put, List.setIfInBounds_toArray, List.set_cons_zero, List.set_cons_succ]
                refine wpAnyH_take (i := 6) (oi := ({ dst := some 85, op := Op.slice 22 (Operand.tmp 83) (some (Operand.tmp 84)) none none, type := 22, pos := "l3_verify.go:163", after := #[{ on := 4, ground := Ground.data }, { on := 5, ground := Ground.data }], guard := none } : Oper)) (v := .slice (some ⟨P', off' + s, none⟩) (n - s) (d - s)) rfl (by kernel_rfl) (by kernel_rfl) (by kernel_rfl) (fun _ _ _ h => h) (Or.inl ⟨by rfl, fun w hSw => by go_simp⟩) trivial ?_
                simp only [Act.put, List.setIfInBounds_toArray, List.set_cons_zero, List.set_cons_succ]
                refine wpAnyH_ready (rs := [7]) (by kernel_rfl) (by simp) ?_
                refine AllReadyH.cons (o := ({ dst := some 86, op := Op.call { callee := Callee.value (Operand.func 66), args := #[Operand.tmp 79, Operand.tmp 82, Operand.tmp 85], argTypes := #[3, 22, 22] }, type := 94, pos := "l3_verify.go:163", after := #[{ on := 0, ground := Ground.data }, { on := 3, ground := Ground.data }, { on := 6, ground := Ground.data }], guard := none } : Oper)) rfl (fun K hK => ?_) AllReadyH.nil
                go_simp
                refine (ih (fun j => A (s + j)) (fun j => B (s + j)) (n - s) (some ⟨P, off + s, none⟩) (some ⟨P', off' + s, none⟩) (c - s) (d - s) _ p t (by omega) (by omega) (by have := HF.out; omega) (by omega) (hA4.drew1.right s (by omega)) (by omega) (fun j hj => hsz (s + j) (by omega)) (hB4.drew1.right s (by omega)) (by omega) (fun j hj => hsz' (s + j) (by omega)) HE.out).mono ?_
                rintro e w5 ⟨rfl, hb5⟩
                refine hK.out _ _ trivial (fun _ => ?_)
                clear hK K
                refine wpAnyH_take (i := 8) (oi := ({ dst := some 87, op := Op.extract (Operand.tmp 86) 0, type := 25, pos := "l3_verify.go:163", after := #[{ on := 7, ground := Ground.data }], guard := none } : Oper)) (v := .agg #[.bool p.f, .string p.x, .string p.y]) rfl (by kernel_rfl) (by kernel_rfl) (by kernel_rfl) (fun _ _ _ h => h) (Or.inl ⟨by rfl, fun w hSw => by go_simp⟩) trivial ?_
                simp only [Act.put, List.setIfInBounds_toArray, List.set_cons_zero, List.set_cons_succ]
                refine wpAnyH_take (i := 9) (oi := ({ dst := some 88, op := Op.extract (Operand.tmp 86) 1, type := 4, pos := "l3_verify.go:163", after := #[{ on := 7, ground := Ground.data }], guard := none } : Oper)) (v := .bool t) rfl (by kernel_rfl) (by kernel_rfl) (by kernel_rfl) (fun _ _ _ h => h) (Or.inl ⟨by rfl, fun w hSw => by go_simp⟩) trivial ?_
                simp only [Act.put, List.setIfInBounds_toArray, List.set_cons_zero, List.set_cons_succ]
                have q5 := (qR'.later (bdrewS W)).later hb5
                obtain ⟨c0, c1, c2, f0, f1, f2⟩ := id q5
                refine wpAnyH_ready (rs := [10]) (by kernel_rfl) (by simp) ?_
                refine AllReadyH.cons (o := ({ dst := none, op := Op.store 25 (Operand.tmp 6) (Operand.tmp 87), type := 0, pos := "l3_verify.go:163", after := #[{ on := 8, ground := Ground.data }, { on := 7, ground := Ground.chain }, { on := 0, ground := Ground.phase }, { on := 1, ground := Ground.phase }, { on := 2, ground := Ground.phase }, { on := 3, ground := Ground.phase }, { on := 4, ground := Ground.phase }, { on := 5, ground := Ground.phase }, { on := 6, ground := Ground.phase }, { on := 7, ground := Ground.phase }, { on := 8, ground := Ground.phase }, { on := 9, ground := Ground.phase }], guard := none } : Oper)) rfl (fun K hK => ?_) AllReadyH.nil
                go_simp
                refine hK.out _ _ trivial (fun _ => ?_)
                clear hK K
                refine wpAnyH_take (i := 11) (oi := ({ dst := some 7, op := Op.assign (Operand.tmp 88), type := 4, pos := "l3_verify.go:163", after := #[{ on := 9, ground := Ground.data }, { on := 10, ground := Ground.chain }, { on := 0, ground := Ground.phase }, { on := 1, ground := Ground.phase }, { on := 2, ground := Ground.phase }, { on := 3, ground := Ground.phase }, { on := 4, ground := Ground.phase }, { on := 5, ground := Ground.phase }, { on := 6, ground := Ground.phase }, { on := 7, ground := Ground.phase }, { on := 8, ground := Ground.phase }, { on := 9, ground := Ground.phase }, { on := 10, ground := Ground.phase }], guard := none } : Oper)) (v := .bool t) rfl (by kernel_rfl) (by kernel_rfl) (by kernel_rfl) (fun _ _ _ h => h) (Or.inl ⟨by rfl, fun w hSw => by go_simp⟩) trivial ?_
                simp only [Act.put, List.setIfInBounds_toArray, List.set_cons_zero, List.set_cons_succ]
                refine wpAnyH_done (by kernel_rfl) ?_ _
                go_wp2
                obtain ⟨r0, r1, r2⟩ := triple_set w5 _ _ _ _ (.bool p.f) (.string p.x) (.string p.y) q5
                exact bodyPost_ret (v := .tuple #[.agg #[.bool p.f, .string p.x, .string p.y], .bool t]) (by simp [results, Tryz.results66, go_sem, r0, r1, r2]) rfl ⟨rfl, below3s ((hbW.trans ((bdrewS W).mono hbW.size)).trans (hb5.mono hbW.size)) (Nat.le_refl _) _ _ _⟩
              · go_simp
                refine hK.out _ _ trivial (fun _ => ?_)
                clear hK K
                have hba := below1 w2.drew (.cells #[.bool false, .string (⟨#[]⟩ : ByteArray), .string ⟨#[]⟩] 25)
                refine wpAnyH_ready (rs := [7]) (by kernel_rfl) (by simp) ?_
                refine AllReadyH.cons (o := ({ dst := some 74, op := Op.call { callee := Callee.value (Operand.func 66), args := #[Operand.tmp 67, Operand.tmp 70, Operand.tmp 73], argTypes := #[3, 22, 22] }, type := 94, pos := "l3_verify.go:159", after := #[{ on := 0, ground := Ground.data }, { on := 3, ground := Ground.data }, { on := 6, ground := Ground.data }], guard := none } : Oper)) rfl (fun K hK => ?_) AllReadyH.nil
                go_simp
                refine (ih A B s (some ⟨P, off, none⟩) (some ⟨P', off', none⟩) c d _ p1 false (by omega) (by omega) HF.out (by omega) ((hA2.drew1.later hba).left s (by omega)) (by omega) (fun j hj => hsz j (by omega)) ((hB2.drew1.later hba).left s (by omega)) (by omega) (fun j hj => hsz' j (by omega)) HL.out).mono ?_
                rintro e V ⟨rfl, hb3⟩
                refine hK.out _ _ trivial (fun _ => ?_)
                clear hK K
                have hbV : Below w.heap.size w V := ((hbx.trans ((bdrewS w2).mono hbx.size)).trans (hba.mono hbx.size)).trans (hb3.mono (Nat.le_trans hbx.size hba.size))
                have qG : B3 V w2.heap.size (.bool false) (.string ⟨#[]⟩) (.string ⟨#[]⟩) := (B3.new w2.drew _ _ _ _).later hb3
                have qR := ((q2.later (bdrewS w2)).later hba).later hb3
                have hG : w.heap.size < w2.heap.size := World.block_lt_of_cell? _ _ q2.c0
                clear hb3 hba
                refine wpAnyH_take (i := 8) (oi := ({ dst := some 66, op := Op.move (Operand.tmp 74), type := 94, pos := "l3_verify.go:159", after := #[{ on := 7, ground := Ground.data }], guard := none } : Oper)) (v := .tuple #[.agg #[.bool p1.f, .string p1.x, .string p1.y], .bool false]) rfl (by kernel_rfl) (by kernel_rfl) (by kernel_rfl) (fun _ _ _ h => h) (Or.inl ⟨by rfl, fun w hSw => by go_simp⟩) trivial ?_
                simp only [Act.put, List.setIfInBounds_toArray, List.set_cons_zero, List.set_cons_succ]
                refine wpAnyH_take (i := 9) (oi := ({ dst := some 75, op := Op.extract (Operand.tmp 66) 0, type := 25, pos := "l3_verify.go:159", after := #[{ on := 8, ground := Ground.data }], guard := none } : Oper)) (v := .agg #[.bool p1.f, .string p1.x, .string p1.y]) rfl (by kernel_rfl) (by kernel_rfl) (by kernel_rfl) (fun _ _ _ h => h) (Or.inl ⟨by rfl, fun w hSw => by go_simp⟩) trivial ?_
                simp only [Act.put, List.setIfInBounds_toArray, List.set_cons_zero, List.set_cons_succ]
                refine wpAnyH_take (i := 10) (oi := ({ dst := some 76, op := Op.extract (Operand.tmp 66) 1, type := 4, pos := "l3_verify.go:159", after := #[{ on := 8, ground := Ground.data }, { on := 12, ground := Ground.gcOnly Departure.lateStores }], guard := none } : Oper)) (v := .bool false) rfl (by kernel_rfl) (by kernel_rfl) (by kernel_rfl) (fun _ _ _ h => h) (Or.inl ⟨by rfl, fun w hSw => by go_simp⟩) trivial ?_
                simp only [Act.put, List.setIfInBounds_toArray, List.set_cons_zero, List.set_cons_succ]
                generalize w2.heap.size = G at *
                obtain ⟨c0, c1, c2, f0, f1, f2⟩ := id qG
                refine wpAnyH_ready (rs := [12]) (by kernel_rfl) (by simp) ?_
                refine AllReadyH.cons (o := ({ dst := none, op := Op.store 25 (Operand.tmp 13) (Operand.tmp 75), type := 0, pos := "l3_verify.go:159", after := #[{ on := 11, ground := Ground.data }, { on := 9, ground := Ground.data }, { on := 7, ground := Ground.chain }, { on := 0, ground := Ground.phase }, { on := 1, ground := Ground.phase }, { on := 2, ground := Ground.phase }, { on := 3, ground := Ground.phase }, { on := 4, ground := Ground.phase }, { on := 5, ground := Ground.phase }, { on := 6, ground := Ground.phase }, { on := 7, ground := Ground.phase }, { on := 8, ground := Ground.phase }, { on := 9, ground := Ground.phase }, { on := 10, ground := Ground.textOnly Departure.lateStores }, { on := 11, ground := Ground.phase }], guard := none } : Oper)) rfl (fun K hK => ?_) AllReadyH.nil
                go_simp
                refine hK.out _ _ trivial (fun _ => ?_)
                clear hK K
                have qG' := qG.set (.bool p1.f) (.string p1.x) (.string p1.y)
                have qR' := qR.far3 G (by omega) (.bool p1.f) (.string p1.x) (.string p1.y)
                have hbW : Below w.heap.size w (((V.setCell ⟨G, 0, none⟩ (.bool p1.f)).setCell ⟨G, 1, none⟩ (.string p1.x)).setCell ⟨G, 2, none⟩ (.string p1.y)) := below3s hbV (by omega) _ _ _
                clear c0 c1 c2 f0 f1 f2 qG qR hbV
                generalize ((V.setCell ⟨G, 0, none⟩ (.bool p1.f)).setCell ⟨G, 1, none⟩ (.string p1.x)).setCell ⟨G, 2, none⟩ (.string p1.y) = W at *
                refine wpAnyH_take (i := 13) (oi := ({ dst := some 14, op := Op.assign (Operand.tmp 76), type := 4, pos := "l3_verify.go:159", after := #[{ on := 10, ground := Ground.data }, { on := 12, ground := Ground.chain }, { on := 0, ground := Ground.phase }, { on := 1, ground := Ground.phase }, { on := 2, ground := Ground.phase }, { on := 3, ground := Ground.phase }, { on := 4, ground := Ground.phase }, { on := 5, ground := Ground.phase }, { on := 6, ground := Ground.phase }, { on := 7, ground := Ground.phase }, { on := 8, ground := Ground.phase }, { on := 9, ground := Ground.phase }, { on := 10, ground := Ground.phase }, { on := 11, ground := Ground.phase }, { on := 12, ground := Ground.phase }], guard := none } : Oper)) (v := .bool false) rfl (by kernel_rfl) (by kernel_rfl) (by kernel_rfl) (fun _ _ _ h => h) (Or.inl ⟨by rfl, fun w hSw => by go_simp⟩) trivial ?_
                simp only [Act.put, List.setIfInBounds_toArray, List.set_cons_zero, List.set_cons_succ]
                refine wpAnyH_done (by kernel_rfl) ?_ _
                have hA4 := h0.later hbW
                have hB4 := h0'.later hbW
                go_wp2
                refine wp_region_held_drew (S := fun _ => True) (by kernel_rfl) trivial (fun _ => ?_)
                refine wpAnyH_take (i := 0) (oi := ({ dst := some 79, op := Op.move (Operand.tmp 0), type := 3, pos := "l3_verify.go:163", after := #[], guard := none } : Oper)) (v := .int .i64 k) rfl (by kernel_rfl) (by kernel_rfl) (by kernel_rfl) (fun _ _ _ h => h) (Or.inl ⟨by rfl, fun w hSw => by go_simp⟩) trivial ?_
                simp only [Act.put, List.setIfInBounds_toArray, List.set_cons_zero, List.set_cons_succ]
                refine wpAnyH_take (i := 1) (oi := ({ dst := some 80, op := Op.move (Operand.tmp 1), type := 22, pos := "l3_verify.go:163", after := #[], guard := none } : Oper)) (v := .slice (some ⟨P, off, none⟩) n c) rfl (by kernel_rfl) (by kernel_rfl) (by kernel_rfl) (fun _ _ _ h => h) (Or.inl ⟨by rfl, fun w hSw => by go_simp⟩) trivial ?_
                simp only [Act.put, List.setIfInBounds_toArray, List.set_cons_zero, List.set_cons_succ]
                refine wpAnyH_take (i := 2) (oi := ({ dst := some 81, op := Op.move (Operand.tmp 10), type := 3, pos := "l3_verify.go:163", after := #[], guard := none } : Oper)) (v := .int .i64 (s : Int)) rfl (by kernel_rfl) (by kernel_rfl) (by kernel_rfl) (fun _ _ _ h => h) (Or.inl ⟨by rfl, fun w hSw => by go_simp⟩) trivial ?_
                simp only [Act.put, List.setIfInBounds_toArray, List.set_cons_zero, List.set_cons_succ]
                refine wpAnyH_take (i := 3) (oi := ({ dst := some 82, op := Op.slice 22 (Operand.tmp 80) (some (Operand.tmp 81)) none none, type := 22, pos := "l3_verify.go:163", after := #[{ on := 1, ground := Ground.data }, { on := 2, ground := Ground.data }], guard := none } : Oper)) (v := .slice (some ⟨P, off + s, none⟩) (n - s) (c - s)) rfl (by kernel_rfl) (by kernel_rfl) (by kernel_rfl) (fun _ _ _ h => h) (Or.inl ⟨by rfl, fun w hSw => by go_simp⟩) trivial ?_
                simp only [Act.put, List.setIfInBounds_toArray, List.set_cons_zero, List.set_cons_succ]
                refine wpAnyH_take (i := 4) (oi := ({ dst := some 83, op := Op.move (Operand.tmp 2), type := 22, pos := "l3_verify.go:163", after := #[], guard := none } : Oper)) (v := .slice (some ⟨P', off', none⟩) n d) rfl (by kernel_rfl) (by kernel_rfl) (by kernel_rfl) (fun _ _ _ h => h) (Or.inl ⟨by rfl, fun w hSw => by go_simp⟩) trivial ?_
                simp only [Act.put, List.setIfInBounds_toArray, List.set_cons_zero, List.set_cons_succ]
                refine wpAnyH_take (i := 5) (oi := ({ dst := some 84, op := Op.move (Operand.tmp 10), type := 3, pos := "l3_verify.go:163", after := #[], guard := none } : Oper)) (v := .int .i64 (s : Int)) rfl (by kernel_rfl) (by kernel_rfl) (by kernel_rfl) (fun _ _ _ h => h) (Or.inl ⟨by rfl, fun w hSw => by go_simp⟩) trivial ?_
                simp only [Act.put, List.setIfInBounds_toArray, List.set_cons_zero, List.set_cons_succ]
                refine wpAnyH_take (i := 6) (oi := ({ dst := some 85, op := Op.slice 22 (Operand.tmp 83) (some (Operand.tmp 84)) none none, type := 22, pos := "l3_verify.go:163", after := #[{ on := 4, ground := Ground.data }, { on := 5, ground := Ground.data }], guard := none } : Oper)) (v := .slice (some ⟨P', off' + s, none⟩) (n - s) (d - s)) rfl (by kernel_rfl) (by kernel_rfl) (by kernel_rfl) (fun _ _ _ h => h) (Or.inl ⟨by rfl, fun w hSw => by go_simp⟩) trivial ?_
                simp only [Act.put, List.setIfInBounds_toArray, List.set_cons_zero, List.set_cons_succ]
                refine wpAnyH_ready (rs := [7]) (by kernel_rfl) (by simp) ?_
                refine AllReadyH.cons (o := ({ dst := some 86, op := Op.call { callee := Callee.value (Operand.func 66), args := #[Operand.tmp 79, Operand.tmp 82, Operand.tmp 85], argTypes := #[3, 22, 22] }, type := 94, pos := "l3_verify.go:163", after := #[{ on := 0, ground := Ground.data }, { on := 3, ground := Ground.data }, { on := 6, ground := Ground.data }], guard := none } : Oper)) rfl (fun K hK => ?_) AllReadyH.nil
                go_simp
                refine (ih (fun j => A (s + j)) (fun j => B (s + j)) (n - s) (some ⟨P, off + s, none⟩) (some ⟨P', off' + s, none⟩) (c - s) (d - s) _ p t (by omega) (by omega) (by have := HF.out; omega) (by omega) (hA4.drew1.right s (by omega)) (by omega) (fun j hj => hsz (s + j) (by omega)) (hB4.drew1.right s (by omega)) (by omega) (fun j hj => hsz' (s + j) (by omega)) HE.out).mono ?_
                rintro e w5 ⟨rfl, hb5⟩
                refine hK.out _ _ trivial (fun _ => ?_)
                clear hK K
                refine wpAnyH_take (i := 8) (oi := ({ dst := some 87, op := Op.extract (Operand.tmp 86) 0, type := 25, pos := "l3_verify.go:163", after := #[{ on := 7, ground := Ground.data }], guard := none } : Oper)) (v := .agg #[.bool p.f, .string p.x, .string p.y]) rfl (by kernel_rfl) (by kernel_rfl) (by kernel_rfl) (fun _ _ _ h => h) (Or.inl ⟨by rfl, fun w hSw => by go_simp⟩) trivial ?_
                simp only [Act.put, List.setIfInBounds_toArray, List.set_cons_zero, List.set_cons_succ]
                refine wpAnyH_take (i := 9) (oi := ({ dst := some 88, op := Op.extract (Operand.tmp 86) 1, type := 4, pos := "l3_verify.go:163", after := #[{ on := 7, ground := Ground.data }], guard := none } : Oper)) (v := .bool t) rfl (by kernel_rfl) (by kernel_rfl) (by kernel_rfl) (fun _ _ _ h => h) (Or.inl ⟨by rfl, fun w hSw => by go_simp⟩) trivial ?_
                simp only [Act.put, List.setIfInBounds_toArray, List.set_cons_zero, List.set_cons_succ]
                have q5 := (qR'.later (bdrewS W)).later hb5
                obtain ⟨c0, c1, c2, f0, f1, f2⟩ := id q5
                refine wpAnyH_ready (rs := [10]) (by kernel_rfl) (by simp) ?_
                refine AllReadyH.cons (o := ({ dst := none, op := Op.store 25 (Operand.tmp 6) (Operand.tmp 87), type := 0, pos := "l3_verify.go:163", after := #[{ on := 8, ground := Ground.data }, { on := 7, ground := Ground.chain }, { on := 0, ground := Ground.phase }, { on := 1, ground := Ground.phase }, { on := 2, ground := Ground.phase }, { on := 3, ground := Ground.phase }, { on := 4, ground := Ground.phase }, { on := 5, ground := Ground.phase }, { on := 6, ground := Ground.phase }, { on := 7, ground := Ground.phase }, { on := 8, ground := Ground.phase }, { on := 9, ground := Ground.phase }], guard := none } : Oper)) rfl (fun K hK => ?_) AllReadyH.nil
                go_simp
                refine hK.out _ _ trivial (fun _ => ?_)
                clear hK K
                refine wpAnyH_take (i := 11) (oi := ({ dst := some 7, op := Op.assign (Operand.tmp 88), type := 4, pos := "l3_verify.go:163", after := #[{ on := 9, ground := Ground.data }, { on := 10, ground := Ground.chain }, { on := 0, ground := Ground.phase }, { on := 1, ground := Ground.phase }, { on := 2, ground := Ground.phase }, { on := 3, ground := Ground.phase }, { on := 4, ground := Ground.phase }, { on := 5, ground := Ground.phase }, { on := 6, ground := Ground.phase }, { on := 7, ground := Ground.phase }, { on := 8, ground := Ground.phase }, { on := 9, ground := Ground.phase }, { on := 10, ground := Ground.phase }], guard := none } : Oper)) (v := .bool t) rfl (by kernel_rfl) (by kernel_rfl) (by kernel_rfl) (fun _ _ _ h => h) (Or.inl ⟨by rfl, fun w hSw => by go_simp⟩) trivial ?_
                simp only [Act.put, List.setIfInBounds_toArray, List.set_cons_zero, List.set_cons_succ]
                refine wpAnyH_done (by kernel_rfl) ?_ _
                go_wp2
                obtain ⟨r0, r1, r2⟩ := triple_set w5 _ _ _ _ (.bool p.f) (.string p.x) (.string p.y) q5
                exact bodyPost_ret (v := .tuple #[.agg #[.bool p.f, .string p.x, .string p.y], .bool t]) (by simp [results, Tryz.results66, go_sem, r0, r1, r2]) rfl ⟨rfl, below3s ((hbW.trans ((bdrewS W).mono hbW.size)).trans (hb5.mono hbW.size)) (Nat.le_refl _) _ _ _⟩
            · rw [if_pos rfl] at hr
              obtain ⟨rfl, rfl⟩ : p1 = p ∧ true = t := by simpa using hr
              go_wp2_with (first | (go_at_call 38; refine (l2Split_as n _ _ (by rfl) hcap s HSP.out).mono ?_; rintro e w' ⟨rfl, rfl⟩) | (go_at_call 54; have _h := hb1; refine (specInside_any k n s B _ d _ _ (by rfl) hs2 hB1 hd hn20 hsz4' Y HY.out).mono ?_; rintro e w2 ⟨rfl, hb2⟩; have q2 := q1.later hb2; have hA2 := hA1.later hb2; have hB2 := hB1.later hb2) | (go_at_call 54; refine (specInside_any k n s A _ c _ _ (by rfl) hs2 hA hc hn20 hsz4 X HX.out).mono ?_; rintro e w1 ⟨rfl, hb1⟩; have q1 := qr.later hb1; have hA1 := hA.later hb1; have hB1 := hB.later hb1))
              obtain ⟨P, off, rfl, hc00⟩ := h0.at 0 (by omega)
              obtain ⟨P', off', rfl, hc00'⟩ := h0'.at 0 (by omega)
              have hbx : Below w.heap.size w w2 := (hbr.trans (hb1.mono hbr.size)).trans (hb2.mono (Nat.le_trans hbr.size hb1.size))
              clear hc00 hc00' te hr
              refine wp_region_held_drew (S := fun _ => True) (by kernel_rfl) trivial (fun _ => ?_)
              refine wpAnyH_take (i := 0) (oi := ({ dst := some 67, op := Op.move (Operand.tmp 0), type := 3, pos := "l3_verify.go:159", after := #[], guard := none } : Oper)) (v := .int .i64 k) rfl (by kernel_rfl) (by kernel_rfl) (by kernel_rfl) (fun _ _ _ h => h) (Or.inl ⟨by rfl, fun w hSw => by go_simp⟩) trivial ?_
              simp only [Act.put, List.setIfInBounds_toArray, List.set_cons_zero, List.set_cons_succ]
              refine wpAnyH_take (i := 1) (oi := ({ dst := some 68, op := Op.move (Operand.tmp 1), type := 22, pos := "l3_verify.go:159", after := #[], guard := none } : Oper)) (v := .slice (some ⟨P, off, none⟩) n c) rfl (by kernel_rfl) (by kernel_rfl) (by kernel_rfl) (fun _ _ _ h => h) (Or.inl ⟨by rfl, fun w hSw => by go_simp⟩) trivial ?_
              simp only [Act.put, List.setIfInBounds_toArray, List.set_cons_zero, List.set_cons_succ]
              refine wpAnyH_take (i := 2) (oi := ({ dst := some 69, op := Op.move (Operand.tmp 10), type := 3, pos := "l3_verify.go:159", after := #[], guard := none } : Oper)) (v := .int .i64 (s : Int)) rfl (by kernel_rfl) (by kernel_rfl) (by kernel_rfl) (fun _ _ _ h => h) (Or.inl ⟨by rfl, fun w hSw => by go_simp⟩) trivial ?_
              simp only [Act.put, List.setIfInBounds_toArray, List.set_cons_zero, List.set_cons_succ]
              refine wpAnyH_take (i := 3) (oi := ({ dst := some 70, op := Op.slice 22 (Operand.tmp 68) none (some (Operand.tmp 69)) none, type := 22, pos := "l3_verify.go:159", after := #[{ on := 1, ground := Ground.data }, { on := 2, ground := Ground.data }], guard := none } : Oper)) (v := .slice (some ⟨P, off, none⟩) s c) rfl (by kernel_rfl) (by kernel_rfl) (by kernel_rfl) (fun _ _ _ h => h) (Or.inl ⟨by rfl, fun w hSw => by go_simp⟩) trivial ?_
              simp only [Act.put, List.setIfInBounds_toArray, List.set_cons_zero, List.set_cons_succ]
              refine wpAnyH_take (i := 4) (oi := ({ dst := some 71, op := Op.move (Operand.tmp 2), type := 22, pos := "l3_verify.go:159", after := #[], guard := none } : Oper)) (v := .slice (some ⟨P', off', none⟩) n d) rfl (by kernel_rfl) (by kernel_rfl) (by kernel_rfl) (fun _ _ _ h => h) (Or.inl ⟨by rfl, fun w hSw => by go_simp⟩) trivial ?_
              simp only [Act.put, List.setIfInBounds_toArray, List.set_cons_zero, List.set_cons_succ]
              refine wpAnyH_take (i := 5) (oi := ({ dst := some 72, op := Op.move (Operand.tmp 10), type := 3, pos := "l3_verify.go:159", after := #[], guard := none } : Oper)) (v := .int .i64 (s : Int)) rfl (by kernel_rfl) (by kernel_rfl) (by kernel_rfl) (fun _ _ _ h => h) (Or.inl ⟨by rfl, fun w hSw => by go_simp⟩) trivial ?_
              simp only [Act.put, List.setIfInBounds_toArray, List.set_cons_zero, List.set_cons_succ]
              refine wpAnyH_take (i := 6) (oi := ({ dst := some 73, op := Op.slice 22 (Operand.tmp 71) none (some (Operand.tmp 72)) none, type := 22, pos := "l3_verify.go:159", after := #[{ on := 4, ground := Ground.data }, { on := 5, ground := Ground.data }], guard := none } : Oper)) (v := .slice (some ⟨P', off', none⟩) s d) rfl (by kernel_rfl) (by kernel_rfl) (by kernel_rfl) (fun _ _ _ h => h) (Or.inl ⟨by rfl, fun w hSw => by go_simp⟩) trivial ?_
              simp only [Act.put, List.setIfInBounds_toArray, List.set_cons_zero, List.set_cons_succ]
              refine wpAnyH_ready (rs := [7, 11]) (by kernel_rfl) (by simp) ?_
              refine AllReadyH.cons (o := ({ dst := some 74, op := Op.call { callee := Callee.value (Operand.func 66), args := #[Operand.tmp 67, Operand.tmp 70, Operand.tmp 73], argTypes := #[3, 22, 22] }, type := 94, pos := "l3_verify.go:159", after := #[{ on := 0, ground := Ground.data }, { on := 3, ground := Ground.data }, { on := 6, ground := Ground.data }], guard := none } : Oper)) rfl (fun K hK => ?_) (AllReadyH.cons (o := ({ dst := some 13, op := Op.alloc 25, type := 0, pos := "l3_verify.go:159", after := #[], guard := none } : Oper)) rfl (fun K hK => ?_) AllReadyH.nil)
              · go_simp
                refine (ih A B s (some ⟨P, off, none⟩) (some ⟨P', off', none⟩) c d _ p1 true (by omega) (by omega) HF.out (by omega) (hA2.drew1.left s (by omega)) (by omega) (fun j hj => hsz j (by omega)) (hB2.drew1.left s (by omega)) (by omega) (fun j hj => hsz' j (by omega)) HL.out).mono ?_
                rintro e w3 ⟨rfl, hb3⟩
                refine hK.out _ _ trivial (fun _ => ?_)
                clear hK K
                refine wpAnyH_take (i := 8) (oi := ({ dst := some 66, op := Op.move (Operand.tmp 74), type := 94, pos := "l3_verify.go:159", after := #[{ on := 7, ground := Ground.data }], guard := none } : Oper)) (v := .tuple #[.agg #[.bool p1.f, .string p1.x, .string p1.y], .bool true]) rfl (by kernel_rfl) (by kernel_rfl) (by kernel_rfl) (fun _ _ _ h => h) (Or.inl ⟨by rfl, fun w hSw => by go_simp⟩) trivial ?_
                simp only [Act.put, List.setIfInBounds_toArray, List.set_cons_zero, List.set_cons_succ]
                refine wpAnyH_take (i := 9) (oi := ({ dst := some 75, op := Op.extract (Operand.tmp 66) 0, type := 25, pos := "l3_verify.go:159", after := #[{ on := 8, ground := Ground.data }], guard := none } : Oper)) (v := .agg #[.bool p1.f, .string p1.x, .string p1.y]) rfl (by kernel_rfl) (by kernel_rfl) (by kernel_rfl) (fun _ _ _ h => h) (Or.inl ⟨by rfl, fun w hSw => by go_simp⟩) trivial ?_
                simp only [Act.put, List.setIfInBounds_toArray, List.set_cons_zero, List.set_cons_succ]
                refine wpAnyH_take (i := 10) (oi := ({ dst := some 76, op := Op.extract (Operand.tmp 66) 1, type := 4, pos := "l3_verify.go:159", after := #[{ on := 8, ground := Ground.data }, { on := 12, ground := Ground.gcOnly Departure.lateStores }], guard := none } : Oper)) (v := .bool true) rfl (by kernel_rfl) (by kernel_rfl) (by kernel_rfl) (fun _ _ _ h => h) (Or.inl ⟨by rfl, fun w hSw => by go_simp⟩) trivial ?_
                simp only [Act.put, List.setIfInBounds_toArray, List.set_cons_zero, List.set_cons_succ]
                refine wpAnyH_ready (rs := [11]) (by kernel_rfl) (by simp) ?_
                refine AllReadyH.cons (o := ({ dst := some 13, op := Op.alloc 25, type := 0, pos := "l3_verify.go:159", after := #[], guard := none } : Oper)) rfl (fun K hK => ?_) AllReadyH.nil
                go_simp
                refine hK.out _ _ trivial (fun _ => ?_)
                clear hK K
                have hbV : Below w.heap.size w (w3.alloc (.cells #[.bool false, .string (⟨#[]⟩ : ByteArray), .string ⟨#[]⟩] 25)) := ((hbx.trans ((bdrewS w2).mono hbx.size)).trans (hb3.mono hbx.size)).trans ((below1 w3 _).mono (Nat.le_trans hbx.size hb3.size))
                have qG : B3 (w3.alloc (.cells #[.bool false, .string (⟨#[]⟩ : ByteArray), .string ⟨#[]⟩] 25)) w3.heap.size (.bool false) (.string ⟨#[]⟩) (.string ⟨#[]⟩) := B3.new _ _ _ _ _
                have qR := ((q2.later (bdrewS w2)).later hb3).later (below1 w3 (.cells #[.bool false, .string (⟨#[]⟩ : ByteArray), .string ⟨#[]⟩] 25))
                have hG : w.heap.size < w3.heap.size := Nat.lt_of_lt_of_le (World.block_lt_of_cell? _ _ q2.c0) hb3.size
                clear hb3
                generalize w3.alloc (.cells #[.bool false, .string (⟨#[]⟩ : ByteArray), .string ⟨#[]⟩] 25) = V at *
                generalize w3.heap.size = G at *
                obtain ⟨c0, c1, c2, f0, f1, f2⟩ := id qG
                refine wpAnyH_ready (rs := [12]) (by kernel_rfl) (by simp) ?_
                refine AllReadyH.cons (o := ({ dst := none, op := Op.store 25 (Operand.tmp 13) (Operand.tmp 75), type := 0, pos := "l3_verify.go:159", after := #[{ on := 11, ground := Ground.data }, { on := 9, ground := Ground.data }, { on := 7, ground := Ground.chain }, { on := 0, ground := Ground.phase }, { on := 1, ground := Ground.phase }, { on := 2, ground := Ground.phase }, { on := 3, ground := Ground.phase }, { on := 4, ground := Ground.phase }, { on := 5, ground := Ground.phase }, { on := 6, ground := Ground.phase }, { on := 7, ground := Ground.phase }, { on := 8, ground := Ground.phase }, { on := 9, ground := Ground.phase }, { on := 10, ground := Ground.textOnly Departure.lateStores }, { on := 11, ground := Ground.phase }], guard := none } : Oper)) rfl (fun K hK => ?_) AllReadyH.nil
                go_simp
                refine hK.out _ _ trivial (fun _ => ?_)
                clear hK K
                have qG' := qG.set (.bool p1.f) (.string p1.x) (.string p1.y)
                have qR' := qR.far3 G (by omega) (.bool p1.f) (.string p1.x) (.string p1.y)
                have hbW : Below w.heap.size w (((V.setCell ⟨G, 0, none⟩ (.bool p1.f)).setCell ⟨G, 1, none⟩ (.string p1.x)).setCell ⟨G, 2, none⟩ (.string p1.y)) := below3s hbV (by omega) _ _ _
                clear c0 c1 c2 f0 f1 f2 qG qR hbV
                generalize ((V.setCell ⟨G, 0, none⟩ (.bool p1.f)).setCell ⟨G, 1, none⟩ (.string p1.x)).setCell ⟨G, 2, none⟩ (.string p1.y) = W at *
                refine wpAnyH_take (i := 13) (oi := ({ dst := some 14, op := Op.assign (Operand.tmp 76), type := 4, pos := "l3_verify.go:159", after := #[{ on := 10, ground := Ground.data }, { on := 12, ground := Ground.chain }, { on := 0, ground := Ground.phase }, { on := 1, ground := Ground.phase }, { on := 2, ground := Ground.phase }, { on := 3, ground := Ground.phase }, { on := 4, ground := Ground.phase }, { on := 5, ground := Ground.phase }, { on := 6, ground := Ground.phase }, { on := 7, ground := Ground.phase }, { on := 8, ground := Ground.phase }, { on := 9, ground := Ground.phase }, { on := 10, ground := Ground.phase }, { on := 11, ground := Ground.phase }, { on := 12, ground := Ground.phase }], guard := none } : Oper)) (v := .bool true) rfl (by kernel_rfl) (by kernel_rfl) (by kernel_rfl) (fun _ _ _ h => h) (Or.inl ⟨by rfl, fun w hSw => by go_simp⟩) trivial ?_
                simp only [Act.put, List.setIfInBounds_toArray, List.set_cons_zero, List.set_cons_succ]
                refine wpAnyH_done (by kernel_rfl) ?_ _
                obtain ⟨c0, c1, c2, f0, f1, f2⟩ := id qR'
                obtain ⟨g0, g1, g2, _, _, _⟩ := id qG'
                go_wp2
                obtain ⟨r0, r1, r2⟩ := triple_set W _ _ _ _ (.bool p1.f) (.string p1.x) (.string p1.y) qR'
                exact bodyPost_ret (v := .tuple #[.agg #[.bool p1.f, .string p1.x, .string p1.y], .bool true]) (by simp [results, Tryz.results66, go_sem, r0, r1, r2]) rfl ⟨rfl, below3s (hbW) (Nat.le_refl _) _ _ _⟩
              · go_simp
                refine hK.out _ _ trivial (fun _ => ?_)
                clear hK K
                have hba := below1 w2.drew (.cells #[.bool false, .string (⟨#[]⟩ : ByteArray), .string ⟨#[]⟩] 25)
                refine wpAnyH_ready (rs := [7]) (by kernel_rfl) (by simp) ?_
                refine AllReadyH.cons (o := ({ dst := some 74, op := Op.call { callee := Callee.value (Operand.func 66), args := #[Operand.tmp 67, Operand.tmp 70, Operand.tmp 73], argTypes := #[3, 22, 22] }, type := 94, pos := "l3_verify.go:159", after := #[{ on := 0, ground := Ground.data }, { on := 3, ground := Ground.data }, { on := 6, ground := Ground.data }], guard := none } : Oper)) rfl (fun K hK => ?_) AllReadyH.nil
                go_simp
                refine (ih A B s (some ⟨P, off, none⟩) (some ⟨P', off', none⟩) c d _ p1 true (by omega) (by omega) HF.out (by omega) ((hA2.drew1.later hba).left s (by omega)) (by omega) (fun j hj => hsz j (by omega)) ((hB2.drew1.later hba).left s (by omega)) (by omega) (fun j hj => hsz' j (by omega)) HL.out).mono ?_
                rintro e V ⟨rfl, hb3⟩
                refine hK.out _ _ trivial (fun _ => ?_)
                clear hK K
                have hbV : Below w.heap.size w V := ((hbx.trans ((bdrewS w2).mono hbx.size)).trans (hba.mono hbx.size)).trans (hb3.mono (Nat.le_trans hbx.size hba.size))
                have qG : B3 V w2.heap.size (.bool false) (.string ⟨#[]⟩) (.string ⟨#[]⟩) := (B3.new w2.drew _ _ _ _).later hb3
                have qR := ((q2.later (bdrewS w2)).later hba).later hb3
                have hG : w.heap.size < w2.heap.size := World.block_lt_of_cell? _ _ q2.c0
                clear hb3 hba
                refine wpAnyH_take (i := 8) (oi := ({ dst := some 66, op := Op.move (Operand.tmp 74), type := 94, pos := "l3_verify.go:159", after := #[{ on := 7, ground := Ground.data }], guard := none } : Oper)) (v := .tuple #[.agg #[.bool p1.f, .string p1.x, .string p1.y], .bool true]) rfl (by kernel_rfl) (by kernel_rfl) (by kernel_rfl) (fun _ _ _ h => h) (Or.inl ⟨by rfl, fun w hSw => by go_simp⟩) trivial ?_
                simp only [Act.put, List.setIfInBounds_toArray, List.set_cons_zero, List.set_cons_succ]
                refine wpAnyH_take (i := 9) (oi := ({ dst := some 75, op := Op.extract (Operand.tmp 66) 0, type := 25, pos := "l3_verify.go:159", after := #[{ on := 8, ground := Ground.data }], guard := none } : Oper)) (v := .agg #[.bool p1.f, .string p1.x, .string p1.y]) rfl (by kernel_rfl) (by kernel_rfl) (by kernel_rfl) (fun _ _ _ h => h) (Or.inl ⟨by rfl, fun w hSw => by go_simp⟩) trivial ?_
                simp only [Act.put, List.setIfInBounds_toArray, List.set_cons_zero, List.set_cons_succ]
                refine wpAnyH_take (i := 10) (oi := ({ dst := some 76, op := Op.extract (Operand.tmp 66) 1, type := 4, pos := "l3_verify.go:159", after := #[{ on := 8, ground := Ground.data }, { on := 12, ground := Ground.gcOnly Departure.lateStores }], guard := none } : Oper)) (v := .bool true) rfl (by kernel_rfl) (by kernel_rfl) (by kernel_rfl) (fun _ _ _ h => h) (Or.inl ⟨by rfl, fun w hSw => by go_simp⟩) trivial ?_
                simp only [Act.put, List.setIfInBounds_toArray, List.set_cons_zero, List.set_cons_succ]
                generalize w2.heap.size = G at *
                obtain ⟨c0, c1, c2, f0, f1, f2⟩ := id qG
                refine wpAnyH_ready (rs := [12]) (by kernel_rfl) (by simp) ?_
                refine AllReadyH.cons (o := ({ dst := none, op := Op.store 25 (Operand.tmp 13) (Operand.tmp 75), type := 0, pos := "l3_verify.go:159", after := #[{ on := 11, ground := Ground.data }, { on := 9, ground := Ground.data }, { on := 7, ground := Ground.chain }, { on := 0, ground := Ground.phase }, { on := 1, ground := Ground.phase }, { on := 2, ground := Ground.phase }, { on := 3, ground := Ground.phase }, { on := 4, ground := Ground.phase }, { on := 5, ground := Ground.phase }, { on := 6, ground := Ground.phase }, { on := 7, ground := Ground.phase }, { on := 8, ground := Ground.phase }, { on := 9, ground := Ground.phase }, { on := 10, ground := Ground.textOnly Departure.lateStores }, { on := 11, ground := Ground.phase }], guard := none } : Oper)) rfl (fun K hK => ?_) AllReadyH.nil
                go_simp
                refine hK.out _ _ trivial (fun _ => ?_)
                clear hK K
                have qG' := qG.set (.bool p1.f) (.string p1.x) (.string p1.y)
                have qR' := qR.far3 G (by omega) (.bool p1.f) (.string p1.x) (.string p1.y)
                have hbW : Below w.heap.size w (((V.setCell ⟨G, 0, none⟩ (.bool p1.f)).setCell ⟨G, 1, none⟩ (.string p1.x)).setCell ⟨G, 2, none⟩ (.string p1.y)) := below3s hbV (by omega) _ _ _
                clear c0 c1 c2 f0 f1 f2 qG qR hbV
                generalize ((V.setCell ⟨G, 0, none⟩ (.bool p1.f)).setCell ⟨G, 1, none⟩ (.string p1.x)).setCell ⟨G, 2, none⟩ (.string p1.y) = W at *
                refine wpAnyH_take (i := 13) (oi := ({ dst := some 14, op := Op.assign (Operand.tmp 76), type := 4, pos := "l3_verify.go:159", after := #[{ on := 10, ground := Ground.data }, { on := 12, ground := Ground.chain }, { on := 0, ground := Ground.phase }, { on := 1, ground := Ground.phase }, { on := 2, ground := Ground.phase }, { on := 3, ground := Ground.phase }, { on := 4, ground := Ground.phase }, { on := 5, ground := Ground.phase }, { on := 6, ground := Ground.phase }, { on := 7, ground := Ground.phase }, { on := 8, ground := Ground.phase }, { on := 9, ground := Ground.phase }, { on := 10, ground := Ground.phase }, { on := 11, ground := Ground.phase }, { on := 12, ground := Ground.phase }], guard := none } : Oper)) (v := .bool true) rfl (by kernel_rfl) (by kernel_rfl) (by kernel_rfl) (fun _ _ _ h => h) (Or.inl ⟨by rfl, fun w hSw => by go_simp⟩) trivial ?_
                simp only [Act.put, List.setIfInBounds_toArray, List.set_cons_zero, List.set_cons_succ]
                refine wpAnyH_done (by kernel_rfl) ?_ _
                obtain ⟨c0, c1, c2, f0, f1, f2⟩ := id qR'
                obtain ⟨g0, g1, g2, _, _, _⟩ := id qG'
                go_wp2
                obtain ⟨r0, r1, r2⟩ := triple_set W _ _ _ _ (.bool p1.f) (.string p1.x) (.string p1.y) qR'
                exact bodyPost_ret (v := .tuple #[.agg #[.bool p1.f, .string p1.x, .string p1.y], .bool true]) (by simp [results, Tryz.results66, go_sem, r0, r1, r2]) rfl ⟨rfl, below3s (hbW) (Nat.le_refl _) _ _ _⟩
          · have te : (X.toList == Y.toList) = false := by rw [bytes_eq]; exact dF e
            rw [if_neg e] at hr
            obtain ⟨hp, rfl⟩ : cand k X Y = p ∧ true = t := by simpa using hr
            have HP : Hid (cand k X Y = p) := hp
            clear e hp hr
            go_wp2_with (first | (go_at_call 38; refine (l2Split_as n _ _ (by rfl) hcap s HSP.out).mono ?_; rintro e w' ⟨rfl, rfl⟩) | (go_at_call 54; have _h := hb1; refine (specInside_any k n s B _ d _ _ (by rfl) hs2 hB1 hd hn20 hsz4' Y HY.out).mono ?_; rintro e w2 ⟨rfl, hb2⟩; have q2 := q1.later hb2; have hA2 := hA1.later hb2; have hB2 := hB1.later hb2) | (go_at_call 54; refine (specInside_any k n s A _ c _ _ (by rfl) hs2 hA hc hn20 hsz4 X HX.out).mono ?_; rintro e w1 ⟨rfl, hb1⟩; have q1 := qr.later hb1; have hA1 := hA.later hb1; have hB1 := hB.later hb1) | (go_at_call 53; refine (specCand_any k X Y _ hXs hYs p HP.out).mono ?_; rintro e w3 ⟨rfl, hb3⟩; have q3 := q2.later hb3; obtain ⟨c0, c1, c2, f0, f1, f2⟩ := id q3))
            have hbx : Below w.heap.size w w3 := ((hbr.trans (hb1.mono hbr.size)).trans (hb2.mono (Nat.le_trans hbr.size hb1.size))).trans (hb3.mono (Nat.le_trans hbr.size (Nat.le_trans hb1.size hb2.size)))
            obtain ⟨r0, r1, r2⟩ := triple_set w3 _ _ _ _ (.bool p.f) (.string p.x) (.string p.y) q3
            exact bodyPost_ret (v := .tuple #[.agg #[.bool p.f, .string p.x, .string p.y], .bool true]) (by simp [results, Tryz.results66, go_sem, r0, r1, r2]) rfl ⟨rfl, below3s (hbx) (Nat.le_refl _) _ _ _⟩
        · rw [if_pos rfl] at hr
          obtain ⟨rfl, rfl⟩ : noPr = p ∧ false = t := by simpa using hr
          obtain ⟨c0, c1, c2, f0, f1, f2⟩ := id qr
          go_wp2
          obtain ⟨r0, r1, r2⟩ := triple_set wr _ _ _ _ (.bool false) (.string (⟨#[]⟩ : ByteArray)) (.string ⟨#[]⟩) qr
          exact bodyPost_ret (v := .tuple #[.agg #[.bool false, .string ⟨#[]⟩, .string ⟨#[]⟩], .bool false]) (by simp [results, Tryz.results66, go_sem, r0, r1, r2]) rfl ⟨rfl, below3s hbr (Nat.le_refl _) _ _ _⟩
end Go.Proofs.YtlbackkjjhpljaaGreatDoor
namespace Go.Proofs.YtlbackkjjhpljaaGreatDoor
open Go.RowKit
set_option maxRecDepth 20000 in
set_option maxHeartbeats 4000000 in
theorem specStep_same (k : Int) (O : ByteArray) (g : Bool) (f : Nat) (A B : Nat → ByteArray) (n q : Nat) (a b z : Option Addr) (c d l : Nat) (w : World) (p : Pr) (h31 : f ≤ 31) (h1 : 1 ≤ n) (hf : n ≤ 2 ^ f) (hn20 : n ≤ 1048576) (hA : Sl w a n A) (hc : n ≤ c) (hsa : ∀ j, j < n → (A j).size ≤ 1048576) (hB : Sl w b n B) (hd : n ≤ d) (hsb : ∀ j, j < n → (B j).size ≤ 1048576) (hp : (cmp k f A B n).1 = p) :
    Calls Tryz.prog 32 #[.int .i64 k, .string O, .slice a n c, .slice b n d, .slice z q l, .bool g] w fun e w' => e = .returned (.agg #[.bool p.f, .string p.x, .string p.y]) ∧ Below w.heap.size w w' := by
  have hb0 := below1 w (.cells #[.bool false, .string (⟨#[]⟩ : ByteArray), .string ⟨#[]⟩] 25)
  have q0 := B3.new w (.bool false) (.string (⟨#[]⟩ : ByteArray)) (.string ⟨#[]⟩) 25
  have HA := hA.later hb0
  have HB := hB.later hb0
  obtain ⟨⟨p1, t1⟩, hl⟩ : ∃ v, cmp k f A B n = v := ⟨_, rfl⟩
  have HL : Hid (cmp k f A B n = (p1, t1)) := hl
  rw [hl] at hp
  subst hp
  have HF : Hid (n ≤ 2 ^ f) := hf
  clear hl hf
  go_enter Tryz.func32, Tryz.ntmps32
  go_wp2_with (go_at_call 66; refine (specCompare_as k f A B n _ _ c d _ p1 t1 h31 h1 HF.out hn20 HA hc hsa HB hd hsb HL.out).mono ?_; rintro e w1 ⟨rfl, hb1⟩; have q1 := q0.later hb1; obtain ⟨c0, c1, c2, f0, f1, f2⟩ := id q1; have hl1 : w.heap.size < w1.heap.size := World.block_lt_of_cell? _ _ c0)
  have q2 := q1.set (.bool p1.f) (.string p1.x) (.string p1.y)
  have q3 := q2.later (below1 _ (.cells #[.bool p1.f, .string p1.x, .string p1.y] 25))
  obtain ⟨r0, r1, r2, _, _, _⟩ := id q3
  have hb2 := below3s (hb0.trans (hb1.mono hb0.size)) (Nat.le_refl _) (.bool p1.f) (.string p1.x) (.string p1.y)
  exact bodyPost_ret (v := .agg #[.bool p1.f, .string p1.x, .string p1.y]) (by simp [results, Tryz.results32, go_sem, r0, r1, r2]) rfl ⟨rfl, hb2.trans ((below1 _ _).mono hb2.size)⟩
set_option maxRecDepth 20000 in
set_option maxHeartbeats 4000000 in
theorem specStep_as (k : Int) (O : ByteArray) (S : Nat → ByteArray) (hO : O.size ≤ 2097152) (f : Nat) : ∀ (A B : Nat → ByteArray) (m n q : Nat) (g : Bool) (a b z : Option Addr) (c d l : Nat) (w : World) (p : Pr), f ≤ 31 → 1 ≤ m → m ≤ n → n ≤ 2 ^ f → n ≤ 1048576 → q = ql f m n g → Sl w a m A → m ≤ c → (∀ j, j < m → (A j).size ≤ 1048576) → Sl w b n B → n ≤ d → (∀ j, j < n → (B j).size ≤ 1048576) → Sl w z q S → q ≤ l → (∀ j, j < q → (S j).size ≤ 2097152) → stp k O S f A B m n q g = p →
    Calls Tryz.prog 32 #[.int .i64 k, .string O, .slice a m c, .slice b n d, .slice z q l, .bool g] w fun e w' => e = .returned (.agg #[.bool p.f, .string p.x, .string p.y]) ∧ Below w.heap.size w w' := by
  induction f with
  | zero =>
    intro A B m n q g a b z c d l w p h31 h1 hmn hf hn20 hq hA hc hsa hB hd hsb hS hl hss hp
    obtain rfl : n = 1 := by simp at hf; omega
    obtain rfl : m = 1 := by omega
    rw [stp] at hp
    exact specStep_same k O g 0 A B 1 q a b z c d l w p h31 h1 hf hn20 hA hc hsa hB hd hsb hp
  | succ f ih =>
    intro A B m n q g a b z c d l w p h31 h1 hmn hf hn20 hq hA hc hsa hB hd hsb hS hl hss hp
    have hcap := cap40 (by omega) hf
    rw [stp] at hp
    by_cases hn : m = n
    · subst hn
      rw [if_pos rfl] at hp
      exact specStep_same k O g (f + 1) A B m q a b z c d l w p h31 h1 hf hn20 hA hc hsa hB hd hsb hp
    rw [if_neg hn] at hp
    rw [ql, if_neg hn] at hq
    have hs := spl_in n (by omega) hcap
    have hh := spl_half f n (by omega) hcap hf
    obtain ⟨s, hsn⟩ : ∃ s, spl n = s := ⟨_, rfl⟩
    have HSP : Hid (spl n = s) := hsn
    rw [hsn] at hq hp hs hh
    obtain ⟨hs1, hs2, hs3⟩ := hs
    have HF : Hid (s ≤ 2 ^ f) := hh
    have m1 : ¬ (m : Int) = n := by omega
    have ms : (s : Int) ≤ n := by omega
    have mc : (s : Int) ≤ d := by omega
    have mn : (n : Int) ≤ d := by omega
    have mcs : ¬ d = s := by omega
    have mns : ¬ n = s := by omega
    have hb0 := below1 w (.cells #[.bool false, .string (⟨#[]⟩ : ByteArray), .string ⟨#[]⟩] 25)
    have q0 := B3.new w (.bool false) (.string (⟨#[]⟩ : ByteArray)) (.string ⟨#[]⟩) 25
    have hA0 := hA.later hb0
    have hB0 := hB.later hb0
    have hsa4 : ∀ j, j < m → (A j).size ≤ 4194304 := fun j hj => by have := hsa j hj; omega
    have hsb4 : ∀ j, j < n → (B j).size ≤ 4194304 := fun j hj => by have := hsb j hj; omega
    obtain ⟨Y, hY⟩ : ∃ Y, ins k B n s = Y := ⟨_, rfl⟩
    have HY : Hid (one1 (RT k B s) (RT k (fun j => B (s + j)) (n - s)) = Y) := hY
    have hYs : Y.size ≤ 8388608 := by have := ins_size k B n s; rw [hY] at this; omega
    rw [hY] at hp
    clear hf hh hsn hY
    obtain ⟨P, off, rfl, hc00⟩ := hA0.at 0 (by omega)
    obtain ⟨P', off', rfl, hc00'⟩ := hB0.at 0 (by omega)
    clear hc00 hc00'
    by_cases hlt : m ≤ s
    · rw [if_pos hlt] at hq hp
      have hle := ql_le f m s g
      obtain ⟨r, hr⟩ : ∃ r, ql f m s g = r := ⟨_, rfl⟩
      have HQ : Hid (r = ql f m s g) := hr.symm
      rw [hr] at hq hle
      obtain rfl : q = r + 1 := by omega
      rw [Nat.add_sub_cancel] at hp
      have hB2 := cq_le k O S hO f m s r g h1 hlt HF.out (by omega) hr.symm (fun j hj => hss j (by omega))
      obtain ⟨⟨o1, v1⟩, hu⟩ : ∃ u, cq k O S f m s r g = u := ⟨_, rfl⟩
      have HU : Hid (cq k O S f m s r g = (o1, v1)) := hu
      rw [hu] at hp hB2
      have ho1 : o1.size ≤ 2097152 := hB2.1
      have hv1 : v1.size ≤ 2097152 := hB2.2
      clear hB2
      have hzq := hss r (by omega)
      have hS0' := hS.later hb0
      obtain ⟨pb, po, rfl, hcb⟩ := hS0'.at r (by omega)
      have hS0 := hS0'.left r (by omega)
      obtain ⟨X, hX⟩ : ∃ X, (⟨#[1]⟩ : ByteArray) ++ v1 ++ S r = X := ⟨_, rfl⟩
      have hXs : X.size ≤ 8388608 := by rw [← hX, size2]; omega
      rw [show one1 v1 (S r) = X from hX] at hp
      have mlt : (m : Int) ≤ s := by omega
      clear hr hq hu hS0' hS hA hB
      by_cases e : X = Y
      · have te : (X.toList == Y.toList) = true := by rw [bytes_eq]; exact dT e
        rw [if_pos e] at hp
        have HP : Hid (stp k O S f A B m s r g = p) := hp
        clear e hp
        go_enter Tryz.func32, Tryz.ntmps32
        go_wp2_with (first | (go_at_call 38; refine (l2Split_as n _ _ (by rfl) hcap s HSP.out).mono ?_; rintro e w' ⟨rfl, rfl⟩) | (go_at_call 49; refine (specClaims_as k O S hO f m s r g _ _ _ _ _ o1 v1 (by omega) (by omega) (by omega) (by have := HF.out; omega) (by omega) (by omega) HQ.out hS0 (by omega) (fun j hj => hss j (by omega)) HU.out).mono ?_; rintro e w1 ⟨rfl, hb1⟩; have q1 := q0.later hb1; have hA1 := hA0.later hb1; have hB1 := hB0.later hb1; have hS1 := hS0.later hb1) | (go_at_call 54; refine (specInside_any k n s B _ d _ _ (by rfl) (by omega) hB1 (by omega) (by omega) hsb4 Y HY.out).mono ?_; rintro e w2 ⟨rfl, hb2⟩; have q2 := q1.later hb2; have hA2 := hA1.later hb2; have hB2 := hB1.later hb2; have hS2 := hS1.later hb2) | (go_at_call 32; refine (ih A B m s r g _ _ _ c d _ _ p (by omega) h1 hlt HF.out (by omega) HQ.out hA2 hc hsa (hB2.left s (by omega)) (by omega) (fun j hj => hsb j (by omega)) hS2 (by omega) (fun j hj => hss j (by omega)) HP.out).mono ?_; rintro e w3 ⟨rfl, hb3⟩; have q3 := q2.later hb3; obtain ⟨c0, c1, c2, f0, f1, f2⟩ := id q3))
        obtain ⟨r0, r1, r2⟩ := triple_set w3 _ _ _ _ (.bool p.f) (.string p.x) (.string p.y) q3
        exact bodyPost_ret (v := .agg #[.bool p.f, .string p.x, .string p.y]) (by simp [results, Tryz.results32, go_sem, r0, r1, r2]) rfl ⟨rfl, below3s ((((hb0.trans (hb1.mono (hb0.size))).trans (hb2.mono (Nat.le_trans (hb0.size) hb1.size))).trans (hb3.mono (Nat.le_trans (Nat.le_trans (hb0.size) hb1.size) hb2.size)))) (Nat.le_refl _) _ _ _⟩
      · have te : (X.toList == Y.toList) = false := by rw [bytes_eq]; exact dF e
        rw [if_neg e] at hp
        have HP : Hid (cand k X Y = p) := hp
        clear e hp ih
        go_enter Tryz.func32, Tryz.ntmps32
        go_wp2_with (first | (go_at_call 38; refine (l2Split_as n _ _ (by rfl) hcap s HSP.out).mono ?_; rintro e w' ⟨rfl, rfl⟩) | (go_at_call 49; refine (specClaims_as k O S hO f m s r g _ _ _ _ _ o1 v1 (by omega) (by omega) (by omega) (by have := HF.out; omega) (by omega) (by omega) HQ.out hS0 (by omega) (fun j hj => hss j (by omega)) HU.out).mono ?_; rintro e w1 ⟨rfl, hb1⟩; have q1 := q0.later hb1; have hA1 := hA0.later hb1; have hB1 := hB0.later hb1; have hS1 := hS0.later hb1) | (go_at_call 54; have _h := hb2; refine (specInside_any k n s B _ d _ _ (by rfl) (by omega) hB2 (by omega) (by omega) hsb4 Y HY.out).mono ?_; rintro e w3 ⟨rfl, hb3⟩; have q3 := q2.later hb3; have hA3 := hA2.later hb3; have hB3 := hB2.later hb3; have hS3 := hS2.later hb3) | (go_at_call 54; refine (specInside_any k n s B _ d _ _ (by rfl) (by omega) hB1 (by omega) (by omega) hsb4 Y HY.out).mono ?_; rintro e w2 ⟨rfl, hb2⟩; have q2 := q1.later hb2; have hA2 := hA1.later hb2; have hB2 := hB1.later hb2; have hS2 := hS1.later hb2) | (go_at_call 53; refine (specCand_any k X Y _ hXs hYs p HP.out).mono ?_; rintro e w4 ⟨rfl, hb4⟩; have q4 := q3.later hb4; obtain ⟨c0, c1, c2, f0, f1, f2⟩ := id q4))
        obtain ⟨r0, r1, r2⟩ := triple_set w4 _ _ _ _ (.bool p.f) (.string p.x) (.string p.y) q4
        exact bodyPost_ret (v := .agg #[.bool p.f, .string p.x, .string p.y]) (by simp [results, Tryz.results32, go_sem, r0, r1, r2]) rfl ⟨rfl, below3s (((((hb0.trans (hb1.mono (hb0.size))).trans (hb2.mono (Nat.le_trans (hb0.size) hb1.size))).trans (hb3.mono (Nat.le_trans (Nat.le_trans (hb0.size) hb1.size) hb2.size))).trans (hb4.mono (Nat.le_trans (Nat.le_trans (Nat.le_trans (hb0.size) hb1.size) hb2.size) hb3.size)))) (Nat.le_refl _) _ _ _⟩
    · rw [if_neg hlt] at hq hp
      have hle := ql_le f (m - s) (n - s) false
      obtain ⟨r, hr⟩ : ∃ r, ql f (m - s) (n - s) false = r := ⟨_, rfl⟩
      have HQ : Hid (r = ql f (m - s) (n - s) false) := hr.symm
      rw [hr] at hq hle
      obtain rfl : q = r + 1 := by omega
      rw [Nat.add_sub_cancel] at hp
      have hB2 := cq_le k O S hO f (m - s) (n - s) r false (by omega) (by omega) (by have := HF.out; omega) (by omega) hr.symm (fun j hj => hss j (by omega))
      obtain ⟨⟨o1, v1⟩, hu⟩ : ∃ u, cq k O S f (m - s) (n - s) r false = u := ⟨_, rfl⟩
      have HU : Hid (cq k O S f (m - s) (n - s) r false = (o1, v1)) := hu
      rw [hu] at hp hB2
      have ho1 : o1.size ≤ 2097152 := hB2.1
      have hv1 : v1.size ≤ 2097152 := hB2.2
      clear hB2
      have hzq := hss r (by omega)
      have hS0' := hS.later hb0
      obtain ⟨pb, po, rfl, hcb⟩ := hS0'.at r (by omega)
      have hS0 := hS0'.left r (by omega)
      obtain ⟨X, hX⟩ : ∃ X, (⟨#[1]⟩ : ByteArray) ++ S r ++ o1 = X := ⟨_, rfl⟩
      obtain ⟨V, hV⟩ : ∃ X, (⟨#[1]⟩ : ByteArray) ++ S r ++ v1 = X := ⟨_, rfl⟩
      have hXs : X.size ≤ 8388608 := by rw [← hX, size2]; omega
      have hVs : V.size ≤ 8388608 := by rw [← hV, size2]; omega
      obtain ⟨U, hU⟩ : ∃ Y, ins k A m s = Y := ⟨_, rfl⟩
      have HUU : Hid (one1 (RT k A s) (RT k (fun j => A (s + j)) (m - s)) = U) := hU
      have hUs : U.size ≤ 8388608 := by have := ins_size k A m s; rw [hU] at this; omega
      rw [show one1 (S r) o1 = X from hX, show one1 (S r) v1 = V from hV, hU] at hp
      have mlt : ¬ (m : Int) ≤ s := by omega
      have mm : (s : Int) ≤ m := by omega
      have mm2 : (s : Int) ≤ c := by omega
      have mm3 : (m : Int) ≤ c := by omega
      have mm4 : ¬ c = s := by omega
      have mm5 : ¬ m = s := by omega
      have mm6 : ((m : Int) - s) = ((m - s : Nat) : Int) := by omega
      have mm7 : ((n : Int) - s) = ((n - s : Nat) : Int) := by omega
      have hA00 := hA
      have hB00 := hB
      have hS00 := hS
      obtain ⟨⟨p1, t1⟩, hl2⟩ : ∃ v, cmp k f A B s = v := ⟨_, rfl⟩
      have HL : Hid (cmp k f A B s = (p1, t1)) := hl2
      rw [hl2] at hp
      clear hr hq hu hS0' hS hA hB hU hl2 mm6 mm7
      by_cases e : X = U
      · have te : (X.toList == U.toList) = true := by rw [bytes_eq]; exact dT e
        rw [if_pos e] at hp
        clear e
        by_cases e' : V = Y
        · have te' : (V.toList == Y.toList) = true := by rw [bytes_eq]; exact dT e'
          rw [if_pos e'] at hp
          clear e'
          cases t1
          · rw [if_neg (by simp)] at hp
            have HP : Hid (stp k O S f (fun j => A (s + j)) (fun j => B (s + j)) (m - s) (n - s) r false = p) := hp
            clear hp
            go_enter Tryz.func32, Tryz.ntmps32
            go_wp2_with (first | (go_at_call 38; refine (l2Split_as n _ _ (by rfl) hcap s HSP.out).mono ?_; rintro e w' ⟨rfl, rfl⟩) | (go_at_call 49; refine (specClaims_as k O S hO f (m - s) (n - s) r false _ _ _ _ _ o1 v1 (by omega) (by omega) (by omega) (by have := HF.out; omega) (by omega) (by omega) HQ.out hS0 (by omega) (fun j hj => hss j (by omega)) HU.out).mono ?_; rintro e w1 ⟨rfl, hb1⟩; have q1 := q0.later hb1; have hA1 := hA0.later hb1; have hB1 := hB0.later hb1; have hS1 := hS0.later hb1) | (go_at_call 54; have _h := hb2; refine (specInside_any k n s B _ d _ _ (by rfl) (by omega) hB2 (by omega) (by omega) hsb4 Y HY.out).mono ?_; rintro e w3 ⟨rfl, hb3⟩; have q3 := q2.later hb3; have hA3 := hA2.later hb3; have hB3 := hB2.later hb3; have hS3 := hS2.later hb3) | (go_at_call 54; refine (specInside_any k m s A _ c _ _ (by rfl) (by omega) hA1 (by omega) (by omega) hsa4 U HUU.out).mono ?_; rintro e w2 ⟨rfl, hb2⟩; have q2 := q1.later hb2; have hA2 := hA1.later hb2; have hB2 := hB1.later hb2; have hS2 := hS1.later hb2))
            have hbx : Below w.heap.size w w3 := (((hb0.trans (hb1.mono (hb0.size))).trans (hb2.mono (Nat.le_trans (hb0.size) hb1.size))).trans (hb3.mono (Nat.le_trans (Nat.le_trans (hb0.size) hb1.size) hb2.size)))
            clear te te' hb1 hb2 hb3 hX hV hcb
            refine wp_region_held_drew (S := fun _ => True) (by kernel_rfl) trivial (fun _ => ?_)
            refine wpAnyH_take (i := 0) (oi := ({ dst := some 143, op := Op.move (Operand.tmp 0), type := 3, pos := "l3_verify.go:193", after := #[], guard := none } : Oper)) (v := .int .i64 k) rfl (by kernel_rfl) (by kernel_rfl) (by kernel_rfl) (fun _ _ _ h => h) (Or.inl ⟨by rfl, fun w hSw => by go_simp⟩) trivial ?_
            simp only [Act.put, List.setIfInBounds_toArray, List.set_cons_zero, List.set_cons_succ]
            refine wpAnyH_take (i := 1) (oi := ({ dst := some 144, op := Op.move (Operand.tmp 2), type := 22, pos := "l3_verify.go:193", after := #[], guard := none } : Oper)) (v := .slice (some ⟨P, off, none⟩) m c) rfl (by kernel_rfl) (by kernel_rfl) (by kernel_rfl) (fun _ _ _ h => h) (Or.inl ⟨by rfl, fun w hSw => by go_simp⟩) trivial ?_
            simp only [Act.put, List.setIfInBounds_toArray, List.set_cons_zero, List.set_cons_succ]
            refine wpAnyH_take (i := 2) (oi := ({ dst := some 145, op := Op.move (Operand.tmp 17), type := 3, pos := "l3_verify.go:193", after := #[], guard := none } : Oper)) (v := .int .i64 (s : Int)) rfl (by kernel_rfl) (by kernel_rfl) (by kernel_rfl) (fun _ _ _ h => h) (Or.inl ⟨by rfl, fun w hSw => by go_simp⟩) trivial ?_
            simp only [Act.put, List.setIfInBounds_toArray, List.set_cons_zero, List.set_cons_succ]
            refine wpAnyH_take (i := 3) (oi := ({ dst := some 146, op := Op.slice 22 (Operand.tmp 144) none (some (Operand.tmp 145)) none, type := 22, pos := "l3_verify.go:193", after := #[{ on := 1, ground := Ground.data }, { on := 2, ground := Ground.data }], guard := none } : Oper)) (v := .slice (some ⟨P, off, none⟩) s c) rfl (by kernel_rfl) (by kernel_rfl) (by kernel_rfl) (fun _ _ _ h => h) (Or.inl ⟨by rfl, fun w hSw => by go_simp⟩) trivial ?_
            simp only [Act.put, List.setIfInBounds_toArray, List.set_cons_zero, List.set_cons_succ]
            refine wpAnyH_take (i := 4) (oi := ({ dst := some 147, op := Op.move (Operand.tmp 3), type := 22, pos := "l3_verify.go:193", after := #[], guard := none } : Oper)) (v := .slice (some ⟨P', off', none⟩) n d) rfl (by kernel_rfl) (by kernel_rfl) (by kernel_rfl) (fun _ _ _ h => h) (Or.inl ⟨by rfl, fun w hSw => by go_simp⟩) trivial ?_
            simp only [Act.put, List.setIfInBounds_toArray, List.set_cons_zero, List.set_cons_succ]
            refine wpAnyH_take (i := 5) (oi := ({ dst := some 148, op := Op.move (Operand.tmp 17), type := 3, pos := "l3_verify.go:193", after := #[], guard := none } : Oper)) (v := .int .i64 (s : Int)) rfl (by kernel_rfl) (by kernel_rfl) (by kernel_rfl) (fun _ _ _ h => h) (Or.inl ⟨by rfl, fun w hSw => by go_simp⟩) trivial ?_
            simp only [Act.put, List.setIfInBounds_toArray, List.set_cons_zero, List.set_cons_succ]
            refine wpAnyH_take (i := 6) (oi := ({ dst := some 149, op := Op.slice 22 (Operand.tmp 147) none (some (Operand.tmp 148)) none, type := 22, pos := "l3_verify.go:193", after := #[{ on := 4, ground := Ground.data }, { on := 5, ground := Ground.data }], guard := none } : Oper)) (v := .slice (some ⟨P', off', none⟩) s d) rfl (by kernel_rfl) (by kernel_rfl) (by kernel_rfl) (fun _ _ _ h => h) (Or.inl ⟨by rfl, fun w hSw => by go_simp⟩) trivial ?_
            simp only [Act.put, List.setIfInBounds_toArray, List.set_cons_zero, List.set_cons_succ]
            refine wpAnyH_ready (rs := [7, 11]) (by kernel_rfl) (by simp) ?_
            refine AllReadyH.cons (o := ({ dst := some 150, op := Op.call { callee := Callee.value (Operand.func 66), args := #[Operand.tmp 143, Operand.tmp 146, Operand.tmp 149], argTypes := #[3, 22, 22] }, type := 94, pos := "l3_verify.go:193", after := #[{ on := 0, ground := Ground.data }, { on := 3, ground := Ground.data }, { on := 6, ground := Ground.data }], guard := none } : Oper)) rfl (fun K hK => ?_) (AllReadyH.cons (o := ({ dst := some 26, op := Op.alloc 25, type := 0, pos := "l3_verify.go:193", after := #[], guard := none } : Oper)) rfl (fun K hK => ?_) AllReadyH.nil)
            · go_simp
              refine (specCompare_as k f A B s (some ⟨P, off, none⟩) (some ⟨P', off', none⟩) c d _ p1 false (by omega) (by omega) HF.out (by omega) (hA3.drew1.left s (by omega)) (by omega) (fun j hj => hsa j (by omega)) (hB3.drew1.left s (by omega)) (by omega) (fun j hj => hsb j (by omega)) HL.out).mono ?_
              rintro e w4 ⟨rfl, hb4⟩
              refine hK.out _ _ trivial (fun _ => ?_)
              clear hK K
              refine wpAnyH_take (i := 8) (oi := ({ dst := some 142, op := Op.move (Operand.tmp 150), type := 94, pos := "l3_verify.go:193", after := #[{ on := 7, ground := Ground.data }], guard := none } : Oper)) (v := .tuple #[.agg #[.bool p1.f, .string p1.x, .string p1.y], .bool false]) rfl (by kernel_rfl) (by kernel_rfl) (by kernel_rfl) (fun _ _ _ h => h) (Or.inl ⟨by rfl, fun w hSw => by go_simp⟩) trivial ?_
              simp only [Act.put, List.setIfInBounds_toArray, List.set_cons_zero, List.set_cons_succ]
              refine wpAnyH_take (i := 9) (oi := ({ dst := some 151, op := Op.extract (Operand.tmp 142) 0, type := 25, pos := "l3_verify.go:193", after := #[{ on := 8, ground := Ground.data }], guard := none } : Oper)) (v := .agg #[.bool p1.f, .string p1.x, .string p1.y]) rfl (by kernel_rfl) (by kernel_rfl) (by kernel_rfl) (fun _ _ _ h => h) (Or.inl ⟨by rfl, fun w hSw => by go_simp⟩) trivial ?_
              simp only [Act.put, List.setIfInBounds_toArray, List.set_cons_zero, List.set_cons_succ]
              refine wpAnyH_take (i := 10) (oi := ({ dst := some 152, op := Op.extract (Operand.tmp 142) 1, type := 4, pos := "l3_verify.go:193", after := #[{ on := 8, ground := Ground.data }, { on := 12, ground := Ground.gcOnly Departure.lateStores }], guard := none } : Oper)) (v := .bool false) rfl (by kernel_rfl) (by kernel_rfl) (by kernel_rfl) (fun _ _ _ h => h) (Or.inl ⟨by rfl, fun w hSw => by go_simp⟩) trivial ?_
              simp only [Act.put, List.setIfInBounds_toArray, List.set_cons_zero, List.set_cons_succ]
              refine wpAnyH_ready (rs := [11]) (by kernel_rfl) (by simp) ?_
              refine AllReadyH.cons (o := ({ dst := some 26, op := Op.alloc 25, type := 0, pos := "l3_verify.go:193", after := #[], guard := none } : Oper)) rfl (fun K hK => ?_) AllReadyH.nil
              go_simp
              refine hK.out _ _ trivial (fun _ => ?_)
              clear hK K
              have hbV : Below w.heap.size w (w4.alloc (.cells #[.bool false, .string (⟨#[]⟩ : ByteArray), .string ⟨#[]⟩] 25)) := ((hbx.trans ((bdrewS w3).mono hbx.size)).trans (hb4.mono hbx.size)).trans ((below1 w4 _).mono (Nat.le_trans hbx.size hb4.size))
              have qG : B3 (w4.alloc (.cells #[.bool false, .string (⟨#[]⟩ : ByteArray), .string ⟨#[]⟩] 25)) w4.heap.size (.bool false) (.string ⟨#[]⟩) (.string ⟨#[]⟩) := B3.new _ _ _ _ _
              have qR := ((q3.later (bdrewS w3)).later hb4).later (below1 w4 (.cells #[.bool false, .string (⟨#[]⟩ : ByteArray), .string ⟨#[]⟩] 25))
              have hSV := ((hS3.later (bdrewS w3)).later hb4).later (below1 w4 (.cells #[.bool false, .string (⟨#[]⟩ : ByteArray), .string ⟨#[]⟩] 25))
              have hG : w.heap.size < w4.heap.size := Nat.lt_of_lt_of_le (World.block_lt_of_cell? _ _ q3.c0) hb4.size
              clear hb4
              generalize w4.alloc (.cells #[.bool false, .string (⟨#[]⟩ : ByteArray), .string ⟨#[]⟩] 25) = T at *
              generalize w4.heap.size = G at *
              obtain ⟨c0, c1, c2, f0, f1, f2⟩ := id qG
              refine wpAnyH_ready (rs := [12]) (by kernel_rfl) (by simp) ?_
              refine AllReadyH.cons (o := ({ dst := none, op := Op.store 25 (Operand.tmp 26) (Operand.tmp 151), type := 0, pos := "l3_verify.go:193", after := #[{ on := 11, ground := Ground.data }, { on := 9, ground := Ground.data }, { on := 7, ground := Ground.chain }, { on := 0, ground := Ground.phase }, { on := 1, ground := Ground.phase }, { on := 2, ground := Ground.phase }, { on := 3, ground := Ground.phase }, { on := 4, ground := Ground.phase }, { on := 5, ground := Ground.phase }, { on := 6, ground := Ground.phase }, { on := 7, ground := Ground.phase }, { on := 8, ground := Ground.phase }, { on := 9, ground := Ground.phase }, { on := 10, ground := Ground.textOnly Departure.lateStores }, { on := 11, ground := Ground.phase }], guard := none } : Oper)) rfl (fun K hK => ?_) AllReadyH.nil
              go_simp
              refine hK.out _ _ trivial (fun _ => ?_)
              clear hK K
              have qG' := qG.set (.bool p1.f) (.string p1.x) (.string p1.y)
              have qR' := qR.far3 G (by omega) (.bool p1.f) (.string p1.x) (.string p1.y)
              have hbW : Below w.heap.size w (((T.setCell ⟨G, 0, none⟩ (.bool p1.f)).setCell ⟨G, 1, none⟩ (.string p1.x)).setCell ⟨G, 2, none⟩ (.string p1.y)) := below3s hbV (by omega) _ _ _
              clear c0 c1 c2 f0 f1 f2 qG qR hbV
              generalize ((T.setCell ⟨G, 0, none⟩ (.bool p1.f)).setCell ⟨G, 1, none⟩ (.string p1.x)).setCell ⟨G, 2, none⟩ (.string p1.y) = W at *
              refine wpAnyH_take (i := 13) (oi := ({ dst := some 27, op := Op.assign (Operand.tmp 152), type := 4, pos := "l3_verify.go:193", after := #[{ on := 10, ground := Ground.data }, { on := 12, ground := Ground.chain }, { on := 0, ground := Ground.phase }, { on := 1, ground := Ground.phase }, { on := 2, ground := Ground.phase }, { on := 3, ground := Ground.phase }, { on := 4, ground := Ground.phase }, { on := 5, ground := Ground.phase }, { on := 6, ground := Ground.phase }, { on := 7, ground := Ground.phase }, { on := 8, ground := Ground.phase }, { on := 9, ground := Ground.phase }, { on := 10, ground := Ground.phase }, { on := 11, ground := Ground.phase }, { on := 12, ground := Ground.phase }], guard := none } : Oper)) (v := .bool false) rfl (by kernel_rfl) (by kernel_rfl) (by kernel_rfl) (fun _ _ _ h => h) (Or.inl ⟨by rfl, fun w hSw => by go_simp⟩) trivial ?_
              simp only [Act.put, List.setIfInBounds_toArray, List.set_cons_zero, List.set_cons_succ]
              refine wpAnyH_done (by kernel_rfl) ?_ _
              have hA4 := hA00.later hbW
              have hB4 := hB00.later hbW
              have hS4 := hS00.later hbW
              go_wp2
              refine wp_region_held_drew (S := fun _ => True) (by kernel_rfl) trivial (fun _ => ?_)
              refine wpAnyH_take (i := 0) (oi := ({ dst := some 155, op := Op.move (Operand.tmp 0), type := 3, pos := "l3_verify.go:197", after := #[], guard := none } : Oper)) (v := .int .i64 k) rfl (by kernel_rfl) (by kernel_rfl) (by kernel_rfl) (fun _ _ _ h => h) (Or.inl ⟨by rfl, fun w hSw => by go_simp⟩) trivial ?_
              simp only [Act.put, List.setIfInBounds_toArray, List.set_cons_zero, List.set_cons_succ]
              refine wpAnyH_take (i := 1) (oi := ({ dst := some 156, op := Op.move (Operand.tmp 1), type := 9, pos := "l3_verify.go:197", after := #[], guard := none } : Oper)) (v := .string O) rfl (by kernel_rfl) (by kernel_rfl) (by kernel_rfl) (fun _ _ _ h => h) (Or.inl ⟨by rfl, fun w hSw => by go_simp⟩) trivial ?_
              simp only [Act.put, List.setIfInBounds_toArray, List.set_cons_zero, List.set_cons_succ]
              refine wpAnyH_take (i := 2) (oi := ({ dst := some 157, op := Op.move (Operand.tmp 2), type := 22, pos := "l3_verify.go:197", after := #[], guard := none } : Oper)) (v := .slice (some ⟨P, off, none⟩) m c) rfl (by kernel_rfl) (by kernel_rfl) (by kernel_rfl) (fun _ _ _ h => h) (Or.inl ⟨by rfl, fun w hSw => by go_simp⟩) trivial ?_
              simp only [Act.put, List.setIfInBounds_toArray, List.set_cons_zero, List.set_cons_succ]
              refine wpAnyH_take (i := 3) (oi := ({ dst := some 158, op := Op.move (Operand.tmp 17), type := 3, pos := "l3_verify.go:197", after := #[], guard := none } : Oper)) (v := .int .i64 (s : Int)) rfl (by kernel_rfl) (by kernel_rfl) (by kernel_rfl) (fun _ _ _ h => h) (Or.inl ⟨by rfl, fun w hSw => by go_simp⟩) trivial ?_
              simp only [Act.put, List.setIfInBounds_toArray, List.set_cons_zero, List.set_cons_succ]
              refine wpAnyH_take (i := 4) (oi := ({ dst := some 159, op := Op.slice 22 (Operand.tmp 157) (some (Operand.tmp 158)) none none, type := 22, pos := "l3_verify.go:197", after := #[{ on := 2, ground := Ground.data }, { on := 3, ground := Ground.data }], guard := none } : Oper)) (v := .slice (some ⟨P, off + s, none⟩) (m - s) (c - s)) rfl (by kernel_rfl) (by kernel_rfl) (by kernel_rfl) (fun _ _ _ h => h) (Or.inl ⟨by rfl, fun w hSw => by go_simp⟩) trivial ?_
              simp only [Act.put, List.setIfInBounds_toArray, List.set_cons_zero, List.set_cons_succ]
              refine wpAnyH_take (i := 5) (oi := ({ dst := some 160, op := Op.move (Operand.tmp 3), type := 22, pos := "l3_verify.go:197", after := #[], guard := none } : Oper)) (v := .slice (some ⟨P', off', none⟩) n d) rfl (by kernel_rfl) (by kernel_rfl) (by kernel_rfl) (fun _ _ _ h => h) (Or.inl ⟨by rfl, fun w hSw => by go_simp⟩) trivial ?_
              simp only [Act.put, List.setIfInBounds_toArray, List.set_cons_zero, List.set_cons_succ]
              refine wpAnyH_take (i := 6) (oi := ({ dst := some 161, op := Op.move (Operand.tmp 17), type := 3, pos := "l3_verify.go:197", after := #[], guard := none } : Oper)) (v := .int .i64 (s : Int)) rfl (by kernel_rfl) (by kernel_rfl) (by kernel_rfl) (fun _ _ _ h => h) (Or.inl ⟨by rfl, fun w hSw => by go_simp⟩) trivial ?_
              simp only [Act.put, List.setIfInBounds_toArray, List.set_cons_zero, List.set_cons_succ]
              refine wpAnyH_take (i := 7) (oi := ({ dst := some 162, op := Op.slice 22 (Operand.tmp 160) (some (Operand.tmp 161)) none none, type := 22, pos := "l3_verify.go:197", after := #[{ on := 5, ground := Ground.data }, { on := 6, ground := Ground.data }], guard := none } : Oper)) (v := .slice (some ⟨P', off' + s, none⟩) (n - s) (d - s)) rfl (by kernel_rfl) (by kernel_rfl) (by kernel_rfl) (fun _ _ _ h => h) (Or.inl ⟨by rfl, fun w hSw => by go_simp⟩) trivial ?_
              simp only [Act.put, List.setIfInBounds_toArray, List.set_cons_zero, List.set_cons_succ]
              refine wpAnyH_take (i := 8) (oi := ({ dst := some 163, op := Op.move (Operand.tmp 19), type := 22, pos := "l3_verify.go:197", after := #[], guard := none } : Oper)) (v := .slice (some ⟨pb, po, none⟩) r l) rfl (by kernel_rfl) (by kernel_rfl) (by kernel_rfl) (fun _ _ _ h => h) (Or.inl ⟨by rfl, fun w hSw => by go_simp⟩) trivial ?_
              simp only [Act.put, List.setIfInBounds_toArray, List.set_cons_zero, List.set_cons_succ]
              refine wpAnyH_ready (rs := [9]) (by kernel_rfl) (by simp) ?_
              refine AllReadyH.cons (o := ({ dst := some 164, op := Op.call { callee := Callee.value (Operand.func 32), args := #[Operand.tmp 155, Operand.tmp 156, Operand.tmp 159, Operand.tmp 162, Operand.tmp 163, Operand.const (Value.bool false)], argTypes := #[3, 9, 22, 22, 22, 4] }, type := 25, pos := "l3_verify.go:197", after := #[{ on := 0, ground := Ground.data }, { on := 1, ground := Ground.data }, { on := 4, ground := Ground.data }, { on := 7, ground := Ground.data }, { on := 8, ground := Ground.data }], guard := none } : Oper)) rfl (fun K hK => ?_) AllReadyH.nil
              go_simp
              refine (ih (fun j => A (s + j)) (fun j => B (s + j)) (m - s) (n - s) r false (some ⟨P, off + s, none⟩) (some ⟨P', off' + s, none⟩) (some ⟨pb, po, none⟩) (c - s) (d - s) l _ p (by omega) (by omega) (by omega) (by have := HF.out; omega) (by omega) HQ.out (hA4.drew1.right s (by omega)) (by omega) (fun j hj => hsa (s + j) (by omega)) (hB4.drew1.right s (by omega)) (by omega) (fun j hj => hsb (s + j) (by omega)) (hS4.drew1.left r (by omega)) (by omega) (fun j hj => hss j (by omega)) HP.out).mono ?_
              rintro e w6 ⟨rfl, hb6⟩
              refine hK.out _ _ trivial (fun _ => ?_)
              clear hK K
              have q6 := (qR'.later (bdrewS W)).later hb6
              obtain ⟨c0, c1, c2, f0, f1, f2⟩ := id q6
              refine wpAnyH_ready (rs := [10]) (by kernel_rfl) (by simp) ?_
              refine AllReadyH.cons (o := ({ dst := none, op := Op.store 25 (Operand.tmp 12) (Operand.tmp 164), type := 0, pos := "l3_verify.go:197", after := #[{ on := 9, ground := Ground.data }, { on := 9, ground := Ground.chain }, { on := 0, ground := Ground.phase }, { on := 1, ground := Ground.phase }, { on := 2, ground := Ground.phase }, { on := 3, ground := Ground.phase }, { on := 4, ground := Ground.phase }, { on := 5, ground := Ground.phase }, { on := 6, ground := Ground.phase }, { on := 7, ground := Ground.phase }, { on := 8, ground := Ground.phase }, { on := 9, ground := Ground.phase }], guard := none } : Oper)) rfl (fun K hK => ?_) AllReadyH.nil
              go_simp
              refine hK.out _ _ trivial (fun _ => ?_)
              clear hK K
              refine wpAnyH_done (by kernel_rfl) ?_ _
              go_wp2
              obtain ⟨r0, r1, r2⟩ := triple_set w6 _ _ _ _ (.bool p.f) (.string p.x) (.string p.y) q6
              exact bodyPost_ret (v := .agg #[.bool p.f, .string p.x, .string p.y]) (by simp [results, Tryz.results32, go_sem, r0, r1, r2]) rfl ⟨rfl, below3s ((hbW.trans ((bdrewS W).mono hbW.size)).trans (hb6.mono hbW.size)) (Nat.le_refl _) _ _ _⟩
            · go_simp
              refine hK.out _ _ trivial (fun _ => ?_)
              clear hK K
              have hba := below1 w3.drew (.cells #[.bool false, .string (⟨#[]⟩ : ByteArray), .string ⟨#[]⟩] 25)
              refine wpAnyH_ready (rs := [7]) (by kernel_rfl) (by simp) ?_
              refine AllReadyH.cons (o := ({ dst := some 150, op := Op.call { callee := Callee.value (Operand.func 66), args := #[Operand.tmp 143, Operand.tmp 146, Operand.tmp 149], argTypes := #[3, 22, 22] }, type := 94, pos := "l3_verify.go:193", after := #[{ on := 0, ground := Ground.data }, { on := 3, ground := Ground.data }, { on := 6, ground := Ground.data }], guard := none } : Oper)) rfl (fun K hK => ?_) AllReadyH.nil
              go_simp
              refine (specCompare_as k f A B s (some ⟨P, off, none⟩) (some ⟨P', off', none⟩) c d _ p1 false (by omega) (by omega) HF.out (by omega) ((hA3.drew1.later hba).left s (by omega)) (by omega) (fun j hj => hsa j (by omega)) ((hB3.drew1.later hba).left s (by omega)) (by omega) (fun j hj => hsb j (by omega)) HL.out).mono ?_
              rintro e T ⟨rfl, hb4⟩
              refine hK.out _ _ trivial (fun _ => ?_)
              clear hK K
              have hbV : Below w.heap.size w T := ((hbx.trans ((bdrewS w3).mono hbx.size)).trans (hba.mono hbx.size)).trans (hb4.mono (Nat.le_trans hbx.size hba.size))
              have qG : B3 T w3.heap.size (.bool false) (.string ⟨#[]⟩) (.string ⟨#[]⟩) := (B3.new w3.drew _ _ _ _).later hb4
              have qR := ((q3.later (bdrewS w3)).later hba).later hb4
              have hSV := ((hS3.later (bdrewS w3)).later hba).later hb4
              have hG : w.heap.size < w3.heap.size := World.block_lt_of_cell? _ _ q3.c0
              clear hb4 hba
              refine wpAnyH_take (i := 8) (oi := ({ dst := some 142, op := Op.move (Operand.tmp 150), type := 94, pos := "l3_verify.go:193", after := #[{ on := 7, ground := Ground.data }], guard := none } : Oper)) (v := .tuple #[.agg #[.bool p1.f, .string p1.x, .string p1.y], .bool false]) rfl (by kernel_rfl) (by kernel_rfl) (by kernel_rfl) (fun _ _ _ h => h) (Or.inl ⟨by rfl, fun w hSw => by go_simp⟩) trivial ?_
              simp only [Act.put, List.setIfInBounds_toArray, List.set_cons_zero, List.set_cons_succ]
              refine wpAnyH_take (i := 9) (oi := ({ dst := some 151, op := Op.extract (Operand.tmp 142) 0, type := 25, pos := "l3_verify.go:193", after := #[{ on := 8, ground := Ground.data }], guard := none } : Oper)) (v := .agg #[.bool p1.f, .string p1.x, .string p1.y]) rfl (by kernel_rfl) (by kernel_rfl) (by kernel_rfl) (fun _ _ _ h => h) (Or.inl ⟨by rfl, fun w hSw => by go_simp⟩) trivial ?_
              simp only [Act.put, List.setIfInBounds_toArray, List.set_cons_zero, List.set_cons_succ]
              refine wpAnyH_take (i := 10) (oi := ({ dst := some 152, op := Op.extract (Operand.tmp 142) 1, type := 4, pos := "l3_verify.go:193", after := #[{ on := 8, ground := Ground.data }, { on := 12, ground := Ground.gcOnly Departure.lateStores }], guard := none } : Oper)) (v := .bool false) rfl (by kernel_rfl) (by kernel_rfl) (by kernel_rfl) (fun _ _ _ h => h) (Or.inl ⟨by rfl, fun w hSw => by go_simp⟩) trivial ?_
              simp only [Act.put, List.setIfInBounds_toArray, List.set_cons_zero, List.set_cons_succ]
              generalize w3.heap.size = G at *
              obtain ⟨c0, c1, c2, f0, f1, f2⟩ := id qG
              refine wpAnyH_ready (rs := [12]) (by kernel_rfl) (by simp) ?_
              refine AllReadyH.cons (o := ({ dst := none, op := Op.store 25 (Operand.tmp 26) (Operand.tmp 151), type := 0, pos := "l3_verify.go:193", after := #[{ on := 11, ground := Ground.data }, { on := 9, ground := Ground.data }, { on := 7, ground := Ground.chain }, { on := 0, ground := Ground.phase }, { on := 1, ground := Ground.phase }, { on := 2, ground := Ground.phase }, { on := 3, ground := Ground.phase }, { on := 4, ground := Ground.phase }, { on := 5, ground := Ground.phase }, { on := 6, ground := Ground.phase }, { on := 7, ground := Ground.phase }, { on := 8, ground := Ground.phase }, { on := 9, ground := Ground.phase }, { on := 10, ground := Ground.textOnly Departure.lateStores }, { on := 11, ground := Ground.phase }], guard := none } : Oper)) rfl (fun K hK => ?_) AllReadyH.nil
              go_simp
              refine hK.out _ _ trivial (fun _ => ?_)
              clear hK K
              have qG' := qG.set (.bool p1.f) (.string p1.x) (.string p1.y)
              have qR' := qR.far3 G (by omega) (.bool p1.f) (.string p1.x) (.string p1.y)
              have hbW : Below w.heap.size w (((T.setCell ⟨G, 0, none⟩ (.bool p1.f)).setCell ⟨G, 1, none⟩ (.string p1.x)).setCell ⟨G, 2, none⟩ (.string p1.y)) := below3s hbV (by omega) _ _ _
              clear c0 c1 c2 f0 f1 f2 qG qR hbV
              generalize ((T.setCell ⟨G, 0, none⟩ (.bool p1.f)).setCell ⟨G, 1, none⟩ (.string p1.x)).setCell ⟨G, 2, none⟩ (.string p1.y) = W at *
              refine wpAnyH_take (i := 13) (oi := ({ dst := some 27, op := Op.assign (Operand.tmp 152), type := 4, pos := "l3_verify.go:193", after := #[{ on := 10, ground := Ground.data }, { on := 12, ground := Ground.chain }, { on := 0, ground := Ground.phase }, { on := 1, ground := Ground.phase }, { on := 2, ground := Ground.phase }, { on := 3, ground := Ground.phase }, { on := 4, ground := Ground.phase }, { on := 5, ground := Ground.phase }, { on := 6, ground := Ground.phase }, { on := 7, ground := Ground.phase }, { on := 8, ground := Ground.phase }, { on := 9, ground := Ground.phase }, { on := 10, ground := Ground.phase }, { on := 11, ground := Ground.phase }, { on := 12, ground := Ground.phase }], guard := none } : Oper)) (v := .bool false) rfl (by kernel_rfl) (by kernel_rfl) (by kernel_rfl) (fun _ _ _ h => h) (Or.inl ⟨by rfl, fun w hSw => by go_simp⟩) trivial ?_
              simp only [Act.put, List.setIfInBounds_toArray, List.set_cons_zero, List.set_cons_succ]
              refine wpAnyH_done (by kernel_rfl) ?_ _
              have hA4 := hA00.later hbW
              have hB4 := hB00.later hbW
              have hS4 := hS00.later hbW
              go_wp2
              refine wp_region_held_drew (S := fun _ => True) (by kernel_rfl) trivial (fun _ => ?_)
              refine wpAnyH_take (i := 0) (oi := ({ dst := some 155, op := Op.move (Operand.tmp 0), type := 3, pos := "l3_verify.go:197", after := #[], guard := none } : Oper)) (v := .int .i64 k) rfl (by kernel_rfl) (by kernel_rfl) (by kernel_rfl) (fun _ _ _ h => h) (Or.inl ⟨by rfl, fun w hSw => by go_simp⟩) trivial ?_
              simp only [Act.put, List.setIfInBounds_toArray, List.set_cons_zero, List.set_cons_succ]
              refine wpAnyH_take (i := 1) (oi := ({ dst := some 156, op := Op.move (Operand.tmp 1), type := 9, pos := "l3_verify.go:197", after := #[], guard := none } : Oper)) (v := .string O) rfl (by kernel_rfl) (by kernel_rfl) (by kernel_rfl) (fun _ _ _ h => h) (Or.inl ⟨by rfl, fun w hSw => by go_simp⟩) trivial ?_
              simp only [Act.put, List.setIfInBounds_toArray, List.set_cons_zero, List.set_cons_succ]
              refine wpAnyH_take (i := 2) (oi := ({ dst := some 157, op := Op.move (Operand.tmp 2), type := 22, pos := "l3_verify.go:197", after := #[], guard := none } : Oper)) (v := .slice (some ⟨P, off, none⟩) m c) rfl (by kernel_rfl) (by kernel_rfl) (by kernel_rfl) (fun _ _ _ h => h) (Or.inl ⟨by rfl, fun w hSw => by go_simp⟩) trivial ?_
              simp only [Act.put, List.setIfInBounds_toArray, List.set_cons_zero, List.set_cons_succ]
              refine wpAnyH_take (i := 3) (oi := ({ dst := some 158, op := Op.move (Operand.tmp 17), type := 3, pos := "l3_verify.go:197", after := #[], guard := none } : Oper)) (v := .int .i64 (s : Int)) rfl (by kernel_rfl) (by kernel_rfl) (by kernel_rfl) (fun _ _ _ h => h) (Or.inl ⟨by rfl, fun w hSw => by go_simp⟩) trivial ?_
              simp only [Act.put, List.setIfInBounds_toArray, List.set_cons_zero, List.set_cons_succ]
              refine wpAnyH_take (i := 4) (oi := ({ dst := some 159, op := Op.slice 22 (Operand.tmp 157) (some (Operand.tmp 158)) none none, type := 22, pos := "l3_verify.go:197", after := #[{ on := 2, ground := Ground.data }, { on := 3, ground := Ground.data }], guard := none } : Oper)) (v := .slice (some ⟨P, off + s, none⟩) (m - s) (c - s)) rfl (by kernel_rfl) (by kernel_rfl) (by kernel_rfl) (fun _ _ _ h => h) (Or.inl ⟨by rfl, fun w hSw => by go_simp⟩) trivial ?_
              simp only [Act.put, List.setIfInBounds_toArray, List.set_cons_zero, List.set_cons_succ]
              refine wpAnyH_take (i := 5) (oi := ({ dst := some 160, op := Op.move (Operand.tmp 3), type := 22, pos := "l3_verify.go:197", after := #[], guard := none } : Oper)) (v := .slice (some ⟨P', off', none⟩) n d) rfl (by kernel_rfl) (by kernel_rfl) (by kernel_rfl) (fun _ _ _ h => h) (Or.inl ⟨by rfl, fun w hSw => by go_simp⟩) trivial ?_
              simp only [Act.put, List.setIfInBounds_toArray, List.set_cons_zero, List.set_cons_succ]
              refine wpAnyH_take (i := 6) (oi := ({ dst := some 161, op := Op.move (Operand.tmp 17), type := 3, pos := "l3_verify.go:197", after := #[], guard := none } : Oper)) (v := .int .i64 (s : Int)) rfl (by kernel_rfl) (by kernel_rfl) (by kernel_rfl) (fun _ _ _ h => h) (Or.inl ⟨by rfl, fun w hSw => by go_simp⟩) trivial ?_
              simp only [Act.put, List.setIfInBounds_toArray, List.set_cons_zero, List.set_cons_succ]
              refine wpAnyH_take (i := 7) (oi := ({ dst := some 162, op := Op.slice 22 (Operand.tmp 160) (some (Operand.tmp 161)) none none, type := 22, pos := "l3_verify.go:197", after := #[{ on := 5, ground := Ground.data }, { on := 6, ground := Ground.data }], guard := none } : Oper)) (v := .slice (some ⟨P', off' + s, none⟩) (n - s) (d - s)) rfl (by kernel_rfl) (by kernel_rfl) (by kernel_rfl) (fun _ _ _ h => h) (Or.inl ⟨by rfl, fun w hSw => by go_simp⟩) trivial ?_
              simp only [Act.put, List.setIfInBounds_toArray, List.set_cons_zero, List.set_cons_succ]
              refine wpAnyH_take (i := 8) (oi := ({ dst := some 163, op := Op.move (Operand.tmp 19), type := 22, pos := "l3_verify.go:197", after := #[], guard := none } : Oper)) (v := .slice (some ⟨pb, po, none⟩) r l) rfl (by kernel_rfl) (by kernel_rfl) (by kernel_rfl) (fun _ _ _ h => h) (Or.inl ⟨by rfl, fun w hSw => by go_simp⟩) trivial ?_
              simp only [Act.put, List.setIfInBounds_toArray, List.set_cons_zero, List.set_cons_succ]
              refine wpAnyH_ready (rs := [9]) (by kernel_rfl) (by simp) ?_
              refine AllReadyH.cons (o := ({ dst := some 164, op := Op.call { callee := Callee.value (Operand.func 32), args := #[Operand.tmp 155, Operand.tmp 156, Operand.tmp 159, Operand.tmp 162, Operand.tmp 163, Operand.const (Value.bool false)], argTypes := #[3, 9, 22, 22, 22, 4] }, type := 25, pos := "l3_verify.go:197", after := #[{ on := 0, ground := Ground.data }, { on := 1, ground := Ground.data }, { on := 4, ground := Ground.data }, { on := 7, ground := Ground.data }, { on := 8, ground := Ground.data }], guard := none } : Oper)) rfl (fun K hK => ?_) AllReadyH.nil
              go_simp
              refine (ih (fun j => A (s + j)) (fun j => B (s + j)) (m - s) (n - s) r false (some ⟨P, off + s, none⟩) (some ⟨P', off' + s, none⟩) (some ⟨pb, po, none⟩) (c - s) (d - s) l _ p (by omega) (by omega) (by omega) (by have := HF.out; omega) (by omega) HQ.out (hA4.drew1.right s (by omega)) (by omega) (fun j hj => hsa (s + j) (by omega)) (hB4.drew1.right s (by omega)) (by omega) (fun j hj => hsb (s + j) (by omega)) (hS4.drew1.left r (by omega)) (by omega) (fun j hj => hss j (by omega)) HP.out).mono ?_
              rintro e w6 ⟨rfl, hb6⟩
              refine hK.out _ _ trivial (fun _ => ?_)
              clear hK K
              have q6 := (qR'.later (bdrewS W)).later hb6
              obtain ⟨c0, c1, c2, f0, f1, f2⟩ := id q6
              refine wpAnyH_ready (rs := [10]) (by kernel_rfl) (by simp) ?_
              refine AllReadyH.cons (o := ({ dst := none, op := Op.store 25 (Operand.tmp 12) (Operand.tmp 164), type := 0, pos := "l3_verify.go:197", after := #[{ on := 9, ground := Ground.data }, { on := 9, ground := Ground.chain }, { on := 0, ground := Ground.phase }, { on := 1, ground := Ground.phase }, { on := 2, ground := Ground.phase }, { on := 3, ground := Ground.phase }, { on := 4, ground := Ground.phase }, { on := 5, ground := Ground.phase }, { on := 6, ground := Ground.phase }, { on := 7, ground := Ground.phase }, { on := 8, ground := Ground.phase }, { on := 9, ground := Ground.phase }], guard := none } : Oper)) rfl (fun K hK => ?_) AllReadyH.nil
              go_simp
              refine hK.out _ _ trivial (fun _ => ?_)
              clear hK K
              refine wpAnyH_done (by kernel_rfl) ?_ _
              go_wp2
              obtain ⟨r0, r1, r2⟩ := triple_set w6 _ _ _ _ (.bool p.f) (.string p.x) (.string p.y) q6
              exact bodyPost_ret (v := .agg #[.bool p.f, .string p.x, .string p.y]) (by simp [results, Tryz.results32, go_sem, r0, r1, r2]) rfl ⟨rfl, below3s ((hbW.trans ((bdrewS W).mono hbW.size)).trans (hb6.mono hbW.size)) (Nat.le_refl _) _ _ _⟩
          · rw [if_pos rfl] at hp
            subst hp
            clear ih
            go_enter Tryz.func32, Tryz.ntmps32
            go_wp2_with (first | (go_at_call 38; refine (l2Split_as n _ _ (by rfl) hcap s HSP.out).mono ?_; rintro e w' ⟨rfl, rfl⟩) | (go_at_call 49; refine (specClaims_as k O S hO f (m - s) (n - s) r false _ _ _ _ _ o1 v1 (by omega) (by omega) (by omega) (by have := HF.out; omega) (by omega) (by omega) HQ.out hS0 (by omega) (fun j hj => hss j (by omega)) HU.out).mono ?_; rintro e w1 ⟨rfl, hb1⟩; have q1 := q0.later hb1; have hA1 := hA0.later hb1; have hB1 := hB0.later hb1; have hS1 := hS0.later hb1) | (go_at_call 54; have _h := hb2; refine (specInside_any k n s B _ d _ _ (by rfl) (by omega) hB2 (by omega) (by omega) hsb4 Y HY.out).mono ?_; rintro e w3 ⟨rfl, hb3⟩; have q3 := q2.later hb3; have hA3 := hA2.later hb3; have hB3 := hB2.later hb3; have hS3 := hS2.later hb3) | (go_at_call 54; refine (specInside_any k m s A _ c _ _ (by rfl) (by omega) hA1 (by omega) (by omega) hsa4 U HUU.out).mono ?_; rintro e w2 ⟨rfl, hb2⟩; have q2 := q1.later hb2; have hA2 := hA1.later hb2; have hB2 := hB1.later hb2; have hS2 := hS1.later hb2))
            have hbx : Below w.heap.size w w3 := (((hb0.trans (hb1.mono (hb0.size))).trans (hb2.mono (Nat.le_trans (hb0.size) hb1.size))).trans (hb3.mono (Nat.le_trans (Nat.le_trans (hb0.size) hb1.size) hb2.size)))
            clear te te' hb1 hb2 hb3 hX hV hcb
            refine wp_region_held_drew (S := fun _ => True) (by kernel_rfl) trivial (fun _ => ?_)
            refine wpAnyH_take (i := 0) (oi := ({ dst := some 143, op := Op.move (Operand.tmp 0), type := 3, pos := "l3_verify.go:193", after := #[], guard := none } : Oper)) (v := .int .i64 k) rfl (by kernel_rfl) (by kernel_rfl) (by kernel_rfl) (fun _ _ _ h => h) (Or.inl ⟨by rfl, fun w hSw => by go_simp⟩) trivial ?_
            simp only [Act.put, List.setIfInBounds_toArray, List.set_cons_zero, List.set_cons_succ]
            refine wpAnyH_take (i := 1) (oi := ({ dst := some 144, op := Op.move (Operand.tmp 2), type := 22, pos := "l3_verify.go:193", after := #[], guard := none } : Oper)) (v := .slice (some ⟨P, off, none⟩) m c) rfl (by kernel_rfl) (by kernel_rfl) (by kernel_rfl) (fun _ _ _ h => h) (Or.inl ⟨by rfl, fun w hSw => by go_simp⟩) trivial ?_
            simp only [Act.put, List.setIfInBounds_toArray, List.set_cons_zero, List.set_cons_succ]
            refine wpAnyH_take (i := 2) (oi := ({ dst := some 145, op := Op.move (Operand.tmp 17), type := 3, pos := "l3_verify.go:193", after := #[], guard := none } : Oper)) (v := .int .i64 (s : Int)) rfl (by kernel_rfl) (by kernel_rfl) (by kernel_rfl) (fun _ _ _ h => h) (Or.inl ⟨by rfl, fun w hSw => by go_simp⟩) trivial ?_
            simp only [Act.put, List.setIfInBounds_toArray, List.set_cons_zero, List.set_cons_succ]
            refine wpAnyH_take (i := 3) (oi := ({ dst := some 146, op := Op.slice 22 (Operand.tmp 144) none (some (Operand.tmp 145)) none, type := 22, pos := "l3_verify.go:193", after := #[{ on := 1, ground := Ground.data }, { on := 2, ground := Ground.data }], guard := none } : Oper)) (v := .slice (some ⟨P, off, none⟩) s c) rfl (by kernel_rfl) (by kernel_rfl) (by kernel_rfl) (fun _ _ _ h => h) (Or.inl ⟨by rfl, fun w hSw => by go_simp⟩) trivial ?_
            simp only [Act.put, List.setIfInBounds_toArray, List.set_cons_zero, List.set_cons_succ]
            refine wpAnyH_take (i := 4) (oi := ({ dst := some 147, op := Op.move (Operand.tmp 3), type := 22, pos := "l3_verify.go:193", after := #[], guard := none } : Oper)) (v := .slice (some ⟨P', off', none⟩) n d) rfl (by kernel_rfl) (by kernel_rfl) (by kernel_rfl) (fun _ _ _ h => h) (Or.inl ⟨by rfl, fun w hSw => by go_simp⟩) trivial ?_
            simp only [Act.put, List.setIfInBounds_toArray, List.set_cons_zero, List.set_cons_succ]
            refine wpAnyH_take (i := 5) (oi := ({ dst := some 148, op := Op.move (Operand.tmp 17), type := 3, pos := "l3_verify.go:193", after := #[], guard := none } : Oper)) (v := .int .i64 (s : Int)) rfl (by kernel_rfl) (by kernel_rfl) (by kernel_rfl) (fun _ _ _ h => h) (Or.inl ⟨by rfl, fun w hSw => by go_simp⟩) trivial ?_
            simp only [Act.put, List.setIfInBounds_toArray, List.set_cons_zero, List.set_cons_succ]
            refine wpAnyH_take (i := 6) (oi := ({ dst := some 149, op := Op.slice 22 (Operand.tmp 147) none (some (Operand.tmp 148)) none, type := 22, pos := "l3_verify.go:193", after := #[{ on := 4, ground := Ground.data }, { on := 5, ground := Ground.data }], guard := none } : Oper)) (v := .slice (some ⟨P', off', none⟩) s d) rfl (by kernel_rfl) (by kernel_rfl) (by kernel_rfl) (fun _ _ _ h => h) (Or.inl ⟨by rfl, fun w hSw => by go_simp⟩) trivial ?_
            simp only [Act.put, List.setIfInBounds_toArray, List.set_cons_zero, List.set_cons_succ]
            refine wpAnyH_ready (rs := [7, 11]) (by kernel_rfl) (by simp) ?_
            refine AllReadyH.cons (o := ({ dst := some 150, op := Op.call { callee := Callee.value (Operand.func 66), args := #[Operand.tmp 143, Operand.tmp 146, Operand.tmp 149], argTypes := #[3, 22, 22] }, type := 94, pos := "l3_verify.go:193", after := #[{ on := 0, ground := Ground.data }, { on := 3, ground := Ground.data }, { on := 6, ground := Ground.data }], guard := none } : Oper)) rfl (fun K hK => ?_) (AllReadyH.cons (o := ({ dst := some 26, op := Op.alloc 25, type := 0, pos := "l3_verify.go:193", after := #[], guard := none } : Oper)) rfl (fun K hK => ?_) AllReadyH.nil)
            · go_simp
              refine (specCompare_as k f A B s (some ⟨P, off, none⟩) (some ⟨P', off', none⟩) c d _ p1 true (by omega) (by omega) HF.out (by omega) (hA3.drew1.left s (by omega)) (by omega) (fun j hj => hsa j (by omega)) (hB3.drew1.left s (by omega)) (by omega) (fun j hj => hsb j (by omega)) HL.out).mono ?_
              rintro e w4 ⟨rfl, hb4⟩
              refine hK.out _ _ trivial (fun _ => ?_)
              clear hK K
              refine wpAnyH_take (i := 8) (oi := ({ dst := some 142, op := Op.move (Operand.tmp 150), type := 94, pos := "l3_verify.go:193", after := #[{ on := 7, ground := Ground.data }], guard := none } : Oper)) (v := .tuple #[.agg #[.bool p1.f, .string p1.x, .string p1.y], .bool true]) rfl (by kernel_rfl) (by kernel_rfl) (by kernel_rfl) (fun _ _ _ h => h) (Or.inl ⟨by rfl, fun w hSw => by go_simp⟩) trivial ?_
              simp only [Act.put, List.setIfInBounds_toArray, List.set_cons_zero, List.set_cons_succ]
              refine wpAnyH_take (i := 9) (oi := ({ dst := some 151, op := Op.extract (Operand.tmp 142) 0, type := 25, pos := "l3_verify.go:193", after := #[{ on := 8, ground := Ground.data }], guard := none } : Oper)) (v := .agg #[.bool p1.f, .string p1.x, .string p1.y]) rfl (by kernel_rfl) (by kernel_rfl) (by kernel_rfl) (fun _ _ _ h => h) (Or.inl ⟨by rfl, fun w hSw => by go_simp⟩) trivial ?_
              simp only [Act.put, List.setIfInBounds_toArray, List.set_cons_zero, List.set_cons_succ]
              refine wpAnyH_take (i := 10) (oi := ({ dst := some 152, op := Op.extract (Operand.tmp 142) 1, type := 4, pos := "l3_verify.go:193", after := #[{ on := 8, ground := Ground.data }, { on := 12, ground := Ground.gcOnly Departure.lateStores }], guard := none } : Oper)) (v := .bool true) rfl (by kernel_rfl) (by kernel_rfl) (by kernel_rfl) (fun _ _ _ h => h) (Or.inl ⟨by rfl, fun w hSw => by go_simp⟩) trivial ?_
              simp only [Act.put, List.setIfInBounds_toArray, List.set_cons_zero, List.set_cons_succ]
              refine wpAnyH_ready (rs := [11]) (by kernel_rfl) (by simp) ?_
              refine AllReadyH.cons (o := ({ dst := some 26, op := Op.alloc 25, type := 0, pos := "l3_verify.go:193", after := #[], guard := none } : Oper)) rfl (fun K hK => ?_) AllReadyH.nil
              go_simp
              refine hK.out _ _ trivial (fun _ => ?_)
              clear hK K
              have hbV : Below w.heap.size w (w4.alloc (.cells #[.bool false, .string (⟨#[]⟩ : ByteArray), .string ⟨#[]⟩] 25)) := ((hbx.trans ((bdrewS w3).mono hbx.size)).trans (hb4.mono hbx.size)).trans ((below1 w4 _).mono (Nat.le_trans hbx.size hb4.size))
              have qG : B3 (w4.alloc (.cells #[.bool false, .string (⟨#[]⟩ : ByteArray), .string ⟨#[]⟩] 25)) w4.heap.size (.bool false) (.string ⟨#[]⟩) (.string ⟨#[]⟩) := B3.new _ _ _ _ _
              have qR := ((q3.later (bdrewS w3)).later hb4).later (below1 w4 (.cells #[.bool false, .string (⟨#[]⟩ : ByteArray), .string ⟨#[]⟩] 25))
              have hSV := ((hS3.later (bdrewS w3)).later hb4).later (below1 w4 (.cells #[.bool false, .string (⟨#[]⟩ : ByteArray), .string ⟨#[]⟩] 25))
              have hG : w.heap.size < w4.heap.size := Nat.lt_of_lt_of_le (World.block_lt_of_cell? _ _ q3.c0) hb4.size
              clear hb4
              generalize w4.alloc (.cells #[.bool false, .string (⟨#[]⟩ : ByteArray), .string ⟨#[]⟩] 25) = T at *
              generalize w4.heap.size = G at *
              obtain ⟨c0, c1, c2, f0, f1, f2⟩ := id qG
              refine wpAnyH_ready (rs := [12]) (by kernel_rfl) (by simp) ?_
              refine AllReadyH.cons (o := ({ dst := none, op := Op.store 25 (Operand.tmp 26) (Operand.tmp 151), type := 0, pos := "l3_verify.go:193", after := #[{ on := 11, ground := Ground.data }, { on := 9, ground := Ground.data }, { on := 7, ground := Ground.chain }, { on := 0, ground := Ground.phase }, { on := 1, ground := Ground.phase }, { on := 2, ground := Ground.phase }, { on := 3, ground := Ground.phase }, { on := 4, ground := Ground.phase }, { on := 5, ground := Ground.phase }, { on := 6, ground := Ground.phase }, { on := 7, ground := Ground.phase }, { on := 8, ground := Ground.phase }, { on := 9, ground := Ground.phase }, { on := 10, ground := Ground.textOnly Departure.lateStores }, { on := 11, ground := Ground.phase }], guard := none } : Oper)) rfl (fun K hK => ?_) AllReadyH.nil
              go_simp
              refine hK.out _ _ trivial (fun _ => ?_)
              clear hK K
              have qG' := qG.set (.bool p1.f) (.string p1.x) (.string p1.y)
              have qR' := qR.far3 G (by omega) (.bool p1.f) (.string p1.x) (.string p1.y)
              have hbW : Below w.heap.size w (((T.setCell ⟨G, 0, none⟩ (.bool p1.f)).setCell ⟨G, 1, none⟩ (.string p1.x)).setCell ⟨G, 2, none⟩ (.string p1.y)) := below3s hbV (by omega) _ _ _
              clear c0 c1 c2 f0 f1 f2 qG qR hbV
              generalize ((T.setCell ⟨G, 0, none⟩ (.bool p1.f)).setCell ⟨G, 1, none⟩ (.string p1.x)).setCell ⟨G, 2, none⟩ (.string p1.y) = W at *
              refine wpAnyH_take (i := 13) (oi := ({ dst := some 27, op := Op.assign (Operand.tmp 152), type := 4, pos := "l3_verify.go:193", after := #[{ on := 10, ground := Ground.data }, { on := 12, ground := Ground.chain }, { on := 0, ground := Ground.phase }, { on := 1, ground := Ground.phase }, { on := 2, ground := Ground.phase }, { on := 3, ground := Ground.phase }, { on := 4, ground := Ground.phase }, { on := 5, ground := Ground.phase }, { on := 6, ground := Ground.phase }, { on := 7, ground := Ground.phase }, { on := 8, ground := Ground.phase }, { on := 9, ground := Ground.phase }, { on := 10, ground := Ground.phase }, { on := 11, ground := Ground.phase }, { on := 12, ground := Ground.phase }], guard := none } : Oper)) (v := .bool true) rfl (by kernel_rfl) (by kernel_rfl) (by kernel_rfl) (fun _ _ _ h => h) (Or.inl ⟨by rfl, fun w hSw => by go_simp⟩) trivial ?_
              simp only [Act.put, List.setIfInBounds_toArray, List.set_cons_zero, List.set_cons_succ]
              refine wpAnyH_done (by kernel_rfl) ?_ _
              obtain ⟨c0, c1, c2, f0, f1, f2⟩ := id qR'
              obtain ⟨g0, g1, g2, _, _, _⟩ := id qG'
              go_wp2
              obtain ⟨r0, r1, r2⟩ := triple_set W _ _ _ _ (.bool p1.f) (.string p1.x) (.string p1.y) qR'
              exact bodyPost_ret (v := .agg #[.bool p1.f, .string p1.x, .string p1.y]) (by simp [results, Tryz.results32, go_sem, r0, r1, r2]) rfl ⟨rfl, below3s (hbW) (Nat.le_refl _) _ _ _⟩
            · go_simp
              refine hK.out _ _ trivial (fun _ => ?_)
              clear hK K
              have hba := below1 w3.drew (.cells #[.bool false, .string (⟨#[]⟩ : ByteArray), .string ⟨#[]⟩] 25)
              refine wpAnyH_ready (rs := [7]) (by kernel_rfl) (by simp) ?_
              refine AllReadyH.cons (o := ({ dst := some 150, op := Op.call { callee := Callee.value (Operand.func 66), args := #[Operand.tmp 143, Operand.tmp 146, Operand.tmp 149], argTypes := #[3, 22, 22] }, type := 94, pos := "l3_verify.go:193", after := #[{ on := 0, ground := Ground.data }, { on := 3, ground := Ground.data }, { on := 6, ground := Ground.data }], guard := none } : Oper)) rfl (fun K hK => ?_) AllReadyH.nil
              go_simp
              refine (specCompare_as k f A B s (some ⟨P, off, none⟩) (some ⟨P', off', none⟩) c d _ p1 true (by omega) (by omega) HF.out (by omega) ((hA3.drew1.later hba).left s (by omega)) (by omega) (fun j hj => hsa j (by omega)) ((hB3.drew1.later hba).left s (by omega)) (by omega) (fun j hj => hsb j (by omega)) HL.out).mono ?_
              rintro e T ⟨rfl, hb4⟩
              refine hK.out _ _ trivial (fun _ => ?_)
              clear hK K
              have hbV : Below w.heap.size w T := ((hbx.trans ((bdrewS w3).mono hbx.size)).trans (hba.mono hbx.size)).trans (hb4.mono (Nat.le_trans hbx.size hba.size))
              have qG : B3 T w3.heap.size (.bool false) (.string ⟨#[]⟩) (.string ⟨#[]⟩) := (B3.new w3.drew _ _ _ _).later hb4
              have qR := ((q3.later (bdrewS w3)).later hba).later hb4
              have hSV := ((hS3.later (bdrewS w3)).later hba).later hb4
              have hG : w.heap.size < w3.heap.size := World.block_lt_of_cell? _ _ q3.c0
              clear hb4 hba
              refine wpAnyH_take (i := 8) (oi := ({ dst := some 142, op := Op.move (Operand.tmp 150), type := 94, pos := "l3_verify.go:193", after := #[{ on := 7, ground := Ground.data }], guard := none } : Oper)) (v := .tuple #[.agg #[.bool p1.f, .string p1.x, .string p1.y], .bool true]) rfl (by kernel_rfl) (by kernel_rfl) (by kernel_rfl) (fun _ _ _ h => h) (Or.inl ⟨by rfl, fun w hSw => by go_simp⟩) trivial ?_
              simp only [Act.put, List.setIfInBounds_toArray, List.set_cons_zero, List.set_cons_succ]
              refine wpAnyH_take (i := 9) (oi := ({ dst := some 151, op := Op.extract (Operand.tmp 142) 0, type := 25, pos := "l3_verify.go:193", after := #[{ on := 8, ground := Ground.data }], guard := none } : Oper)) (v := .agg #[.bool p1.f, .string p1.x, .string p1.y]) rfl (by kernel_rfl) (by kernel_rfl) (by kernel_rfl) (fun _ _ _ h => h) (Or.inl ⟨by rfl, fun w hSw => by go_simp⟩) trivial ?_
              simp only [Act.put, List.setIfInBounds_toArray, List.set_cons_zero, List.set_cons_succ]
              refine wpAnyH_take (i := 10) (oi := ({ dst := some 152, op := Op.extract (Operand.tmp 142) 1, type := 4, pos := "l3_verify.go:193", after := #[{ on := 8, ground := Ground.data }, { on := 12, ground := Ground.gcOnly Departure.lateStores }], guard := none } : Oper)) (v := .bool true) rfl (by kernel_rfl) (by kernel_rfl) (by kernel_rfl) (fun _ _ _ h => h) (Or.inl ⟨by rfl, fun w hSw => by go_simp⟩) trivial ?_
              simp only [Act.put, List.setIfInBounds_toArray, List.set_cons_zero, List.set_cons_succ]
              generalize w3.heap.size = G at *
              obtain ⟨c0, c1, c2, f0, f1, f2⟩ := id qG
              refine wpAnyH_ready (rs := [12]) (by kernel_rfl) (by simp) ?_
              refine AllReadyH.cons (o := ({ dst := none, op := Op.store 25 (Operand.tmp 26) (Operand.tmp 151), type := 0, pos := "l3_verify.go:193", after := #[{ on := 11, ground := Ground.data }, { on := 9, ground := Ground.data }, { on := 7, ground := Ground.chain }, { on := 0, ground := Ground.phase }, { on := 1, ground := Ground.phase }, { on := 2, ground := Ground.phase }, { on := 3, ground := Ground.phase }, { on := 4, ground := Ground.phase }, { on := 5, ground := Ground.phase }, { on := 6, ground := Ground.phase }, { on := 7, ground := Ground.phase }, { on := 8, ground := Ground.phase }, { on := 9, ground := Ground.phase }, { on := 10, ground := Ground.textOnly Departure.lateStores }, { on := 11, ground := Ground.phase }], guard := none } : Oper)) rfl (fun K hK => ?_) AllReadyH.nil
              go_simp
              refine hK.out _ _ trivial (fun _ => ?_)
              clear hK K
              have qG' := qG.set (.bool p1.f) (.string p1.x) (.string p1.y)
              have qR' := qR.far3 G (by omega) (.bool p1.f) (.string p1.x) (.string p1.y)
              have hbW : Below w.heap.size w (((T.setCell ⟨G, 0, none⟩ (.bool p1.f)).setCell ⟨G, 1, none⟩ (.string p1.x)).setCell ⟨G, 2, none⟩ (.string p1.y)) := below3s hbV (by omega) _ _ _
              clear c0 c1 c2 f0 f1 f2 qG qR hbV
              generalize ((T.setCell ⟨G, 0, none⟩ (.bool p1.f)).setCell ⟨G, 1, none⟩ (.string p1.x)).setCell ⟨G, 2, none⟩ (.string p1.y) = W at *
              refine wpAnyH_take (i := 13) (oi := ({ dst := some 27, op := Op.assign (Operand.tmp 152), type := 4, pos := "l3_verify.go:193", after := #[{ on := 10, ground := Ground.data }, { on := 12, ground := Ground.chain }, { on := 0, ground := Ground.phase }, { on := 1, ground := Ground.phase }, { on := 2, ground := Ground.phase }, { on := 3, ground := Ground.phase }, { on := 4, ground := Ground.phase }, { on := 5, ground := Ground.phase }, { on := 6, ground := Ground.phase }, { on := 7, ground := Ground.phase }, { on := 8, ground := Ground.phase }, { on := 9, ground := Ground.phase }, { on := 10, ground := Ground.phase }, { on := 11, ground := Ground.phase }, { on := 12, ground := Ground.phase }], guard := none } : Oper)) (v := .bool true) rfl (by kernel_rfl) (by kernel_rfl) (by kernel_rfl) (fun _ _ _ h => h) (Or.inl ⟨by rfl, fun w hSw => by go_simp⟩) trivial ?_
              simp only [Act.put, List.setIfInBounds_toArray, List.set_cons_zero, List.set_cons_succ]
              refine wpAnyH_done (by kernel_rfl) ?_ _
              obtain ⟨c0, c1, c2, f0, f1, f2⟩ := id qR'
              obtain ⟨g0, g1, g2, _, _, _⟩ := id qG'
              go_wp2
              obtain ⟨r0, r1, r2⟩ := triple_set W _ _ _ _ (.bool p1.f) (.string p1.x) (.string p1.y) qR'
              exact bodyPost_ret (v := .agg #[.bool p1.f, .string p1.x, .string p1.y]) (by simp [results, Tryz.results32, go_sem, r0, r1, r2]) rfl ⟨rfl, below3s (hbW) (Nat.le_refl _) _ _ _⟩
        · have te' : (V.toList == Y.toList) = false := by rw [bytes_eq]; exact dF e'
          rw [if_neg e'] at hp
          have HP : Hid (cand k V Y = p) := hp
          clear e' hp ih
          go_enter Tryz.func32, Tryz.ntmps32
          go_wp2_with (first | (go_at_call 38; refine (l2Split_as n _ _ (by rfl) hcap s HSP.out).mono ?_; rintro e w' ⟨rfl, rfl⟩) | (go_at_call 49; refine (specClaims_as k O S hO f (m - s) (n - s) r false _ _ _ _ _ o1 v1 (by omega) (by omega) (by omega) (by have := HF.out; omega) (by omega) (by omega) HQ.out hS0 (by omega) (fun j hj => hss j (by omega)) HU.out).mono ?_; rintro e w1 ⟨rfl, hb1⟩; have q1 := q0.later hb1; have hA1 := hA0.later hb1; have hB1 := hB0.later hb1; have hS1 := hS0.later hb1) | (go_at_call 54; have _h := hb3; refine (specInside_any k n s B _ d _ _ (by rfl) (by omega) hB3 (by omega) (by omega) hsb4 Y HY.out).mono ?_; rintro e w4 ⟨rfl, hb4⟩; have q4 := q3.later hb4; have hA4 := hA3.later hb4; have hB4 := hB3.later hb4; have hS4 := hS3.later hb4) | (go_at_call 54; have _h := hb2; refine (specInside_any k n s B _ d _ _ (by rfl) (by omega) hB2 (by omega) (by omega) hsb4 Y HY.out).mono ?_; rintro e w3 ⟨rfl, hb3⟩; have q3 := q2.later hb3; have hA3 := hA2.later hb3; have hB3 := hB2.later hb3; have hS3 := hS2.later hb3) | (go_at_call 54; refine (specInside_any k m s A _ c _ _ (by rfl) (by omega) hA1 (by omega) (by omega) hsa4 U HUU.out).mono ?_; rintro e w2 ⟨rfl, hb2⟩; have q2 := q1.later hb2; have hA2 := hA1.later hb2; have hB2 := hB1.later hb2; have hS2 := hS1.later hb2) | (go_at_call 53; refine (specCand_any k V Y _ hVs hYs p HP.out).mono ?_; rintro e w5 ⟨rfl, hb5⟩; have q5 := q4.later hb5; obtain ⟨c0, c1, c2, f0, f1, f2⟩ := id q5))
          obtain ⟨r0, r1, r2⟩ := triple_set w5 _ _ _ _ (.bool p.f) (.string p.x) (.string p.y) q5
          exact bodyPost_ret (v := .agg #[.bool p.f, .string p.x, .string p.y]) (by simp [results, Tryz.results32, go_sem, r0, r1, r2]) rfl ⟨rfl, below3s ((((((hb0.trans (hb1.mono (hb0.size))).trans (hb2.mono (Nat.le_trans (hb0.size) hb1.size))).trans (hb3.mono (Nat.le_trans (Nat.le_trans (hb0.size) hb1.size) hb2.size))).trans (hb4.mono (Nat.le_trans (Nat.le_trans (Nat.le_trans (hb0.size) hb1.size) hb2.size) hb3.size))).trans (hb5.mono (Nat.le_trans (Nat.le_trans (Nat.le_trans (Nat.le_trans (hb0.size) hb1.size) hb2.size) hb3.size) hb4.size)))) (Nat.le_refl _) _ _ _⟩
      · have te : (X.toList == U.toList) = false := by rw [bytes_eq]; exact dF e
        rw [if_neg e] at hp
        have HP : Hid (cand k X U = p) := hp
        clear e hp ih
        go_enter Tryz.func32, Tryz.ntmps32
        go_wp2_with (first | (go_at_call 38; refine (l2Split_as n _ _ (by rfl) hcap s HSP.out).mono ?_; rintro e w' ⟨rfl, rfl⟩) | (go_at_call 49; refine (specClaims_as k O S hO f (m - s) (n - s) r false _ _ _ _ _ o1 v1 (by omega) (by omega) (by omega) (by have := HF.out; omega) (by omega) (by omega) HQ.out hS0 (by omega) (fun j hj => hss j (by omega)) HU.out).mono ?_; rintro e w1 ⟨rfl, hb1⟩; have q1 := q0.later hb1; have hA1 := hA0.later hb1; have hB1 := hB0.later hb1; have hS1 := hS0.later hb1) | (go_at_call 54; have _h := hb2; refine (specInside_any k m s A _ c _ _ (by rfl) (by omega) hA2 (by omega) (by omega) hsa4 U HUU.out).mono ?_; rintro e w3 ⟨rfl, hb3⟩; have q3 := q2.later hb3; have hA3 := hA2.later hb3; have hB3 := hB2.later hb3; have hS3 := hS2.later hb3) | (go_at_call 54; refine (specInside_any k m s A _ c _ _ (by rfl) (by omega) hA1 (by omega) (by omega) hsa4 U HUU.out).mono ?_; rintro e w2 ⟨rfl, hb2⟩; have q2 := q1.later hb2; have hA2 := hA1.later hb2; have hB2 := hB1.later hb2; have hS2 := hS1.later hb2) | (go_at_call 53; refine (specCand_any k X U _ hXs hUs p HP.out).mono ?_; rintro e w4 ⟨rfl, hb4⟩; have q4 := q3.later hb4; obtain ⟨c0, c1, c2, f0, f1, f2⟩ := id q4))
        obtain ⟨r0, r1, r2⟩ := triple_set w4 _ _ _ _ (.bool p.f) (.string p.x) (.string p.y) q4
        exact bodyPost_ret (v := .agg #[.bool p.f, .string p.x, .string p.y]) (by simp [results, Tryz.results32, go_sem, r0, r1, r2]) rfl ⟨rfl, below3s (((((hb0.trans (hb1.mono (hb0.size))).trans (hb2.mono (Nat.le_trans (hb0.size) hb1.size))).trans (hb3.mono (Nat.le_trans (Nat.le_trans (hb0.size) hb1.size) hb2.size))).trans (hb4.mono (Nat.le_trans (Nat.le_trans (Nat.le_trans (hb0.size) hb1.size) hb2.size) hb3.size)))) (Nat.le_refl _) _ _ _⟩
end Go.Proofs.YtlbackkjjhpljaaGreatDoor
namespace Go.Proofs.YtlbackkjjhpljaaGreatDoor
open Go.RowKit
/-- What CollideProof answers. -/
def cqD (k : Int) (A B : Nat → ByteArray) (m n q : Nat) (S : Nat → ByteArray) : Pr := haveI := FitsP.dec k m n q S; if 1 ≤ m ∧ FitsP k m n q S then stp k (RT k A m) S 31 A B m n q true else noPr
set_option maxRecDepth 20000 in
set_option maxHeartbeats 4000000 in
theorem specCollideProof_any (k : Int) (A B : Nat → ByteArray) (m n q : Nat) (S : Nat → ByteArray) (a b z : Option Addr) (c d l : Nat) (w : World) (p : Pr) (hA : Sl w a m A) (hc : m ≤ c) (hm : m ≤ 1048576) (hsa : ∀ j, j < m → (A j).size ≤ 1048576) (hB : Sl w b n B) (hd : n ≤ d) (hn : n ≤ 1048576) (hsb : ∀ j, j < n → (B j).size ≤ 1048576) (hS : Sl w z q S) (hl : q ≤ l) (hp : cqD k A B m n q S = p) :
    Calls Tryz.prog 13 #[.int .i64 k, .slice a m c, .slice b n d, .slice z q l] w fun e w' => e = .returned (.agg #[.bool p.f, .string p.x, .string p.y]) ∧ Below w.heap.size w w' := by
  have hb0 := below1 w (.cells #[.bool false, .string (⟨#[]⟩ : ByteArray), .string ⟨#[]⟩] 25)
  have q0 := B3.new w (.bool false) (.string (⟨#[]⟩ : ByteArray)) (.string ⟨#[]⟩) 25
  have hA0 := hA.later hb0
  have hB0 := hB.later hb0
  have hS0 := hS.later hb0
  have hsa4 : ∀ j, j < m → (A j).size ≤ 4194304 := fun j hj => by have := hsa j hj; omega
  unfold cqD at hp
  clear hA hB hS
  by_cases h1 : 1 ≤ m
  · have d1 : ¬ (m : Int) < 1 := by omega
    by_cases hf : FitsP k m n q S
    · rw [if_pos ⟨h1, hf⟩] at hp
      have HF : Hid (FitsP k m n q S) := hf
      have HQ : Hid (q = ql 31 m n true) := by have := hf.2.2.2.2.2.2; rw [Int.toNat_natCast, Int.toNat_natCast] at this; exact this
      have hmn : m ≤ n := by have := hf.2.2.2.2.2.1; omega
      have hss : ∀ j, j < q → (S j).size ≤ 2097152 := fun j hj => by have := hf.2.1 j hj; have := wid_le k; omega
      obtain ⟨O, hO⟩ : ∃ O, RT k A m = O := ⟨_, rfl⟩
      have HO : Hid (RT k A m = O) := hO
      have hOs : O.size ≤ 2097152 := by have := rt_size k m A m; rw [← hO]; unfold RT; omega
      rw [hO] at hp
      have HP : Hid (stp k O S 31 A B m n q true = p) := hp
      clear hf hp hO
      go_enter Tryz.func13, Tryz.ntmps13
      go_wp2_with (first | (go_at_call 31; refine (fitsP_yes k m n _ _ _ S _ hS0 HF.out).mono ?_; rintro e w0 ⟨rfl, rfl⟩) | (go_at_call 16; refine (specRoot_as k m A _ c _ O hA0 hc hm hsa4 HO.out).mono ?_; rintro e w1 ⟨rfl, hb1⟩; have q1 := q0.later hb1; have hA1 := hA0.later hb1; have hB1 := hB0.later hb1; have hS1 := hS0.later hb1) | (go_at_call 32; refine (specStep_as k O S hOs 31 A B m n q true _ _ _ c d l _ p (by omega) h1 hmn (by omega) hn HQ.out hA1 hc hsa hB1 hd hsb hS1 hl hss HP.out).mono ?_; rintro e w2 ⟨rfl, hb2⟩; have q2 := q1.later hb2; obtain ⟨c0, c1, c2, f0, f1, f2⟩ := id q2))
      obtain ⟨r0, r1, r2⟩ := triple_set w2 _ _ _ _ (.bool p.f) (.string p.x) (.string p.y) q2
      exact bodyPost_ret (v := .agg #[.bool p.f, .string p.x, .string p.y]) (by simp [results, Tryz.results13, go_sem, r0, r1, r2]) rfl ⟨rfl, below3s ((hb0.trans (hb1.mono hb0.size)).trans (hb2.mono (Nat.le_trans hb0.size hb1.size))) (Nat.le_refl _) _ _ _⟩
    · rw [if_neg fun g => hf g.2] at hp
      subst hp
      have HF : Hid (¬ FitsP k m n q S) := hf
      clear hf
      obtain ⟨c0, c1, c2, f0, f1, f2⟩ := id q0
      go_enter Tryz.func13, Tryz.ntmps13
      go_wp2_with ((go_at_call 31; refine (fitsP_no k m n _ _ _ S _ hS0 HF.out).mono ?_; rintro e w0 ⟨rfl, hw0⟩; subst hw0))
      exact bodyPost_ret (v := .agg #[.bool false, .string ⟨#[]⟩, .string ⟨#[]⟩]) (by simp [results, Tryz.results13, go_sem]) rfl ⟨rfl, hb0⟩
  · have d1 : (m : Int) < 1 := by omega
    rw [if_neg fun g => h1 g.1] at hp
    subst hp
    clear h1
    obtain ⟨c0, c1, c2, f0, f1, f2⟩ := id q0
    go_enter Tryz.func13, Tryz.ntmps13
    go_wp2
    exact bodyPost_ret (v := .agg #[.bool false, .string ⟨#[]⟩, .string ⟨#[]⟩]) (by simp [results, Tryz.results13, go_sem]) rfl ⟨rfl, hb0⟩
end Go.Proofs.YtlbackkjjhpljaaGreatDoor
