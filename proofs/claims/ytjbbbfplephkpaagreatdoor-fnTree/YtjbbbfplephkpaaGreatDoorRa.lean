/-
  The root of a list: the specification's way.
-/
import Derived.Test.YtjbbbfplephkpaaGreatDoorRt
namespace Go.Proofs.YtjbbbfplephkpaaGreatDoor
open Go.RowKit
set_option maxRecDepth 20000 in
set_option maxHeartbeats 2000000 in
theorem specRoot_any (k : Int) (f : Nat) : ∀ (n : Nat) (S : Nat → ByteArray) (a : Option Addr) (c : Nat) (w : World), n ≤ f → Sl w a n S → n ≤ c → n ≤ 1048576 → (∀ j, j < n → (S j).size ≤ 4194304) →
    Calls Tryz.prog 7 #[.int .i64 k, .slice a n c] w fun e w' => e = .returned (.string (rt k f S n)) ∧ Below w.heap.size w w' := by
  have zero : ∀ (y : ByteArray) (a : Option Addr) (c : Nat) (w : World), dg k ⟨#[]⟩ = y → Calls Tryz.prog 7 #[.int .i64 k, .slice a 0 c] w fun e w' => e = .returned (.string y) ∧ Below w.heap.size w w' := by
    intro y a c w hy
    have HD : Hid (dg k ⟨#[]⟩ = y) := hy
    clear hy
    obtain ⟨t, ht⟩ : ∃ t, (⟨#[]⟩ : ByteArray) = t := ⟨_, rfl⟩
    have hts : t.size ≤ 8388608 := by rw [← ht]; exact Nat.zero_le _
    rw [ht] at HD
    go_enter Tryz.func7, Tryz.ntmps7
    go_wp2_with (go_at_call 19; refine (specDg_any k t _ hts y HD.out).mono ?_; rintro e w2 ⟨rfl, hb2⟩)
    go_ret
    exact ⟨rfl, hb2⟩
  induction f with
  | zero =>
    intro n S a c w hf h hc hn hsz
    obtain rfl : n = 0 := by omega
    exact zero _ a c w rfl
  | succ f ih =>
    intro n S a c w hf h hc hn hsz
    by_cases h0 : n = 0
    · subst h0
      exact zero _ a c w (by rw [rt, if_pos rfl])
    by_cases h1 : n = 1
    · subst h1
      have e : rt k (f + 1) S 1 = leafD k (S 0) := by rw [rt, if_neg (by omega), if_pos rfl]
      rw [e]
      obtain ⟨P, off, rfl, hc0⟩ := h.at 0 (by omega)
      rw [Nat.add_zero] at hc0
      have hsz0 := hsz 0 (by omega)
      obtain ⟨y, hy⟩ : ∃ y, leafD k (S 0) = y := ⟨_, rfl⟩
      have HY : Hid (leafD k (S 0) = y) := hy
      rw [hy]
      clear hy e ih zero
      go_enter Tryz.func7, Tryz.ntmps7
      go_wp2_with (go_at_call 20; refine (specLeaf_as k (S 0) _ hsz0 y HY.out).mono ?_; rintro e w2 ⟨rfl, hb2⟩)
      go_ret
      exact ⟨rfl, hb2⟩
    · have e : rt k (f + 1) S n = nodeD k (rt k f S (spl n)) (rt k f (fun j => S (spl n + j)) (n - spl n)) := by rw [rt, if_neg h0, if_neg h1]
      obtain ⟨hs1, hs2, hs3⟩ := spl_in n (by omega) (by omega)
      obtain ⟨P, off, rfl, hc0⟩ := h.at 0 (by omega)
      obtain ⟨s, hsn⟩ : ∃ s, spl n = s := ⟨_, rfl⟩
      rw [hsn] at e hs1 hs2 hs3
      have HSP : Hid (spl n = s) := hsn
      obtain ⟨y, hy⟩ : ∃ y, rt k (f + 1) S n = y := ⟨_, rfl⟩
      have HY : Hid (nodeD k (rt k f S s) (rt k f (fun j => S (s + j)) (n - s)) = y) := by show _ = _; rw [← hy, e]
      rw [hy]
      have hA : Sl w.drew (some ⟨P, off, none⟩) s S := h.left s (by omega)
      have hB : Sl w.drew (some ⟨P, off + s, none⟩) (n - s) (fun j => S (s + j)) := h.right s (by omega)
      have m0 : ¬ (n : Int) = 0 := by omega
      have m1 : ¬ (n : Int) = 1 := by omega
      have ms : (s : Int) ≤ n := by omega
      have mc : (s : Int) ≤ c := by omega
      have mn : (n : Int) ≤ c := by omega
      have mcs : ¬ c = s := by omega
      have mns : ¬ n = s := by omega
      clear hy e hsn zero hc0
      go_enter Tryz.func7, Tryz.ntmps7
      go_wp2_with (go_at_call 21; refine (l2Split_as n _ _ (by rfl) (by omega) s HSP.out).mono ?_; rintro e w' ⟨rfl, rfl⟩)
      refine wp_region_held_drew (S := fun _ => True) (by kernel_rfl) trivial (fun _ => ?_)
      refine wpAnyH_take (i := 0) (oi := ({ dst := some 22, op := Op.move (Operand.tmp 0), type := 3, pos := "l2_tree.go:35", after := #[], guard := none } : Oper)) (v := .int .i64 k) rfl (by kernel_rfl) (by kernel_rfl) (by kernel_rfl) (fun _ _ _ h => h) (Or.inl ⟨by rfl, fun w hSw => by go_simp⟩) trivial ?_
      simp only [Act.put, List.setIfInBounds_toArray, List.set_cons_zero, List.set_cons_succ]
      refine wpAnyH_take (i := 1) (oi := ({ dst := some 23, op := Op.move (Operand.tmp 0), type := 3, pos := "l2_tree.go:35", after := #[], guard := none } : Oper)) (v := .int .i64 k) rfl (by kernel_rfl) (by kernel_rfl) (by kernel_rfl) (fun _ _ _ h => h) (Or.inl ⟨by rfl, fun w hSw => by go_simp⟩) trivial ?_
      simp only [Act.put, List.setIfInBounds_toArray, List.set_cons_zero, List.set_cons_succ]
      refine wpAnyH_take (i := 2) (oi := ({ dst := some 24, op := Op.move (Operand.tmp 1), type := 23, pos := "l2_tree.go:35", after := #[], guard := none } : Oper)) (v := .slice (some ⟨P, off, none⟩) n c) rfl (by kernel_rfl) (by kernel_rfl) (by kernel_rfl) (fun _ _ _ h => h) (Or.inl ⟨by rfl, fun w hSw => by go_simp⟩) trivial ?_
      simp only [Act.put, List.setIfInBounds_toArray, List.set_cons_zero, List.set_cons_succ]
      refine wpAnyH_take (i := 3) (oi := ({ dst := some 25, op := Op.move (Operand.tmp 5), type := 3, pos := "l2_tree.go:35", after := #[], guard := none } : Oper)) (v := .int .i64 (s : Int)) rfl (by kernel_rfl) (by kernel_rfl) (by kernel_rfl) (fun _ _ _ h => h) (Or.inl ⟨by rfl, fun w hSw => by go_simp⟩) trivial ?_
      simp only [Act.put, List.setIfInBounds_toArray, List.set_cons_zero, List.set_cons_succ]
      refine wpAnyH_take (i := 4) (oi := ({ dst := some 26, op := Op.slice 23 (Operand.tmp 24) none (some (Operand.tmp 25)) none, type := 23, pos := "l2_tree.go:35", after := #[{ on := 2, ground := Ground.data }, { on := 3, ground := Ground.data }], guard := none } : Oper)) (v := .slice (some ⟨P, off, none⟩) s c) rfl (by kernel_rfl) (by kernel_rfl) (by kernel_rfl) (fun _ _ _ h => h) (Or.inl ⟨by rfl, fun w hSw => by go_simp⟩) trivial ?_
      simp only [Act.put, List.setIfInBounds_toArray, List.set_cons_zero, List.set_cons_succ]
      refine wpAnyH_take (i := 6) (oi := ({ dst := some 28, op := Op.move (Operand.tmp 0), type := 3, pos := "l2_tree.go:35", after := #[], guard := none } : Oper)) (v := .int .i64 k) rfl (by kernel_rfl) (by kernel_rfl) (by kernel_rfl) (fun _ _ _ h => h) (Or.inl ⟨by rfl, fun w hSw => by go_simp⟩) trivial ?_
      simp only [Act.put, List.setIfInBounds_toArray, List.set_cons_zero, List.set_cons_succ]
      refine wpAnyH_take (i := 7) (oi := ({ dst := some 29, op := Op.move (Operand.tmp 1), type := 23, pos := "l2_tree.go:35", after := #[], guard := none } : Oper)) (v := .slice (some ⟨P, off, none⟩) n c) rfl (by kernel_rfl) (by kernel_rfl) (by kernel_rfl) (fun _ _ _ h => h) (Or.inl ⟨by rfl, fun w hSw => by go_simp⟩) trivial ?_
      simp only [Act.put, List.setIfInBounds_toArray, List.set_cons_zero, List.set_cons_succ]
      refine wpAnyH_take (i := 8) (oi := ({ dst := some 30, op := Op.move (Operand.tmp 5), type := 3, pos := "l2_tree.go:35", after := #[], guard := none } : Oper)) (v := .int .i64 (s : Int)) rfl (by kernel_rfl) (by kernel_rfl) (by kernel_rfl) (fun _ _ _ h => h) (Or.inl ⟨by rfl, fun w hSw => by go_simp⟩) trivial ?_
      simp only [Act.put, List.setIfInBounds_toArray, List.set_cons_zero, List.set_cons_succ]
      refine wpAnyH_take (i := 9) (oi := ({ dst := some 31, op := Op.slice 23 (Operand.tmp 29) (some (Operand.tmp 30)) none none, type := 23, pos := "l2_tree.go:35", after := #[{ on := 7, ground := Ground.data }, { on := 8, ground := Ground.data }], guard := none } : Oper)) (v := .slice (some ⟨P, off + s, none⟩) (n - s) (c - s)) rfl (by kernel_rfl) (by kernel_rfl) (by kernel_rfl) (fun _ _ _ h => h) (Or.inl ⟨by rfl, fun w hSw => by go_simp⟩) trivial ?_
      simp only [Act.put, List.setIfInBounds_toArray, List.set_cons_zero, List.set_cons_succ]
      refine wpAnyH_ready (rs := [5]) (by kernel_rfl) (by simp) ?_
      refine AllReadyH.cons (o := ({ dst := some 27, op := Op.call { callee := Callee.value (Operand.func 7), args := #[Operand.tmp 23, Operand.tmp 26], argTypes := #[3, 23] }, type := 9, pos := "l2_tree.go:35", after := #[{ on := 1, ground := Ground.data }, { on := 4, ground := Ground.data }], guard := none } : Oper)) rfl (fun K hK => ?_) AllReadyH.nil
      go_simp
      refine (ih s S (some ⟨P, off, none⟩) c _ (by omega) hA (by omega) (by omega) (fun j hj => hsz j (by omega))).mono ?_
      rintro e w1 ⟨rfl, hb1⟩
      refine hK.out _ _ trivial (fun _ => ?_)
      clear hK K
      have hB1 := hB.later hb1
      refine wpAnyH_ready (rs := [10]) (by kernel_rfl) (by simp) ?_
      refine AllReadyH.cons (o := ({ dst := some 32, op := Op.call { callee := Callee.value (Operand.func 7), args := #[Operand.tmp 28, Operand.tmp 31], argTypes := #[3, 23] }, type := 9, pos := "l2_tree.go:35", after := #[{ on := 6, ground := Ground.data }, { on := 9, ground := Ground.data }, { on := 5, ground := Ground.chain }], guard := none } : Oper)) rfl (fun K hK => ?_) AllReadyH.nil
      go_simp
      refine (ih (n - s) (fun j => S (s + j)) (some ⟨P, off + s, none⟩) (c - s) _ (by omega) hB1 (by omega) (by omega) (fun j hj => hsz (s + j) (by omega))).mono ?_
      rintro e w2 ⟨rfl, hb2⟩
      refine hK.out _ _ trivial (fun _ => ?_)
      clear hK K
      refine wpAnyH_ready (rs := [11]) (by kernel_rfl) (by simp) ?_
      refine AllReadyH.cons (o := ({ dst := some 33, op := Op.call { callee := Callee.value (Operand.func 22), args := #[Operand.tmp 22, Operand.tmp 27, Operand.tmp 32], argTypes := #[3, 9, 9] }, type := 9, pos := "l2_tree.go:35", after := #[{ on := 0, ground := Ground.data }, { on := 5, ground := Ground.data }, { on := 10, ground := Ground.data }, { on := 10, ground := Ground.chain }], guard := none } : Oper)) rfl (fun K hK => ?_) AllReadyH.nil
      go_simp
      refine (specNode_as k _ _ _ (Nat.le_trans (rt_size _ _ _ _) (by omega)) (Nat.le_trans (rt_size _ _ _ _) (by omega)) y HY.out).mono ?_
      rintro e w3 ⟨rfl, hb3⟩
      refine hK.out _ _ trivial (fun _ => ?_)
      clear hK K
      refine wpAnyH_ready (rs := [12]) (by kernel_rfl) (by simp) ?_
      refine AllReadyH.cons (o := ({ dst := some 4, op := Op.assign (Operand.tmp 33), type := 9, pos := "l2_tree.go:35", after := #[{ on := 11, ground := Ground.data }, { on := 11, ground := Ground.chain }, { on := 0, ground := Ground.phase }, { on := 1, ground := Ground.phase }, { on := 2, ground := Ground.phase }, { on := 3, ground := Ground.phase }, { on := 4, ground := Ground.phase }, { on := 5, ground := Ground.phase }, { on := 6, ground := Ground.phase }, { on := 7, ground := Ground.phase }, { on := 8, ground := Ground.phase }, { on := 9, ground := Ground.phase }, { on := 10, ground := Ground.phase }, { on := 11, ground := Ground.phase }], guard := none } : Oper)) rfl (fun K hK => ?_) AllReadyH.nil
      go_simp
      refine hK.out _ _ trivial (fun _ => ?_)
      clear hK K
      refine wpAnyH_done (by kernel_rfl) ?_ _
      go_wp2_with fail
      go_ret
      exact ⟨rfl, ((undrew hb1).trans (hb2.mono hb1.size)).trans (hb3.mono (Nat.le_trans hb1.size hb2.size))⟩
end Go.Proofs.YtjbbbfplephkpaaGreatDoor
