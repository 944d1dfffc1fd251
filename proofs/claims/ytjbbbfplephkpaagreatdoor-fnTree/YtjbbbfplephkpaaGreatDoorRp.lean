/-
  The root of a list of at most 64 entries: the program's Root.
-/
import Derived.Test.YtjbbbfplephkpaaGreatDoorRo
namespace Go.Proofs.YtjbbbfplephkpaaGreatDoor
open Go.RowKit Go.ChangeMaps
theorem dg_bad (k : Int) (x : ByteArray) (h : ¬ (k = 0 ∨ k = 1)) : dg k x = ⟨#[]⟩ := by
  have h0 : ¬ k = 0 := fun e => h (Or.inl e)
  have h1 : ¬ k = 1 := fun e => h (Or.inr e)
  simp [dg, dig, h0, h1]
theorem RT_bad (k : Int) (S : Nat → ByteArray) (n : Nat) (h : ¬ (k = 0 ∨ k = 1)) : RT k S n = ⟨#[]⟩ := by
  unfold RT
  cases n with
  | zero => exact dg_bad k _ h
  | succ n =>
    rw [rt]
    split
    · exact dg_bad k _ h
    · split
      · exact dg_bad k _ h
      · exact dg_bad k _ h
set_option maxRecDepth 20000 in
set_option maxHeartbeats 4000000 in
theorem implRoot_any (k : Int) (n : Nat) (S : Nat → ByteArray) (a : Option Addr) (c : Nat) (w : World) (y : ByteArray) (h64 : n ≤ 64) (h : Sl w a n S) (hK : KeysAt w) (hsz : ∀ j, j < n → (S j).size ≤ 4194304) (hy : RT k S n = y) :
    Calls Tryz.prog 10 #[.int .i64 k, .slice a n c] w fun e w' => e = .returned (.string y) ∧ Below w.heap.size w w' := by
  obtain ⟨t, ht⟩ : ∃ t, (⟨#[]⟩ : ByteArray) = t := ⟨_, rfl⟩
  have hts : t.size ≤ 8388608 := by rw [← ht]; exact Nat.zero_le _
  have HK : Hid (KeysAt w) := hK
  clear hK
  by_cases hn : n = 0
  · subst hn
    have HD : Hid (dg k t = y) := by show dg k t = y; rw [← ht]; exact hy
    clear hy
    go_enter Tryz.func10, Tryz.ntmps10
    go_wp2_with (go_at_call 14; (try rw [ht]); refine (implDg_any k t _ HK.out hts y HD.out).mono ?_; rintro e w1 ⟨rfl, hb1⟩)
    go_ret
    exact ⟨rfl, hb1⟩
  · by_cases hk : k = 0 ∨ k = 1
    · have hyw : y.size = wid k := by rw [← hy, RT]; exact rt_wid k n S n hk
      obtain ⟨X, hX⟩ : ∃ X, cells8 (pad y) = X := ⟨_, rfl⟩
      have HX' : Hid (cells8 (pad y) = X) := hX
      have HX : Hid (cells8 (pad (RT k S n)) = X) := by show cells8 (pad (RT k S n)) = X; rw [hy]; exact hX
      have mn : ¬ (n : Int) = 0 := by omega
      have hwn : ¬ ((wid k : Nat) : Int) = 0 := by unfold wid; split <;> omega
      clear hX hy ht
      go_enter Tryz.func10, Tryz.ntmps10
      go_wp2_with (first | (go_at_call 27; refine (widthOf_yes k _ hk).mono ?_; rintro e w0 ⟨rfl, rfl⟩) | (go_at_call 15; refine (makeJoiner_any k _).mono ?_; rintro e w1 ⟨b, hbb, rfl, hd1, hb1⟩))
      · exfalso
        simp_all
      obtain ⟨u0', u1'⟩ := cell_box w1 (.int .i64 k) (.map (some b)) 42
      have u0 : (w1.alloc (.cells #[.int .i64 k, .map (some b)] 42)).drew.cell? ⟨w1.heap.size, 0, none⟩ = some (.int .i64 k) := u0'
      have u1 : (w1.alloc (.cells #[.int .i64 k, .map (some b)] 42)).drew.cell? ⟨w1.heap.size, 1, none⟩ = some (.map (some b)) := u1'
      have bw : Below w0.heap.size w0 (w1.alloc (.cells #[.int .i64 k, .map (some b)] 42)).drew := (hb1.trans ((below1 w1 _).mono hb1.size)).drew
      have hS2 := h.later bw
      have hK2 := keys_later HK.out bw
      have hbl := hd1.lt
      have hd2 : DblAt (w1.alloc (.cells #[.int .i64 k, .map (some b)] 42)).drew k b 64 := (hd1.mono (by omega)).later (below1 w1 (.cells #[.int .i64 k, .map (some b)] 42)).drew
      refine wp_region_held_drew (S := fun w' => w'.cell? ⟨w1.heap.size, 0, none⟩ = some (.int .i64 k) ∧ w'.cell? ⟨w1.heap.size, 1, none⟩ = some (.map (some b))) (by kernel_rfl) ⟨u0, u1⟩ (fun hHeld => ?_)
      refine wpAnyH_take (i := 0) (oi := ({ dst := some 18, op := Op.load 42 (Operand.tmp 5), type := 42, pos := "l2_tree.go:47", after := #[], guard := none } : Oper)) (v := .agg #[.int .i64 k, .map (some b)]) rfl (by kernel_rfl) (by kernel_rfl) (by kernel_rfl) (fun _ _ _ h => h) (Or.inl ⟨by rfl, fun w hSw => by obtain ⟨c0, c1⟩ := hSw; go_simp⟩) hHeld ?_
      simp only [Act.put, List.setIfInBounds_toArray, List.set_cons_zero, List.set_cons_succ]
      refine wpAnyH_take (i := 1) (oi := ({ dst := some 19, op := Op.load 42 (Operand.tmp 5), type := 42, pos := "l2_tree.go:47", after := #[], guard := none } : Oper)) (v := .agg #[.int .i64 k, .map (some b)]) rfl (by kernel_rfl) (by kernel_rfl) (by kernel_rfl) (fun _ _ _ h => h) (Or.inl ⟨by rfl, fun w hSw => by obtain ⟨c0, c1⟩ := hSw; go_simp⟩) hHeld ?_
      simp only [Act.put, List.setIfInBounds_toArray, List.set_cons_zero, List.set_cons_succ]
      refine wpAnyH_take (i := 2) (oi := ({ dst := some 20, op := Op.move (Operand.tmp 1), type := 23, pos := "l2_tree.go:47", after := #[], guard := none } : Oper)) (v := .slice a n c) rfl (by kernel_rfl) (by kernel_rfl) (by kernel_rfl) (fun _ _ _ h => h) (Or.inl ⟨by rfl, fun w hSw => by go_simp⟩) hHeld ?_
      simp only [Act.put, List.setIfInBounds_toArray, List.set_cons_zero, List.set_cons_succ]
      refine wpAnyH_ready (rs := [3]) (by kernel_rfl) (by simp) ?_
      refine AllReadyH.cons (o := ({ dst := some 21, op := Op.call { callee := Callee.value (Operand.func 28), args := #[Operand.tmp 19, Operand.tmp 20], argTypes := #[42, 23] }, type := 45, pos := "l2_tree.go:47", after := #[{ on := 1, ground := Ground.data }, { on := 2, ground := Ground.data }], guard := none } : Oper)) rfl (fun K hK => ?_) AllReadyH.nil
      go_simp
      refine (root_any k b hk n S a c _ X (by omega) h64 hS2 hK2 hd2 hsz HX.out).mono ?_
      rintro e w3 ⟨rfl, hd3, hg3⟩
      refine hK.out _ _ ⟨hg3.cell u0 (by simp; omega), hg3.cell u1 (by simp; omega)⟩ (fun hHeld => ?_)
      clear hK K
      refine wpAnyH_ready (rs := [4]) (by kernel_rfl) (by simp) ?_
      refine AllReadyH.cons (o := ({ dst := some 22, op := Op.call { callee := Callee.value (Operand.func 18), args := #[Operand.tmp 18, Operand.tmp 21], argTypes := #[42, 45] }, type := 9, pos := "l2_tree.go:47", after := #[{ on := 0, ground := Ground.data }, { on := 3, ground := Ground.data }, { on := 3, ground := Ground.chain }], guard := none } : Oper)) rfl (fun K hK => ?_) AllReadyH.nil
      go_simp
      refine (text_as k b y _ hk hyw X HX'.out).mono ?_
      rintro e w4 ⟨rfl, hb4⟩
      refine hK.out _ _ ⟨keep hb4 (hg3.cell u0 (by simp; omega)), keep hb4 (hg3.cell u1 (by simp; omega))⟩ (fun hHeld => ?_)
      clear hK K
      refine wpAnyH_ready (rs := [5]) (by kernel_rfl) (by simp) ?_
      refine AllReadyH.cons (o := ({ dst := some 4, op := Op.assign (Operand.tmp 22), type := 9, pos := "l2_tree.go:47", after := #[{ on := 4, ground := Ground.data }, { on := 4, ground := Ground.chain }, { on := 0, ground := Ground.phase }, { on := 1, ground := Ground.phase }, { on := 2, ground := Ground.phase }, { on := 3, ground := Ground.phase }, { on := 4, ground := Ground.phase }], guard := none } : Oper)) rfl (fun K hK => ?_) AllReadyH.nil
      go_simp
      refine hK.out _ _ ⟨keep hb4 (hg3.cell u0 (by simp; omega)), keep hb4 (hg3.cell u1 (by simp; omega))⟩ (fun _ => ?_)
      clear hK K
      refine wpAnyH_done (by kernel_rfl) ?_ _
      go_wp2_with fail
      go_ret
      have bw3 : Below w0.heap.size w0 w3 := bw.grown hg3 bw.size (fun j hj => by simp at hj; omega)
      exact ⟨rfl, bw3.trans (hb4.mono bw3.size)⟩
    · have HD : Hid (dg k t = y) := by show dg k t = y; rw [dg_bad k t hk, ← hy, RT_bad k S n hk]
      have mn : ¬ (n : Int) = 0 := by omega
      clear hy
      go_enter Tryz.func10, Tryz.ntmps10
      go_wp2_with (first | (go_at_call 27; refine (widthOf_no k _ hk).mono ?_; rintro e w0 ⟨rfl, rfl⟩) | (go_at_call 14; (try rw [ht]); refine (implDg_any k t _ HK.out hts y HD.out).mono ?_; rintro e w1 ⟨rfl, hb1⟩))
      go_ret
      exact ⟨rfl, hb1⟩
end Go.Proofs.YtjbbbfplephkpaaGreatDoor
