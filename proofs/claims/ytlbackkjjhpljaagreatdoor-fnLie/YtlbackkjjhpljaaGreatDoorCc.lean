/-
  The path of an entry: the specification's way, as far as what is drawn wants it.
-/
import Derived.Test.YtlbackkjjhpljaaGreatDoorCb
import Derived.Test.YtlbackkjjhpljaaGreatDoorDa
namespace Go.Proofs.YtlbackkjjhpljaaGreatDoor
open Go.RowKit
theorem own_below {w w' : World} {base e size n : Nat} {v : Value} {xs : List Value} (h : w.ownsRow base e size v n xs) (hb : Below w.heap.size w w') : w'.ownsRow base e size v n xs := by
  obtain ⟨hl, hh⟩ := h
  refine ⟨hl, ?_⟩
  rcases hh with hh | ⟨gg, cap, cur, e1, e2, e3, e4⟩
  · exact Or.inl hh
  · exact Or.inr ⟨gg, cap, cur, e1, e2, (hb.block gg (blk_lt e3)).trans e3, e4⟩
/-- A list of texts in a row of the call's own. -/
def LsAt (w : World) (base : Nat) (v : Value) (L : List ByteArray) : Prop := ∃ gz cap, v = .slice (some ⟨gz, 0, none⟩) L.length cap ∧ w.ownsRow base 9 1 (.slice (some ⟨gz, 0, none⟩) L.length cap) L.length (L.map .string)
set_option maxRecDepth 20000 in
set_option maxHeartbeats 4000000 in
theorem specPath_none (k i : Int) (n : Nat) (a : Option Addr) (c : Nat) (w : World) (hn : n ≤ 64) (h : ¬ ((k = 0 ∨ k = 1) ∧ 0 ≤ i ∧ i ≤ (n : Int) - 1 ∧ n ≠ 1)) :
    Calls Tryz.prog 70 #[.int .i64 k, .slice a n c, .int .i64 i] w fun e w' => ∃ (L : List ByteArray) (v : Value), e = .returned v ∧ L.length ≤ n ∧ (∀ T ∈ L, T.size ≤ 32) ∧ LsAt w' w.heap.size v L ∧ Below w.heap.size w w' := by
  by_cases hk : k = 0 ∨ k = 1
  · by_cases hb : 0 ≤ i ∧ i ≤ (n : Int) - 1
    · obtain rfl : n = 1 := by
        rcases Nat.decEq n 1 with e | e
        · exact absurd ⟨hk, hb.1, hb.2, e⟩ h
        · exact e
      clear h
      go_enter Tryz.func70, Tryz.ntmps70
      go_wp2_with (first | (go_at_call 83; refine (kind_yes _ _ hk).mono ?_; rintro e w0 ⟨rfl, hw0⟩; subst w0) | (go_at_call 51; refine (betw_yes _ _ _ _ (by omega) (by omega)).mono ?_; rintro e w0 ⟨rfl, hw0⟩; subst w0))
      go_ret
      exact ⟨[], _, rfl, by simp, by simp, ⟨w.heap.size, 0, rfl, World.ownsRow_lit w #[] 0 (Nat.le_refl _) (by simp [maxLen]) rfl⟩, below1 _ _⟩
    · clear h
      go_enter Tryz.func70, Tryz.ntmps70
      go_wp2_with (first | (go_at_call 83; refine (kind_yes _ _ hk).mono ?_; rintro e w0 ⟨rfl, hw0⟩; subst w0) | (go_at_call 51; refine (betw_no _ _ _ _ (by omega)).mono ?_; rintro e w0 ⟨rfl, hw0⟩; subst w0))
      go_ret
      exact ⟨[], _, rfl, by simp, by simp, ⟨w.heap.size, 0, rfl, World.ownsRow_lit w #[] 0 (Nat.le_refl _) (by simp [maxLen]) rfl⟩, below1 _ _⟩
  · clear h
    go_enter Tryz.func70, Tryz.ntmps70
    go_wp2_with ((go_at_call 83; refine (kind_no _ _ hk).mono ?_; rintro e w0 ⟨rfl, hw0⟩; subst w0))
    go_ret
    exact ⟨[], _, rfl, by simp, by simp, ⟨w.heap.size, 0, rfl, World.ownsRow_lit w #[] 0 (Nat.le_refl _) (by simp [maxLen]) rfl⟩, below1 _ _⟩
set_option maxRecDepth 20000 in
set_option maxHeartbeats 4000000 in
theorem specPath_any (f : Nat) : ∀ (k i : Int) (n : Nat) (S : Nat → ByteArray) (a : Option Addr) (c : Nat) (w : World), n ≤ f → n ≤ 64 → Sl w a n S → n ≤ c → (∀ j, j < n → (S j).size ≤ 4194304) →
    Calls Tryz.prog 70 #[.int .i64 k, .slice a n c, .int .i64 i] w fun e w' => ∃ (L : List ByteArray) (v : Value), e = .returned v ∧ L.length ≤ n ∧ (∀ T ∈ L, T.size ≤ 32) ∧ LsAt w' w.heap.size v L ∧ Below w.heap.size w w' := by
  obtain ⟨i0, hi, hz0, hz1, hz2⟩ := info_parts Tryz.info9
  have HI : Hid (Tryz.prog.info? 9 = some i0) := hi
  clear hi
  induction f with
  | zero =>
    intro k i n S a c w hf hn h hc hsz
    exact specPath_none k i n a c w hn (fun hh => by omega)
  | succ f ih =>
    intro k i n S a c w hf hn h hc hsz
    by_cases hh : (k = 0 ∨ k = 1) ∧ 0 ≤ i ∧ i ≤ (n : Int) - 1 ∧ n ≠ 1
    · obtain ⟨hk, hi0, hi1, hn1⟩ := hh
      obtain ⟨hs1, hs2, hs3⟩ := spl_in n (by omega) (by omega)
      obtain ⟨P, off, rfl, hc0⟩ := h.at 0 (by omega)
      obtain ⟨s, hsn⟩ : ∃ s, spl n = s := ⟨_, rfl⟩
      rw [hsn] at hs1 hs2 hs3
      have HSP : Hid (spl n = s) := hsn
      have hA : Sl w.drew (some ⟨P, off, none⟩) s S := h.left s (by omega)
      have hB : Sl w.drew (some ⟨P, off + s, none⟩) (n - s) (fun j => S (s + j)) := h.right s (by omega)
      have m1 : ¬ (n : Int) = 1 := by omega
      have i0' : (0 : Int) ≤ (s : Int) := by omega
      have i1' : (s : Int) ≤ (n : Int) := by omega
      have i2 : (s : Int) ≤ (c : Int) := by omega
      have i3 : (n : Int) ≤ (c : Int) := by omega
      have i4 : s ≤ c := by omega
      have i5 : s ≤ n := by omega
      have i6 : ¬ c = s := by omega
      have i7 : ¬ n = s := by omega
      clear hsn hc0 h
      by_cases hlt : i < s
      · obtain ⟨u, hu⟩ : ∃ u, RT k (fun j => S (s + j)) (n - s) = u := ⟨_, rfl⟩
        have HU : Hid (RT k (fun j => S (s + j)) (n - s) = u) := hu
        have hul : u.size ≤ 32 := by rw [← hu]; exact rt_size _ _ _ _
        clear hu
        go_enter Tryz.func70, Tryz.ntmps70
        go_wp2_with (first | (go_at_call 83; refine (kind_yes _ _ hk).mono ?_; rintro e w0 ⟨rfl, hw0⟩; subst w0) | (go_at_call 51; refine (betw_yes _ _ _ _ (by omega) (by omega)).mono ?_; rintro e w0 ⟨rfl, hw0⟩; subst w0) | (go_at_call 38; refine (l2Split_as n _ _ (by rfl) (by omega) s HSP.out).mono ?_; rintro e w0 ⟨rfl, hw0⟩; subst w0))
        refine wp_region_held_drew (S := fun _ => True) (by kernel_rfl) trivial (fun _ => ?_)
        refine wpAnyH_take (i := 0) (oi := ({ dst := some 31, op := Op.move (Operand.tmp 0), type := 3, pos := "l2_tree.go:88", after := #[], guard := none } : Oper)) (v := .int .i64 k) rfl (by kernel_rfl) (by kernel_rfl) (by kernel_rfl) (fun _ _ _ h => h) (Or.inl ⟨by rfl, fun w hSw => by go_simp⟩) trivial ?_
        simp only [Act.put, List.setIfInBounds_toArray, List.set_cons_zero, List.set_cons_succ]
        refine wpAnyH_take (i := 1) (oi := ({ dst := some 32, op := Op.move (Operand.tmp 1), type := 22, pos := "l2_tree.go:88", after := #[], guard := none } : Oper)) (v := .slice (some ⟨P, off, none⟩) n c) rfl (by kernel_rfl) (by kernel_rfl) (by kernel_rfl) (fun _ _ _ h => h) (Or.inl ⟨by rfl, fun w hSw => by go_simp⟩) trivial ?_
        simp only [Act.put, List.setIfInBounds_toArray, List.set_cons_zero, List.set_cons_succ]
        refine wpAnyH_take (i := 2) (oi := ({ dst := some 33, op := Op.move (Operand.tmp 8), type := 3, pos := "l2_tree.go:88", after := #[], guard := none } : Oper)) (v := .int .i64 (s : Int)) rfl (by kernel_rfl) (by kernel_rfl) (by kernel_rfl) (fun _ _ _ h => h) (Or.inl ⟨by rfl, fun w hSw => by go_simp⟩) trivial ?_
        simp only [Act.put, List.setIfInBounds_toArray, List.set_cons_zero, List.set_cons_succ]
        refine wpAnyH_take (i := 3) (oi := ({ dst := some 34, op := Op.slice 22 (Operand.tmp 32) none (some (Operand.tmp 33)) none, type := 22, pos := "l2_tree.go:88", after := #[{ on := 1, ground := Ground.data }, { on := 2, ground := Ground.data }], guard := none } : Oper)) (v := .slice (some ⟨P, off, none⟩) s c) rfl (by kernel_rfl) (by kernel_rfl) (by kernel_rfl) (fun _ _ _ h => h) (Or.inl ⟨by rfl, fun w hSw => by go_simp⟩) trivial ?_
        simp only [Act.put, List.setIfInBounds_toArray, List.set_cons_zero, List.set_cons_succ]
        refine wpAnyH_take (i := 4) (oi := ({ dst := some 35, op := Op.move (Operand.tmp 2), type := 3, pos := "l2_tree.go:88", after := #[], guard := none } : Oper)) (v := .int .i64 i) rfl (by kernel_rfl) (by kernel_rfl) (by kernel_rfl) (fun _ _ _ h => h) (Or.inl ⟨by rfl, fun w hSw => by go_simp⟩) trivial ?_
        simp only [Act.put, List.setIfInBounds_toArray, List.set_cons_zero, List.set_cons_succ]
        refine wpAnyH_take (i := 6) (oi := ({ dst := some 37, op := Op.move (Operand.tmp 0), type := 3, pos := "l2_tree.go:88", after := #[], guard := none } : Oper)) (v := .int .i64 k) rfl (by kernel_rfl) (by kernel_rfl) (by kernel_rfl) (fun _ _ _ h => h) (Or.inl ⟨by rfl, fun w hSw => by go_simp⟩) trivial ?_
        simp only [Act.put, List.setIfInBounds_toArray, List.set_cons_zero, List.set_cons_succ]
        refine wpAnyH_take (i := 7) (oi := ({ dst := some 38, op := Op.move (Operand.tmp 1), type := 22, pos := "l2_tree.go:88", after := #[], guard := none } : Oper)) (v := .slice (some ⟨P, off, none⟩) n c) rfl (by kernel_rfl) (by kernel_rfl) (by kernel_rfl) (fun _ _ _ h => h) (Or.inl ⟨by rfl, fun w hSw => by go_simp⟩) trivial ?_
        simp only [Act.put, List.setIfInBounds_toArray, List.set_cons_zero, List.set_cons_succ]
        refine wpAnyH_take (i := 8) (oi := ({ dst := some 39, op := Op.move (Operand.tmp 8), type := 3, pos := "l2_tree.go:88", after := #[], guard := none } : Oper)) (v := .int .i64 (s : Int)) rfl (by kernel_rfl) (by kernel_rfl) (by kernel_rfl) (fun _ _ _ h => h) (Or.inl ⟨by rfl, fun w hSw => by go_simp⟩) trivial ?_
        simp only [Act.put, List.setIfInBounds_toArray, List.set_cons_zero, List.set_cons_succ]
        refine wpAnyH_take (i := 9) (oi := ({ dst := some 40, op := Op.slice 22 (Operand.tmp 38) (some (Operand.tmp 39)) none none, type := 22, pos := "l2_tree.go:88", after := #[{ on := 7, ground := Ground.data }, { on := 8, ground := Ground.data }], guard := none } : Oper)) (v := .slice (some ⟨P, off + s, none⟩) (n - s) (c - s)) rfl (by kernel_rfl) (by kernel_rfl) (by kernel_rfl) (fun _ _ _ h => h) (Or.inl ⟨by rfl, fun w hSw => by go_simp⟩) trivial ?_
        simp only [Act.put, List.setIfInBounds_toArray, List.set_cons_zero, List.set_cons_succ]
        refine wpAnyH_ready (rs := [5]) (by kernel_rfl) (by simp) ?_
        refine AllReadyH.cons (o := ({ dst := some 36, op := Op.call { callee := Callee.value (Operand.func 70), args := #[Operand.tmp 31, Operand.tmp 34, Operand.tmp 35], argTypes := #[3, 22, 3] }, type := 22, pos := "l2_tree.go:88", after := #[{ on := 0, ground := Ground.data }, { on := 3, ground := Ground.data }, { on := 4, ground := Ground.data }], guard := none } : Oper)) rfl (fun K hK => ?_) AllReadyH.nil
        go_simp
        refine (ih k i s S (some ⟨P, off, none⟩) c _ (by omega) (by omega) hA i4 (fun j hj => hsz j (by omega))).mono ?_
        rintro e w1 ⟨L1, v1, rfl, hL1, hT1, ⟨g1, cap1, rfl, hO1⟩, hb1⟩
        refine hK.out _ _ trivial (fun _ => ?_)
        clear hK K
        refine wpAnyH_ready (rs := [10]) (by kernel_rfl) (by simp) ?_
        refine AllReadyH.cons (o := ({ dst := some 41, op := Op.call { callee := Callee.value (Operand.func 16), args := #[Operand.tmp 37, Operand.tmp 40], argTypes := #[3, 22] }, type := 9, pos := "l2_tree.go:88", after := #[{ on := 6, ground := Ground.data }, { on := 9, ground := Ground.data }, { on := 5, ground := Ground.chain }], guard := none } : Oper)) rfl (fun K hK => ?_) AllReadyH.nil
        go_simp
        refine (specRoot_as k (n - s) (fun j => S (s + j)) (some ⟨P, off + s, none⟩) (c - s) _ u (hB.later hb1) (by omega) (by omega) (fun j hj => hsz (s + j) (by omega)) HU.out).mono ?_
        rintro e w2 ⟨rfl, hb2⟩
        refine hK.out _ _ trivial (fun _ => ?_)
        clear hK K
        have hO2 := own_below hO1 hb2
        have q1 := hb1.size
        have q2 := hb2.size
        have q0 : w.drew.heap.size = w.heap.size := rfl
        have hg1 := grow_le hO1
        refine wpAnyH_ready (rs := [11]) (by kernel_rfl) (by simp) ?_
        refine AllReadyH.cons (o := ({ dst := some 42, op := Op.buildSlice 22 1 #[(0, Operand.tmp 41)], type := 22, pos := "l2_tree.go:88", after := #[{ on := 10, ground := Ground.data }], guard := none } : Oper)) rfl (fun K hK => ?_) AllReadyH.nil
        go_simp
        refine hK.out _ _ trivial (fun _ => ?_)
        clear hK K
        refine wpAnyH_ready (rs := [12]) (by kernel_rfl) (by simp) ?_
        refine AllReadyH.cons (o := ({ dst := some 43, op := Op.call { callee := Callee.builtin Builtin.append, args := #[Operand.tmp 36, Operand.tmp 42], argTypes := #[22, 22] }, type := 22, pos := "l2_tree.go:88", after := #[{ on := 5, ground := Ground.data }, { on := 11, ground := Ground.data }, { on := 10, ground := Ground.chain }], guard := none } : Oper)) rfl (fun K hK => ?_) AllReadyH.nil
        rw [if_pos (by kernel_rfl)]
        refine wp_append_lies _ _ _ _ rfl w.drew.heap.size 9 i0 (.string ⟨#[]⟩) 1 16 Tryz.underlying22 HI.out hz0 hz1 hz2 rfl (by omega) _ L1.length _ rfl (hO2.alloc _) ⟨w2.heap.size, 0, none⟩ 1 1 [.string u] rfl rfl (World.news_of_block (heap_alloc_new w2 _)) (ones _ rfl) (by omega) (by unfold maxLen; omega) (by omega) (by simp; omega) _ rfl ?_
        intro g3 cap3 w3 hO3 hgr3 hat3 hlt3
        refine hK.out _ _ trivial (fun _ => ?_)
        clear hK K
        simp only [Act.put, List.setIfInBounds_toArray, List.set_cons_zero, List.set_cons_succ]
        refine wpAnyH_ready (rs := [13]) (by kernel_rfl) (by simp) ?_
        refine AllReadyH.cons (o := ({ dst := some 6, op := Op.assign (Operand.tmp 43), type := 22, pos := "l2_tree.go:88", after := #[{ on := 12, ground := Ground.data }, { on := 12, ground := Ground.chain }, { on := 0, ground := Ground.phase }, { on := 1, ground := Ground.phase }, { on := 2, ground := Ground.phase }, { on := 3, ground := Ground.phase }, { on := 4, ground := Ground.phase }, { on := 5, ground := Ground.phase }, { on := 6, ground := Ground.phase }, { on := 7, ground := Ground.phase }, { on := 8, ground := Ground.phase }, { on := 9, ground := Ground.phase }, { on := 10, ground := Ground.phase }, { on := 11, ground := Ground.phase }, { on := 12, ground := Ground.phase }], guard := none } : Oper)) rfl (fun K hK => ?_) AllReadyH.nil
        go_simp
        refine hK.out _ _ trivial (fun _ => ?_)
        clear hK K
        refine wpAnyH_done (by kernel_rfl) ?_ _
        go_wp2
        go_ret
        refine ⟨L1 ++ [u], _, rfl, by simp; omega, all_put hT1 hul, ⟨g3, cap3, by simp, by rw [← strs_put]; simpa using hO3⟩, ?_⟩
        exact ((undrew (hb1.trans (hb2.mono hb1.size))).alloc (by omega) _).grown hgr3 (by simp; omega) (fun q hq => by have e : g1 = q := Option.some.inj hq; omega)
      · obtain ⟨u, hu⟩ : ∃ u, RT k S s = u := ⟨_, rfl⟩
        have HU : Hid (RT k S s = u) := hu
        have hul : u.size ≤ 32 := by rw [← hu]; exact rt_size _ _ _ _
        have e1 : IntKind.i64.wrap (i - s) = i - s := by rw [IntKind.wrap_i64]; omega
        clear hu
        go_enter Tryz.func70, Tryz.ntmps70
        go_wp2_with (first | (go_at_call 83; refine (kind_yes _ _ hk).mono ?_; rintro e w0 ⟨rfl, hw0⟩; subst w0) | (go_at_call 51; refine (betw_yes _ _ _ _ (by omega) (by omega)).mono ?_; rintro e w0 ⟨rfl, hw0⟩; subst w0) | (go_at_call 38; refine (l2Split_as n _ _ (by rfl) (by omega) s HSP.out).mono ?_; rintro e w0 ⟨rfl, hw0⟩; subst w0))
        refine wp_region_held_drew (S := fun _ => True) (by kernel_rfl) trivial (fun _ => ?_)
        refine wpAnyH_take (i := 0) (oi := ({ dst := some 44, op := Op.move (Operand.tmp 0), type := 3, pos := "l2_tree.go:90", after := #[], guard := none } : Oper)) (v := .int .i64 k) rfl (by kernel_rfl) (by kernel_rfl) (by kernel_rfl) (fun _ _ _ h => h) (Or.inl ⟨by rfl, fun w hSw => by go_simp⟩) trivial ?_
        simp only [Act.put, List.setIfInBounds_toArray, List.set_cons_zero, List.set_cons_succ]
        refine wpAnyH_take (i := 1) (oi := ({ dst := some 45, op := Op.move (Operand.tmp 1), type := 22, pos := "l2_tree.go:90", after := #[], guard := none } : Oper)) (v := .slice (some ⟨P, off, none⟩) n c) rfl (by kernel_rfl) (by kernel_rfl) (by kernel_rfl) (fun _ _ _ h => h) (Or.inl ⟨by rfl, fun w hSw => by go_simp⟩) trivial ?_
        simp only [Act.put, List.setIfInBounds_toArray, List.set_cons_zero, List.set_cons_succ]
        refine wpAnyH_take (i := 2) (oi := ({ dst := some 46, op := Op.move (Operand.tmp 8), type := 3, pos := "l2_tree.go:90", after := #[], guard := none } : Oper)) (v := .int .i64 (s : Int)) rfl (by kernel_rfl) (by kernel_rfl) (by kernel_rfl) (fun _ _ _ h => h) (Or.inl ⟨by rfl, fun w hSw => by go_simp⟩) trivial ?_
        simp only [Act.put, List.setIfInBounds_toArray, List.set_cons_zero, List.set_cons_succ]
        refine wpAnyH_take (i := 3) (oi := ({ dst := some 47, op := Op.slice 22 (Operand.tmp 45) (some (Operand.tmp 46)) none none, type := 22, pos := "l2_tree.go:90", after := #[{ on := 1, ground := Ground.data }, { on := 2, ground := Ground.data }], guard := none } : Oper)) (v := .slice (some ⟨P, off + s, none⟩) (n - s) (c - s)) rfl (by kernel_rfl) (by kernel_rfl) (by kernel_rfl) (fun _ _ _ h => h) (Or.inl ⟨by rfl, fun w hSw => by go_simp⟩) trivial ?_
        simp only [Act.put, List.setIfInBounds_toArray, List.set_cons_zero, List.set_cons_succ]
        refine wpAnyH_take (i := 4) (oi := ({ dst := some 48, op := Op.move (Operand.tmp 2), type := 3, pos := "l2_tree.go:90", after := #[], guard := none } : Oper)) (v := .int .i64 i) rfl (by kernel_rfl) (by kernel_rfl) (by kernel_rfl) (fun _ _ _ h => h) (Or.inl ⟨by rfl, fun w hSw => by go_simp⟩) trivial ?_
        simp only [Act.put, List.setIfInBounds_toArray, List.set_cons_zero, List.set_cons_succ]
        refine wpAnyH_take (i := 5) (oi := ({ dst := some 49, op := Op.move (Operand.tmp 8), type := 3, pos := "l2_tree.go:90", after := #[], guard := none } : Oper)) (v := .int .i64 (s : Int)) rfl (by kernel_rfl) (by kernel_rfl) (by kernel_rfl) (fun _ _ _ h => h) (Or.inl ⟨by rfl, fun w hSw => by go_simp⟩) trivial ?_
        simp only [Act.put, List.setIfInBounds_toArray, List.set_cons_zero, List.set_cons_succ]
        refine wpAnyH_take (i := 6) (oi := ({ dst := some 50, op := Op.binOp BinOp.sub 3 (Operand.tmp 48) (Operand.tmp 49) 3, type := 3, pos := "l2_tree.go:90", after := #[{ on := 4, ground := Ground.data }, { on := 5, ground := Ground.data }], guard := none } : Oper)) (v := .int .i64 (i - s)) rfl (by kernel_rfl) (by kernel_rfl) (by kernel_rfl) (fun _ _ _ h => h) (Or.inl ⟨by rfl, fun w hSw => by go_simp⟩) trivial ?_
        simp only [Act.put, List.setIfInBounds_toArray, List.set_cons_zero, List.set_cons_succ]
        refine wpAnyH_take (i := 8) (oi := ({ dst := some 52, op := Op.move (Operand.tmp 0), type := 3, pos := "l2_tree.go:90", after := #[], guard := none } : Oper)) (v := .int .i64 k) rfl (by kernel_rfl) (by kernel_rfl) (by kernel_rfl) (fun _ _ _ h => h) (Or.inl ⟨by rfl, fun w hSw => by go_simp⟩) trivial ?_
        simp only [Act.put, List.setIfInBounds_toArray, List.set_cons_zero, List.set_cons_succ]
        refine wpAnyH_take (i := 9) (oi := ({ dst := some 53, op := Op.move (Operand.tmp 1), type := 22, pos := "l2_tree.go:90", after := #[], guard := none } : Oper)) (v := .slice (some ⟨P, off, none⟩) n c) rfl (by kernel_rfl) (by kernel_rfl) (by kernel_rfl) (fun _ _ _ h => h) (Or.inl ⟨by rfl, fun w hSw => by go_simp⟩) trivial ?_
        simp only [Act.put, List.setIfInBounds_toArray, List.set_cons_zero, List.set_cons_succ]
        refine wpAnyH_take (i := 10) (oi := ({ dst := some 54, op := Op.move (Operand.tmp 8), type := 3, pos := "l2_tree.go:90", after := #[], guard := none } : Oper)) (v := .int .i64 (s : Int)) rfl (by kernel_rfl) (by kernel_rfl) (by kernel_rfl) (fun _ _ _ h => h) (Or.inl ⟨by rfl, fun w hSw => by go_simp⟩) trivial ?_
        simp only [Act.put, List.setIfInBounds_toArray, List.set_cons_zero, List.set_cons_succ]
        refine wpAnyH_take (i := 11) (oi := ({ dst := some 55, op := Op.slice 22 (Operand.tmp 53) none (some (Operand.tmp 54)) none, type := 22, pos := "l2_tree.go:90", after := #[{ on := 9, ground := Ground.data }, { on := 10, ground := Ground.data }], guard := none } : Oper)) (v := .slice (some ⟨P, off, none⟩) s c) rfl (by kernel_rfl) (by kernel_rfl) (by kernel_rfl) (fun _ _ _ h => h) (Or.inl ⟨by rfl, fun w hSw => by go_simp⟩) trivial ?_
        simp only [Act.put, List.setIfInBounds_toArray, List.set_cons_zero, List.set_cons_succ]
        refine wpAnyH_ready (rs := [7]) (by kernel_rfl) (by simp) ?_
        refine AllReadyH.cons (o := ({ dst := some 51, op := Op.call { callee := Callee.value (Operand.func 70), args := #[Operand.tmp 44, Operand.tmp 47, Operand.tmp 50], argTypes := #[3, 22, 3] }, type := 22, pos := "l2_tree.go:90", after := #[{ on := 0, ground := Ground.data }, { on := 3, ground := Ground.data }, { on := 6, ground := Ground.data }], guard := none } : Oper)) rfl (fun K hK => ?_) AllReadyH.nil
        go_simp
        refine (ih k (i - s) (n - s) (fun j => S (s + j)) (some ⟨P, off + s, none⟩) (c - s) _ (by omega) (by omega) hB (by omega) (fun j hj => hsz (s + j) (by omega))).mono ?_
        rintro e w1 ⟨L1, v1, rfl, hL1, hT1, ⟨g1, cap1, rfl, hO1⟩, hb1⟩
        refine hK.out _ _ trivial (fun _ => ?_)
        clear hK K
        refine wpAnyH_ready (rs := [12]) (by kernel_rfl) (by simp) ?_
        refine AllReadyH.cons (o := ({ dst := some 56, op := Op.call { callee := Callee.value (Operand.func 16), args := #[Operand.tmp 52, Operand.tmp 55], argTypes := #[3, 22] }, type := 9, pos := "l2_tree.go:90", after := #[{ on := 8, ground := Ground.data }, { on := 11, ground := Ground.data }, { on := 7, ground := Ground.chain }], guard := none } : Oper)) rfl (fun K hK => ?_) AllReadyH.nil
        go_simp
        refine (specRoot_as k s S (some ⟨P, off, none⟩) c _ u (hA.later hb1) i4 (by omega) (fun j hj => hsz j (by omega)) HU.out).mono ?_
        rintro e w2 ⟨rfl, hb2⟩
        refine hK.out _ _ trivial (fun _ => ?_)
        clear hK K
        have hO2 := own_below hO1 hb2
        have q1 := hb1.size
        have q2 := hb2.size
        have q0 : w.drew.heap.size = w.heap.size := rfl
        have hg1 := grow_le hO1
        refine wpAnyH_ready (rs := [13]) (by kernel_rfl) (by simp) ?_
        refine AllReadyH.cons (o := ({ dst := some 57, op := Op.buildSlice 22 1 #[(0, Operand.tmp 56)], type := 22, pos := "l2_tree.go:90", after := #[{ on := 12, ground := Ground.data }], guard := none } : Oper)) rfl (fun K hK => ?_) AllReadyH.nil
        go_simp
        refine hK.out _ _ trivial (fun _ => ?_)
        clear hK K
        refine wpAnyH_ready (rs := [14]) (by kernel_rfl) (by simp) ?_
        refine AllReadyH.cons (o := ({ dst := some 58, op := Op.call { callee := Callee.builtin Builtin.append, args := #[Operand.tmp 51, Operand.tmp 57], argTypes := #[22, 22] }, type := 22, pos := "l2_tree.go:90", after := #[{ on := 7, ground := Ground.data }, { on := 13, ground := Ground.data }, { on := 12, ground := Ground.chain }], guard := none } : Oper)) rfl (fun K hK => ?_) AllReadyH.nil
        rw [if_pos (by kernel_rfl)]
        refine wp_append_lies _ _ _ _ rfl w.drew.heap.size 9 i0 (.string ⟨#[]⟩) 1 16 Tryz.underlying22 HI.out hz0 hz1 hz2 rfl (by omega) _ L1.length _ rfl (hO2.alloc _) ⟨w2.heap.size, 0, none⟩ 1 1 [.string u] rfl rfl (World.news_of_block (heap_alloc_new w2 _)) (ones _ rfl) (by omega) (by unfold maxLen; omega) (by omega) (by simp; omega) _ rfl ?_
        intro g3 cap3 w3 hO3 hgr3 hat3 hlt3
        refine hK.out _ _ trivial (fun _ => ?_)
        clear hK K
        simp only [Act.put, List.setIfInBounds_toArray, List.set_cons_zero, List.set_cons_succ]
        refine wpAnyH_ready (rs := [15]) (by kernel_rfl) (by simp) ?_
        refine AllReadyH.cons (o := ({ dst := some 6, op := Op.assign (Operand.tmp 58), type := 22, pos := "l2_tree.go:90", after := #[{ on := 14, ground := Ground.data }, { on := 14, ground := Ground.chain }, { on := 0, ground := Ground.phase }, { on := 1, ground := Ground.phase }, { on := 2, ground := Ground.phase }, { on := 3, ground := Ground.phase }, { on := 4, ground := Ground.phase }, { on := 5, ground := Ground.phase }, { on := 6, ground := Ground.phase }, { on := 7, ground := Ground.phase }, { on := 8, ground := Ground.phase }, { on := 9, ground := Ground.phase }, { on := 10, ground := Ground.phase }, { on := 11, ground := Ground.phase }, { on := 12, ground := Ground.phase }, { on := 13, ground := Ground.phase }, { on := 14, ground := Ground.phase }], guard := none } : Oper)) rfl (fun K hK => ?_) AllReadyH.nil
        go_simp
        refine hK.out _ _ trivial (fun _ => ?_)
        clear hK K
        refine wpAnyH_done (by kernel_rfl) ?_ _
        go_wp2
        go_ret
        refine ⟨L1 ++ [u], _, rfl, by simp; omega, all_put hT1 hul, ⟨g3, cap3, by simp, by rw [← strs_put]; simpa using hO3⟩, ?_⟩
        exact ((undrew (hb1.trans (hb2.mono hb1.size))).alloc (by omega) _).grown hgr3 (by simp; omega) (fun q hq => by have e : g1 = q := Option.some.inj hq; omega)
    · exact specPath_none k i n a c w hn hh
end Go.Proofs.YtlbackkjjhpljaaGreatDoor
