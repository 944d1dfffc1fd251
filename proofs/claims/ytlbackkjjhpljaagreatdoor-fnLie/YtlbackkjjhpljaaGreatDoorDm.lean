/-
  What is drawn for the law on consistency proofs: a kind, two lists, a proof.
-/
import Derived.Test.YtlbackkjjhpljaaGreatDoorCc
import Derived.Test.YtlbackkjjhpljaaGreatDoorCf
import Derived.Test.YtlbackkjjhpljaaGreatDoorCs
namespace Go.Proofs.YtlbackkjjhpljaaGreatDoor
open Go.RowKit
set_option maxRecDepth 20000 in
set_option maxHeartbeats 4000000 in
theorem specSub_any (f : Nat) : ∀ (k : Int) (m n : Nat) (x : Int) (g : Bool) (S : Nat → ByteArray) (a : Option Addr) (c : Nat) (w : World), n ≤ f → n ≤ 64 → 1 ≤ m → m ≤ n → x = m → Sl w a n S → n ≤ c → (∀ j, j < n → (S j).size ≤ 4194304) →
    Calls Tryz.prog 101 #[.int .i64 k, .int .i64 x, .slice a n c, .bool g] w fun e w' => ∃ (L : List ByteArray) (v : Value), e = .returned v ∧ L.length ≤ n ∧ (∀ T ∈ L, T.size ≤ 32) ∧ LsAt w' w.heap.size v L ∧ Below w.heap.size w w' := by
  obtain ⟨i0, hi, hz0, hz1, hz2⟩ := info_parts Tryz.info9
  have HI : Hid (Tryz.prog.info? 9 = some i0) := hi
  clear hi
  induction f with
  | zero =>
    intro k m n x g S a c w hf hn hm1 hmn hx h hc hsz
    omega
  | succ f ih =>
    intro k m n x g S a c w hf hn hm1 hmn hx h hc hsz
    subst hx
    by_cases he : m = n
    · subst he
      cases g
      · obtain ⟨u, hu⟩ : ∃ u, RT k S m = u := ⟨_, rfl⟩
        have HU : Hid (RT k S m = u) := hu
        have hul : u.size ≤ 32 := by rw [← hu]; exact rt_size _ _ _ _
        clear hu ih
        go_enter Tryz.func101, Tryz.ntmps101
        go_wp2_with (go_at_call 16; refine (specRoot_as k m S a c _ u h hc (by omega) hsz HU.out).mono ?_; rintro e w1 ⟨rfl, hb1⟩)
        go_ret
        have hs1 := hb1.size
        exact ⟨[u], _, rfl, by simpa using hm1, by simpa using hul, ⟨w1.heap.size, 1, rfl, World.ownsRow_lit w1 #[.string u] 1 hs1 (by simp [maxLen]) rfl⟩, hb1.trans ((below1 w1 _).mono hs1)⟩
      · clear ih
        go_enter Tryz.func101, Tryz.ntmps101
        go_wp2
        go_ret
        exact ⟨[], _, rfl, by simp, by simp, ⟨w.heap.size, 0, rfl, World.ownsRow_lit w #[] 0 (Nat.le_refl _) (by simp [maxLen]) rfl⟩, below1 _ _⟩
    · obtain ⟨hs1, hs2, hs3⟩ := spl_in n (by omega) (by omega)
      obtain ⟨P, off, rfl, hc0⟩ := h.at 0 (by omega)
      obtain ⟨s, hsn⟩ : ∃ s, spl n = s := ⟨_, rfl⟩
      rw [hsn] at hs1 hs2 hs3
      have HSP : Hid (spl n = s) := hsn
      have hA : Sl w.drew (some ⟨P, off, none⟩) s S := h.left s (by omega)
      have hB : Sl w.drew (some ⟨P, off + s, none⟩) (n - s) (fun j => S (s + j)) := h.right s (by omega)
      have m1 : ¬ (m : Int) = n := by omega
      have i0' : (0 : Int) ≤ (s : Int) := by omega
      have i1' : (s : Int) ≤ (n : Int) := by omega
      have i2 : (s : Int) ≤ (c : Int) := by omega
      have i3 : (n : Int) ≤ (c : Int) := by omega
      have i4 : s ≤ c := by omega
      have i5 : s ≤ n := by omega
      have i6 : ¬ c = s := by omega
      have i7 : ¬ n = s := by omega
      clear hsn hc0 h
      by_cases hlt : m ≤ s
      · obtain ⟨u, hu⟩ : ∃ u, RT k (fun j => S (s + j)) (n - s) = u := ⟨_, rfl⟩
        have HU : Hid (RT k (fun j => S (s + j)) (n - s) = u) := hu
        have hul : u.size ≤ 32 := by rw [← hu]; exact rt_size _ _ _ _
        have mlt : (m : Int) ≤ s := by omega
        clear hu
        go_enter Tryz.func101, Tryz.ntmps101
        go_wp2_with ((go_at_call 38; refine (l2Split_as n _ _ (by rfl) (by omega) s HSP.out).mono ?_; rintro e w0 ⟨rfl, hw0⟩; subst w0))
        refine wp_region_held_drew (S := fun _ => True) (by kernel_rfl) trivial (fun _ => ?_)
        refine wpAnyH_take (i := 0) (oi := ({ dst := some 27, op := Op.move (Operand.tmp 0), type := 3, pos := "l2_tree.go:103", after := #[], guard := none } : Oper)) (v := .int .i64 k) rfl (by kernel_rfl) (by kernel_rfl) (by kernel_rfl) (fun _ _ _ h => h) (Or.inl ⟨by rfl, fun w hSw => by go_simp⟩) trivial ?_
        simp only [Act.put, List.setIfInBounds_toArray, List.set_cons_zero, List.set_cons_succ]
        refine wpAnyH_take (i := 1) (oi := ({ dst := some 28, op := Op.move (Operand.tmp 1), type := 3, pos := "l2_tree.go:103", after := #[], guard := none } : Oper)) (v := .int .i64 (m : Int)) rfl (by kernel_rfl) (by kernel_rfl) (by kernel_rfl) (fun _ _ _ h => h) (Or.inl ⟨by rfl, fun w hSw => by go_simp⟩) trivial ?_
        simp only [Act.put, List.setIfInBounds_toArray, List.set_cons_zero, List.set_cons_succ]
        refine wpAnyH_take (i := 2) (oi := ({ dst := some 29, op := Op.move (Operand.tmp 2), type := 22, pos := "l2_tree.go:103", after := #[], guard := none } : Oper)) (v := .slice (some ⟨P, off, none⟩) n c) rfl (by kernel_rfl) (by kernel_rfl) (by kernel_rfl) (fun _ _ _ h => h) (Or.inl ⟨by rfl, fun w hSw => by go_simp⟩) trivial ?_
        simp only [Act.put, List.setIfInBounds_toArray, List.set_cons_zero, List.set_cons_succ]
        refine wpAnyH_take (i := 3) (oi := ({ dst := some 30, op := Op.move (Operand.tmp 10), type := 3, pos := "l2_tree.go:103", after := #[], guard := none } : Oper)) (v := .int .i64 (s : Int)) rfl (by kernel_rfl) (by kernel_rfl) (by kernel_rfl) (fun _ _ _ h => h) (Or.inl ⟨by rfl, fun w hSw => by go_simp⟩) trivial ?_
        simp only [Act.put, List.setIfInBounds_toArray, List.set_cons_zero, List.set_cons_succ]
        refine wpAnyH_take (i := 4) (oi := ({ dst := some 31, op := Op.slice 22 (Operand.tmp 29) none (some (Operand.tmp 30)) none, type := 22, pos := "l2_tree.go:103", after := #[{ on := 2, ground := Ground.data }, { on := 3, ground := Ground.data }], guard := none } : Oper)) (v := .slice (some ⟨P, off, none⟩) s c) rfl (by kernel_rfl) (by kernel_rfl) (by kernel_rfl) (fun _ _ _ h => h) (Or.inl ⟨by rfl, fun w hSw => by go_simp⟩) trivial ?_
        simp only [Act.put, List.setIfInBounds_toArray, List.set_cons_zero, List.set_cons_succ]
        refine wpAnyH_take (i := 5) (oi := ({ dst := some 32, op := Op.move (Operand.tmp 3), type := 4, pos := "l2_tree.go:103", after := #[], guard := none } : Oper)) (v := .bool g) rfl (by kernel_rfl) (by kernel_rfl) (by kernel_rfl) (fun _ _ _ h => h) (Or.inl ⟨by rfl, fun w hSw => by go_simp⟩) trivial ?_
        simp only [Act.put, List.setIfInBounds_toArray, List.set_cons_zero, List.set_cons_succ]
        refine wpAnyH_take (i := 7) (oi := ({ dst := some 34, op := Op.move (Operand.tmp 0), type := 3, pos := "l2_tree.go:103", after := #[], guard := none } : Oper)) (v := .int .i64 k) rfl (by kernel_rfl) (by kernel_rfl) (by kernel_rfl) (fun _ _ _ h => h) (Or.inl ⟨by rfl, fun w hSw => by go_simp⟩) trivial ?_
        simp only [Act.put, List.setIfInBounds_toArray, List.set_cons_zero, List.set_cons_succ]
        refine wpAnyH_take (i := 8) (oi := ({ dst := some 35, op := Op.move (Operand.tmp 2), type := 22, pos := "l2_tree.go:103", after := #[], guard := none } : Oper)) (v := .slice (some ⟨P, off, none⟩) n c) rfl (by kernel_rfl) (by kernel_rfl) (by kernel_rfl) (fun _ _ _ h => h) (Or.inl ⟨by rfl, fun w hSw => by go_simp⟩) trivial ?_
        simp only [Act.put, List.setIfInBounds_toArray, List.set_cons_zero, List.set_cons_succ]
        refine wpAnyH_take (i := 9) (oi := ({ dst := some 36, op := Op.move (Operand.tmp 10), type := 3, pos := "l2_tree.go:103", after := #[], guard := none } : Oper)) (v := .int .i64 (s : Int)) rfl (by kernel_rfl) (by kernel_rfl) (by kernel_rfl) (fun _ _ _ h => h) (Or.inl ⟨by rfl, fun w hSw => by go_simp⟩) trivial ?_
        simp only [Act.put, List.setIfInBounds_toArray, List.set_cons_zero, List.set_cons_succ]
        refine wpAnyH_take (i := 10) (oi := ({ dst := some 37, op := Op.slice 22 (Operand.tmp 35) (some (Operand.tmp 36)) none none, type := 22, pos := "l2_tree.go:103", after := #[{ on := 8, ground := Ground.data }, { on := 9, ground := Ground.data }], guard := none } : Oper)) (v := .slice (some ⟨P, off + s, none⟩) (n - s) (c - s)) rfl (by kernel_rfl) (by kernel_rfl) (by kernel_rfl) (fun _ _ _ h => h) (Or.inl ⟨by rfl, fun w hSw => by go_simp⟩) trivial ?_
        simp only [Act.put, List.setIfInBounds_toArray, List.set_cons_zero, List.set_cons_succ]
        refine wpAnyH_ready (rs := [6]) (by kernel_rfl) (by simp) ?_
        refine AllReadyH.cons (o := ({ dst := some 33, op := Op.call { callee := Callee.value (Operand.func 101), args := #[Operand.tmp 27, Operand.tmp 28, Operand.tmp 31, Operand.tmp 32], argTypes := #[3, 3, 22, 4] }, type := 22, pos := "l2_tree.go:103", after := #[{ on := 0, ground := Ground.data }, { on := 1, ground := Ground.data }, { on := 4, ground := Ground.data }, { on := 5, ground := Ground.data }], guard := none } : Oper)) rfl (fun K hK => ?_) AllReadyH.nil
        go_simp
        refine (ih k m s _ g S (some ⟨P, off, none⟩) c _ (by omega) (by omega) hm1 hlt (by rfl) hA i4 (fun j hj => hsz j (by omega))).mono ?_
        rintro e w1 ⟨L1, v1, rfl, hL1, hT1, ⟨g1, cap1, rfl, hO1⟩, hb1⟩
        refine hK.out _ _ trivial (fun _ => ?_)
        clear hK K
        refine wpAnyH_ready (rs := [11]) (by kernel_rfl) (by simp) ?_
        refine AllReadyH.cons (o := ({ dst := some 38, op := Op.call { callee := Callee.value (Operand.func 16), args := #[Operand.tmp 34, Operand.tmp 37], argTypes := #[3, 22] }, type := 9, pos := "l2_tree.go:103", after := #[{ on := 7, ground := Ground.data }, { on := 10, ground := Ground.data }, { on := 6, ground := Ground.chain }], guard := none } : Oper)) rfl (fun K hK => ?_) AllReadyH.nil
        go_simp
        refine (specRoot_as k (n - s) (fun j => S (s + j)) (some ⟨P, off + s, none⟩) (c - s) _ u (hB.later hb1) (by omega) (by omega) (fun j hj => hsz (s + j) (by omega)) HU.out).mono ?_
        rintro e w2 ⟨rfl, hb2⟩
        refine hK.out _ _ trivial (fun _ => ?_)
        clear hK K
        have hO2 := own_below hO1 hb2
        have q1 := hb1.size
        have q2 := hb2.size
        have q0 : w.drew.heap.size = w.heap.size := rfl
        have hg1 := grow_le hO1
        refine wpAnyH_ready (rs := [12]) (by kernel_rfl) (by simp) ?_
        refine AllReadyH.cons (o := ({ dst := some 39, op := Op.buildSlice 22 1 #[(0, Operand.tmp 38)], type := 22, pos := "l2_tree.go:103", after := #[{ on := 11, ground := Ground.data }], guard := none } : Oper)) rfl (fun K hK => ?_) AllReadyH.nil
        go_simp
        refine hK.out _ _ trivial (fun _ => ?_)
        clear hK K
        refine wpAnyH_ready (rs := [13]) (by kernel_rfl) (by simp) ?_
        refine AllReadyH.cons (o := ({ dst := some 40, op := Op.call { callee := Callee.builtin Builtin.append, args := #[Operand.tmp 33, Operand.tmp 39], argTypes := #[22, 22] }, type := 22, pos := "l2_tree.go:103", after := #[{ on := 6, ground := Ground.data }, { on := 12, ground := Ground.data }, { on := 11, ground := Ground.chain }], guard := none } : Oper)) rfl (fun K hK => ?_) AllReadyH.nil
        rw [if_pos (by kernel_rfl)]
        refine wp_append_lies _ _ _ _ rfl w.drew.heap.size 9 i0 (.string ⟨#[]⟩) 1 16 Tryz.underlying22 HI.out hz0 hz1 hz2 rfl (by omega) _ L1.length _ rfl (hO2.alloc _) ⟨w2.heap.size, 0, none⟩ 1 1 [.string u] rfl rfl (World.news_of_block (heap_alloc_new w2 _)) (ones _ rfl) (by omega) (by unfold maxLen; omega) (by omega) (by simp; omega) _ rfl ?_
        intro g3 cap3 w3 hO3 hgr3 hat3 hlt3
        refine hK.out _ _ trivial (fun _ => ?_)
        clear hK K
        simp only [Act.put, List.setIfInBounds_toArray, List.set_cons_zero, List.set_cons_succ]
        refine wpAnyH_ready (rs := [14]) (by kernel_rfl) (by simp) ?_
        refine AllReadyH.cons (o := ({ dst := some 8, op := Op.assign (Operand.tmp 40), type := 22, pos := "l2_tree.go:103", after := #[{ on := 13, ground := Ground.data }, { on := 13, ground := Ground.chain }, { on := 0, ground := Ground.phase }, { on := 1, ground := Ground.phase }, { on := 2, ground := Ground.phase }, { on := 3, ground := Ground.phase }, { on := 4, ground := Ground.phase }, { on := 5, ground := Ground.phase }, { on := 6, ground := Ground.phase }, { on := 7, ground := Ground.phase }, { on := 8, ground := Ground.phase }, { on := 9, ground := Ground.phase }, { on := 10, ground := Ground.phase }, { on := 11, ground := Ground.phase }, { on := 12, ground := Ground.phase }, { on := 13, ground := Ground.phase }], guard := none } : Oper)) rfl (fun K hK => ?_) AllReadyH.nil
        go_simp
        refine hK.out _ _ trivial (fun _ => ?_)
        clear hK K
        refine wpAnyH_done (by kernel_rfl) ?_ _
        go_wp2
        go_ret
        refine ⟨L1 ++ [u], _, rfl, by simp; omega, all_put hT1 hul, ⟨g3, cap3, by simp, by rw [← strs_put]; simpa using hO3⟩, ?_⟩
        exact ((undrew (hb1.trans (hb2.mono hb1.size))).alloc (by omega) _).grown hgr3 (by simp; omega) (fun q hq => by have e : g1 = q := Option.some.inj hq; omega)
      · obtain ⟨u, hu⟩ : ∃ u, RT k S s = u := ⟨_, rfl⟩
        have HU : Hid (RT k S s = u) := hu
        have hul : u.size ≤ 32 := by rw [← hu]; exact rt_size _ _ _ _
        have mlt : ¬ (m : Int) ≤ s := by omega
        have e1 : IntKind.i64.wrap ((m : Int) - s) = (m : Int) - s := by rw [IntKind.wrap_i64]; omega
        clear hu
        go_enter Tryz.func101, Tryz.ntmps101
        go_wp2_with ((go_at_call 38; refine (l2Split_as n _ _ (by rfl) (by omega) s HSP.out).mono ?_; rintro e w0 ⟨rfl, hw0⟩; subst w0))
        refine wp_region_held_drew (S := fun _ => True) (by kernel_rfl) trivial (fun _ => ?_)
        refine wpAnyH_take (i := 0) (oi := ({ dst := some 41, op := Op.move (Operand.tmp 0), type := 3, pos := "l2_tree.go:105", after := #[], guard := none } : Oper)) (v := .int .i64 k) rfl (by kernel_rfl) (by kernel_rfl) (by kernel_rfl) (fun _ _ _ h => h) (Or.inl ⟨by rfl, fun w hSw => by go_simp⟩) trivial ?_
        simp only [Act.put, List.setIfInBounds_toArray, List.set_cons_zero, List.set_cons_succ]
        refine wpAnyH_take (i := 1) (oi := ({ dst := some 42, op := Op.move (Operand.tmp 1), type := 3, pos := "l2_tree.go:105", after := #[], guard := none } : Oper)) (v := .int .i64 (m : Int)) rfl (by kernel_rfl) (by kernel_rfl) (by kernel_rfl) (fun _ _ _ h => h) (Or.inl ⟨by rfl, fun w hSw => by go_simp⟩) trivial ?_
        simp only [Act.put, List.setIfInBounds_toArray, List.set_cons_zero, List.set_cons_succ]
        refine wpAnyH_take (i := 2) (oi := ({ dst := some 43, op := Op.move (Operand.tmp 10), type := 3, pos := "l2_tree.go:105", after := #[], guard := none } : Oper)) (v := .int .i64 (s : Int)) rfl (by kernel_rfl) (by kernel_rfl) (by kernel_rfl) (fun _ _ _ h => h) (Or.inl ⟨by rfl, fun w hSw => by go_simp⟩) trivial ?_
        simp only [Act.put, List.setIfInBounds_toArray, List.set_cons_zero, List.set_cons_succ]
        refine wpAnyH_take (i := 3) (oi := ({ dst := some 44, op := Op.binOp BinOp.sub 3 (Operand.tmp 42) (Operand.tmp 43) 3, type := 3, pos := "l2_tree.go:105", after := #[{ on := 1, ground := Ground.data }, { on := 2, ground := Ground.data }], guard := none } : Oper)) (v := .int .i64 ((m : Int) - s)) rfl (by kernel_rfl) (by kernel_rfl) (by kernel_rfl) (fun _ _ _ h => h) (Or.inl ⟨by rfl, fun w hSw => by go_simp⟩) trivial ?_
        simp only [Act.put, List.setIfInBounds_toArray, List.set_cons_zero, List.set_cons_succ]
        refine wpAnyH_take (i := 4) (oi := ({ dst := some 45, op := Op.move (Operand.tmp 2), type := 22, pos := "l2_tree.go:105", after := #[], guard := none } : Oper)) (v := .slice (some ⟨P, off, none⟩) n c) rfl (by kernel_rfl) (by kernel_rfl) (by kernel_rfl) (fun _ _ _ h => h) (Or.inl ⟨by rfl, fun w hSw => by go_simp⟩) trivial ?_
        simp only [Act.put, List.setIfInBounds_toArray, List.set_cons_zero, List.set_cons_succ]
        refine wpAnyH_take (i := 5) (oi := ({ dst := some 46, op := Op.move (Operand.tmp 10), type := 3, pos := "l2_tree.go:105", after := #[], guard := none } : Oper)) (v := .int .i64 (s : Int)) rfl (by kernel_rfl) (by kernel_rfl) (by kernel_rfl) (fun _ _ _ h => h) (Or.inl ⟨by rfl, fun w hSw => by go_simp⟩) trivial ?_
        simp only [Act.put, List.setIfInBounds_toArray, List.set_cons_zero, List.set_cons_succ]
        refine wpAnyH_take (i := 6) (oi := ({ dst := some 47, op := Op.slice 22 (Operand.tmp 45) (some (Operand.tmp 46)) none none, type := 22, pos := "l2_tree.go:105", after := #[{ on := 4, ground := Ground.data }, { on := 5, ground := Ground.data }], guard := none } : Oper)) (v := .slice (some ⟨P, off + s, none⟩) (n - s) (c - s)) rfl (by kernel_rfl) (by kernel_rfl) (by kernel_rfl) (fun _ _ _ h => h) (Or.inl ⟨by rfl, fun w hSw => by go_simp⟩) trivial ?_
        simp only [Act.put, List.setIfInBounds_toArray, List.set_cons_zero, List.set_cons_succ]
        refine wpAnyH_take (i := 8) (oi := ({ dst := some 49, op := Op.move (Operand.tmp 0), type := 3, pos := "l2_tree.go:105", after := #[], guard := none } : Oper)) (v := .int .i64 k) rfl (by kernel_rfl) (by kernel_rfl) (by kernel_rfl) (fun _ _ _ h => h) (Or.inl ⟨by rfl, fun w hSw => by go_simp⟩) trivial ?_
        simp only [Act.put, List.setIfInBounds_toArray, List.set_cons_zero, List.set_cons_succ]
        refine wpAnyH_take (i := 9) (oi := ({ dst := some 50, op := Op.move (Operand.tmp 2), type := 22, pos := "l2_tree.go:105", after := #[], guard := none } : Oper)) (v := .slice (some ⟨P, off, none⟩) n c) rfl (by kernel_rfl) (by kernel_rfl) (by kernel_rfl) (fun _ _ _ h => h) (Or.inl ⟨by rfl, fun w hSw => by go_simp⟩) trivial ?_
        simp only [Act.put, List.setIfInBounds_toArray, List.set_cons_zero, List.set_cons_succ]
        refine wpAnyH_take (i := 10) (oi := ({ dst := some 51, op := Op.move (Operand.tmp 10), type := 3, pos := "l2_tree.go:105", after := #[], guard := none } : Oper)) (v := .int .i64 (s : Int)) rfl (by kernel_rfl) (by kernel_rfl) (by kernel_rfl) (fun _ _ _ h => h) (Or.inl ⟨by rfl, fun w hSw => by go_simp⟩) trivial ?_
        simp only [Act.put, List.setIfInBounds_toArray, List.set_cons_zero, List.set_cons_succ]
        refine wpAnyH_take (i := 11) (oi := ({ dst := some 52, op := Op.slice 22 (Operand.tmp 50) none (some (Operand.tmp 51)) none, type := 22, pos := "l2_tree.go:105", after := #[{ on := 9, ground := Ground.data }, { on := 10, ground := Ground.data }], guard := none } : Oper)) (v := .slice (some ⟨P, off, none⟩) s c) rfl (by kernel_rfl) (by kernel_rfl) (by kernel_rfl) (fun _ _ _ h => h) (Or.inl ⟨by rfl, fun w hSw => by go_simp⟩) trivial ?_
        simp only [Act.put, List.setIfInBounds_toArray, List.set_cons_zero, List.set_cons_succ]
        refine wpAnyH_ready (rs := [7]) (by kernel_rfl) (by simp) ?_
        refine AllReadyH.cons (o := ({ dst := some 48, op := Op.call { callee := Callee.value (Operand.func 101), args := #[Operand.tmp 41, Operand.tmp 44, Operand.tmp 47, Operand.const (Value.bool false)], argTypes := #[3, 3, 22, 4] }, type := 22, pos := "l2_tree.go:105", after := #[{ on := 0, ground := Ground.data }, { on := 3, ground := Ground.data }, { on := 6, ground := Ground.data }], guard := none } : Oper)) rfl (fun K hK => ?_) AllReadyH.nil
        go_simp
        refine (ih k (m - s) (n - s) _ false (fun j => S (s + j)) (some ⟨P, off + s, none⟩) (c - s) _ (by omega) (by omega) (by omega) (by omega) (by omega) hB (by omega) (fun j hj => hsz (s + j) (by omega))).mono ?_
        rintro e w1 ⟨L1, v1, rfl, hL1, hT1, ⟨g1, cap1, rfl, hO1⟩, hb1⟩
        refine hK.out _ _ trivial (fun _ => ?_)
        clear hK K
        refine wpAnyH_ready (rs := [12]) (by kernel_rfl) (by simp) ?_
        refine AllReadyH.cons (o := ({ dst := some 53, op := Op.call { callee := Callee.value (Operand.func 16), args := #[Operand.tmp 49, Operand.tmp 52], argTypes := #[3, 22] }, type := 9, pos := "l2_tree.go:105", after := #[{ on := 8, ground := Ground.data }, { on := 11, ground := Ground.data }, { on := 7, ground := Ground.chain }], guard := none } : Oper)) rfl (fun K hK => ?_) AllReadyH.nil
        go_simp
        refine (specRoot_as k s S (some ⟨P, off, none⟩) c _ u (hA.later hb1) i4 (by omega) (fun j hj => hsz j (by omega)) HU.out).mono ?_
        rintro e w2 ⟨rfl, hb2⟩
        refine hK.out _ _ trivial (fun _ => ?_)
        clear hK K
        have hO2 := own_below hO1 hb2
        have q1 := hb1.size
        have q2 := hb2.size
        have q0 : w.drew.heap.size = w.heap.size := rfl
        have hg1 := grow_le hO1
        refine wpAnyH_ready (rs := [13]) (by kernel_rfl) (by simp) ?_
        refine AllReadyH.cons (o := ({ dst := some 54, op := Op.buildSlice 22 1 #[(0, Operand.tmp 53)], type := 22, pos := "l2_tree.go:105", after := #[{ on := 12, ground := Ground.data }], guard := none } : Oper)) rfl (fun K hK => ?_) AllReadyH.nil
        go_simp
        refine hK.out _ _ trivial (fun _ => ?_)
        clear hK K
        refine wpAnyH_ready (rs := [14]) (by kernel_rfl) (by simp) ?_
        refine AllReadyH.cons (o := ({ dst := some 55, op := Op.call { callee := Callee.builtin Builtin.append, args := #[Operand.tmp 48, Operand.tmp 54], argTypes := #[22, 22] }, type := 22, pos := "l2_tree.go:105", after := #[{ on := 7, ground := Ground.data }, { on := 13, ground := Ground.data }, { on := 12, ground := Ground.chain }], guard := none } : Oper)) rfl (fun K hK => ?_) AllReadyH.nil
        rw [if_pos (by kernel_rfl)]
        refine wp_append_lies _ _ _ _ rfl w.drew.heap.size 9 i0 (.string ⟨#[]⟩) 1 16 Tryz.underlying22 HI.out hz0 hz1 hz2 rfl (by omega) _ L1.length _ rfl (hO2.alloc _) ⟨w2.heap.size, 0, none⟩ 1 1 [.string u] rfl rfl (World.news_of_block (heap_alloc_new w2 _)) (ones _ rfl) (by omega) (by unfold maxLen; omega) (by omega) (by simp; omega) _ rfl ?_
        intro g3 cap3 w3 hO3 hgr3 hat3 hlt3
        refine hK.out _ _ trivial (fun _ => ?_)
        clear hK K
        simp only [Act.put, List.setIfInBounds_toArray, List.set_cons_zero, List.set_cons_succ]
        refine wpAnyH_ready (rs := [15]) (by kernel_rfl) (by simp) ?_
        refine AllReadyH.cons (o := ({ dst := some 8, op := Op.assign (Operand.tmp 55), type := 22, pos := "l2_tree.go:105", after := #[{ on := 14, ground := Ground.data }, { on := 14, ground := Ground.chain }, { on := 0, ground := Ground.phase }, { on := 1, ground := Ground.phase }, { on := 2, ground := Ground.phase }, { on := 3, ground := Ground.phase }, { on := 4, ground := Ground.phase }, { on := 5, ground := Ground.phase }, { on := 6, ground := Ground.phase }, { on := 7, ground := Ground.phase }, { on := 8, ground := Ground.phase }, { on := 9, ground := Ground.phase }, { on := 10, ground := Ground.phase }, { on := 11, ground := Ground.phase }, { on := 12, ground := Ground.phase }, { on := 13, ground := Ground.phase }, { on := 14, ground := Ground.phase }], guard := none } : Oper)) rfl (fun K hK => ?_) AllReadyH.nil
        go_simp
        refine hK.out _ _ trivial (fun _ => ?_)
        clear hK K
        refine wpAnyH_done (by kernel_rfl) ?_ _
        go_wp2
        go_ret
        refine ⟨L1 ++ [u], _, rfl, by simp; omega, all_put hT1 hul, ⟨g3, cap3, by simp, by rw [← strs_put]; simpa using hO3⟩, ?_⟩
        exact ((undrew (hb1.trans (hb2.mono hb1.size))).alloc (by omega) _).grown hgr3 (by simp; omega) (fun q hq => by have e : g1 = q := Option.some.inj hq; omega)
set_option maxRecDepth 20000 in
set_option maxHeartbeats 4000000 in
theorem specProof_any (k x : Int) (n : Nat) (S : Nat → ByteArray) (a : Option Addr) (c : Nat) (w : World) (hn : n ≤ 64) (h : Sl w a n S) (hc : n ≤ c) (hsz : ∀ j, j < n → (S j).size ≤ 4194304) :
    Calls Tryz.prog 80 #[.int .i64 k, .slice a n c, .int .i64 x] w fun e w' => ∃ (L : List ByteArray) (v : Value), e = .returned v ∧ L.length ≤ n ∧ (∀ T ∈ L, T.size ≤ 32) ∧ LsAt w' w.heap.size v L ∧ Below w.heap.size w w' := by
  by_cases hk : k = 0 ∨ k = 1
  · by_cases hb : 1 ≤ x ∧ x ≤ (n : Int) - 1
    · obtain ⟨m, rfl⟩ : ∃ m : Nat, x = m := ⟨x.toNat, by omega⟩
      obtain ⟨hb1, hb2⟩ := hb
      go_enter Tryz.func80, Tryz.ntmps80
      go_wp2_with (first | (go_at_call 83; refine (kind_yes _ _ hk).mono ?_; rintro e w0 ⟨rfl, hw0⟩; subst w0) | (go_at_call 51; refine (betw_yes _ _ _ _ (by omega) (by omega)).mono ?_; rintro e w0 ⟨rfl, hw0⟩; subst w0) | (go_at_call 101; refine (specSub_any n k m n _ true S a c _ (Nat.le_refl _) hn (by omega) (by omega) (by rfl) h hc hsz).mono ?_; rintro e w1 ⟨L, v, rfl, hL, hT, hA, hb⟩))
      go_ret
      exact ⟨L, v, rfl, hL, hT, hA, hb⟩
    · go_enter Tryz.func80, Tryz.ntmps80
      go_wp2_with (first | (go_at_call 83; refine (kind_yes _ _ hk).mono ?_; rintro e w0 ⟨rfl, hw0⟩; subst w0) | (go_at_call 51; refine (betw_no _ _ _ _ (by omega)).mono ?_; rintro e w0 ⟨rfl, hw0⟩; subst w0))
      go_ret
      exact ⟨[], _, rfl, by simp, by simp, ⟨w.heap.size, 0, rfl, World.ownsRow_lit w #[] 0 (Nat.le_refl _) (by simp [maxLen]) rfl⟩, below1 _ _⟩
  · go_enter Tryz.func80, Tryz.ntmps80
    go_wp2_with ((go_at_call 83; refine (kind_no _ _ hk).mono ?_; rintro e w0 ⟨rfl, hw0⟩; subst w0))
    go_ret
    exact ⟨[], _, rfl, by simp, by simp, ⟨w.heap.size, 0, rfl, World.ownsRow_lit w #[] 0 (Nat.le_refl _) (by simp [maxLen]) rfl⟩, below1 _ _⟩
end Go.Proofs.YtlbackkjjhpljaaGreatDoor
namespace Go.Proofs.YtlbackkjjhpljaaGreatDoor
open Go.RowKit
set_option maxRecDepth 20000 in
set_option maxHeartbeats 4000000 in
theorem specForgeProof_any (g B : Nat) (ca : Option Addr) (cn cc z s : Nat) (k : Int) (m n c d ga gb b0 : Nat) (LA LB : List ByteArray) (w : World) (h : Cu w g B ca cn cc z s) (hz : z ≤ 100000000000) (hB : B ≤ w.heap.size) (hgb : g < b0) (hlA : LA.length = m) (hsA : ∀ T ∈ LA, T.size ≤ 1048576) (hOA : w.ownsRow b0 9 1 (.slice (some ⟨ga, 0, none⟩) m c) m (LA.map .string)) (hlB : LB.length = n) (hsB : ∀ T ∈ LB, T.size ≤ 1048576) (hOB : w.ownsRow b0 9 1 (.slice (some ⟨gb, 0, none⟩) n d) n (LB.map .string)) (h1 : 1 ≤ m) (hmn : m ≤ n) (hn : n ≤ 64) :
    Calls Tryz.prog 81 #[.pointer (some ⟨g, 0, none⟩), .int .i64 k, .slice (some ⟨ga, 0, none⟩) m c, .slice (some ⟨gb, 0, none⟩) n d] w fun e w' => ∃ (L : List ByteArray) (v : Value) (z' s' : Nat), e = .returned v ∧ L.length ≤ 32 ∧ (∀ T ∈ L, T.size ≤ 1) ∧ LsAt w' w.heap.size v L ∧ z' ≤ z + 38 ∧ Cu w' g B ca cn cc z' s' ∧ w.grownBy w' (some g) := by
  obtain ⟨i0, hi0, hz0, hz1, hz2⟩ := info_parts Tryz.info9
  have HI : Hid (Tryz.prog.info? 9 = some i0) := hi0
  clear hi0
  have hlt := h.lt
  have h0 := h.gr (galloc w (.cells #[] 9) none) (fun _ h => by cases h) hB
  have hO0 : (w.alloc (.cells #[] 9)).ownsRow w.heap.size 9 1 (.slice (some ⟨w.heap.size, 0, none⟩) 0 0) 0 [] := World.ownsRow_lit w #[] 0 (Nat.le_refl _) (by simp [maxLen]) rfl
  obtain ⟨p, hp⟩ : ∃ p, ql 31 m n true = p := ⟨_, rfl⟩
  have HP : Hid (ql 31 m n true = p) := hp
  have hp31 : p ≤ 32 := by rw [← hp]; exact ql_le _ _ _ _
  clear hp
  go_enter Tryz.func81, Tryz.ntmps81
  go_wp2
  go_loopw [11] (fun o wr => ∃ (q : Nat) (L : List ByteArray) (gz cap zz ss : Nat), q ≤ p ∧ o = .slice (some ⟨gz, 0, none⟩) q cap ∧ L.length = q ∧ (∀ T ∈ L, T.size ≤ 1) ∧ wr.ownsRow w.heap.size 9 1 (.slice (some ⟨gz, 0, none⟩) q cap) q (L.map .string) ∧ Cu wr g B ca cn cc zz ss ∧ zz ≤ z + q ∧ w.grownBy wr (some g)) (fun o _ => p - (match o with | .slice _ q _ => q | _ => 0))
  case atStart => exact ⟨0, [], w.heap.size, 0, z, s, by omega, rfl, rfl, by simp, hO0, h0, by omega, galloc w _ _⟩
  case round =>
    obtain ⟨q, L, gz, cap, zz, ss, hq, rfl, hL, hT, hO, hC, hzz, hG⟩ := hrel
    have HL : Hid (L.length = q) := hL
    have hgz := grow_le hO
    have hwr := hG.size
    clear hL
    by_cases hlt2 : q < p
    · go_wp2_with (first | (go_at_call 65; refine (specProofLen_as 31 m n true _ _ p _ (by omega) (by omega) (by omega) hmn (by rfl) (by rfl) HP.out).mono ?_; rintro e w0 ⟨rfl, hw0⟩; subst w0) | (go_at_call 47; refine (pick_any g B ca cn cc zz ss _ hC (by omega) _ (by omega)).mono ?_; rintro e w2 ⟨y, z2, s2, rfl, hy0, hy1, hy2, hz2', hC2, hG2⟩; have hO2 := own_gr hO hG2 (by omega); have hs2 := hG2.size; have hC3 := (hC2.gr (galloc w2 (.cells #[.int .u8 y] 5) none) (fun _ h => by cases h) (by omega)); have ey : y % 256 = y := (by omega); have hcv := conv_one w2 y hy0 hy2; obtain ⟨T, hTe⟩ : ∃ T : ByteArray, ⟨#[UInt8.ofNat y.toNat]⟩ = T := ⟨_, rfl⟩; have hTs : T.size ≤ 1 := (by rw [← hTe]; exact Nat.le_refl 1); rw [hTe] at hcv; clear hTe) | (at_builtin; refine wpList_append_lies _ rfl _ _ _ rfl w.heap.size 9 i0 (.string ⟨#[]⟩) 1 16 Tryz.underlying22 HI.out hz0 hz1 hz2 rfl (by omega) _ q _ rfl ((hO2.alloc _).alloc _) ⟨w2.heap.size + 1, 0, none⟩ 1 1 [.string T] rfl rfl (World.news_of_block (by have := heap_alloc_new (w2.alloc (.cells #[.int .u8 y] 5)) (.cells #[.string T] 9); simpa using this)) (ones _ rfl) (by omega) (by unfold maxLen; omega) (by omega) (by simp; omega) _ rfl ?_; intro g1 cap1 w3 hown1 hgrow hat hlt1))
      go_roundw
      case rel => exact ⟨q + 1, L ++ [T], g1, cap1, z2, s2, by omega, rfl, by simp [HL.out], all_put hT hTs, by rw [← strs_put L T]; simpa using hown1, (hC3.gr (galloc _ (.cells #[.string T] 9) none) (fun _ h => by cases h) (by simp; omega)).gr hgrow (fun j hj => by have e : gz = j := Option.some.inj hj; omega) (by simp; omega), by omega, gjoin (gtrans (gtrans (gtrans hG hG2) (galloc w2 _ _)) (galloc _ _ _)) hgrow (fun j hj => by have e : gz = j := Option.some.inj hj; omega)⟩
      case measure => simp; omega
    · obtain rfl : q = p := by omega
      by_cases hq0 : q = 0
      · subst hq0
        go_wp2_with ((go_at_call 65; refine (specProofLen_as 31 m n true _ _ 0 _ (by omega) (by omega) (by omega) hmn (by rfl) (by rfl) HP.out).mono ?_; rintro e w0 ⟨rfl, hw0⟩; subst w0))
        go_ret
        exact ⟨L, _, zz, ss, rfl, by rw [HL.out]; omega, hT, ⟨gz, cap, by rw [HL.out]; rfl, by rw [HL.out]; exact hO⟩, by omega, hC, hG⟩
      · have hqz : ¬ (q : Int) = 0 := by omega
        have dqz : ((q : Int) == 0) = false := beq_eq_false_iff_ne.2 hqz
        obtain ⟨hSA, hcA, hzA⟩ := sl_own (L := LA) (by rw [hlA]; exact own_gr hOA hG hgb) (by omega) hsA
        obtain ⟨hSB, hcB, hzB⟩ := sl_own (L := LB) (by rw [hlB]; exact own_gr hOB hG hgb) (by omega) hsB
        rw [hlA] at hSA hcA hzA
        rw [hlB] at hSB hcB hzB
        obtain ⟨RA, hRA⟩ : ∃ x, RT k (fun j => LA.getD j ⟨#[]⟩) m = x := ⟨_, rfl⟩
        obtain ⟨RB, hRB⟩ : ∃ x, RT k (fun j => LB.getD j ⟨#[]⟩) n = x := ⟨_, rfl⟩
        have HRA : Hid (RT k (fun j => LA.getD j ⟨#[]⟩) m = RA) := hRA
        have HRB : Hid (RT k (fun j => LB.getD j ⟨#[]⟩) n = RB) := hRB
        have hRAs : RA.size ≤ 2097152 := by have := rt_size k m (fun j => LA.getD j ⟨#[]⟩) m; rw [← hRA]; unfold RT; omega
        clear hRA hRB
        go_wp2_with (first | (go_at_call 65; refine (specProofLen_as 31 m n true _ _ q _ (by omega) (by omega) (by omega) hmn (by rfl) (by rfl) HP.out).mono ?_; rintro e w0 ⟨rfl, hw0⟩; subst w0) | (go_at_call 16; have _h := hbR; refine (specRoot_as k n (fun j => LB.getD j ⟨#[]⟩) _ d _ _ (hSB.later hbR) hcB (by omega) (fun j hj => Nat.le_trans (hzB j hj) (by omega)) HRB.out).mono ?_; rintro e w4 ⟨rfl, hbR2⟩) | (go_at_call 16; refine (specRoot_as k m (fun j => LA.getD j ⟨#[]⟩) _ c _ _ hSA hcA (by omega) (fun j hj => Nat.le_trans (hzA j hj) (by omega)) HRA.out).mono ?_; rintro e w3 ⟨rfl, hbR⟩))
        have hbX : Below wr.heap.size wr w4 := hbR.trans (hbR2.mono hbR.size)
        replace hO := own_below hO hbX
        replace hC := hC.gr (gbelow hbX none) (fun _ h => by cases h) (by omega)
        replace hG := gtrans hG (gbelow hbX _)
        obtain ⟨r, rfl⟩ : ∃ r, q = r + 1 := ⟨q - 1, by omega⟩
        clear hlt2 hq0 hqz dqz hSA hSB hzA hzB hbX hbR hbR2
        go_loopw [14] (fun yv wr => ∃ (i : Nat) (L2 : List ByteArray) (z2 s2 : Nat), i ≤ 6 ∧ yv = .int .i64 i ∧ L2.length = r + 1 ∧ (∀ T ∈ L2, T.size ≤ 1) ∧ wr.ownsRow w.heap.size 9 1 (.slice (some ⟨gz, 0, none⟩) (r + 1) cap) (r + 1) (L2.map .string) ∧ Cu wr g B ca cn cc z2 s2 ∧ z2 ≤ z + (r + 1) + i ∧ w.grownBy wr (some g)) (fun yv _ => 6 - (intOf yv).toNat)
        case atStart => exact ⟨0, L, zz, ss, by omega, rfl, HL.out, hT, hO, hC, by omega, hG⟩
        case round =>
          obtain ⟨i, L1, z1, s1, hi6, rfl, hL1, hT1, hO1, hC1, hz1', hG1⟩ := hrel
          by_cases hi2 : i < 6
          · have HI6 : Hid (i < 6) := hi2
            have di : decide ((i : Int) < 6) = true := dT (by omega)
            clear hi2
            go_wp2
            go_loopw [15] (fun xv wr => ∃ (j : Nat) (L2 : List ByteArray) (s2 : Nat), j ≤ 256 ∧ xv = .int .i64 j ∧ L2.length = r + 1 ∧ (∀ T ∈ L2, T.size ≤ 1) ∧ wr.ownsRow w.heap.size 9 1 (.slice (some ⟨gz, 0, none⟩) (r + 1) cap) (r + 1) (L2.map .string) ∧ Cu wr g B ca cn cc z1 s2 ∧ w.grownBy wr (some g)) (fun xv _ => 256 - (intOf xv).toNat)
            case atStart => exact ⟨0, L1, s1, by omega, rfl, hL1, hT1, hO1, hC1, hG1⟩
            case round =>
              obtain ⟨j, L2, s2, hj, rfl, hL2, hT2, hO2, hC2, hG2⟩ := hrel
              have HL2 : Hid (L2.length = r + 1) := hL2
              have hwrb := hG2.size
              by_cases hj2 : j < 256
              · have hcv := conv_one wr (j : Int) (by omega) (by omega)
                obtain ⟨T, hTe⟩ : ∃ T : ByteArray, ⟨#[UInt8.ofNat (j : Int).toNat]⟩ = T := ⟨_, rfl⟩
                have hTs : T.size ≤ 1 := by rw [← hTe]; exact Nat.le_refl 1
                rw [hTe] at hcv
                clear hTe
                have ej : (j : Int) % 256 = j := by omega
                have hO3 := hO2.alloc (.cells #[.int .u8 (j : Int)] 5)
                have hcell : (wr.alloc (.cells #[.int .u8 (j : Int)] 5)).cell? ⟨gz, r, none⟩ = some (.string (L2.getD r ⟨#[]⟩)) := by rw [hO3.cellAt r (by omega)]; simp [List.getD, hL2]
                have hfr := hO3.frozenAt r
                have hO4 : ((wr.alloc (.cells #[.int .u8 (j : Int)] 5)).setCell ⟨gz, r, none⟩ (.string T)).ownsRow w.heap.size 9 1 (.slice (some ⟨gz, 0, none⟩) (r + 1) cap) (r + 1) ((L2.set r T).map .string) := by have := own_put hO3 r (.string T); rw [List.map_set]; exact this
                have hl4 : (L2.set r T).length = r + 1 := by rw [List.length_set]; exact hL2
                have hT4 := all_set hT2 hTs r
                obtain ⟨hSl, hcap, -⟩ := sl_own (L := L2.set r T) (by rw [hl4]; exact hO4) (by omega) (fun U hU => Nat.le_trans (hT4 U hU) (by omega))
                rw [hl4] at hSl hcap
                have hC4 : Cu ((wr.alloc (.cells #[.int .u8 (j : Int)] 5)).setCell ⟨gz, r, none⟩ (.string T)) g B ca cn cc z1 s2 := (hC2.gr (galloc wr (.cells #[.int .u8 (j : Int)] 5) none) (fun _ h => by cases h) (by omega)).gr (gset _ gz r (.string T)) (fun q hq => by have e : gz = q := Option.some.inj hq; omega) (by simp; omega)
                have hG4 : w.grownBy ((wr.alloc (.cells #[.int .u8 (j : Int)] 5)).setCell ⟨gz, r, none⟩ (.string T)) (some g) := gjoin (gtrans hG2 (galloc wr _ _)) (gset _ gz r (.string T)) (fun q hq => by have e : gz = q := Option.some.inj hq; omega)
                obtain ⟨bb, hbb⟩ : ∃ bb, chqB k m n RA RB (r + 1) (fun j => (L2.set r T).getD j ⟨#[]⟩) = bb := ⟨_, rfl⟩
                have HBB : Hid (chqB k m n RA RB (r + 1) (fun j => (L2.set r T).getD j ⟨#[]⟩) = bb) := hbb
                have H4 : Hid (((wr.alloc (.cells #[.int .u8 (j : Int)] 5)).setCell ⟨gz, r, none⟩ (.string T)).ownsRow w.heap.size 9 1 (.slice (some ⟨gz, 0, none⟩) (r + 1) cap) (r + 1) ((L2.set r T).map .string)) := hO4
                have HC4 : Hid (Cu ((wr.alloc (.cells #[.int .u8 (j : Int)] 5)).setCell ⟨gz, r, none⟩ (.string T)) g B ca cn cc z1 s2) := hC4
                have HG4 : Hid (w.grownBy ((wr.alloc (.cells #[.int .u8 (j : Int)] 5)).setCell ⟨gz, r, none⟩ (.string T)) (some g)) := hG4
                have HS4 : Hid (Sl ((wr.alloc (.cells #[.int .u8 (j : Int)] 5)).setCell ⟨gz, r, none⟩ (.string T)) (some ⟨gz, 0, none⟩) (r + 1) (fun j => (L2.set r T).getD j ⟨#[]⟩)) := hSl
                have HT4 : Hid (∀ U ∈ L2.set r T, U.size ≤ 1) := hT4
                have HL4 : Hid ((L2.set r T).length = r + 1) := hl4
                have hB4 : B ≤ ((wr.alloc (.cells #[.int .u8 (j : Int)] 5)).setCell ⟨gz, r, none⟩ (.string T)).heap.size := by simp [World.setCell]; omega
                clear hbb hO4 hC4 hG4 hSl hT4 hl4 hL2
                cases bb
                · go_wp2_with (go_at_call 22; refine (specCheckProof_any k _ _ RA RB _ (r + 1) cap _ _ hRAs HS4.out hcap).mono ?_; rw [HBB.out]; rintro e w3 ⟨rfl, hb3⟩)
                  go_roundw
                  case rel => exact ⟨_, .int .i64 ((j : Int) + 1), _, _, _, _, _, _, _, _, _, _, _, _, _, _, _, _, _, _, _, _, _, ⟨j + 1, L2.set r T, s2, by omega, by go_num, HL4.out, HT4.out, own_below H4.out hb3, HC4.out.gr (gbelow hb3 none) (fun _ h => by cases h) hB4, gtrans HG4.out (gbelow hb3 _)⟩, rfl⟩
                  case measure => simp [intOf]; omega
                · go_wp2_with (go_at_call 22; refine (specCheckProof_any k _ _ RA RB _ (r + 1) cap _ _ hRAs HS4.out hcap).mono ?_; rw [HBB.out]; rintro e w3 ⟨rfl, hb3⟩)
                  go_ret
                  exact ⟨L2.set r T, _, z1, s2, rfl, by rw [HL4.out]; omega, HT4.out, ⟨gz, cap, by rw [HL4.out]; rfl, by rw [HL4.out]; exact own_below H4.out hb3⟩, by omega, HC4.out.gr (gbelow hb3 none) (fun _ h => by cases h) hB4, gtrans HG4.out (gbelow hb3 _)⟩
              · obtain rfl : j = 256 := by omega
                clear hj hj2
                go_wp2_with (go_at_call 47; refine (pick_any g B ca cn cc z1 s2 _ hC2 (by omega) _ (by omega)).mono ?_; rintro e w5 ⟨y, z5, s5, rfl, hy0, hy1, hy2, hz5', hC5, hG5⟩; have hO5 := own_gr hO2 hG5 (by omega); have hs5 := hG5.size; have ey : y % 256 = y := (by omega); have hcv := conv_one w5 y hy0 hy2; obtain ⟨T, hTe⟩ : ∃ T : ByteArray, ⟨#[UInt8.ofNat y.toNat]⟩ = T := ⟨_, rfl⟩; have hTs : T.size ≤ 1 := (by rw [← hTe]; exact Nat.le_refl 1); rw [hTe] at hcv; clear hTe; have hO6 := hO5.alloc (.cells #[.int .u8 y] 5); have hcell : (w5.alloc (.cells #[.int .u8 y] 5)).cell? ⟨gz, 0, none⟩ = some (.string (L2.getD 0 ⟨#[]⟩)) := (by rw [hO6.cellAt 0 (by omega)]; simp [List.getD, hL2]); have hfr := hO6.frozenAt 0)
                have hO7 := own_put hO6 0 (.string T)
                rw [← List.map_set] at hO7
                have hT7 := all_set hT2 hTs 0
                have hC7 := (hC5.gr (galloc w5 (.cells #[.int .u8 y] 5) none) (fun _ h => by cases h) (by omega)).gr (gset _ gz 0 (.string T)) (fun q hq => by have e : gz = q := Option.some.inj hq; omega) (by simp; omega)
                have hG7 := gjoin (gtrans (gtrans hG2 hG5) (galloc w5 (.cells #[.int .u8 y] 5) _)) (gset _ gz 0 (.string T)) (fun q hq => by have e : gz = q := Option.some.inj hq; omega)
                go_roundw
                case rel => exact ⟨_, .int .i64 ((i : Int) + 1), _, _, _, _, _, _, _, _, _, _, _, _, _, _, _, _, _, _, _, _, _, _, _, _, _, _, _, _, _, _, _, _, _, ⟨i + 1, L2.set 0 T, z5, s5, by have := HI6.out; omega, by go_num, by rw [List.length_set]; exact HL2.out, hT7, hO7, hC7, by omega, hG7⟩, rfl⟩
                case measure => have := HI6.out; simp [intOf]; omega
          · obtain rfl : i = 6 := by omega
            go_wp2
            go_ret
            exact ⟨L1, _, z1, s1, rfl, by rw [hL1]; omega, hT1, ⟨gz, cap, by rw [hL1]; rfl, by rw [hL1]; exact hO1⟩, by omega, hC1, hG1⟩
end Go.Proofs.YtlbackkjjhpljaaGreatDoor
namespace Go.Proofs.YtlbackkjjhpljaaGreatDoor
open Go.RowKit
/-- Two lists and a proof as they are drawn. -/
structure Fin3 (w w' : World) (g : Nat) (vA vB vM : Value) (A B M : List ByteArray) : Prop where
  a1 : 1 ≤ A.length
  a2 : A.length ≤ 11
  a3 : ∀ T ∈ A, T.size ≤ 3
  b1 : 1 ≤ B.length
  b2 : B.length ≤ 11
  b3 : ∀ T ∈ B, T.size ≤ 3
  m2 : M.length ≤ 32
  m3 : ∀ T ∈ M, T.size ≤ 32
  la : LsAt w' w.heap.size vA A
  lb : LsAt w' w.heap.size vB B
  ma : LsAt w' w.heap.size vM M
  gr : w.grownBy w' (some g)
  lt : g < w.heap.size
theorem Fin3.more {w w' w2 : World} {g : Nat} {vA vB vM : Value} {A B M : List ByteArray} (h : Fin3 w w' g vA vB vM A B M) (hg : w'.grownBy w2 (some g)) : Fin3 w w2 g vA vB vM A B M :=
  ⟨h.a1, h.a2, h.a3, h.b1, h.b2, h.b3, h.m2, h.m3, h.la.gr hg h.lt, h.lb.gr hg h.lt, h.ma.gr hg h.lt, gtrans h.gr hg, h.lt⟩
theorem news_of {w : World} {base g n cap m : Nat} {L : List ByteArray} (h : w.ownsRow base 9 1 (.slice (some ⟨g, 0, none⟩) n cap) n (L.map .string)) (hm : m ≤ n) (hL : L.length = n) : ∀ (j : Nat) (u : Value), ((L.take m).map Value.string)[j]? = some u → w.cell? (Addr.add ⟨g, 0, none⟩ j) = some u := by
  intro j u hj
  have hjm : j < m := by
    rcases Nat.lt_or_ge j m with h1 | h1
    · exact h1
    · rw [List.getElem?_eq_none (by simp; omega)] at hj
      cases hj
  have := h.cellAt j (by omega)
  rw [show Addr.add ⟨g, 0, none⟩ j = ⟨g, j, none⟩ by simp [Addr.add]; omega, this]
  rw [← hj]
  simp [hjm]
theorem ones_of (L : List ByteArray) : ∀ u ∈ L.map Value.string, u.oneCell' = true := by
  intro u hu
  obtain ⟨T, _, rfl⟩ := List.mem_map.1 hu
  rfl
theorem mem_take {n m : Nat} {L : List ByteArray} (h : ∀ T ∈ L, T.size ≤ n) : ∀ T ∈ L.take m, T.size ≤ n := fun T hT => h T (List.mem_of_mem_take hT)
set_option maxRecDepth 20000 in
set_option maxHeartbeats 4000000 in
theorem drawKind2_any (g B : Nat) (ca : Option Addr) (cn cc z s : Nat) (w : World) (h : Cu w g B ca cn cc z s) (hz : z ≤ 100000000000) (hB : B ≤ w.heap.size) :
    Calls Tryz.prog 74 #[.pointer (some ⟨g, 0, none⟩)] w fun e w' => ∃ (r : Int) (z' s' : Nat), e = .returned (.int .i64 r) ∧ z' ≤ z + 2 ∧ Cu w' g B ca cn cc z' s' ∧ w.grownBy w' (some g) := by
  have hlt := h.lt
  go_enter Tryz.func74, Tryz.ntmps74
  go_wp2_with (first | (go_at_call 47; have _h := hG1; refine (pick_any g B ca cn cc z1 s1 _ hC1x (by omega) _ (by omega)).mono ?_; rintro e w2 ⟨r2, z2, s2, rfl, hr20, hr21, -, hz2', hC2, hG2⟩; have b0 := cell_gr hG2 (boxes2 w1 (.int .i64 2) (.int .i64 (-1)) 3).1 (by show w1.heap.size ≠ g; omega); have b1 := cell_gr hG2 (boxes2 w1 (.int .i64 2) (.int .i64 (-1)) 3).2 (by show w1.heap.size ≠ g; omega); obtain rfl | rfl : r2 = 0 ∨ r2 = 1 := (by omega)) | (go_at_call 47; refine (pick_any g B ca cn cc z s _ h (by omega) _ (by omega)).mono ?_; rintro e w1 ⟨r, z1, s1, rfl, hr0, hr1, -, hz1', hC1, hG1⟩; have hs1 := hG1.size; have hC1x := hC1.gr (galloc w1 (.cells #[.int .i64 2, .int .i64 (-1)] 3) none) (fun _ h => by cases h) (by omega)))
  all_goals
    go_ret
    first
      | exact ⟨_, z2, s2, rfl, by omega, hC2, gtrans (gtrans hG1 (galloc w1 _ _)) hG2⟩
      | exact ⟨_, z1, s1, rfl, by omega, hC1, hG1⟩
set_option maxRecDepth 20000 in
set_option maxHeartbeats 4000000 in
theorem drawProof_any (g B : Nat) (ca : Option Addr) (cn cc z s : Nat) (w : World) (h : Cu w g B ca cn cc z s) (hz : z ≤ 10000000000) (hB : B ≤ w.heap.size) :
    Calls Tryz.prog 46 #[.pointer (some ⟨g, 0, none⟩)] w fun e w' => ∃ (k : Int) (A L M : List ByteArray) (vA vL vM : Value) (z' s' : Nat), e = .returned (.tuple #[.int .i64 k, vA, vL, vM]) ∧ z' ≤ z + 1000 ∧ Cu w' g B ca cn cc z' s' ∧ Fin3 w w' g vA vL vM A L M := by
  obtain ⟨i0, hi0, hz0, hz1, hz2⟩ := info_parts Tryz.info9
  have HI : Hid (Tryz.prog.info? 9 = some i0) := hi0
  clear hi0
  have hlt := h.lt
  go_enter Tryz.func46, Tryz.ntmps46
  go_wp2_with (first | (go_at_call 47; have _h := hF8; refine (pick_any g B ca cn cc z8 s8 _ hC8 (by omega) _ (by omega)).mono ?_; rintro e w9 ⟨r9, z9, s9, rfl, hr90, hr91, hr92, hz9', hC9, hG9⟩; have hF9 := hF8.more hG9; have hs9 := hG9.size; have hO9 := own_gr hO8 hG9 (by omega); have hA9 := own_gr hA8 hG9 (by omega); have hM9 := own_gr hM8 hG9 (by omega); obtain ⟨j, rfl⟩ : ∃ j : Nat, r9 = j := ⟨r9.toNat, (by omega)⟩) | (go_at_call 47; have _h := hF7; refine (pick_any g B ca cn cc z7 s7 _ hC7 (by omega) _ (by omega)).mono ?_; rintro e w8 ⟨r8, z8, s8, rfl, hr80, hr81, hr82, hz8', hC8, hG8⟩; have hF8 := hF7.more hG8; have hs8 := hG8.size; have hO8 := own_gr hO7 hG8 (by omega); have hA8 := own_gr hA7 hG8 (by omega); have hM8 := own_gr hM7 hG8 (by omega); obtain rfl | rfl | rfl | rfl | rfl | rfl | rfl | rfl | rfl | rfl : r8 = 0 ∨ r8 = 1 ∨ r8 = 2 ∨ r8 = 3 ∨ r8 = 4 ∨ r8 = 5 ∨ r8 = 6 ∨ r8 = 7 ∨ r8 = 8 ∨ r8 = 9 := (by omega)) | (go_at_call 47; have _h := hO4; refine (pick_any g B ca cn cc z4 s4 _ hC4 (by omega) _ (by omega)).mono ?_; rintro e w5 ⟨r5, z5, s5, rfl, hr50, hr51, hr52, hz5', hC5, hG5⟩; have hs5 := hG5.size; have hO5 := own_gr hO4 hG5 (by omega); obtain ⟨i, rfl⟩ : ∃ i : Nat, r5 = i := ⟨r5.toNat, (by omega)⟩; obtain ⟨m, hmi⟩ : ∃ m, i + 1 = m := ⟨_, rfl⟩; have hm1 : 1 ≤ m := (by omega); have hmn : m ≤ n := (by omega); have emi : 1 + (i : Int) = (m : Int) := (by omega); have emw : IntKind.i64.wrap (m : Int) = m := (by rw [IntKind.wrap_i64]; omega); have hcap4 : n ≤ cap4 := (by have := (sl_own (L := L) (by rw [hLn]; exact hO5) (by omega) (fun U hU => Nat.le_trans (hLs U hU) (by omega))).2.1; omega); have k0 : (0 : Int) ≤ (m : Int) := (by omega); have k1 : (m : Int) ≤ (n : Int) := (by omega); have k2 : (m : Int) ≤ (cap4 : Int) := (by omega); have hg4 := (hO5.lt g4 rfl).2; clear hmi) | (go_at_call 47; have _h := hG1; refine (pick_any g B ca cn cc z1 s1 _ hC1 (by omega) _ (by omega)).mono ?_; rintro e w2 ⟨r2, z2, s2, rfl, hr20, hr21, hr22, hz2', hC2, hG2⟩; have hs2 := hG2.size) | (go_at_call 47; refine (pick_any g B ca cn cc z s _ h (by omega) _ (by omega)).mono ?_; rintro e w1 ⟨r1, z1, s1, rfl, hr10, hr11, hr12, hz1', hC1, hG1⟩; have hs1 := hG1.size) | (go_at_call 69; refine (drawEntries_any g B ca cn cc z2 s2 _ hC2 (by omega) (by omega) 10 (by omega)).mono ?_; rintro e w3 ⟨L0, g3, cap3, z3, s3, rfl, hL0, hT0, hO3, hz3', hC3, hG3⟩; have hs3 := hG3.size; have hC3x := hC3.gr (galloc w3 (.cells #[.string ⟨#[101]⟩] 9) none) (fun _ h => by cases h) (by omega); have hg3 := grow_le hO3) | (at_builtin; have _h := hbT; refine wpList_append_lies _ rfl _ _ _ rfl w6.heap.size 9 i0 (.string ⟨#[]⟩) 1 16 Tryz.underlying22 HI.out hz0 hz1 hz2 rfl (by omega) _ M0.length _ rfl (hM9.alloc _) ⟨w9.heap.size, 0, none⟩ 1 1 [.string T9] rfl rfl (World.news_of_block (heap_alloc_new w9 _)) (ones _ rfl) (by omega) (by unfold maxLen; omega) (by omega) (by simp; omega) _ rfl ?_; intro g13 cap13 w13 hown13 hgr13 hat13 hlt13; have hC13 := (hC9.gr (galloc w9 (.cells #[.string T9] 9) none) (fun _ h => by cases h) (by omega)).gr hgr13 (fun q hq => by have e : gM = q := Option.some.inj hq; omega) (by simp; omega); have hF13 : Fin3 w w13 g (.slice (some ⟨g6, 0, none⟩) m cap6) (.slice (some ⟨g4, 0, none⟩) n cap4) (.slice (some ⟨g13, 0, none⟩) (M0.length + 1) cap13) A L (M0 ++ [T9]) := ⟨hF9t.a1, hF9t.a2, hF9t.a3, hF9t.b1, hF9t.b2, hF9t.b3, by simp; omega, all_put hF9t.m3 hT9, ⟨g6, cap6, by rw [hAm], by rw [hAm]; exact own_mono (own_gr2 (hA9.alloc _) hgr13 (fun e => by have e2 : gM = g6 := Option.some.inj e; omega)) (by omega)⟩, ⟨g4, cap4, by rw [hLn], by rw [hLn]; exact own_mono (own_gr2 (hO9.alloc _) hgr13 (fun e => by have e2 : gM = g4 := Option.some.inj e; omega)) (by omega)⟩, ⟨g13, cap13, by simp, by rw [← strs_put]; simpa using own_mono hown13 (by omega)⟩, gjoin (gtrans hF9t.gr (galloc w9 _ _)) hgr13 (fun q hq => by have e : gM = q := Option.some.inj hq; omega), hF9t.lt⟩) | (at_builtin; have _h := hG5; refine wpList_append_lies _ rfl _ _ _ rfl w5.heap.size 9 i0 (.string ⟨#[]⟩) 1 16 Tryz.underlying22 HI.out hz0 hz1 hz2 rfl (by omega) _ 0 [] rfl (World.ownsRow_lit w5 #[] 0 (Nat.le_refl _) (by simp [maxLen]) rfl) ⟨g4, 0, none⟩ m _ ((L.take m).map .string) rfl (by simp; omega) (news_of (hO5.alloc _) hmn hLn) (ones_of _) (by omega) (by unfold maxLen; omega) (by omega) (by simp) _ rfl ?_; intro g6 cap6 w6 hown6 hgr6 hat6 hlt6; rw [Nat.zero_add] at hown6 ⊢; obtain ⟨A, hA⟩ : ∃ A, L.take m = A := ⟨_, rfl⟩; have hAm : A.length = m := (by rw [← hA, List.length_take]; omega); have hAs : ∀ U ∈ A, U.size ≤ 3 := (by rw [← hA]; exact mem_take hLs); have hA6 : w6.ownsRow w5.heap.size 9 1 (.slice (some ⟨g6, 0, none⟩) m cap6) m (A.map .string) := (by rw [← hA]; exact hown6); have hs6 : w5.heap.size + 1 ≤ w6.heap.size := (by have := hgr6.size; simpa using this); have hC6 := (hC5.gr (galloc w5 (.cells #[] 9) none) (fun _ h => by cases h) (by omega)).gr hgr6 (fun q hq => by have e : w5.heap.size = q := Option.some.inj hq; omega) (by simp; omega); have hO6 := own_gr2 (hO5.alloc (.cells #[] 9)) hgr6 (fun e => by have e2 : w5.heap.size = g4 := Option.some.inj e; omega); have hG6 : w.grownBy w6 (some g) := gjoin (gtrans (gtrans hG4 hG5) (galloc w5 _ _)) hgr6 (fun q hq => by have e : w5.heap.size = q := Option.some.inj hq; omega); have hg6 := grow_le hA6; have hg6l := (hA6.lt g6 rfl).2; obtain ⟨hSl6, hcap6, hszL6⟩ := sl_own (L := L) (by rw [hLn]; exact hO6) (by omega) (fun U hU => Nat.le_trans (hLs U hU) (by omega)); rw [hLn] at hSl6 hcap6 hszL6; clear hown6 hA) | (at_builtin; refine wpList_append_lies _ rfl _ _ _ rfl w2.heap.size 9 i0 (.string ⟨#[]⟩) 1 16 Tryz.underlying22 HI.out hz0 hz1 hz2 rfl (by omega) _ L0.length _ rfl (hO3.alloc _) ⟨w3.heap.size, 0, none⟩ 1 1 [.string ⟨#[101]⟩] rfl rfl (World.news_of_block (heap_alloc_new w3 _)) (ones _ rfl) (by omega) (by unfold maxLen; omega) (by omega) (by simp; omega) _ rfl ?_; intro g4 cap4 w4 hown4 hgr4 hat4 hlt4; obtain ⟨L, hL⟩ : ∃ L, L0 ++ [(⟨#[101]⟩ : ByteArray)] = L := ⟨_, rfl⟩; obtain ⟨n, hn⟩ : ∃ n, L0.length + 1 = n := ⟨_, rfl⟩; have hLn : L.length = n := (by rw [← hL, ← hn]; simp); have hLs : ∀ U ∈ L, U.size ≤ 3 := (by rw [← hL]; exact all_put hT0 (by decide)); have hO4 : w4.ownsRow w2.heap.size 9 1 (.slice (some ⟨g4, 0, none⟩) n cap4) n (L.map .string) := (by rw [← hL, ← strs_put, ← hn]; exact hown4); have hC4 := hC3x.gr hgr4 (fun q hq => by have e : g3 = q := Option.some.inj hq; omega) (by simp; omega); have hG4 : w.grownBy w4 (some g) := gjoin (gtrans (gtrans (gtrans hG1 hG2) hG3) (galloc w3 _ _)) hgr4 (fun q hq => by have e : g3 = q := Option.some.inj hq; omega); have hs4 : w3.heap.size + 1 ≤ w4.heap.size := (by have := hgr4.size; simpa using this); have hn1 : 1 ≤ n := (by omega); have hn10 : n ≤ 11 := (by omega); obtain ⟨z4, hz4⟩ : ∃ z4, z3 = z4 := ⟨_, rfl⟩; obtain ⟨s4, hs4'⟩ : ∃ s4, s3 = s4 := ⟨_, rfl⟩; rw [hz4, hs4'] at hC4; rw [hn]; clear hown4 hL hn) | (go_at_call 80; refine (specProof_any _ _ n (fun j => L.getD j ⟨#[]⟩) _ cap4 _ (by omega) hSl6 hcap6 (fun j hj => Nat.le_trans (hszL6 j hj) (by omega))).mono ?_; rintro e w7 ⟨M0, v7, rfl, hM0, hT7, ⟨gM, capM, rfl, hM7⟩, hb7⟩; have hs7 := hb7.size; have hO7 := own_below hO6 hb7; have hA7 := own_below hA6 hb7; have hC7 := hC6.gr (gbelow hb7 none) (fun _ h => by cases h) (by omega); have hgM := grow_le hM7; have hF7 : Fin3 w w7 g (.slice (some ⟨g6, 0, none⟩) m cap6) (.slice (some ⟨g4, 0, none⟩) n cap4) (.slice (some ⟨gM, 0, none⟩) M0.length capM) A L M0 := ⟨by omega, by omega, hAs, by omega, by omega, hLs, by omega, hT7, ⟨g6, cap6, by rw [hAm], by rw [hAm]; exact own_mono hA7 (by omega)⟩, ⟨g4, cap4, by rw [hLn], by rw [hLn]; exact own_mono hO7 (by omega)⟩, ⟨gM, capM, rfl, own_mono hM7 (by omega)⟩, gtrans hG6 (gbelow hb7 _), by omega⟩; obtain ⟨z7, hz7⟩ : ∃ z7, z5 = z7 := ⟨_, rfl⟩; obtain ⟨s7, hs7'⟩ : ∃ s7, s5 = s7 := ⟨_, rfl⟩; rw [hz7, hs7'] at hC7) | (go_at_call 71; have _h := hF9; have hjm : j < m := (by omega); refine (drawBytes_any g B ca cn cc z9 s9 _ hC9 (by omega) (by omega) 2 (by omega)).mono ?_; rintro e w10 ⟨T10, z10, s10, rfl, hT10, hz10', hC10, hG10⟩; have hF10 := hF9.more hG10; have hs10 := hG10.size; have hO10 := own_gr hO9 hG10 (by omega); have hA10 := own_gr hA9 hG10 (by omega); have hM10 := own_gr hM9 hG10 (by omega); have hcl : w10.cell? ⟨g6, j, none⟩ = some (.string (A.getD j ⟨#[]⟩)) := (by rw [hA10.cellAt j (by omega)]; simp [List.getD, hAm, hjm]); have hfl := hA10.frozenAt j; have hA11 : (w10.setCell ⟨g6, j, none⟩ (.string T10)).ownsRow w5.heap.size 9 1 (.slice (some ⟨g6, 0, none⟩) m cap6) m ((A.set j T10).map .string) := (by rw [List.map_set]; exact own_put hA10 j (.string T10)); have hO11 := own_gr2 hO10 (gset w10 g6 j (.string T10)) (fun e => by have e2 : g6 = g4 := Option.some.inj e; omega); have hM11 := own_gr2 hM10 (gset w10 g6 j (.string T10)) (fun e => by have e2 : g6 = gM := Option.some.inj e; omega); have hlA : (A.set j T10).length = m := (by rw [List.length_set]; exact hAm); have hsA : ∀ U ∈ A.set j T10, U.size ≤ 3 := all_set hAs (by omega) j; have hC11 := hC10.gr (gset w10 g6 j (.string T10)) (fun q hq => by have e : g6 = q := Option.some.inj hq; omega) (by omega); have hFst : Fin3 w (w10.setCell ⟨g6, j, none⟩ (.string T10)) g (.slice (some ⟨g6, 0, none⟩) m cap6) (.slice (some ⟨g4, 0, none⟩) n cap4) (.slice (some ⟨gM, 0, none⟩) M0.length capM) (A.set j T10) L M0 := ⟨by omega, by omega, hsA, hF10.b1, hF10.b2, hF10.b3, hF10.m2, hF10.m3, ⟨g6, cap6, by rw [hlA], by rw [hlA]; exact own_mono hA11 (by omega)⟩, ⟨g4, cap4, by rw [hLn], by rw [hLn]; exact own_mono hO11 (by omega)⟩, ⟨gM, capM, rfl, own_mono hM11 (by omega)⟩, gjoin hF10.gr (gset w10 g6 j (.string T10)) (fun q hq => by have e : g6 = q := Option.some.inj hq; omega), hF10.lt⟩; have hB11 : B ≤ (w10.setCell ⟨g6, j, none⟩ (.string T10)).heap.size := (by simp [World.setCell]; omega); have hs11 : w10.heap.size ≤ (w10.setCell ⟨g6, j, none⟩ (.string T10)).heap.size := (by simp [World.setCell]); have hz10x : z10 ≤ z + 500 := (by omega)) | (go_at_call 71; have _h := hF9; have hjM : j < M0.length := (by omega); refine (drawBytes_any g B ca cn cc z9 s9 _ hC9 (by omega) (by omega) 2 (by omega)).mono ?_; rintro e w10 ⟨T10, z10, s10, rfl, hT10, hz10', hC10, hG10⟩; have hF10 := hF9.more hG10; have hs10 := hG10.size; have hO10 := own_gr hO9 hG10 (by omega); have hA10 := own_gr hA9 hG10 (by omega); have hM10 := own_gr hM9 hG10 (by omega); have hcl : w10.cell? ⟨gM, j, none⟩ = some (.string (M0.getD j ⟨#[]⟩)) := (by rw [hM10.cellAt j (by omega)]; simp [List.getD, hjM]); have hfl := hM10.frozenAt j; have hC11 := hC10.gr (gset w10 gM j (.string T10)) (fun q hq => by have e : gM = q := Option.some.inj hq; omega) (by omega); have hFsm : Fin3 w (w10.setCell ⟨gM, j, none⟩ (.string T10)) g (.slice (some ⟨g6, 0, none⟩) m cap6) (.slice (some ⟨g4, 0, none⟩) n cap4) (.slice (some ⟨gM, 0, none⟩) M0.length capM) A L (M0.set j T10) := ⟨hF10.a1, hF10.a2, hF10.a3, hF10.b1, hF10.b2, hF10.b3, by rw [List.length_set]; exact hF10.m2, all_set hF10.m3 (by omega) j, ⟨g6, cap6, by rw [hAm], by rw [hAm]; exact own_mono (own_gr2 hA10 (gset w10 gM j (.string T10)) (fun e => by have e2 : gM = g6 := Option.some.inj e; omega)) (by omega)⟩, ⟨g4, cap4, by rw [hLn], by rw [hLn]; exact own_mono (own_gr2 hO10 (gset w10 gM j (.string T10)) (fun e => by have e2 : gM = g4 := Option.some.inj e; omega)) (by omega)⟩, ⟨gM, capM, by rw [List.length_set], by rw [List.length_set, List.map_set]; exact own_mono (own_put hM10 j (.string T10)) (by omega)⟩, gjoin hF10.gr (gset w10 gM j (.string T10)) (fun q hq => by have e : gM = q := Option.some.inj hq; omega), hF10.lt⟩) | (go_at_call 81; refine (specForgeProof_any g B ca cn cc z10 s10 _ m n cap6 cap4 g6 g4 w.heap.size (A.set j T10) L _ hC11 (by omega) hB11 (by omega) hlA (fun U hU => Nat.le_trans (hsA U hU) (by omega)) (own_mono hA11 (by omega)) hLn (fun U hU => Nat.le_trans (hLs U hU) (by omega)) (own_mono hO11 (by omega)) hm1 hmn (by omega)).mono ?_; rintro e w12 ⟨M1, v12, z12, s12, rfl, hM1, hT12, ⟨gN, capN, rfl, hN12⟩, hz12', hC12, hG12⟩; have hF12 : Fin3 w w12 g (.slice (some ⟨g6, 0, none⟩) m cap6) (.slice (some ⟨g4, 0, none⟩) n cap4) (.slice (some ⟨gN, 0, none⟩) M1.length capN) (A.set j T10) L M1 := ⟨hFst.a1, hFst.a2, hFst.a3, hFst.b1, hFst.b2, hFst.b3, hM1, fun U hU => Nat.le_trans (hT12 U hU) (by omega), hFst.la.gr hG12 hFst.lt, hFst.lb.gr hG12 hFst.lt, ⟨gN, capN, rfl, own_mono hN12 (by omega)⟩, gtrans hFst.gr hG12, hFst.lt⟩) | (go_at_call 48; refine (width_any _ _).mono ?_; rintro e w0 ⟨rfl, hw0⟩; subst w0) | (go_at_call 73; refine (times_any _ (wid_le _) _).mono ?_; rintro e w9 ⟨T9, rfl, hT9, hbT⟩; have hs9 := hbT.size; have hM9 := own_below hM8 hbT; have hO9 := own_below hO8 hbT; have hA9 := own_below hA8 hbT; have hF9t := hF8.more (gbelow hbT _); have hC9 := hC8.gr (gbelow hbT none) (fun _ h => by cases h) (by omega)) | (go_at_call 74; refine (drawKind2_any g B ca cn cc z8 s8 _ hC8 (by omega) (by omega)).mono ?_; rintro e w9 ⟨r9k, z9, s9, rfl, hz9', hC9, hG9⟩; have hF9k := hF8.more hG9))
  all_goals
    refine bodyPost_ret (by simp [results, Tryz.results46, go_sem]; rfl) rfl ?_
    first
      | exact ⟨_, A.set j T10, L, M1, _, _, _, z12, s12, rfl, by omega, hC12, hF12⟩
      | exact ⟨_, A.set j T10, L, M0, _, _, _, z10, s10, rfl, by omega, hC11, hFst⟩
      | exact ⟨_, A, L, M0.set j T10, _, _, _, z10, s10, rfl, by omega, hC11, hFsm⟩
      | exact ⟨_, A, L, M0 ++ [T9], _, _, _, z8, s8, rfl, by omega, hC13, hF13⟩
      | exact ⟨_, A, L, M0, _, _, _, z9, s9, rfl, by omega, hC9, hF9k⟩
      | exact ⟨_, A, L, M0, _, _, _, z8, s8, rfl, by omega, hC8, hF8⟩
end Go.Proofs.YtlbackkjjhpljaaGreatDoor
