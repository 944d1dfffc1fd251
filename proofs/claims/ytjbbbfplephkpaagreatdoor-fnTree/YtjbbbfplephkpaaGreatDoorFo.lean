/-
  Marks folded into one: the program's way.
-/
import Derived.Test.YtjbbbfplephkpaaGreatDoorIa
import Derived.Test.YtjbbbfplephkpaaGreatDoorTrb
import Derived.Test.YtjbbbfplephkpaaGreatDoorSp
namespace Go.Proofs.YtjbbbfplephkpaaGreatDoor
open Go.RowKit Go.ChangeMaps
/-- The digests D folded into one. -/
def ft (k : Int) : Nat → (Nat → ByteArray) → Nat → ByteArray
  | 0, D, _ => D 0
  | f + 1, D, n => if n = 1 then D 0 else nodeD k (ft k f D (spl n)) (ft k f (fun j => D (spl n + j)) (n - spl n))
theorem ft_wid (k : Int) (hk : k = 0 ∨ k = 1) (f : Nat) (D : Nat → ByteArray) (n : Nat) (hn : 1 ≤ n) (hD : ∀ j, j < n → (D j).size = wid k) : (ft k f D n).size = wid k := by
  cases f with
  | zero => exact hD 0 (by omega)
  | succ f =>
    rw [ft]
    split
    · exact hD 0 (by omega)
    · exact dg_size k _ hk
/-- n marks in a row. -/
def Mk (w : World) (P off n : Nat) (D : Nat → ByteArray) : Prop := ∀ j, j < n → w.rangeAt P (off + j * 32) (cells8 (pad (D j)))
theorem Mk.left {w : World} {P off n : Nat} {D : Nat → ByteArray} (h : Mk w P off n D) (s : Nat) (hs : s ≤ n) : Mk w P off s D := fun j hj => h j (by omega)
theorem Mk.right {w : World} {P off n : Nat} {D : Nat → ByteArray} (h : Mk w P off n D) (s : Nat) (hs : s ≤ n) : Mk w P (off + s * 32) (n - s) (fun j => D (s + j)) := fun j hj => by
  have := h (s + j) (by omega)
  rw [show off + (s + j) * 32 = off + s * 32 + j * 32 by omega] at this
  exact this
theorem grown_refl (w : World) (b : Nat) : w.grownBy w (some b) := ⟨rfl, rfl, rfl, Nat.le_refl _, fun _ _ _ => rfl⟩
theorem grownB {w w1 w2 : World} {b : Nat} (h : w.grownBy w1 (some b)) (hb : Below w.heap.size w1 w2) : w.grownBy w2 (some b) :=
  ⟨hb.os.trans h.os, hb.tape.trans h.tape, hb.output.trans h.output, Nat.le_trans h.size hb.size, fun i hi hne => (hb.block i hi).trans (h.block i hi hne)⟩
theorem grown_grown {w w1 w2 : World} {b : Nat} (h : w.grownBy w1 (some b)) (hg : w1.grownBy w2 (some b)) : w.grownBy w2 (some b) :=
  ⟨hg.os.trans h.os, hg.tape.trans h.tape, hg.output.trans h.output, Nat.le_trans h.size hg.size, fun i hi hne => (hg.block i (Nat.lt_of_lt_of_le hi h.size) hne).trans (h.block i hi hne)⟩
/-- What stands while marks are folded. -/
structure Fo (k : Int) (b P off n : Nat) (D : Nat → ByteArray) (w w' : World) : Prop where
  c0 : w'.cell? ⟨w.heap.size, 0, none⟩ = some (.int .i64 k)
  c1 : w'.cell? ⟨w.heap.size, 1, none⟩ = some (.map (some b))
  marks : Mk w' P off n D
  t : w'.there (w.heap.size + 1) 0 32
  keys : KeysAt w'
  dbl : DblAt w' k b 64
  gr : w.grownBy w' (some b)
  ne : P ≠ b
  hP : P < w.heap.size
  hb : b < w.heap.size
def FoS (k : Int) (b : Nat) (w w' : World) : Prop := w'.cell? ⟨w.heap.size, 0, none⟩ = some (.int .i64 k) ∧ w'.cell? ⟨w.heap.size, 1, none⟩ = some (.map (some b))
theorem Fo.s {k : Int} {b P off n : Nat} {D : Nat → ByteArray} {w w1 : World} (h : Fo k b P off n D w w1) : FoS k b w w1 := ⟨h.c0, h.c1⟩
theorem Fo.drew1 {k : Int} {b P off n : Nat} {D : Nat → ByteArray} {w w1 : World} (h : Fo k b P off n D w w1) : Fo k b P off n D w w1.drew :=
  ⟨h.c0, h.c1, h.marks, h.t, h.keys, h.dbl, ⟨h.gr.os, h.gr.tape, h.gr.output, h.gr.size, h.gr.block⟩, h.ne, h.hP, h.hb⟩
theorem Fo.node {k : Int} {b P off n : Nat} {D : Nat → ByteArray} {w w1 w2 : World} (h : Fo k b P off n D w w1) (hd : DblAt w2 k b 64) (hg : w1.grownBy w2 (some b)) : Fo k b P off n D w w2 := by
  have h0 := h.dbl.not0 h.keys
  have h1 := h.hb
  exact ⟨hg.cell h.c0 (by simp; omega), hg.cell h.c1 (by simp; omega), fun j hj => range_grown (h.marks j hj) hg h.ne, there_grown h.t hg (by omega), fun i hi => hg.cell (h.keys i hi) (by simp; omega), hd, grown_grown h.gr hg, h.ne, h.hP, h.hb⟩
theorem Fo.stored {k : Int} {b P off n : Nat} {D : Nat → ByteArray} {w w1 : World} (h : Fo k b P off n D w w1) (Y : List Value) : Fo k b P off n D w (w1.setCells (w.heap.size + 1) 0 Y) := by
  have h1 := h.hP
  have h2 := h.hb
  refine ⟨(World.cell?_setCells_out _ _ _ _ _ (fun e => by simp at e)).trans h.c0, (World.cell?_setCells_out _ _ _ _ _ (fun e => by simp at e)).trans h.c1, fun j hj => World.rangeAt_setCells_apart (h.marks j hj) _ _ _ (Or.inl (by omega)), World.there_setCells h.t _ _ _, fun i hi => (World.cell?_setCells_out _ _ _ _ _ (fun e => by simp at e)).trans (h.keys i hi), ?_, ?_, h.ne, h.hP, h.hb⟩
  · obtain ⟨es, clock, h5, h6, h7⟩ := h.dbl
    exact ⟨es, clock, (heap_setCells_other _ _ _ (by omega) _ _).trans h5, h6, h7⟩
  · exact grownB h.gr (below_setCells _ _ (Below.refl _ _) (by omega))
theorem Fo.start {k : Int} {b P off n : Nat} {D : Nat → ByteArray} {w : World} (hm : Mk w P off n D) (hK : KeysAt w) (hd : DblAt w k b 64) (ne : P ≠ b) (hP : P < w.heap.size) : Fo k b P off n D w ((w.alloc (.cells #[.int .i64 k, .map (some b)] 42)).alloc (.cells zeros32 45)) := by
  have hb := below2 w (.cells #[.int .i64 k, .map (some b)] 42) (.cells zeros32 45)
  obtain ⟨u0, u1⟩ := cell_box w (.int .i64 k) (.map (some b)) 42
  exact ⟨keep (below1 _ _) u0, keep (below1 _ _) u1, fun j hj => range_later (hm j hj) hb, there_row _ _ _ _ _ zeros32_size (heap_alloc2_new w _ _), keys_later hK hb, hd.later hb, grownB (grown_refl w b) hb, ne, hP, hd.lt⟩
set_option maxRecDepth 20000 in
set_option maxHeartbeats 4000000 in
theorem fold_any (k : Int) (b : Nat) (hk : k = 0 ∨ k = 1) (f : Nat) : ∀ (n : Nat) (D : Nat → ByteArray) (a : Option Addr) (P off c : Nat) (w : World) (X : List Value), 1 ≤ n → n ≤ f → n ≤ c → a = some ⟨P, off, none⟩ → Mk w P off n D → KeysAt w → DblAt w k b 64 → P ≠ b → P < w.heap.size → n ≤ 1048576 → (∀ j, j < n → (D j).size = wid k) → cells8 (pad (ft k f D n)) = X →
    Calls Tryz.prog 39 #[.agg #[.int .i64 k, .map (some b)], .slice a n c] w fun e w' => e = .returned (.agg X.toArray) ∧ DblAt w' k b 64 ∧ w.grownBy w' (some b) := by
  have hw := wid_le k
  induction f with
  | zero => intro n _ _ _ _ _ _ _ h1 h2; omega
  | succ f ih =>
  intro n D a P off c w X h1 hf hc ha hm hK hd ne hP hn6 hD hX
  subst ha
  have fw := ft_wid k hk (f + 1) D n h1 hD
  have ln : X.length = 32 := by rw [← hX, cells8_len]; exact pad_len _ (by omega)
  have on3 : ∀ v ∈ X, v.oneCell' = true := by rw [← hX]; exact cells8_one _
  obtain ⟨hzr, hi⟩ := zero_of_info Tryz.info45
  have i3 : Hid ((Tryz.prog.info? 45).map (·.size) = some X.toArray.size) := by show (Tryz.prog.info? 45).map (·.size) = some X.toArray.size; rw [show X.toArray.size = 32 from ln]; exact hi
  have fs : Hid (Fo k b P off n D w ((w.alloc (.cells #[.int .i64 k, .map (some b)] 42)).alloc (.cells zeros32 45))) := Fo.start hm hK hd ne hP
  clear hi hm hK hd
  by_cases h1n : n = 1
  · subst h1n
    have HX : Hid (cells8 (pad (D 0)) = X) := by rw [ft, if_pos rfl] at hX; exact hX
    have hr : Hid (((w.alloc (.cells #[.int .i64 k, .map (some b)] 42)).alloc (.cells zeros32 45)).rangeAt P off X) := by have := fs.out.marks 0 (by omega); rw [HX.out, Nat.zero_mul, Nat.add_zero] at this; exact this
    have ht : ((w.alloc (.cells #[.int .i64 k, .map (some b)] 42)).alloc (.cells zeros32 45)).there (w.heap.size + 1) 0 X.toArray.size := by rw [show X.toArray.size = 32 from ln]; exact fs.out.t
    have HT : Hid _ := ht
    clear hX ih ht
    go_enter Tryz.func39, Tryz.ntmps39
    go_wp2_with (first | (refine wpList_load_mid rfl 45 (.tmp 10) rfl P off rfl X _ hr.out Tryz.underlying45 rfl i3.out ?_) | (refine wpList_store_mid rfl 45 (.tmp 4) (.tmp 11) rfl (w.heap.size + 1) 0 X.toArray rfl rfl HT.out i3.out (all_oneCell_toArray on3) ?_))
    have fs5 := fs.out.stored X
    exact bodyPost_ret (v := .agg X.toArray) (results_mid Tryz.results39 _ _ (w.heap.size + 1) 0 X _ rfl (World.rangeAt_setCells_same _ _ _ _ HT.out) Tryz.underlying45 rfl i3.out) rfl ⟨rfl, fs5.dbl, fs5.gr⟩
  · rw [ft, if_neg h1n] at hX
    have hs := spl_in n (by omega) (by omega)
    obtain ⟨s, hsn⟩ : ∃ s, spl n = s := ⟨_, rfl⟩
    have HSP : Hid (spl n = s) := hsn
    rw [hsn] at hX hs
    obtain ⟨hs1, hs2, hs3⟩ := hs
    have hw1 := ft_wid k hk f D s (by omega) (fun j hj => hD j (by omega))
    have hw2 := ft_wid k hk f (fun j => D (s + j)) (n - s) (by omega) (fun j hj => hD (s + j) (by omega))
    obtain ⟨d1, hd1⟩ : ∃ d, ft k f D s = d := ⟨_, rfl⟩
    obtain ⟨d2, hd2⟩ : ∃ d, ft k f (fun j => D (s + j)) (n - s) = d := ⟨_, rfl⟩
    obtain ⟨X1, hX1⟩ : ∃ X, cells8 (pad d1) = X := ⟨_, rfl⟩
    obtain ⟨X2, hX2⟩ : ∃ X, cells8 (pad d2) = X := ⟨_, rfl⟩
    have HX1' : Hid (cells8 (pad (ft k f D s)) = X1) := by rw [hd1]; exact hX1
    have HX2' : Hid (cells8 (pad (ft k f (fun j => D (s + j)) (n - s))) = X2) := by rw [hd2]; exact hX2
    rw [hd1, hd2] at hX
    rw [hd1] at hw1
    rw [hd2] at hw2
    have HX1 : Hid (cells8 (pad d1) = X1) := hX1
    have HX2 : Hid (cells8 (pad d2) = X2) := hX2
    have HXN : Hid (cells8 (pad (nodeD k d1 d2)) = X) := hX
    have m1 : ¬ (n : Int) = 1 := by omega
    have mcs : ¬ c = s := by omega
    have mns : ¬ n = s := by omega
    have ms : (s : Int) ≤ n := by omega
    have mc : (s : Int) ≤ c := by omega
    have mn : (n : Int) ≤ c := by omega
    have h64 : n ≤ 4294967296 := by omega
    clear hX hX1 hX2 hd1 hd2 hsn
    go_enter Tryz.func39, Tryz.ntmps39
    go_wp2_with (go_at_call 59; refine (splitOf_as n _ _ (by rfl) (by omega) h64 s HSP.out).mono ?_; rintro e w' ⟨rfl, rfl⟩)
    have fs1 := fs.out.drew1
    refine wp_region_held_drew (S := FoS k b w) (by kernel_rfl) fs1.s (fun hHeld => ?_)
    refine wpAnyH_take (i := 0) (oi := ({ dst := some 15, op := Op.load 42 (Operand.tmp 2), type := 42, pos := "l2_tree.go:194", after := #[], guard := none } : Oper)) (v := .agg #[.int .i64 k, .map (some b)]) rfl (by kernel_rfl) (by kernel_rfl) (by kernel_rfl) (fun _ _ _ h => h) (Or.inl ⟨by rfl, fun w hSw => by obtain ⟨c0, c1⟩ := hSw; go_simp⟩) hHeld ?_
    simp only [Act.put, List.setIfInBounds_toArray, List.set_cons_zero, List.set_cons_succ]
    refine wpAnyH_take (i := 1) (oi := ({ dst := some 16, op := Op.load 42 (Operand.tmp 2), type := 42, pos := "l2_tree.go:194", after := #[], guard := none } : Oper)) (v := .agg #[.int .i64 k, .map (some b)]) rfl (by kernel_rfl) (by kernel_rfl) (by kernel_rfl) (fun _ _ _ h => h) (Or.inl ⟨by rfl, fun w hSw => by obtain ⟨c0, c1⟩ := hSw; go_simp⟩) hHeld ?_
    simp only [Act.put, List.setIfInBounds_toArray, List.set_cons_zero, List.set_cons_succ]
    refine wpAnyH_take (i := 2) (oi := ({ dst := some 17, op := Op.move (Operand.tmp 1), type := 70, pos := "l2_tree.go:194", after := #[], guard := none } : Oper)) (v := .slice (some ⟨P, off, none⟩) n c) rfl (by kernel_rfl) (by kernel_rfl) (by kernel_rfl) (fun _ _ _ h => h) (Or.inl ⟨by rfl, fun w hSw => by go_simp⟩) hHeld ?_
    simp only [Act.put, List.setIfInBounds_toArray, List.set_cons_zero, List.set_cons_succ]
    refine wpAnyH_take (i := 3) (oi := ({ dst := some 18, op := Op.move (Operand.tmp 5), type := 3, pos := "l2_tree.go:194", after := #[], guard := none } : Oper)) (v := .int .i64 (s : Int)) rfl (by kernel_rfl) (by kernel_rfl) (by kernel_rfl) (fun _ _ _ h => h) (Or.inl ⟨by rfl, fun w hSw => by go_simp⟩) hHeld ?_
    simp only [Act.put, List.setIfInBounds_toArray, List.set_cons_zero, List.set_cons_succ]
    refine wpAnyH_take (i := 4) (oi := ({ dst := some 19, op := Op.slice 70 (Operand.tmp 17) none (some (Operand.tmp 18)) none, type := 70, pos := "l2_tree.go:194", after := #[{ on := 2, ground := Ground.data }, { on := 3, ground := Ground.data }], guard := none } : Oper)) (v := .slice (some ⟨P, off, none⟩) s c) rfl (by kernel_rfl) (by kernel_rfl) (by kernel_rfl) (fun _ _ _ h => h) (Or.inl ⟨by rfl, fun w hSw => by go_simp⟩) hHeld ?_
    simp only [Act.put, List.setIfInBounds_toArray, List.set_cons_zero, List.set_cons_succ]
    refine wpAnyH_take (i := 6) (oi := ({ dst := some 21, op := Op.load 42 (Operand.tmp 2), type := 42, pos := "l2_tree.go:194", after := #[], guard := none } : Oper)) (v := .agg #[.int .i64 k, .map (some b)]) rfl (by kernel_rfl) (by kernel_rfl) (by kernel_rfl) (fun _ _ _ h => h) (Or.inl ⟨by rfl, fun w hSw => by obtain ⟨c0, c1⟩ := hSw; go_simp⟩) hHeld ?_
    simp only [Act.put, List.setIfInBounds_toArray, List.set_cons_zero, List.set_cons_succ]
    refine wpAnyH_take (i := 7) (oi := ({ dst := some 22, op := Op.move (Operand.tmp 1), type := 70, pos := "l2_tree.go:194", after := #[], guard := none } : Oper)) (v := .slice (some ⟨P, off, none⟩) n c) rfl (by kernel_rfl) (by kernel_rfl) (by kernel_rfl) (fun _ _ _ h => h) (Or.inl ⟨by rfl, fun w hSw => by go_simp⟩) hHeld ?_
    simp only [Act.put, List.setIfInBounds_toArray, List.set_cons_zero, List.set_cons_succ]
    refine wpAnyH_take (i := 8) (oi := ({ dst := some 23, op := Op.move (Operand.tmp 5), type := 3, pos := "l2_tree.go:194", after := #[], guard := none } : Oper)) (v := .int .i64 (s : Int)) rfl (by kernel_rfl) (by kernel_rfl) (by kernel_rfl) (fun _ _ _ h => h) (Or.inl ⟨by rfl, fun w hSw => by go_simp⟩) hHeld ?_
    simp only [Act.put, List.setIfInBounds_toArray, List.set_cons_zero, List.set_cons_succ]
    refine wpAnyH_take (i := 9) (oi := ({ dst := some 24, op := Op.slice 70 (Operand.tmp 22) (some (Operand.tmp 23)) none none, type := 70, pos := "l2_tree.go:194", after := #[{ on := 7, ground := Ground.data }, { on := 8, ground := Ground.data }], guard := none } : Oper)) (v := .slice (some ⟨P, off + s * 32, none⟩) (n - s) (c - s)) rfl (by kernel_rfl) (by kernel_rfl) (by kernel_rfl) (fun _ _ _ h => h) (Or.inl ⟨by rfl, fun w hSw => by go_simp⟩) hHeld ?_
    simp only [Act.put, List.setIfInBounds_toArray, List.set_cons_zero, List.set_cons_succ]
    refine wpAnyH_ready (rs := [5]) (by kernel_rfl) (by simp) ?_
    refine AllReadyH.cons (o := ({ dst := some 20, op := Op.call { callee := Callee.value (Operand.func 39), args := #[Operand.tmp 16, Operand.tmp 19], argTypes := #[42, 70] }, type := 45, pos := "l2_tree.go:194", after := #[{ on := 1, ground := Ground.data }, { on := 4, ground := Ground.data }], guard := none } : Oper)) rfl (fun K hK => ?_) AllReadyH.nil
    go_simp
    refine (ih s D (some ⟨P, off, none⟩) P off c _ X1 (by omega) (by omega) (by omega) rfl (fs1.marks.left s (by omega)) fs1.keys fs1.dbl fs1.ne (Nat.lt_of_lt_of_le hP fs1.gr.size) (by omega) (fun j hj => hD j (by omega)) HX1'.out).mono ?_
    rintro e w5 ⟨rfl, hdw5, hgw5⟩
    have fs2 := fs1.node hdw5 hgw5
    refine hK.out _ _ fs2.s (fun hHeld => ?_)
    clear hK K
    refine wpAnyH_ready (rs := [10]) (by kernel_rfl) (by simp) ?_
    refine AllReadyH.cons (o := ({ dst := some 25, op := Op.call { callee := Callee.value (Operand.func 39), args := #[Operand.tmp 21, Operand.tmp 24], argTypes := #[42, 70] }, type := 45, pos := "l2_tree.go:194", after := #[{ on := 6, ground := Ground.data }, { on := 9, ground := Ground.data }, { on := 5, ground := Ground.chain }], guard := none } : Oper)) rfl (fun K hK => ?_) AllReadyH.nil
    go_simp
    refine (ih (n - s) (fun j => D (s + j)) (some ⟨P, off + s * 32, none⟩) P (off + s * 32) (c - s) _ X2 (by omega) (by omega) (by omega) rfl (fs2.marks.right s (by omega)) fs2.keys fs2.dbl fs2.ne (Nat.lt_of_lt_of_le hP fs2.gr.size) (by omega) (fun j hj => hD (s + j) (by omega)) HX2'.out).mono ?_
    rintro e w6 ⟨rfl, hdw6, hgw6⟩
    have fs3 := fs2.node hdw6 hgw6
    refine hK.out _ _ fs3.s (fun hHeld => ?_)
    clear hK K
    refine wpAnyH_ready (rs := [11]) (by kernel_rfl) (by simp) ?_
    refine AllReadyH.cons (o := ({ dst := some 26, op := Op.call { callee := Callee.value (Operand.func 17), args := #[Operand.tmp 15, Operand.tmp 20, Operand.tmp 25], argTypes := #[42, 45, 45] }, type := 45, pos := "l2_tree.go:194", after := #[{ on := 0, ground := Ground.data }, { on := 5, ground := Ground.data }, { on := 10, ground := Ground.data }, { on := 10, ground := Ground.chain }], guard := none } : Oper)) rfl (fun K hK => ?_) AllReadyH.nil
    go_simp
    refine (node_any k b _ _ _ fs3.keys hk hw1 hw2 fs3.dbl X1 X2 X HX1.out HX2.out HXN.out).mono ?_
    rintro e w7 ⟨rfl, hdw7, hgw7⟩
    have fs4 := fs3.node hdw7 hgw7
    refine hK.out _ _ fs4.s (fun hHeld => ?_)
    clear hK K
    refine wpAnyH_ready (rs := [12]) (by kernel_rfl) (by simp) ?_
    refine AllReadyH.cons (o := ({ dst := none, op := Op.store 45 (Operand.tmp 4) (Operand.tmp 26), type := 0, pos := "l2_tree.go:194", after := #[{ on := 11, ground := Ground.data }, { on := 11, ground := Ground.chain }, { on := 0, ground := Ground.phase }, { on := 1, ground := Ground.phase }, { on := 2, ground := Ground.phase }, { on := 3, ground := Ground.phase }, { on := 4, ground := Ground.phase }, { on := 5, ground := Ground.phase }, { on := 6, ground := Ground.phase }, { on := 7, ground := Ground.phase }, { on := 8, ground := Ground.phase }, { on := 9, ground := Ground.phase }, { on := 10, ground := Ground.phase }, { on := 11, ground := Ground.phase }], guard := none } : Oper)) rfl (fun K hK => ?_) AllReadyH.nil
    rw [if_pos (by rfl)]
    refine wp_store_mid _ _ _ rfl (w.heap.size + 1) 0 X.toArray rfl rfl (by rw [show X.toArray.size = 32 from ln]; exact fs4.t) i3.out (all_oneCell_toArray on3) ?_
    have fs5 := fs4.stored X
    refine hK.out _ _ fs5.s (fun hHeld => ?_)
    clear hK K
    refine wpAnyH_done (by kernel_rfl) ?_ _
    go_wp2_with fail
    exact bodyPost_ret (v := .agg X.toArray) (results_mid Tryz.results39 _ _ (w.heap.size + 1) 0 X _ rfl (World.rangeAt_setCells_same _ _ _ _ (by rw [ln]; exact fs4.t)) Tryz.underlying45 rfl i3.out) rfl ⟨rfl, fs5.dbl, fs5.gr⟩
end Go.Proofs.YtjbbbfplephkpaaGreatDoor
