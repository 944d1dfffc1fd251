/-
  PrintSql: the specification's way.
-/
import Derived.Test.YtnbgdfhfmbgbhaaGreatDoorQi
import Derived.Test.YtnbgdfhfmbgbhaaGreatDoorQj
import Derived.Test.YtnbgdfhfmbgbhaaGreatDoorNl
namespace Go.Proofs.YtnbgdfhfmbgbhaaGreatDoor
open Go.RowKit Go.Maps Go.WideMaps
set_option maxRecDepth 20000 in
set_option maxHeartbeats 2000000 in
theorem sWhereT (a : Option Addr) (n c : Nat) (I : Nat → Itm) (w : World) (h : IL w a n I) (hok : okWhere I n = true) (hr : ∀ k, k < n → rng (I k).m) :
    Calls Tryz.prog 41 #[.slice a n c] w fun e w' => e = .returned (.string (whS I n)) ∧ Below w.heap.size w w' := by
  by_cases h0 : n = 0
  · subst h0
    go_enter Tryz.func41, Tryz.ntmps41
    go_wp2
    go_ret
    exact ⟨rfl, Below.refl _ _⟩
  · have h0' : ((n : Int) == 0) = false := by simp; omega
    have h2 : okExp I n = true := by
      simp only [okWhere, Bool.or_eq_true, decide_eq_true_eq] at hok
      exact hok.resolve_left h0
    have hz := exS_size h2 hr
    have HE : Hid (whS I n = ⟨#[32, 119, 104, 101, 114, 101, 32]⟩ ++ exS I n) := by show _ = _; unfold whS; rw [if_neg h0]
    have hI := sExpT a n c I w h h2 hr
    clear h2 hok hr
    go_enter Tryz.func41, Tryz.ntmps41
    go_wp2_with (go_at_call 40; refine hI.mono ?_; rintro e w1 ⟨rfl, hb1⟩)
    go_ret
    exact ⟨by rw [HE.out]; rfl, hb1⟩
/-- The texts so far. -/
def tx (T : Nat → ByteArray) (k : Nat) : List Value := (List.range k).map fun j => Value.string (T j)
theorem tx_next (T : Nat → ByteArray) (k : Nat) : tx T k ++ [.string (T k)] = tx T (k + 1) := by
  unfold tx
  rw [List.range_succ, List.map_append]
  rfl
theorem tx_ts {w : World} {base g n cap : Nat} {T : Nat → ByteArray} (h : w.ownsRow base 9 1 (.slice (some ⟨g, 0, none⟩) n cap) n (tx T n)) : TS w (some ⟨g, 0, none⟩) n T := fun k hk => by
  refine ⟨g, 0, rfl, ?_⟩
  have := h.cellAt k (by omega)
  rw [Nat.zero_add, this]
  unfold tx
  rw [List.getElem?_map, List.getElem?_eq_getElem (by simpa using hk)]
  simp
theorem cm_pos {n : Nat} {T : Nat → ByteArray} (h : ∀ k, k < n → (T k).size ≤ 42000) : ∀ k, k < n → (T k).size ≤ 1000000 := fun k hk => Nat.le_trans (h k hk) (by omega)
/-- A column's own two cells. -/
structure C2 (w : World) (B : Nat) (c : Clm) : Prop where
  c0 : w.cell? ⟨B, 0, none⟩ = some (.string c.s)
  c1 : w.cell? ⟨B, 1, none⟩ = some (.int .i64 c.t)
theorem C2.later {w w' : World} {B : Nat} {c : Clm} (h : C2 w B c) (hb : Below w.heap.size w w') : C2 w' B c := ⟨keepB hb h.c0, keepB hb h.c1⟩
theorem C2.grown {B : Nat} {c : Clm} {w w' : World} {r : Option Nat} (h : C2 w B c) (hg : w.grownBy w' r) (hr : some B ≠ r) : C2 w' B c := ⟨hg.cell h.c0 hr, hg.cell h.c1 hr⟩
theorem C2.new (w : World) (c : Clm) : C2 (w.alloc (.cells #[.string c.s, .int .i64 c.t] 49)) w.heap.size c := ⟨(cell_of_row _ _ 0 _ _ _ (heap_alloc_new w _)).trans rfl, (cell_of_row _ _ 1 _ _ _ (heap_alloc_new w _)).trans rfl⟩
set_option maxRecDepth 20000 in
set_option maxHeartbeats 8000000 in
theorem sPrint1 (d : St) (p : Sa) (w : World) (hM : SM w d p) (_hR : RG d) (hok : okStm d = true) (hk : d.k = 1) : Calls Tryz.prog 11 #[.agg (cs8 d p)] w fun e w' => e = .returned (.string (sqlS d)) ∧ Below w.heap.size w w' := by
    obtain ⟨a2, c2, a3, c3, a5, c5, a6, c6, a7, c7⟩ := p
    have hb0 := bal w (.cells (cs8 d (⟨a2, c2, a3, c3, a5, c5, a6, c6, a7, c7⟩ : Sa)) 27)
    have hQ0 := B8.new w d (⟨a2, c2, a3, c3, a5, c5, a6, c6, a7, c7⟩ : Sa) 27
    have htb := (okS hok).1
    have HS : sqlS d = ⟨#[99, 114, 101, 97, 116, 101, 32, 116, 97, 98, 108, 101, 32]⟩ ++ d.tb ++ ⟨#[32, 40]⟩ ++ cm (fun k => colS (d.C k).s (d.C k).t) d.n2 ++ ⟨#[41]⟩ := by unfold sqlS; rw [if_pos hk]
    obtain ⟨l1, l2⟩ := m1 hok hk
    have lz := cm_le l1 (fun k hk => (l2 k hk).1)
    have HC := hM.co
    dsimp only at HC
    have HL2 : Hid (∀ k, k < d.n2 → (colS (d.C k).s (d.C k).t).size ≤ 1000 ∧ isTyp (d.C k).t = true) := l2
    have HT2 : Hid (∀ k, k < d.n2 → (colS (d.C k).s (d.C k).t).size ≤ 1000000) := fun k hk => Nat.le_trans (l2 k hk).1 (by omega)
    clear l2
    obtain ⟨i0, hi, hz0, hz1, hz2⟩ := info_parts Tryz.infoStr
    have HI : Hid (Tryz.prog.info? 9 = some i0) := hi
    clear hi
    have n1 : (d.k == 1) = true := by simp; omega
    have HSS : Hid (sqlS d = ⟨#[99, 114, 101, 97, 116, 101, 32, 116, 97, 98, 108, 101, 32]⟩ ++ d.tb ++ ⟨#[32, 40]⟩ ++ cm (fun k => colS (d.C k).s (d.C k).t) d.n2 ++ ⟨#[41]⟩) := HS
    have HOK : Hid (okStm d = true) := hok
    clear HS hk hok
    go_enter Tryz.func11, Tryz.ntmps11
    go_upto_region 3 with (go_at_call 37; refine (sStm d (⟨a2, c2, a3, c3, a5, c5, a6, c6, a7, c7⟩ : Sa) _ (hM.later hb0)).mono ?_; rw [HOK.out]; rintro e w1 ⟨rfl, hb1⟩; have hQ1 := hQ0.later hb1; have hB1 := bstep hb0 hb1; obtain ⟨x0, x1, x2, x3, x4, x5, x6, x7⟩ := id hQ1; have hQA := hQ1.later (bal w1 (.cells #[] 9)); obtain ⟨y0, y1, y2, y3, y4, y5, y6, y7⟩ := id hQA; have hBA := bstep hB1 (bal w1 (.cells #[] 9)))
    go_wp2
    go_loopw [3, 21] (fun v i wr => ∃ (k g cap : Nat), k ≤ d.n2 ∧ i = .int .i64 k ∧ v = .slice (some ⟨g, 0, none⟩) k cap ∧ wr.ownsRow w1.heap.size 9 1 (.slice (some ⟨g, 0, none⟩) k cap) k (tx (fun k => colS (d.C k).s (d.C k).t) k) ∧ Below w1.heap.size w1 wr) (fun _ i _ => d.n2 - (intOf i).toNat)
    case atStart =>
      refine ⟨0, w1.heap.size, 0, by omega, rfl, rfl, ?_, bal _ _⟩
      exact World.ownsRow_made w1 #[] 0 (Nat.le_refl _) (by unfold maxLen; omega) rfl
    case round =>
      obtain ⟨k, g, cap, hk, rfl, rfl, hO, hb⟩ := hrel
      have hB2 := bstep hB1 hb
      have hsb := hb.size
      by_cases hlt : k < d.n2
      · have hgg := grow_le hO
        have hgl := (hO.lt g rfl).2
        have hcp := own_cap hO
        have hnx := tx_next (fun k => colS (d.C k).s (d.C k).t) k
        have HNX : Hid (tx (fun k => colS (d.C k).s (d.C k).t) k ++ [.string ((fun k => colS (d.C k).s (d.C k).t) k)] = tx (fun k => colS (d.C k).s (d.C k).t) (k + 1)) := hnx
        clear hnx
        obtain ⟨b, off, rfl, c0, c1, hs⟩ := HC.later hB2 k hlt
        obtain ⟨-, hty⟩ := HL2.out k hlt
        have hO1 := hO.alloc (.cells #[.string (d.C k).s, .int .i64 (d.C k).t] 49)
        have hX1 : C2 (wr.alloc (.cells #[.string (d.C k).s, .int .i64 (d.C k).t] 49)) wr.heap.size (d.C k) := C2.new wr (d.C k)
        have hs1 : (wr.alloc (.cells #[.string (d.C k).s, .int .i64 (d.C k).t] 49)).heap.size = wr.heap.size + 1 := by simp
        have hB3 := bal wr (.cells #[.string (d.C k).s, .int .i64 (d.C k).t] 49)
        by_cases ht : (d.C k).t = 1
        · have HCS : Hid (colS (d.C k).s (d.C k).t = (d.C k).s ++ ⟨#[32, 105, 110, 116]⟩) := by show _ = _; unfold colS; rw [if_pos ht]
          have HT1 : Hid ((d.C k).t = 1) := ht
          clear ht
          have htb' : (d.C k).s.size ≤ 1048576 := hs
          have q3 : ((wr.alloc (.cells #[.string (d.C k).s, .int .i64 (d.C k).t] 49)).drew.alloc (.cells #[.string ⟨#[]⟩, .string ⟨#[32, 105, 110, 116]⟩, .string ⟨#[32, 116, 101, 120, 116]⟩] 9)).cell? ⟨wr.heap.size + 1, 1, none⟩ = some (.string ⟨#[32, 105, 110, 116]⟩) := by
            have := (cell_of_row ((wr.alloc (.cells #[.string (d.C k).s, .int .i64 (d.C k).t] 49)).drew.alloc (.cells #[.string ⟨#[]⟩, .string ⟨#[32, 105, 110, 116]⟩, .string ⟨#[32, 116, 101, 120, 116]⟩] 9)) (wr.alloc (.cells #[.string (d.C k).s, .int .i64 (d.C k).t] 49)).drew.heap.size 1 _ _ _ (heap_alloc_new (wr.alloc (.cells #[.string (d.C k).s, .int .i64 (d.C k).t] 49)).drew (.cells #[.string ⟨#[]⟩, .string ⟨#[32, 105, 110, 116]⟩, .string ⟨#[32, 116, 101, 120, 116]⟩] 9))).trans rfl
            rw [show (wr.alloc (.cells #[.string (d.C k).s, .int .i64 (d.C k).t] 49)).drew.heap.size = wr.heap.size + 1 from hs1] at this
            exact this
          have HNW : Hid (∀ j u, ([.string ((d.C k).s ++ ⟨#[32, 105, 110, 116]⟩)] : List Value)[j]? = some u → (((wr.alloc (.cells #[.string (d.C k).s, .int .i64 (d.C k).t] 49)).drew.alloc (.cells #[.string ⟨#[]⟩, .string ⟨#[32, 105, 110, 116]⟩, .string ⟨#[32, 116, 101, 120, 116]⟩] 9)).alloc (.cells #[.string ((d.C k).s ++ ⟨#[32, 105, 110, 116]⟩)] 9)).cell? ((⟨wr.heap.size + 1 + 1, 0, none⟩ : Addr).add j) = some u) := by
            have := World.news_of_block (heap_alloc_new ((wr.alloc (.cells #[.string (d.C k).s, .int .i64 (d.C k).t] 49)).drew.alloc (.cells #[.string ⟨#[]⟩, .string ⟨#[32, 105, 110, 116]⟩, .string ⟨#[32, 116, 101, 120, 116]⟩] 9)) (.cells #[.string ((d.C k).s ++ ⟨#[32, 105, 110, 116]⟩)] 9))
            rw [show ((wr.alloc (.cells #[.string (d.C k).s, .int .i64 (d.C k).t] 49)).drew.alloc (.cells #[.string ⟨#[]⟩, .string ⟨#[32, 105, 110, 116]⟩, .string ⟨#[32, 116, 101, 120, 116]⟩] 9)).heap.size = wr.heap.size + 1 + 1 from (by simp)] at this
            exact this
          go_wp2
          refine wp_region_held_drew (S := fun x => C2 x wr.heap.size (d.C k)) (by kernel_rfl) (hX1.later (bdrew _)) (fun hHeld => ?_)
          refine wpAnyH_take (i := 0) (oi := ({ dst := some 25, op := Op.move (Operand.tmp 3), type := 71, pos := "l4_stm.go:691", after := #[], guard := none } : Oper)) (v := .slice (some ⟨g, 0, none⟩) k cap) rfl (by kernel_rfl) (by kernel_rfl) (by kernel_rfl) (fun _ _ _ h => h) (Or.inl ⟨by rfl, fun x hSw => (by go_simp)⟩) hHeld ?_
          try simp only [Act.put, List.setIfInBounds_toArray, List.set_cons_zero, List.set_cons_succ]
          refine wpAnyH_take (i := 1) (oi := ({ dst := some 26, op := Op.fieldAddr 49 (Operand.tmp 5) 0, type := 0, pos := "l4_stm.go:691", after := #[], guard := none } : Oper)) (v := .pointer (some ⟨wr.heap.size, 0, none⟩)) rfl (by kernel_rfl) (by kernel_rfl) (by kernel_rfl) (fun _ _ _ h => h) (Or.inl ⟨by rfl, fun x hSw => (by go_simp)⟩) hHeld ?_
          try simp only [Act.put, List.setIfInBounds_toArray, List.set_cons_zero, List.set_cons_succ]
          refine wpAnyH_take (i := 2) (oi := ({ dst := some 27, op := Op.load 9 (Operand.tmp 26), type := 9, pos := "l4_stm.go:691", after := #[{ on := 1, ground := Ground.data }], guard := none } : Oper)) (v := .string (d.C k).s) rfl (by kernel_rfl) (by kernel_rfl) (by kernel_rfl) (fun _ _ _ h => h) (Or.inl ⟨by rfl, fun x hSw => (by obtain ⟨u0, u1⟩ := hSw; go_simp)⟩) hHeld ?_
          try simp only [Act.put, List.setIfInBounds_toArray, List.set_cons_zero, List.set_cons_succ]
          refine wpAnyH_take (i := 4) (oi := ({ dst := some 29, op := Op.fieldAddr 49 (Operand.tmp 5) 1, type := 0, pos := "l4_stm.go:691", after := #[], guard := none } : Oper)) (v := .pointer (some ⟨wr.heap.size, 1, none⟩)) rfl (by kernel_rfl) (by kernel_rfl) (by kernel_rfl) (fun _ _ _ h => h) (Or.inl ⟨by rfl, fun x hSw => (by go_simp)⟩) hHeld ?_
          try simp only [Act.put, List.setIfInBounds_toArray, List.set_cons_zero, List.set_cons_succ]
          refine wpAnyH_take (i := 5) (oi := ({ dst := some 30, op := Op.load 3 (Operand.tmp 29), type := 3, pos := "l4_stm.go:691", after := #[{ on := 4, ground := Ground.data }], guard := none } : Oper)) (v := .int .i64 (1 : Int)) rfl (by kernel_rfl) (by kernel_rfl) (by kernel_rfl) (fun _ _ _ h => h) (Or.inl ⟨by rfl, fun x hSw => (by obtain ⟨u0, u1⟩ := hSw; rw [HT1.out] at u1; go_simp)⟩) hHeld ?_
          try simp only [Act.put, List.setIfInBounds_toArray, List.set_cons_zero, List.set_cons_succ]
          refine wpAnyH_ready (rs := [3]) (by kernel_rfl) (by simp) ?_
          refine AllReadyH.cons (o := ({ dst := some 28, op := Op.buildSlice 71 3 #[(0, Operand.const (Value.string { data := #[] })), (1, Operand.const (Value.string { data := #[32, 105, 110, 116] })), (2, Operand.const (Value.string { data := #[32, 116, 101, 120, 116] }))], type := 71, pos := "l4_stm.go:691", after := #[], guard := none } : Oper)) rfl (fun K hK => ?_) AllReadyH.nil
          go_simp
          refine hK.out _ _ (hHeld.later (bal _ _)) (fun hHeld => ?_)
          clear hK K
          try simp only [Act.put, List.setIfInBounds_toArray, List.set_cons_zero, List.set_cons_succ]
          refine wpAnyH_take (i := 6) (oi := ({ dst := some 31, op := Op.indexAddr 71 (Operand.tmp 28) (Operand.tmp 30), type := 0, pos := "l4_stm.go:691", after := #[{ on := 3, ground := Ground.data }, { on := 5, ground := Ground.data }], guard := none } : Oper)) (v := .pointer (some ⟨wr.heap.size + 1, 1, none⟩)) rfl (by kernel_rfl) (by kernel_rfl) (by kernel_rfl) (fun _ _ _ h => h) (Or.inl ⟨by rfl, fun x hSw => (by go_simp)⟩) hHeld ?_
          try simp only [Act.put, List.setIfInBounds_toArray, List.set_cons_zero, List.set_cons_succ]
          refine wpAnyH_ready (rs := [7]) (by kernel_rfl) (by simp) ?_
          refine AllReadyH.cons (o := ({ dst := some 32, op := Op.load 9 (Operand.tmp 31), type := 9, pos := "l4_stm.go:691", after := #[{ on := 6, ground := Ground.data }], guard := none } : Oper)) rfl (fun K hK => ?_) AllReadyH.nil
          go_simp
          refine hK.out _ _ (hHeld) (fun hHeld => ?_)
          clear hK K
          try simp only [Act.put, List.setIfInBounds_toArray, List.set_cons_zero, List.set_cons_succ]
          refine wpAnyH_take (i := 8) (oi := ({ dst := some 33, op := Op.binOp BinOp.add 9 (Operand.tmp 27) (Operand.tmp 32) 9, type := 9, pos := "l4_stm.go:691", after := #[{ on := 2, ground := Ground.data }, { on := 7, ground := Ground.data }], guard := none } : Oper)) (v := .string ((d.C k).s ++ ⟨#[32, 105, 110, 116]⟩)) rfl (by kernel_rfl) (by kernel_rfl) (by kernel_rfl) (fun _ _ _ h => h) (Or.inl ⟨by rfl, fun x hSw => (by go_simp; try omega)⟩) hHeld ?_
          try simp only [Act.put, List.setIfInBounds_toArray, List.set_cons_zero, List.set_cons_succ]
          refine wpAnyH_ready (rs := [9]) (by kernel_rfl) (by simp) ?_
          refine AllReadyH.cons (o := ({ dst := some 34, op := Op.buildSlice 71 1 #[(0, Operand.tmp 33)], type := 71, pos := "l4_stm.go:691", after := #[{ on := 8, ground := Ground.data }], guard := none } : Oper)) rfl (fun K hK => ?_) AllReadyH.nil
          go_simp
          refine hK.out _ _ (hHeld.later (bal _ _)) (fun hHeld => ?_)
          clear hK K
          try simp only [Act.put, List.setIfInBounds_toArray, List.set_cons_zero, List.set_cons_succ]
          refine wpAnyH_ready (rs := [10]) (by kernel_rfl) (by simp) ?_
          refine AllReadyH.cons (o := ({ dst := some 35, op := Op.call { callee := Callee.builtin Builtin.append, args := #[Operand.tmp 25, Operand.tmp 34], argTypes := #[71, 71] }, type := 71, pos := "l4_stm.go:691", after := #[{ on := 0, ground := Ground.data }, { on := 9, ground := Ground.data }], guard := none } : Oper)) rfl (fun K hK => ?_) AllReadyH.nil
          rw [if_pos (by kernel_rfl)]
          refine wp_append_lies _ _ _ _ rfl w1.heap.size 9 i0 (.string ByteArray.empty) 1 16 Tryz.underlying71 HI.out hz0 hz1 hz2 rfl (by omega) (.slice (some ⟨g, 0, none⟩) k cap) k _ rfl ((hO1.drew.alloc _).alloc _) ⟨wr.heap.size + 1 + 1, 0, none⟩ 1 1 [.string ((d.C k).s ++ ⟨#[32, 105, 110, 116]⟩)] rfl rfl HNW.out (ones _ rfl) (by omega) (by unfold maxLen; omega) (by omega) (by simp; omega) _ rfl ?_
          intro g4 cap4 w4 hO4 hgr4 hat4 hlt4
          refine hK.out _ _ (hHeld.grown hgr4 (by show some _ ≠ some g; simp; omega)) (fun hHeld => ?_)
          clear hK K
          try simp only [Act.put, List.setIfInBounds_toArray, List.set_cons_zero, List.set_cons_succ]
          refine wpAnyH_ready (rs := [11]) (by kernel_rfl) (by simp) ?_
          refine AllReadyH.cons (o := ({ dst := some 3, op := Op.assign (Operand.tmp 35), type := 71, pos := "l4_stm.go:691", after := #[{ on := 10, ground := Ground.data }, { on := 10, ground := Ground.chain }, { on := 0, ground := Ground.phase }, { on := 1, ground := Ground.phase }, { on := 2, ground := Ground.phase }, { on := 3, ground := Ground.phase }, { on := 4, ground := Ground.phase }, { on := 5, ground := Ground.phase }, { on := 6, ground := Ground.phase }, { on := 7, ground := Ground.phase }, { on := 8, ground := Ground.phase }, { on := 9, ground := Ground.phase }, { on := 10, ground := Ground.phase }], guard := none } : Oper)) rfl (fun K hK => ?_) AllReadyH.nil
          go_simp
          refine hK.out _ _ (hHeld) (fun hHeld => ?_)
          clear hK K
          try simp only [Act.put, List.setIfInBounds_toArray, List.set_cons_zero, List.set_cons_succ]
          refine wpAnyH_done (by kernel_rfl) ?_ _
          have Q6 : Below w1.heap.size w1 w4 := by
            have x1 : Below w1.heap.size w1 (wr.alloc (.cells #[.string (d.C k).s, .int .i64 (d.C k).t] 49)).drew := bstep hb (bstep hB3 (bdrew _))
            have x2 := bstep x1 (bal (wr.alloc (.cells #[.string (d.C k).s, .int .i64 (d.C k).t] 49)).drew (.cells #[.string ⟨#[]⟩, .string ⟨#[32, 105, 110, 116]⟩, .string ⟨#[32, 116, 101, 120, 116]⟩] 9))
            exact (x2.alloc x2.size _).grown hgr4 (by have := x2.size; simp; omega) (fun j hj => by have e : g = j := Option.some.inj hj; omega)
          clear hHeld
          go_wp2
          go_roundw
          case rel => exact ⟨k + 1, g4, cap4, by omega, by go_num, rfl, by rw [← HNX.out, HCS.out]; exact hO4, Q6⟩
          case measure => simp [intOf]; omega
        · have ht : (d.C k).t = 2 := by simp [isTyp] at hty; omega
          have HCS : Hid (colS (d.C k).s (d.C k).t = (d.C k).s ++ ⟨#[32, 116, 101, 120, 116]⟩) := by show _ = _; unfold colS; rw [if_neg (by omega)]
          have HT1 : Hid ((d.C k).t = 2) := ht
          clear ht
          have htb' : (d.C k).s.size ≤ 1048576 := hs
          have q3 : ((wr.alloc (.cells #[.string (d.C k).s, .int .i64 (d.C k).t] 49)).drew.alloc (.cells #[.string ⟨#[]⟩, .string ⟨#[32, 105, 110, 116]⟩, .string ⟨#[32, 116, 101, 120, 116]⟩] 9)).cell? ⟨wr.heap.size + 1, 2, none⟩ = some (.string ⟨#[32, 116, 101, 120, 116]⟩) := by
            have := (cell_of_row ((wr.alloc (.cells #[.string (d.C k).s, .int .i64 (d.C k).t] 49)).drew.alloc (.cells #[.string ⟨#[]⟩, .string ⟨#[32, 105, 110, 116]⟩, .string ⟨#[32, 116, 101, 120, 116]⟩] 9)) (wr.alloc (.cells #[.string (d.C k).s, .int .i64 (d.C k).t] 49)).drew.heap.size 2 _ _ _ (heap_alloc_new (wr.alloc (.cells #[.string (d.C k).s, .int .i64 (d.C k).t] 49)).drew (.cells #[.string ⟨#[]⟩, .string ⟨#[32, 105, 110, 116]⟩, .string ⟨#[32, 116, 101, 120, 116]⟩] 9))).trans rfl
            rw [show (wr.alloc (.cells #[.string (d.C k).s, .int .i64 (d.C k).t] 49)).drew.heap.size = wr.heap.size + 1 from hs1] at this
            exact this
          have HNW : Hid (∀ j u, ([.string ((d.C k).s ++ ⟨#[32, 116, 101, 120, 116]⟩)] : List Value)[j]? = some u → (((wr.alloc (.cells #[.string (d.C k).s, .int .i64 (d.C k).t] 49)).drew.alloc (.cells #[.string ⟨#[]⟩, .string ⟨#[32, 105, 110, 116]⟩, .string ⟨#[32, 116, 101, 120, 116]⟩] 9)).alloc (.cells #[.string ((d.C k).s ++ ⟨#[32, 116, 101, 120, 116]⟩)] 9)).cell? ((⟨wr.heap.size + 1 + 1, 0, none⟩ : Addr).add j) = some u) := by
            have := World.news_of_block (heap_alloc_new ((wr.alloc (.cells #[.string (d.C k).s, .int .i64 (d.C k).t] 49)).drew.alloc (.cells #[.string ⟨#[]⟩, .string ⟨#[32, 105, 110, 116]⟩, .string ⟨#[32, 116, 101, 120, 116]⟩] 9)) (.cells #[.string ((d.C k).s ++ ⟨#[32, 116, 101, 120, 116]⟩)] 9))
            rw [show ((wr.alloc (.cells #[.string (d.C k).s, .int .i64 (d.C k).t] 49)).drew.alloc (.cells #[.string ⟨#[]⟩, .string ⟨#[32, 105, 110, 116]⟩, .string ⟨#[32, 116, 101, 120, 116]⟩] 9)).heap.size = wr.heap.size + 1 + 1 from (by simp)] at this
            exact this
          go_wp2
          refine wp_region_held_drew (S := fun x => C2 x wr.heap.size (d.C k)) (by kernel_rfl) (hX1.later (bdrew _)) (fun hHeld => ?_)
          refine wpAnyH_take (i := 0) (oi := ({ dst := some 25, op := Op.move (Operand.tmp 3), type := 71, pos := "l4_stm.go:691", after := #[], guard := none } : Oper)) (v := .slice (some ⟨g, 0, none⟩) k cap) rfl (by kernel_rfl) (by kernel_rfl) (by kernel_rfl) (fun _ _ _ h => h) (Or.inl ⟨by rfl, fun x hSw => (by go_simp)⟩) hHeld ?_
          try simp only [Act.put, List.setIfInBounds_toArray, List.set_cons_zero, List.set_cons_succ]
          refine wpAnyH_take (i := 1) (oi := ({ dst := some 26, op := Op.fieldAddr 49 (Operand.tmp 5) 0, type := 0, pos := "l4_stm.go:691", after := #[], guard := none } : Oper)) (v := .pointer (some ⟨wr.heap.size, 0, none⟩)) rfl (by kernel_rfl) (by kernel_rfl) (by kernel_rfl) (fun _ _ _ h => h) (Or.inl ⟨by rfl, fun x hSw => (by go_simp)⟩) hHeld ?_
          try simp only [Act.put, List.setIfInBounds_toArray, List.set_cons_zero, List.set_cons_succ]
          refine wpAnyH_take (i := 2) (oi := ({ dst := some 27, op := Op.load 9 (Operand.tmp 26), type := 9, pos := "l4_stm.go:691", after := #[{ on := 1, ground := Ground.data }], guard := none } : Oper)) (v := .string (d.C k).s) rfl (by kernel_rfl) (by kernel_rfl) (by kernel_rfl) (fun _ _ _ h => h) (Or.inl ⟨by rfl, fun x hSw => (by obtain ⟨u0, u1⟩ := hSw; go_simp)⟩) hHeld ?_
          try simp only [Act.put, List.setIfInBounds_toArray, List.set_cons_zero, List.set_cons_succ]
          refine wpAnyH_take (i := 4) (oi := ({ dst := some 29, op := Op.fieldAddr 49 (Operand.tmp 5) 1, type := 0, pos := "l4_stm.go:691", after := #[], guard := none } : Oper)) (v := .pointer (some ⟨wr.heap.size, 1, none⟩)) rfl (by kernel_rfl) (by kernel_rfl) (by kernel_rfl) (fun _ _ _ h => h) (Or.inl ⟨by rfl, fun x hSw => (by go_simp)⟩) hHeld ?_
          try simp only [Act.put, List.setIfInBounds_toArray, List.set_cons_zero, List.set_cons_succ]
          refine wpAnyH_take (i := 5) (oi := ({ dst := some 30, op := Op.load 3 (Operand.tmp 29), type := 3, pos := "l4_stm.go:691", after := #[{ on := 4, ground := Ground.data }], guard := none } : Oper)) (v := .int .i64 (2 : Int)) rfl (by kernel_rfl) (by kernel_rfl) (by kernel_rfl) (fun _ _ _ h => h) (Or.inl ⟨by rfl, fun x hSw => (by obtain ⟨u0, u1⟩ := hSw; rw [HT1.out] at u1; go_simp)⟩) hHeld ?_
          try simp only [Act.put, List.setIfInBounds_toArray, List.set_cons_zero, List.set_cons_succ]
          refine wpAnyH_ready (rs := [3]) (by kernel_rfl) (by simp) ?_
          refine AllReadyH.cons (o := ({ dst := some 28, op := Op.buildSlice 71 3 #[(0, Operand.const (Value.string { data := #[] })), (1, Operand.const (Value.string { data := #[32, 105, 110, 116] })), (2, Operand.const (Value.string { data := #[32, 116, 101, 120, 116] }))], type := 71, pos := "l4_stm.go:691", after := #[], guard := none } : Oper)) rfl (fun K hK => ?_) AllReadyH.nil
          go_simp
          refine hK.out _ _ (hHeld.later (bal _ _)) (fun hHeld => ?_)
          clear hK K
          try simp only [Act.put, List.setIfInBounds_toArray, List.set_cons_zero, List.set_cons_succ]
          refine wpAnyH_take (i := 6) (oi := ({ dst := some 31, op := Op.indexAddr 71 (Operand.tmp 28) (Operand.tmp 30), type := 0, pos := "l4_stm.go:691", after := #[{ on := 3, ground := Ground.data }, { on := 5, ground := Ground.data }], guard := none } : Oper)) (v := .pointer (some ⟨wr.heap.size + 1, 2, none⟩)) rfl (by kernel_rfl) (by kernel_rfl) (by kernel_rfl) (fun _ _ _ h => h) (Or.inl ⟨by rfl, fun x hSw => (by go_simp)⟩) hHeld ?_
          try simp only [Act.put, List.setIfInBounds_toArray, List.set_cons_zero, List.set_cons_succ]
          refine wpAnyH_ready (rs := [7]) (by kernel_rfl) (by simp) ?_
          refine AllReadyH.cons (o := ({ dst := some 32, op := Op.load 9 (Operand.tmp 31), type := 9, pos := "l4_stm.go:691", after := #[{ on := 6, ground := Ground.data }], guard := none } : Oper)) rfl (fun K hK => ?_) AllReadyH.nil
          go_simp
          refine hK.out _ _ (hHeld) (fun hHeld => ?_)
          clear hK K
          try simp only [Act.put, List.setIfInBounds_toArray, List.set_cons_zero, List.set_cons_succ]
          refine wpAnyH_take (i := 8) (oi := ({ dst := some 33, op := Op.binOp BinOp.add 9 (Operand.tmp 27) (Operand.tmp 32) 9, type := 9, pos := "l4_stm.go:691", after := #[{ on := 2, ground := Ground.data }, { on := 7, ground := Ground.data }], guard := none } : Oper)) (v := .string ((d.C k).s ++ ⟨#[32, 116, 101, 120, 116]⟩)) rfl (by kernel_rfl) (by kernel_rfl) (by kernel_rfl) (fun _ _ _ h => h) (Or.inl ⟨by rfl, fun x hSw => (by go_simp; try omega)⟩) hHeld ?_
          try simp only [Act.put, List.setIfInBounds_toArray, List.set_cons_zero, List.set_cons_succ]
          refine wpAnyH_ready (rs := [9]) (by kernel_rfl) (by simp) ?_
          refine AllReadyH.cons (o := ({ dst := some 34, op := Op.buildSlice 71 1 #[(0, Operand.tmp 33)], type := 71, pos := "l4_stm.go:691", after := #[{ on := 8, ground := Ground.data }], guard := none } : Oper)) rfl (fun K hK => ?_) AllReadyH.nil
          go_simp
          refine hK.out _ _ (hHeld.later (bal _ _)) (fun hHeld => ?_)
          clear hK K
          try simp only [Act.put, List.setIfInBounds_toArray, List.set_cons_zero, List.set_cons_succ]
          refine wpAnyH_ready (rs := [10]) (by kernel_rfl) (by simp) ?_
          refine AllReadyH.cons (o := ({ dst := some 35, op := Op.call { callee := Callee.builtin Builtin.append, args := #[Operand.tmp 25, Operand.tmp 34], argTypes := #[71, 71] }, type := 71, pos := "l4_stm.go:691", after := #[{ on := 0, ground := Ground.data }, { on := 9, ground := Ground.data }], guard := none } : Oper)) rfl (fun K hK => ?_) AllReadyH.nil
          rw [if_pos (by kernel_rfl)]
          refine wp_append_lies _ _ _ _ rfl w1.heap.size 9 i0 (.string ByteArray.empty) 1 16 Tryz.underlying71 HI.out hz0 hz1 hz2 rfl (by omega) (.slice (some ⟨g, 0, none⟩) k cap) k _ rfl ((hO1.drew.alloc _).alloc _) ⟨wr.heap.size + 1 + 1, 0, none⟩ 1 1 [.string ((d.C k).s ++ ⟨#[32, 116, 101, 120, 116]⟩)] rfl rfl HNW.out (ones _ rfl) (by omega) (by unfold maxLen; omega) (by omega) (by simp; omega) _ rfl ?_
          intro g4 cap4 w4 hO4 hgr4 hat4 hlt4
          refine hK.out _ _ (hHeld.grown hgr4 (by show some _ ≠ some g; simp; omega)) (fun hHeld => ?_)
          clear hK K
          try simp only [Act.put, List.setIfInBounds_toArray, List.set_cons_zero, List.set_cons_succ]
          refine wpAnyH_ready (rs := [11]) (by kernel_rfl) (by simp) ?_
          refine AllReadyH.cons (o := ({ dst := some 3, op := Op.assign (Operand.tmp 35), type := 71, pos := "l4_stm.go:691", after := #[{ on := 10, ground := Ground.data }, { on := 10, ground := Ground.chain }, { on := 0, ground := Ground.phase }, { on := 1, ground := Ground.phase }, { on := 2, ground := Ground.phase }, { on := 3, ground := Ground.phase }, { on := 4, ground := Ground.phase }, { on := 5, ground := Ground.phase }, { on := 6, ground := Ground.phase }, { on := 7, ground := Ground.phase }, { on := 8, ground := Ground.phase }, { on := 9, ground := Ground.phase }, { on := 10, ground := Ground.phase }], guard := none } : Oper)) rfl (fun K hK => ?_) AllReadyH.nil
          go_simp
          refine hK.out _ _ (hHeld) (fun hHeld => ?_)
          clear hK K
          try simp only [Act.put, List.setIfInBounds_toArray, List.set_cons_zero, List.set_cons_succ]
          refine wpAnyH_done (by kernel_rfl) ?_ _
          have Q6 : Below w1.heap.size w1 w4 := by
            have x1 : Below w1.heap.size w1 (wr.alloc (.cells #[.string (d.C k).s, .int .i64 (d.C k).t] 49)).drew := bstep hb (bstep hB3 (bdrew _))
            have x2 := bstep x1 (bal (wr.alloc (.cells #[.string (d.C k).s, .int .i64 (d.C k).t] 49)).drew (.cells #[.string ⟨#[]⟩, .string ⟨#[32, 105, 110, 116]⟩, .string ⟨#[32, 116, 101, 120, 116]⟩] 9))
            exact (x2.alloc x2.size _).grown hgr4 (by have := x2.size; simp; omega) (fun j hj => by have e : g = j := Option.some.inj hj; omega)
          clear hHeld
          go_wp2
          go_roundw
          case rel => exact ⟨k + 1, g4, cap4, by omega, by go_num, rfl, by rw [← HNX.out, HCS.out]; exact hO4, Q6⟩
          case measure => simp [intOf]; omega
      · obtain rfl : k = d.n2 := by omega
        have hQ2 := hQ1.later hb
        obtain ⟨z0, z1, z2, z3, z4, z5, z6, z7⟩ := id hQ2
        have hX := fun v hv => sCommas (some ⟨g, 0, none⟩) d.n2 cap (fun k => colS (d.C k).s (d.C k).t) v ((tx_ts hO).later hv) (by omega) HT2.out
        obtain ⟨X, hX2⟩ : ∃ X, cm (fun k => colS (d.C k).s (d.C k).t) d.n2 = X := ⟨_, rfl⟩
        rw [hX2] at hX lz HSS
        clear hX2 hO
        go_wp2
        refine wp_region_held_drew (S := fun x => Below wr.heap.size wr x) (by kernel_rfl) (bdrew _) (fun hHeld => ?_)
        refine' wpAnyH_take (i := 0) (oi := ({ dst := some 37, op := Op.fieldAddr 27 (Operand.tmp 1) 1, type := 0, pos := "l4_stm.go:693", after := #[], guard := none } : Oper)) (v := _) rfl (by kernel_rfl) (by kernel_rfl) (by kernel_rfl) (fun _ _ _ h => h) (Or.inl ⟨by rfl, fun x hSw => ?hyz6_0⟩) hHeld ?restz6_0
        case hyz6_0 =>
          obtain ⟨k0, k1, k2, k3, k4, k5, k6, k7⟩ := hQ2.later hSw
          go_simp
          try with_reducible rfl
        try simp only [Act.put, List.setIfInBounds_toArray, List.set_cons_zero, List.set_cons_succ]
        refine' wpAnyH_take (i := 1) (oi := ({ dst := some 38, op := Op.load 9 (Operand.tmp 37), type := 9, pos := "l4_stm.go:693", after := #[{ on := 0, ground := Ground.data }], guard := none } : Oper)) (v := _) rfl (by kernel_rfl) (by kernel_rfl) (by kernel_rfl) (fun _ _ _ h => h) (Or.inl ⟨by rfl, fun x hSw => ?hyz6_1⟩) hHeld ?restz6_1
        case hyz6_1 =>
          obtain ⟨k0, k1, k2, k3, k4, k5, k6, k7⟩ := hQ2.later hSw
          go_simp
          try with_reducible rfl
        try simp only [Act.put, List.setIfInBounds_toArray, List.set_cons_zero, List.set_cons_succ]
        refine wpAnyH_take (i := 2) (oi := ({ dst := some 39, op := Op.binOp BinOp.add 9 (Operand.const (Value.string { data := #[99, 114, 101, 97, 116, 101, 32, 116, 97, 98, 108, 101, 32] })) (Operand.tmp 38) 9, type := 9, pos := "l4_stm.go:693", after := #[{ on := 1, ground := Ground.data }], guard := none } : Oper)) (v := .string (⟨#[99, 114, 101, 97, 116, 101, 32, 116, 97, 98, 108, 101, 32]⟩ ++ d.tb)) rfl (by kernel_rfl) (by kernel_rfl) (by kernel_rfl) (fun _ _ _ h => h) (Or.inl ⟨by rfl, fun x hSw => (by go_simp; try omega)⟩) hHeld ?_
        try simp only [Act.put, List.setIfInBounds_toArray, List.set_cons_zero, List.set_cons_succ]
        refine wpAnyH_take (i := 3) (oi := ({ dst := some 40, op := Op.binOp BinOp.add 9 (Operand.tmp 39) (Operand.const (Value.string { data := #[32, 40] })) 9, type := 9, pos := "l4_stm.go:693", after := #[{ on := 2, ground := Ground.data }], guard := none } : Oper)) (v := .string (⟨#[99, 114, 101, 97, 116, 101, 32, 116, 97, 98, 108, 101, 32]⟩ ++ d.tb ++ ⟨#[32, 40]⟩)) rfl (by kernel_rfl) (by kernel_rfl) (by kernel_rfl) (fun _ _ _ h => h) (Or.inl ⟨by rfl, fun x hSw => (by go_simp; try omega)⟩) hHeld ?_
        try simp only [Act.put, List.setIfInBounds_toArray, List.set_cons_zero, List.set_cons_succ]
        refine' wpAnyH_take (i := 4) (oi := ({ dst := some 41, op := Op.move (Operand.tmp 3), type := 71, pos := "l4_stm.go:693", after := #[], guard := none } : Oper)) (v := _) rfl (by kernel_rfl) (by kernel_rfl) (by kernel_rfl) (fun _ _ _ h => h) (Or.inl ⟨by rfl, fun x hSw => ?hyz6_4⟩) hHeld ?restz6_4
        case hyz6_4 =>
          obtain ⟨k0, k1, k2, k3, k4, k5, k6, k7⟩ := hQ2.later hSw
          go_simp
          try with_reducible rfl
        try simp only [Act.put, List.setIfInBounds_toArray, List.set_cons_zero, List.set_cons_succ]
        refine wpAnyH_ready (rs := [5]) (by kernel_rfl) (by simp) ?_
        refine AllReadyH.cons (o := ({ dst := some 42, op := Op.call { callee := Callee.value (Operand.func 38), args := #[Operand.tmp 41], argTypes := #[71] }, type := 9, pos := "l4_stm.go:693", after := #[{ on := 4, ground := Ground.data }], guard := none } : Oper)) rfl (fun K hK => ?_) AllReadyH.nil
        go_simp
        refine (hX _ hHeld).mono ?_
        rintro e w5 ⟨rfl, rfl⟩
        refine hK.out _ _ (hHeld) (fun hHeld => ?_)
        clear hK K
        try simp only [Act.put, List.setIfInBounds_toArray, List.set_cons_zero, List.set_cons_succ]
        refine wpAnyH_take (i := 6) (oi := ({ dst := some 43, op := Op.binOp BinOp.add 9 (Operand.tmp 40) (Operand.tmp 42) 9, type := 9, pos := "l4_stm.go:693", after := #[{ on := 3, ground := Ground.data }, { on := 5, ground := Ground.data }], guard := none } : Oper)) (v := .string (⟨#[99, 114, 101, 97, 116, 101, 32, 116, 97, 98, 108, 101, 32]⟩ ++ d.tb ++ ⟨#[32, 40]⟩ ++ X)) rfl (by kernel_rfl) (by kernel_rfl) (by kernel_rfl) (fun _ _ _ h => h) (Or.inl ⟨by rfl, fun x hSw => (by go_simp; try omega)⟩) hHeld ?_
        try simp only [Act.put, List.setIfInBounds_toArray, List.set_cons_zero, List.set_cons_succ]
        refine wpAnyH_take (i := 7) (oi := ({ dst := some 44, op := Op.binOp BinOp.add 9 (Operand.tmp 43) (Operand.const (Value.string { data := #[41] })) 9, type := 9, pos := "l4_stm.go:693", after := #[{ on := 6, ground := Ground.data }], guard := none } : Oper)) (v := .string (⟨#[99, 114, 101, 97, 116, 101, 32, 116, 97, 98, 108, 101, 32]⟩ ++ d.tb ++ ⟨#[32, 40]⟩ ++ X ++ ⟨#[41]⟩)) rfl (by kernel_rfl) (by kernel_rfl) (by kernel_rfl) (fun _ _ _ h => h) (Or.inl ⟨by rfl, fun x hSw => (by go_simp; try omega)⟩) hHeld ?_
        try simp only [Act.put, List.setIfInBounds_toArray, List.set_cons_zero, List.set_cons_succ]
        refine' wpAnyH_take (i := 8) (oi := ({ dst := some 2, op := Op.assign (Operand.tmp 44), type := 9, pos := "l4_stm.go:693", after := #[{ on := 7, ground := Ground.data }, { on := 5, ground := Ground.chain }, { on := 0, ground := Ground.phase }, { on := 1, ground := Ground.phase }, { on := 2, ground := Ground.phase }, { on := 3, ground := Ground.phase }, { on := 4, ground := Ground.phase }, { on := 5, ground := Ground.phase }, { on := 6, ground := Ground.phase }, { on := 7, ground := Ground.phase }], guard := none } : Oper)) (v := _) rfl (by kernel_rfl) (by kernel_rfl) (by kernel_rfl) (fun _ _ _ h => h) (Or.inl ⟨by rfl, fun x hSw => ?hyz6_8⟩) hHeld ?restz6_8
        case hyz6_8 =>
          obtain ⟨k0, k1, k2, k3, k4, k5, k6, k7⟩ := hQ2.later hSw
          go_simp
          try with_reducible rfl
        try simp only [Act.put, List.setIfInBounds_toArray, List.set_cons_zero, List.set_cons_succ]
        refine wpAnyH_done (by kernel_rfl) ?_ _
        go_wp2
        go_ret
        exact ⟨by rw [HSS.out]; rfl, bstep hB2 hHeld⟩
set_option maxRecDepth 20000 in
set_option maxHeartbeats 8000000 in
theorem sPrint2 (d : St) (p : Sa) (w : World) (hM : SM w d p) (hR : RG d) (hok : okStm d = true) (hk : d.k = 2) : Calls Tryz.prog 11 #[.agg (cs8 d p)] w fun e w' => e = .returned (.string (sqlS d)) ∧ Below w.heap.size w w' := by
    obtain ⟨a2, c2, a3, c3, a5, c5, a6, c6, a7, c7⟩ := p
    have hb0 := bal w (.cells (cs8 d (⟨a2, c2, a3, c3, a5, c5, a6, c6, a7, c7⟩ : Sa)) 27)
    have hQ0 := B8.new w d (⟨a2, c2, a3, c3, a5, c5, a6, c6, a7, c7⟩ : Sa) 27
    have htb := (okS hok).1
    have HS : sqlS d = ⟨#[105, 110, 115, 101, 114, 116, 32, 105, 110, 116, 111, 32]⟩ ++ d.tb ++ ⟨#[32, 118, 97, 108, 117, 101, 115, 32, 40]⟩ ++ cm (fun k => valS (d.V k).o (d.V k).m (d.V k).s) d.n3 ++ ⟨#[41]⟩ := by unfold sqlS; rw [if_neg (by omega), if_pos hk]
    obtain ⟨l1, l2⟩ := m2 hok hR hk
    have lz := cm_le l1 l2
    have HC := hM.va
    dsimp only at HC
    have HT2 : Hid (∀ k, k < d.n3 → (valS (d.V k).o (d.V k).m (d.V k).s).size ≤ 1000000) := fun k hk => Nat.le_trans (l2 k hk) (by omega)
    clear l2
    obtain ⟨i0, hi, hz0, hz1, hz2⟩ := info_parts Tryz.infoStr
    have HI : Hid (Tryz.prog.info? 9 = some i0) := hi
    clear hi
    have n1 : (d.k == 1) = false := by simp; omega
    have n2 : (d.k == 2) = true := by simp; omega
    have HSS : Hid (sqlS d = ⟨#[105, 110, 115, 101, 114, 116, 32, 105, 110, 116, 111, 32]⟩ ++ d.tb ++ ⟨#[32, 118, 97, 108, 117, 101, 115, 32, 40]⟩ ++ cm (fun k => valS (d.V k).o (d.V k).m (d.V k).s) d.n3 ++ ⟨#[41]⟩) := HS
    have HOK : Hid (okStm d = true) := hok
    clear HS hk hok
    go_enter Tryz.func11, Tryz.ntmps11
    go_upto_region 3 with (go_at_call 37; refine (sStm d (⟨a2, c2, a3, c3, a5, c5, a6, c6, a7, c7⟩ : Sa) _ (hM.later hb0)).mono ?_; rw [HOK.out]; rintro e w1 ⟨rfl, hb1⟩; have hQ1 := hQ0.later hb1; have hB1 := bstep hb0 hb1; obtain ⟨x0, x1, x2, x3, x4, x5, x6, x7⟩ := id hQ1; have hQA := hQ1.later (bal w1 (.cells #[] 9)); obtain ⟨y0, y1, y2, y3, y4, y5, y6, y7⟩ := id hQA; have hBA := bstep hB1 (bal w1 (.cells #[] 9)))
    go_wp2
    go_loopw [3, 50] (fun v i wr => ∃ (k g cap : Nat), k ≤ d.n3 ∧ i = .int .i64 k ∧ v = .slice (some ⟨g, 0, none⟩) k cap ∧ wr.ownsRow w1.heap.size 9 1 (.slice (some ⟨g, 0, none⟩) k cap) k (tx (fun k => valS (d.V k).o (d.V k).m (d.V k).s) k) ∧ Below w1.heap.size w1 wr) (fun _ i _ => d.n3 - (intOf i).toNat)
    case atStart =>
      refine ⟨0, w1.heap.size, 0, by omega, rfl, rfl, ?_, bal _ _⟩
      exact World.ownsRow_made w1 #[] 0 (Nat.le_refl _) (by unfold maxLen; omega) rfl
    case round =>
      obtain ⟨k, g, cap, hk, rfl, rfl, hO, hb⟩ := hrel
      have hB2 := bstep hB1 hb
      have hsb := hb.size
      by_cases hlt : k < d.n3
      · have hgg := grow_le hO
        have hgl := (hO.lt g rfl).2
        have hcp := own_cap hO
        have hnx := tx_next (fun k => valS (d.V k).o (d.V k).m (d.V k).s) k
        have HNX : Hid (tx (fun k => valS (d.V k).o (d.V k).m (d.V k).s) k ++ [.string ((fun k => valS (d.V k).o (d.V k).m (d.V k).s) k)] = tx (fun k => valS (d.V k).o (d.V k).m (d.V k).s) (k + 1)) := hnx
        clear hnx
        obtain ⟨b, off, rfl, c0, c1, c2, hs⟩ := HC.later hB2 k hlt
        have hr := hR.va k hlt
        have hO1 := hO.alloc (.cells #[.int .i64 (d.V k).o, .int .i64 (d.V k).m, .string (d.V k).s] 51)
        go_wp2_with (first | (go_at_call 39; refine (sShow _ _ _ _ hr hs).mono ?_; rintro e w2 ⟨rfl, hb2⟩; have hO2 := own_below hO1 hb2; replace hb2 := bstep (bal wr (.cells #[.int .i64 (d.V k).o, .int .i64 (d.V k).m, .string (d.V k).s] 51)) hb2; have hs2 := hb2.size) | (at_builtin; refine wpList_append_lies _ rfl _ _ _ rfl w1.heap.size 9 i0 (.string ByteArray.empty) 1 16 Tryz.underlying71 HI.out hz0 hz1 hz2 rfl (by omega) _ k _ rfl (hO2.alloc _) ⟨w2.heap.size, 0, none⟩ 1 1 [.string (valS (d.V k).o (d.V k).m (d.V k).s)] rfl rfl (World.news_of_block (heap_alloc_new w2 _)) (ones _ rfl) (by omega) (by unfold maxLen; omega) (by omega) (by simp; omega) _ rfl ?_; intro g4 cap4 w4 hO4 hgr4 hat4 hlt4))
        have Q6 : Below w1.heap.size w1 w4 := by
          have x1 := bstep hb hb2
          exact (x1.alloc x1.size _).grown hgr4 (by have := x1.size; simp; omega) (fun j hj => by have e : g = j := Option.some.inj hj; omega)
        go_roundw
        case rel => first | exact ⟨k + 1, g4, cap4, by omega, by go_num, rfl, by rw [← HNX.out]; exact hO4, Q6⟩ | ((repeat apply Exists.intro); exact ⟨⟨k + 1, g4, cap4, by omega, by go_num, rfl, by rw [← HNX.out]; exact hO4, Q6⟩, rfl⟩)
        case measure => simp [intOf]; omega
      · obtain rfl : k = d.n3 := by omega
        have hQ2 := hQ1.later hb
        obtain ⟨z0, z1, z2, z3, z4, z5, z6, z7⟩ := id hQ2
        have hX := fun v hv => sCommas (some ⟨g, 0, none⟩) d.n3 cap (fun k => valS (d.V k).o (d.V k).m (d.V k).s) v ((tx_ts hO).later hv) (by omega) HT2.out
        obtain ⟨X, hX2⟩ : ∃ X, cm (fun k => valS (d.V k).o (d.V k).m (d.V k).s) d.n3 = X := ⟨_, rfl⟩
        rw [hX2] at hX lz HSS
        clear hX2 hO
        go_wp2
        refine wp_region_held_drew (S := fun x => Below wr.heap.size wr x) (by kernel_rfl) (bdrew _) (fun hHeld => ?_)
        refine' wpAnyH_take (i := 0) (oi := ({ dst := some 60, op := Op.fieldAddr 27 (Operand.tmp 1) 1, type := 0, pos := "l4_stm.go:698", after := #[], guard := none } : Oper)) (v := _) rfl (by kernel_rfl) (by kernel_rfl) (by kernel_rfl) (fun _ _ _ h => h) (Or.inl ⟨by rfl, fun x hSw => ?hyz7_0⟩) hHeld ?restz7_0
        case hyz7_0 =>
          obtain ⟨k0, k1, k2, k3, k4, k5, k6, k7⟩ := hQ2.later hSw
          go_simp
          try with_reducible rfl
        try simp only [Act.put, List.setIfInBounds_toArray, List.set_cons_zero, List.set_cons_succ]
        refine' wpAnyH_take (i := 1) (oi := ({ dst := some 61, op := Op.load 9 (Operand.tmp 60), type := 9, pos := "l4_stm.go:698", after := #[{ on := 0, ground := Ground.data }], guard := none } : Oper)) (v := _) rfl (by kernel_rfl) (by kernel_rfl) (by kernel_rfl) (fun _ _ _ h => h) (Or.inl ⟨by rfl, fun x hSw => ?hyz7_1⟩) hHeld ?restz7_1
        case hyz7_1 =>
          obtain ⟨k0, k1, k2, k3, k4, k5, k6, k7⟩ := hQ2.later hSw
          go_simp
          try with_reducible rfl
        try simp only [Act.put, List.setIfInBounds_toArray, List.set_cons_zero, List.set_cons_succ]
        refine wpAnyH_take (i := 2) (oi := ({ dst := some 62, op := Op.binOp BinOp.add 9 (Operand.const (Value.string { data := #[105, 110, 115, 101, 114, 116, 32, 105, 110, 116, 111, 32] })) (Operand.tmp 61) 9, type := 9, pos := "l4_stm.go:698", after := #[{ on := 1, ground := Ground.data }], guard := none } : Oper)) (v := .string (⟨#[105, 110, 115, 101, 114, 116, 32, 105, 110, 116, 111, 32]⟩ ++ d.tb)) rfl (by kernel_rfl) (by kernel_rfl) (by kernel_rfl) (fun _ _ _ h => h) (Or.inl ⟨by rfl, fun x hSw => (by go_simp; try omega)⟩) hHeld ?_
        try simp only [Act.put, List.setIfInBounds_toArray, List.set_cons_zero, List.set_cons_succ]
        refine wpAnyH_take (i := 3) (oi := ({ dst := some 63, op := Op.binOp BinOp.add 9 (Operand.tmp 62) (Operand.const (Value.string { data := #[32, 118, 97, 108, 117, 101, 115, 32, 40] })) 9, type := 9, pos := "l4_stm.go:698", after := #[{ on := 2, ground := Ground.data }], guard := none } : Oper)) (v := .string (⟨#[105, 110, 115, 101, 114, 116, 32, 105, 110, 116, 111, 32]⟩ ++ d.tb ++ ⟨#[32, 118, 97, 108, 117, 101, 115, 32, 40]⟩)) rfl (by kernel_rfl) (by kernel_rfl) (by kernel_rfl) (fun _ _ _ h => h) (Or.inl ⟨by rfl, fun x hSw => (by go_simp; try omega)⟩) hHeld ?_
        try simp only [Act.put, List.setIfInBounds_toArray, List.set_cons_zero, List.set_cons_succ]
        refine' wpAnyH_take (i := 4) (oi := ({ dst := some 64, op := Op.move (Operand.tmp 3), type := 71, pos := "l4_stm.go:698", after := #[], guard := none } : Oper)) (v := _) rfl (by kernel_rfl) (by kernel_rfl) (by kernel_rfl) (fun _ _ _ h => h) (Or.inl ⟨by rfl, fun x hSw => ?hyz7_4⟩) hHeld ?restz7_4
        case hyz7_4 =>
          obtain ⟨k0, k1, k2, k3, k4, k5, k6, k7⟩ := hQ2.later hSw
          go_simp
          try with_reducible rfl
        try simp only [Act.put, List.setIfInBounds_toArray, List.set_cons_zero, List.set_cons_succ]
        refine wpAnyH_ready (rs := [5]) (by kernel_rfl) (by simp) ?_
        refine AllReadyH.cons (o := ({ dst := some 65, op := Op.call { callee := Callee.value (Operand.func 38), args := #[Operand.tmp 64], argTypes := #[71] }, type := 9, pos := "l4_stm.go:698", after := #[{ on := 4, ground := Ground.data }], guard := none } : Oper)) rfl (fun K hK => ?_) AllReadyH.nil
        go_simp
        refine (hX _ hHeld).mono ?_
        rintro e w5 ⟨rfl, rfl⟩
        refine hK.out _ _ (hHeld) (fun hHeld => ?_)
        clear hK K
        try simp only [Act.put, List.setIfInBounds_toArray, List.set_cons_zero, List.set_cons_succ]
        refine wpAnyH_take (i := 6) (oi := ({ dst := some 66, op := Op.binOp BinOp.add 9 (Operand.tmp 63) (Operand.tmp 65) 9, type := 9, pos := "l4_stm.go:698", after := #[{ on := 3, ground := Ground.data }, { on := 5, ground := Ground.data }], guard := none } : Oper)) (v := .string (⟨#[105, 110, 115, 101, 114, 116, 32, 105, 110, 116, 111, 32]⟩ ++ d.tb ++ ⟨#[32, 118, 97, 108, 117, 101, 115, 32, 40]⟩ ++ X)) rfl (by kernel_rfl) (by kernel_rfl) (by kernel_rfl) (fun _ _ _ h => h) (Or.inl ⟨by rfl, fun x hSw => (by go_simp; try omega)⟩) hHeld ?_
        try simp only [Act.put, List.setIfInBounds_toArray, List.set_cons_zero, List.set_cons_succ]
        refine wpAnyH_take (i := 7) (oi := ({ dst := some 67, op := Op.binOp BinOp.add 9 (Operand.tmp 66) (Operand.const (Value.string { data := #[41] })) 9, type := 9, pos := "l4_stm.go:698", after := #[{ on := 6, ground := Ground.data }], guard := none } : Oper)) (v := .string (⟨#[105, 110, 115, 101, 114, 116, 32, 105, 110, 116, 111, 32]⟩ ++ d.tb ++ ⟨#[32, 118, 97, 108, 117, 101, 115, 32, 40]⟩ ++ X ++ ⟨#[41]⟩)) rfl (by kernel_rfl) (by kernel_rfl) (by kernel_rfl) (fun _ _ _ h => h) (Or.inl ⟨by rfl, fun x hSw => (by go_simp; try omega)⟩) hHeld ?_
        try simp only [Act.put, List.setIfInBounds_toArray, List.set_cons_zero, List.set_cons_succ]
        refine' wpAnyH_take (i := 8) (oi := ({ dst := some 2, op := Op.assign (Operand.tmp 67), type := 9, pos := "l4_stm.go:698", after := #[{ on := 7, ground := Ground.data }, { on := 5, ground := Ground.chain }, { on := 0, ground := Ground.phase }, { on := 1, ground := Ground.phase }, { on := 2, ground := Ground.phase }, { on := 3, ground := Ground.phase }, { on := 4, ground := Ground.phase }, { on := 5, ground := Ground.phase }, { on := 6, ground := Ground.phase }, { on := 7, ground := Ground.phase }], guard := none } : Oper)) (v := _) rfl (by kernel_rfl) (by kernel_rfl) (by kernel_rfl) (fun _ _ _ h => h) (Or.inl ⟨by rfl, fun x hSw => ?hyz7_8⟩) hHeld ?restz7_8
        case hyz7_8 =>
          obtain ⟨k0, k1, k2, k3, k4, k5, k6, k7⟩ := hQ2.later hSw
          go_simp
          try with_reducible rfl
        try simp only [Act.put, List.setIfInBounds_toArray, List.set_cons_zero, List.set_cons_succ]
        refine wpAnyH_done (by kernel_rfl) ?_ _
        go_wp2
        go_ret
        exact ⟨by rw [HSS.out]; rfl, bstep hB2 hHeld⟩
set_option maxRecDepth 20000 in
set_option maxHeartbeats 8000000 in
theorem sPrint3 (d : St) (p : Sa) (w : World) (hM : SM w d p) (hR : RG d) (hok : okStm d = true) (hk : d.k = 3) : Calls Tryz.prog 11 #[.agg (cs8 d p)] w fun e w' => e = .returned (.string (sqlS d)) ∧ Below w.heap.size w w' := by
    have hb0 := bal w (.cells (cs8 d p) 27)
    have hQ0 := B8.new w d p 27
    have htb := (okS hok).1
    have HS : sqlS d = ⟨#[117, 112, 100, 97, 116, 101, 32]⟩ ++ d.tb ++ ⟨#[32, 115, 101, 116, 32]⟩ ++ d.col ++ ⟨#[32, 61, 32]⟩ ++ exS d.E d.n5 ++ whS d.W d.n6 := by unfold sqlS; rw [if_neg (by omega), if_neg (by omega), if_pos hk]
    obtain ⟨l1, l2, l3⟩ := m3 hok hk
    have lz := exS_size l2 hR.ex
    have ly := whS_size l3 hR.wh
    have hL := fun v hb => sExpT p.a5 d.n5 p.c5 d.E v (hM.ex.later hb) l2 hR.ex
    have hY := fun v hb => sWhereT p.a6 d.n6 p.c6 d.W v (hM.wh.later hb) l3 hR.wh
    obtain ⟨X, hX⟩ : ∃ X, exS d.E d.n5 = X := ⟨_, rfl⟩
    obtain ⟨Y, hY2⟩ : ∃ Y, whS d.W d.n6 = Y := ⟨_, rfl⟩
    rw [hX] at hL lz HS
    rw [hY2] at hY ly HS
    clear hX hY2 l2 l3
    have n1 : (d.k == 1) = false := by simp; omega
    have n2 : (d.k == 2) = false := by simp; omega
    have n3 : (d.k == 3) = true := by simp; omega
    have HSS : Hid (sqlS d = ⟨#[117, 112, 100, 97, 116, 101, 32]⟩ ++ d.tb ++ ⟨#[32, 115, 101, 116, 32]⟩ ++ d.col ++ ⟨#[32, 61, 32]⟩ ++ X ++ Y) := HS
    have HOK : Hid (okStm d = true) := hok
    clear HS hk hok
    go_enter Tryz.func11, Tryz.ntmps11
    go_upto_region 3 with (go_at_call 37; refine (sStm d p _ (hM.later hb0)).mono ?_; rw [HOK.out]; rintro e w1 ⟨rfl, hb1⟩; have hQ1 := hQ0.later hb1; have hB1 := bstep hb0 hb1; obtain ⟨x0, x1, x2, x3, x4, x5, x6, x7⟩ := id hQ1; have hQA := hQ1.later (bal w1 (.cells #[] 9)); obtain ⟨y0, y1, y2, y3, y4, y5, y6, y7⟩ := id hQA; have hBA := bstep hB1 (bal w1 (.cells #[] 9)))
    go_wp2
    refine wp_region_held_drew (S := fun x => Below (w1.alloc (.cells #[] 9)).heap.size (w1.alloc (.cells #[] 9)) x) (by kernel_rfl) (bdrew _) (fun hHeld => ?_)
    refine' wpAnyH_take (i := 0) (oi := ({ dst := some 70, op := Op.fieldAddr 27 (Operand.tmp 1) 1, type := 0, pos := "l4_stm.go:700", after := #[], guard := none } : Oper)) (v := _) rfl (by kernel_rfl) (by kernel_rfl) (by kernel_rfl) (fun _ _ _ h => h) (Or.inl ⟨by rfl, fun x hSw => ?hyz8_0⟩) hHeld ?restz8_0
    case hyz8_0 =>
      obtain ⟨k0, k1, k2, k3, k4, k5, k6, k7⟩ := hQA.later hSw
      go_simp
      try with_reducible rfl
    try simp only [Act.put, List.setIfInBounds_toArray, List.set_cons_zero, List.set_cons_succ]
    refine' wpAnyH_take (i := 1) (oi := ({ dst := some 71, op := Op.load 9 (Operand.tmp 70), type := 9, pos := "l4_stm.go:700", after := #[{ on := 0, ground := Ground.data }], guard := none } : Oper)) (v := _) rfl (by kernel_rfl) (by kernel_rfl) (by kernel_rfl) (fun _ _ _ h => h) (Or.inl ⟨by rfl, fun x hSw => ?hyz8_1⟩) hHeld ?restz8_1
    case hyz8_1 =>
      obtain ⟨k0, k1, k2, k3, k4, k5, k6, k7⟩ := hQA.later hSw
      go_simp
      try with_reducible rfl
    try simp only [Act.put, List.setIfInBounds_toArray, List.set_cons_zero, List.set_cons_succ]
    refine wpAnyH_take (i := 2) (oi := ({ dst := some 72, op := Op.binOp BinOp.add 9 (Operand.const (Value.string { data := #[117, 112, 100, 97, 116, 101, 32] })) (Operand.tmp 71) 9, type := 9, pos := "l4_stm.go:700", after := #[{ on := 1, ground := Ground.data }], guard := none } : Oper)) (v := .string (⟨#[117, 112, 100, 97, 116, 101, 32]⟩ ++ d.tb)) rfl (by kernel_rfl) (by kernel_rfl) (by kernel_rfl) (fun _ _ _ h => h) (Or.inl ⟨by rfl, fun x hSw => (by go_simp; try omega)⟩) hHeld ?_
    try simp only [Act.put, List.setIfInBounds_toArray, List.set_cons_zero, List.set_cons_succ]
    refine wpAnyH_take (i := 3) (oi := ({ dst := some 73, op := Op.binOp BinOp.add 9 (Operand.tmp 72) (Operand.const (Value.string { data := #[32, 115, 101, 116, 32] })) 9, type := 9, pos := "l4_stm.go:700", after := #[{ on := 2, ground := Ground.data }], guard := none } : Oper)) (v := .string (⟨#[117, 112, 100, 97, 116, 101, 32]⟩ ++ d.tb ++ ⟨#[32, 115, 101, 116, 32]⟩)) rfl (by kernel_rfl) (by kernel_rfl) (by kernel_rfl) (fun _ _ _ h => h) (Or.inl ⟨by rfl, fun x hSw => (by go_simp; try omega)⟩) hHeld ?_
    try simp only [Act.put, List.setIfInBounds_toArray, List.set_cons_zero, List.set_cons_succ]
    refine' wpAnyH_take (i := 4) (oi := ({ dst := some 74, op := Op.fieldAddr 27 (Operand.tmp 1) 4, type := 0, pos := "l4_stm.go:700", after := #[], guard := none } : Oper)) (v := _) rfl (by kernel_rfl) (by kernel_rfl) (by kernel_rfl) (fun _ _ _ h => h) (Or.inl ⟨by rfl, fun x hSw => ?hyz8_4⟩) hHeld ?restz8_4
    case hyz8_4 =>
      obtain ⟨k0, k1, k2, k3, k4, k5, k6, k7⟩ := hQA.later hSw
      go_simp
      try with_reducible rfl
    try simp only [Act.put, List.setIfInBounds_toArray, List.set_cons_zero, List.set_cons_succ]
    refine' wpAnyH_take (i := 5) (oi := ({ dst := some 75, op := Op.load 9 (Operand.tmp 74), type := 9, pos := "l4_stm.go:700", after := #[{ on := 4, ground := Ground.data }], guard := none } : Oper)) (v := _) rfl (by kernel_rfl) (by kernel_rfl) (by kernel_rfl) (fun _ _ _ h => h) (Or.inl ⟨by rfl, fun x hSw => ?hyz8_5⟩) hHeld ?restz8_5
    case hyz8_5 =>
      obtain ⟨k0, k1, k2, k3, k4, k5, k6, k7⟩ := hQA.later hSw
      go_simp
      try with_reducible rfl
    try simp only [Act.put, List.setIfInBounds_toArray, List.set_cons_zero, List.set_cons_succ]
    refine wpAnyH_take (i := 6) (oi := ({ dst := some 76, op := Op.binOp BinOp.add 9 (Operand.tmp 73) (Operand.tmp 75) 9, type := 9, pos := "l4_stm.go:700", after := #[{ on := 3, ground := Ground.data }, { on := 5, ground := Ground.data }], guard := none } : Oper)) (v := .string (⟨#[117, 112, 100, 97, 116, 101, 32]⟩ ++ d.tb ++ ⟨#[32, 115, 101, 116, 32]⟩ ++ d.col)) rfl (by kernel_rfl) (by kernel_rfl) (by kernel_rfl) (fun _ _ _ h => h) (Or.inl ⟨by rfl, fun x hSw => (by go_simp; try omega)⟩) hHeld ?_
    try simp only [Act.put, List.setIfInBounds_toArray, List.set_cons_zero, List.set_cons_succ]
    refine wpAnyH_take (i := 7) (oi := ({ dst := some 77, op := Op.binOp BinOp.add 9 (Operand.tmp 76) (Operand.const (Value.string { data := #[32, 61, 32] })) 9, type := 9, pos := "l4_stm.go:700", after := #[{ on := 6, ground := Ground.data }], guard := none } : Oper)) (v := .string (⟨#[117, 112, 100, 97, 116, 101, 32]⟩ ++ d.tb ++ ⟨#[32, 115, 101, 116, 32]⟩ ++ d.col ++ ⟨#[32, 61, 32]⟩)) rfl (by kernel_rfl) (by kernel_rfl) (by kernel_rfl) (fun _ _ _ h => h) (Or.inl ⟨by rfl, fun x hSw => (by go_simp; try omega)⟩) hHeld ?_
    try simp only [Act.put, List.setIfInBounds_toArray, List.set_cons_zero, List.set_cons_succ]
    refine' wpAnyH_take (i := 8) (oi := ({ dst := some 78, op := Op.fieldAddr 27 (Operand.tmp 1) 5, type := 0, pos := "l4_stm.go:700", after := #[], guard := none } : Oper)) (v := _) rfl (by kernel_rfl) (by kernel_rfl) (by kernel_rfl) (fun _ _ _ h => h) (Or.inl ⟨by rfl, fun x hSw => ?hyz8_8⟩) hHeld ?restz8_8
    case hyz8_8 =>
      obtain ⟨k0, k1, k2, k3, k4, k5, k6, k7⟩ := hQA.later hSw
      go_simp
      try with_reducible rfl
    try simp only [Act.put, List.setIfInBounds_toArray, List.set_cons_zero, List.set_cons_succ]
    refine' wpAnyH_take (i := 9) (oi := ({ dst := some 79, op := Op.load 24 (Operand.tmp 78), type := 24, pos := "l4_stm.go:700", after := #[{ on := 8, ground := Ground.data }], guard := none } : Oper)) (v := _) rfl (by kernel_rfl) (by kernel_rfl) (by kernel_rfl) (fun _ _ _ h => h) (Or.inl ⟨by rfl, fun x hSw => ?hyz8_9⟩) hHeld ?restz8_9
    case hyz8_9 =>
      obtain ⟨k0, k1, k2, k3, k4, k5, k6, k7⟩ := hQA.later hSw
      go_simp
      try with_reducible rfl
    try simp only [Act.put, List.setIfInBounds_toArray, List.set_cons_zero, List.set_cons_succ]
    refine' wpAnyH_take (i := 12) (oi := ({ dst := some 82, op := Op.fieldAddr 27 (Operand.tmp 1) 6, type := 0, pos := "l4_stm.go:700", after := #[], guard := none } : Oper)) (v := _) rfl (by kernel_rfl) (by kernel_rfl) (by kernel_rfl) (fun _ _ _ h => h) (Or.inl ⟨by rfl, fun x hSw => ?hyz8_12⟩) hHeld ?restz8_12
    case hyz8_12 =>
      obtain ⟨k0, k1, k2, k3, k4, k5, k6, k7⟩ := hQA.later hSw
      go_simp
      try with_reducible rfl
    try simp only [Act.put, List.setIfInBounds_toArray, List.set_cons_zero, List.set_cons_succ]
    refine' wpAnyH_take (i := 13) (oi := ({ dst := some 83, op := Op.load 24 (Operand.tmp 82), type := 24, pos := "l4_stm.go:700", after := #[{ on := 12, ground := Ground.data }], guard := none } : Oper)) (v := _) rfl (by kernel_rfl) (by kernel_rfl) (by kernel_rfl) (fun _ _ _ h => h) (Or.inl ⟨by rfl, fun x hSw => ?hyz8_13⟩) hHeld ?restz8_13
    case hyz8_13 =>
      obtain ⟨k0, k1, k2, k3, k4, k5, k6, k7⟩ := hQA.later hSw
      go_simp
      try with_reducible rfl
    try simp only [Act.put, List.setIfInBounds_toArray, List.set_cons_zero, List.set_cons_succ]
    refine wpAnyH_ready (rs := [10]) (by kernel_rfl) (by simp) ?_
    refine AllReadyH.cons (o := ({ dst := some 80, op := Op.call { callee := Callee.value (Operand.func 40), args := #[Operand.tmp 79], argTypes := #[24] }, type := 9, pos := "l4_stm.go:700", after := #[{ on := 9, ground := Ground.data }], guard := none } : Oper)) rfl (fun K hK => ?_) AllReadyH.nil
    go_simp
    refine (hL _ (bstep hBA hHeld)).mono ?_
    rintro e w5 ⟨rfl, hb5⟩
    refine hK.out _ _ (bstep hHeld hb5) (fun hHeld => ?_)
    clear hK K
    try simp only [Act.put, List.setIfInBounds_toArray, List.set_cons_zero, List.set_cons_succ]
    refine wpAnyH_take (i := 11) (oi := ({ dst := some 81, op := Op.binOp BinOp.add 9 (Operand.tmp 77) (Operand.tmp 80) 9, type := 9, pos := "l4_stm.go:700", after := #[{ on := 7, ground := Ground.data }, { on := 10, ground := Ground.data }], guard := none } : Oper)) (v := .string (⟨#[117, 112, 100, 97, 116, 101, 32]⟩ ++ d.tb ++ ⟨#[32, 115, 101, 116, 32]⟩ ++ d.col ++ ⟨#[32, 61, 32]⟩ ++ X)) rfl (by kernel_rfl) (by kernel_rfl) (by kernel_rfl) (fun _ _ _ h => h) (Or.inl ⟨by rfl, fun x hSw => (by go_simp; try omega)⟩) hHeld ?_
    try simp only [Act.put, List.setIfInBounds_toArray, List.set_cons_zero, List.set_cons_succ]
    refine wpAnyH_ready (rs := [14]) (by kernel_rfl) (by simp) ?_
    refine AllReadyH.cons (o := ({ dst := some 84, op := Op.call { callee := Callee.value (Operand.func 41), args := #[Operand.tmp 83], argTypes := #[24] }, type := 9, pos := "l4_stm.go:700", after := #[{ on := 13, ground := Ground.data }, { on := 10, ground := Ground.chain }], guard := none } : Oper)) rfl (fun K hK => ?_) AllReadyH.nil
    go_simp
    refine (hY _ (bstep hBA hHeld)).mono ?_
    rintro e w6 ⟨rfl, hb6⟩
    refine hK.out _ _ (bstep hHeld hb6) (fun hHeld => ?_)
    clear hK K
    try simp only [Act.put, List.setIfInBounds_toArray, List.set_cons_zero, List.set_cons_succ]
    refine wpAnyH_take (i := 15) (oi := ({ dst := some 85, op := Op.binOp BinOp.add 9 (Operand.tmp 81) (Operand.tmp 84) 9, type := 9, pos := "l4_stm.go:700", after := #[{ on := 11, ground := Ground.data }, { on := 14, ground := Ground.data }], guard := none } : Oper)) (v := .string (⟨#[117, 112, 100, 97, 116, 101, 32]⟩ ++ d.tb ++ ⟨#[32, 115, 101, 116, 32]⟩ ++ d.col ++ ⟨#[32, 61, 32]⟩ ++ X ++ Y)) rfl (by kernel_rfl) (by kernel_rfl) (by kernel_rfl) (fun _ _ _ h => h) (Or.inl ⟨by rfl, fun x hSw => (by go_simp; try omega)⟩) hHeld ?_
    try simp only [Act.put, List.setIfInBounds_toArray, List.set_cons_zero, List.set_cons_succ]
    refine' wpAnyH_take (i := 16) (oi := ({ dst := some 2, op := Op.assign (Operand.tmp 85), type := 9, pos := "l4_stm.go:700", after := #[{ on := 15, ground := Ground.data }, { on := 14, ground := Ground.chain }, { on := 0, ground := Ground.phase }, { on := 1, ground := Ground.phase }, { on := 2, ground := Ground.phase }, { on := 3, ground := Ground.phase }, { on := 4, ground := Ground.phase }, { on := 5, ground := Ground.phase }, { on := 6, ground := Ground.phase }, { on := 7, ground := Ground.phase }, { on := 8, ground := Ground.phase }, { on := 9, ground := Ground.phase }, { on := 10, ground := Ground.phase }, { on := 11, ground := Ground.phase }, { on := 12, ground := Ground.phase }, { on := 13, ground := Ground.phase }, { on := 14, ground := Ground.phase }, { on := 15, ground := Ground.phase }], guard := none } : Oper)) (v := _) rfl (by kernel_rfl) (by kernel_rfl) (by kernel_rfl) (fun _ _ _ h => h) (Or.inl ⟨by rfl, fun x hSw => ?hyz8_16⟩) hHeld ?restz8_16
    case hyz8_16 =>
      obtain ⟨k0, k1, k2, k3, k4, k5, k6, k7⟩ := hQA.later hSw
      go_simp
      try with_reducible rfl
    try simp only [Act.put, List.setIfInBounds_toArray, List.set_cons_zero, List.set_cons_succ]
    refine wpAnyH_done (by kernel_rfl) ?_ _
    go_wp2
    go_ret
    exact ⟨by rw [HSS.out]; rfl, bstep hBA hHeld⟩
set_option maxRecDepth 20000 in
set_option maxHeartbeats 8000000 in
theorem sPrint4 (d : St) (p : Sa) (w : World) (hM : SM w d p) (hR : RG d) (hok : okStm d = true) (hk : d.k = 4) : Calls Tryz.prog 11 #[.agg (cs8 d p)] w fun e w' => e = .returned (.string (sqlS d)) ∧ Below w.heap.size w w' := by
    have hb0 := bal w (.cells (cs8 d p) 27)
    have hQ0 := B8.new w d p 27
    have htb := (okS hok).1
    have HS : sqlS d = ⟨#[100, 101, 108, 101, 116, 101, 32, 102, 114, 111, 109, 32]⟩ ++ d.tb ++ whS d.W d.n6 := by unfold sqlS; rw [if_neg (by omega), if_neg (by omega), if_neg (by omega), if_pos hk]
    have l3 := m4 hok hk
    have ly := whS_size l3 hR.wh
    have hY := fun v hb => sWhereT p.a6 d.n6 p.c6 d.W v (hM.wh.later hb) l3 hR.wh
    obtain ⟨Y, hY2⟩ : ∃ Y, whS d.W d.n6 = Y := ⟨_, rfl⟩
    rw [hY2] at hY ly HS
    clear hY2 l3
    have n1 : (d.k == 1) = false := by simp; omega
    have n2 : (d.k == 2) = false := by simp; omega
    have n3 : (d.k == 3) = false := by simp; omega
    have n4 : (d.k == 4) = true := by simp; omega
    have HSS : Hid (sqlS d = ⟨#[100, 101, 108, 101, 116, 101, 32, 102, 114, 111, 109, 32]⟩ ++ d.tb ++ Y) := HS
    have HOK : Hid (okStm d = true) := hok
    clear HS hk hok
    go_enter Tryz.func11, Tryz.ntmps11
    go_upto_region 3 with (go_at_call 37; refine (sStm d p _ (hM.later hb0)).mono ?_; rw [HOK.out]; rintro e w1 ⟨rfl, hb1⟩; have hQ1 := hQ0.later hb1; have hB1 := bstep hb0 hb1; obtain ⟨x0, x1, x2, x3, x4, x5, x6, x7⟩ := id hQ1; have hQA := hQ1.later (bal w1 (.cells #[] 9)); obtain ⟨y0, y1, y2, y3, y4, y5, y6, y7⟩ := id hQA; have hBA := bstep hB1 (bal w1 (.cells #[] 9)))
    go_wp2
    refine wp_region_held_drew (S := fun x => Below (w1.alloc (.cells #[] 9)).heap.size (w1.alloc (.cells #[] 9)) x) (by kernel_rfl) (bdrew _) (fun hHeld => ?_)
    refine' wpAnyH_take (i := 0) (oi := ({ dst := some 88, op := Op.fieldAddr 27 (Operand.tmp 1) 1, type := 0, pos := "l4_stm.go:702", after := #[], guard := none } : Oper)) (v := _) rfl (by kernel_rfl) (by kernel_rfl) (by kernel_rfl) (fun _ _ _ h => h) (Or.inl ⟨by rfl, fun x hSw => ?hyz9_0⟩) hHeld ?restz9_0
    case hyz9_0 =>
      obtain ⟨k0, k1, k2, k3, k4, k5, k6, k7⟩ := hQA.later hSw
      go_simp
      try with_reducible rfl
    try simp only [Act.put, List.setIfInBounds_toArray, List.set_cons_zero, List.set_cons_succ]
    refine' wpAnyH_take (i := 1) (oi := ({ dst := some 89, op := Op.load 9 (Operand.tmp 88), type := 9, pos := "l4_stm.go:702", after := #[{ on := 0, ground := Ground.data }], guard := none } : Oper)) (v := _) rfl (by kernel_rfl) (by kernel_rfl) (by kernel_rfl) (fun _ _ _ h => h) (Or.inl ⟨by rfl, fun x hSw => ?hyz9_1⟩) hHeld ?restz9_1
    case hyz9_1 =>
      obtain ⟨k0, k1, k2, k3, k4, k5, k6, k7⟩ := hQA.later hSw
      go_simp
      try with_reducible rfl
    try simp only [Act.put, List.setIfInBounds_toArray, List.set_cons_zero, List.set_cons_succ]
    refine wpAnyH_take (i := 2) (oi := ({ dst := some 90, op := Op.binOp BinOp.add 9 (Operand.const (Value.string { data := #[100, 101, 108, 101, 116, 101, 32, 102, 114, 111, 109, 32] })) (Operand.tmp 89) 9, type := 9, pos := "l4_stm.go:702", after := #[{ on := 1, ground := Ground.data }], guard := none } : Oper)) (v := .string (⟨#[100, 101, 108, 101, 116, 101, 32, 102, 114, 111, 109, 32]⟩ ++ d.tb)) rfl (by kernel_rfl) (by kernel_rfl) (by kernel_rfl) (fun _ _ _ h => h) (Or.inl ⟨by rfl, fun x hSw => (by go_simp; try omega)⟩) hHeld ?_
    try simp only [Act.put, List.setIfInBounds_toArray, List.set_cons_zero, List.set_cons_succ]
    refine' wpAnyH_take (i := 3) (oi := ({ dst := some 91, op := Op.fieldAddr 27 (Operand.tmp 1) 6, type := 0, pos := "l4_stm.go:702", after := #[], guard := none } : Oper)) (v := _) rfl (by kernel_rfl) (by kernel_rfl) (by kernel_rfl) (fun _ _ _ h => h) (Or.inl ⟨by rfl, fun x hSw => ?hyz9_3⟩) hHeld ?restz9_3
    case hyz9_3 =>
      obtain ⟨k0, k1, k2, k3, k4, k5, k6, k7⟩ := hQA.later hSw
      go_simp
      try with_reducible rfl
    try simp only [Act.put, List.setIfInBounds_toArray, List.set_cons_zero, List.set_cons_succ]
    refine' wpAnyH_take (i := 4) (oi := ({ dst := some 92, op := Op.load 24 (Operand.tmp 91), type := 24, pos := "l4_stm.go:702", after := #[{ on := 3, ground := Ground.data }], guard := none } : Oper)) (v := _) rfl (by kernel_rfl) (by kernel_rfl) (by kernel_rfl) (fun _ _ _ h => h) (Or.inl ⟨by rfl, fun x hSw => ?hyz9_4⟩) hHeld ?restz9_4
    case hyz9_4 =>
      obtain ⟨k0, k1, k2, k3, k4, k5, k6, k7⟩ := hQA.later hSw
      go_simp
      try with_reducible rfl
    try simp only [Act.put, List.setIfInBounds_toArray, List.set_cons_zero, List.set_cons_succ]
    refine wpAnyH_ready (rs := [5]) (by kernel_rfl) (by simp) ?_
    refine AllReadyH.cons (o := ({ dst := some 93, op := Op.call { callee := Callee.value (Operand.func 41), args := #[Operand.tmp 92], argTypes := #[24] }, type := 9, pos := "l4_stm.go:702", after := #[{ on := 4, ground := Ground.data }], guard := none } : Oper)) rfl (fun K hK => ?_) AllReadyH.nil
    go_simp
    refine (hY _ (bstep hBA hHeld)).mono ?_
    rintro e w6 ⟨rfl, hb6⟩
    refine hK.out _ _ (bstep hHeld hb6) (fun hHeld => ?_)
    clear hK K
    try simp only [Act.put, List.setIfInBounds_toArray, List.set_cons_zero, List.set_cons_succ]
    refine wpAnyH_take (i := 6) (oi := ({ dst := some 94, op := Op.binOp BinOp.add 9 (Operand.tmp 90) (Operand.tmp 93) 9, type := 9, pos := "l4_stm.go:702", after := #[{ on := 2, ground := Ground.data }, { on := 5, ground := Ground.data }], guard := none } : Oper)) (v := .string (⟨#[100, 101, 108, 101, 116, 101, 32, 102, 114, 111, 109, 32]⟩ ++ d.tb ++ Y)) rfl (by kernel_rfl) (by kernel_rfl) (by kernel_rfl) (fun _ _ _ h => h) (Or.inl ⟨by rfl, fun x hSw => (by go_simp; try omega)⟩) hHeld ?_
    try simp only [Act.put, List.setIfInBounds_toArray, List.set_cons_zero, List.set_cons_succ]
    refine' wpAnyH_take (i := 7) (oi := ({ dst := some 2, op := Op.assign (Operand.tmp 94), type := 9, pos := "l4_stm.go:702", after := #[{ on := 6, ground := Ground.data }, { on := 5, ground := Ground.chain }, { on := 0, ground := Ground.phase }, { on := 1, ground := Ground.phase }, { on := 2, ground := Ground.phase }, { on := 3, ground := Ground.phase }, { on := 4, ground := Ground.phase }, { on := 5, ground := Ground.phase }, { on := 6, ground := Ground.phase }], guard := none } : Oper)) (v := _) rfl (by kernel_rfl) (by kernel_rfl) (by kernel_rfl) (fun _ _ _ h => h) (Or.inl ⟨by rfl, fun x hSw => ?hyz9_7⟩) hHeld ?restz9_7
    case hyz9_7 =>
      obtain ⟨k0, k1, k2, k3, k4, k5, k6, k7⟩ := hQA.later hSw
      go_simp
      try with_reducible rfl
    try simp only [Act.put, List.setIfInBounds_toArray, List.set_cons_zero, List.set_cons_succ]
    refine wpAnyH_done (by kernel_rfl) ?_ _
    go_wp2
    go_ret
    exact ⟨by rw [HSS.out]; rfl, bstep hBA hHeld⟩
set_option maxRecDepth 20000 in
set_option maxHeartbeats 8000000 in
theorem sPrint5 (d : St) (p : Sa) (w : World) (hM : SM w d p) (hR : RG d) (hok : okStm d = true) (hk : d.k = 5) : Calls Tryz.prog 11 #[.agg (cs8 d p)] w fun e w' => e = .returned (.string (sqlS d)) ∧ Below w.heap.size w w' := by
    obtain ⟨a2, c2, a3, c3, a5, c5, a6, c6, a7, c7⟩ := p
    have hb0 := bal w (.cells (cs8 d (⟨a2, c2, a3, c3, a5, c5, a6, c6, a7, c7⟩ : Sa)) 27)
    have hQ0 := B8.new w d (⟨a2, c2, a3, c3, a5, c5, a6, c6, a7, c7⟩ : Sa) 27
    have htb := (okS hok).1
    have HS : sqlS d = ⟨#[115, 101, 108, 101, 99, 116, 32]⟩ ++ cm (fun k => exS (d.O k) (d.m7 k)) d.n7 ++ ⟨#[32, 102, 114, 111, 109, 32]⟩ ++ d.tb ++ whS d.W d.n6 := by unfold sqlS; rw [if_neg (by omega), if_neg (by omega), if_neg (by omega), if_neg (by omega)]
    obtain ⟨l1, l2, l4, l3⟩ := m5 hok hR hk
    have lz := cm_le l1 l4
    have ly := whS_size l3 hR.wh
    have HC := hM.ou
    dsimp only at HC
    have HT2 : Hid (∀ k, k < d.n7 → (exS (d.O k) (d.m7 k)).size ≤ 1000000) := cm_pos l4
    have HL2 : Hid (∀ k, k < d.n7 → okExp (d.O k) (d.m7 k) = true) := l2
    have hY := fun v hb => sWhereT a6 d.n6 c6 d.W v (hM.wh.later hb) l3 hR.wh
    obtain ⟨Y, hY2⟩ : ∃ Y, whS d.W d.n6 = Y := ⟨_, rfl⟩
    rw [hY2] at hY ly HS
    clear hY2 l2 l3 l4
    obtain ⟨i0, hi, hz0, hz1, hz2⟩ := info_parts Tryz.infoStr
    have HI : Hid (Tryz.prog.info? 9 = some i0) := hi
    clear hi
    have n1 : (d.k == 1) = false := by simp; omega
    have n2 : (d.k == 2) = false := by simp; omega
    have n3 : (d.k == 3) = false := by simp; omega
    have n4 : (d.k == 4) = false := by simp; omega
    have HSS : Hid (sqlS d = ⟨#[115, 101, 108, 101, 99, 116, 32]⟩ ++ cm (fun k => exS (d.O k) (d.m7 k)) d.n7 ++ ⟨#[32, 102, 114, 111, 109, 32]⟩ ++ d.tb ++ Y) := HS
    have HOK : Hid (okStm d = true) := hok
    clear HS hk hok
    go_enter Tryz.func11, Tryz.ntmps11
    go_upto_region 3 with (go_at_call 37; refine (sStm d (⟨a2, c2, a3, c3, a5, c5, a6, c6, a7, c7⟩ : Sa) _ (hM.later hb0)).mono ?_; rw [HOK.out]; rintro e w1 ⟨rfl, hb1⟩; have hQ1 := hQ0.later hb1; have hB1 := bstep hb0 hb1; obtain ⟨x0, x1, x2, x3, x4, x5, x6, x7⟩ := id hQ1; have hQA := hQ1.later (bal w1 (.cells #[] 9)); obtain ⟨y0, y1, y2, y3, y4, y5, y6, y7⟩ := id hQA; have hBA := bstep hB1 (bal w1 (.cells #[] 9)))
    go_wp2
    go_loopw [3, 98] (fun v i wr => ∃ (k g cap : Nat), k ≤ d.n7 ∧ i = .int .i64 k ∧ v = .slice (some ⟨g, 0, none⟩) k cap ∧ wr.ownsRow w1.heap.size 9 1 (.slice (some ⟨g, 0, none⟩) k cap) k (tx (fun k => exS (d.O k) (d.m7 k)) k) ∧ Below w1.heap.size w1 wr) (fun _ i _ => d.n7 - (intOf i).toNat)
    case atStart =>
      refine ⟨0, w1.heap.size, 0, by omega, rfl, rfl, ?_, bal _ _⟩
      exact World.ownsRow_made w1 #[] 0 (Nat.le_refl _) (by unfold maxLen; omega) rfl
    case round =>
      obtain ⟨k, g, cap, hk, rfl, rfl, hO, hb⟩ := hrel
      have hB2 := bstep hB1 hb
      have hsb := hb.size
      by_cases hlt : k < d.n7
      · have hgg := grow_le hO
        have hgl := (hO.lt g rfl).2
        have hcp := own_cap hO
        have hnx := tx_next (fun k => exS (d.O k) (d.m7 k)) k
        have HNX : Hid (tx (fun k => exS (d.O k) (d.m7 k)) k ++ [.string ((fun k => exS (d.O k) (d.m7 k)) k)] = tx (fun k => exS (d.O k) (d.m7 k)) (k + 1)) := hnx
        clear hnx
        obtain ⟨b, off, i', c', rfl, c0, di, dm⟩ := HC.later hB2 k hlt
        have hr : Hid (∀ j, j < d.m7 k → rng (d.O k j).m) := hR.ou k hlt
        have hl := HL2.out k hlt
        go_wp2_with (first | (go_at_call 40; refine (sExpT _ _ _ _ _ di hl hr.out).mono ?_; rintro e w2 ⟨rfl, hb2⟩; have hO2 := own_below hO hb2; have hs2 := hb2.size) | (at_builtin; refine wpList_append_lies _ rfl _ _ _ rfl w1.heap.size 9 i0 (.string ByteArray.empty) 1 16 Tryz.underlying71 HI.out hz0 hz1 hz2 rfl (by omega) _ k _ rfl (hO2.alloc _) ⟨w2.heap.size, 0, none⟩ 1 1 [.string (exS (d.O k) (d.m7 k))] rfl rfl (World.news_of_block (heap_alloc_new w2 _)) (ones _ rfl) (by omega) (by unfold maxLen; omega) (by omega) (by simp; omega) _ rfl ?_; intro g4 cap4 w4 hO4 hgr4 hat4 hlt4))
        have Q6 : Below w1.heap.size w1 w4 := by
          have x1 := bstep hb hb2
          exact (x1.alloc x1.size _).grown hgr4 (by have := x1.size; simp; omega) (fun j hj => by have e : g = j := Option.some.inj hj; omega)
        go_roundw
        case rel => first | exact ⟨k + 1, g4, cap4, by omega, by go_num, rfl, by rw [← HNX.out]; exact hO4, Q6⟩ | ((repeat apply Exists.intro); exact ⟨⟨k + 1, g4, cap4, by omega, by go_num, rfl, by rw [← HNX.out]; exact hO4, Q6⟩, rfl⟩)
        case measure => simp [intOf]; omega
      · obtain rfl : k = d.n7 := by omega
        have hQ2 := hQ1.later hb
        obtain ⟨z0, z1, z2, z3, z4, z5, z6, z7⟩ := id hQ2
        have hX := fun v hv => sCommas (some ⟨g, 0, none⟩) d.n7 cap (fun k => exS (d.O k) (d.m7 k)) v ((tx_ts hO).later hv) (by omega) HT2.out
        obtain ⟨X, hX2⟩ : ∃ X, cm (fun k => exS (d.O k) (d.m7 k)) d.n7 = X := ⟨_, rfl⟩
        rw [hX2] at hX lz HSS
        clear hX2 hO
        go_wp2
        refine wp_region_held_drew (S := fun x => Below wr.heap.size wr x) (by kernel_rfl) (bdrew _) (fun hHeld => ?_)
        refine' wpAnyH_take (i := 0) (oi := ({ dst := some 108, op := Op.move (Operand.tmp 3), type := 71, pos := "l4_stm.go:707", after := #[], guard := none } : Oper)) (v := _) rfl (by kernel_rfl) (by kernel_rfl) (by kernel_rfl) (fun _ _ _ h => h) (Or.inl ⟨by rfl, fun x hSw => ?hyz10_0⟩) hHeld ?restz10_0
        case hyz10_0 =>
          obtain ⟨k0, k1, k2, k3, k4, k5, k6, k7⟩ := hQ2.later hSw
          go_simp
          try with_reducible rfl
        try simp only [Act.put, List.setIfInBounds_toArray, List.set_cons_zero, List.set_cons_succ]
        refine' wpAnyH_take (i := 4) (oi := ({ dst := some 112, op := Op.fieldAddr 27 (Operand.tmp 1) 1, type := 0, pos := "l4_stm.go:707", after := #[], guard := none } : Oper)) (v := _) rfl (by kernel_rfl) (by kernel_rfl) (by kernel_rfl) (fun _ _ _ h => h) (Or.inl ⟨by rfl, fun x hSw => ?hyz10_4⟩) hHeld ?restz10_4
        case hyz10_4 =>
          obtain ⟨k0, k1, k2, k3, k4, k5, k6, k7⟩ := hQ2.later hSw
          go_simp
          try with_reducible rfl
        try simp only [Act.put, List.setIfInBounds_toArray, List.set_cons_zero, List.set_cons_succ]
        refine' wpAnyH_take (i := 5) (oi := ({ dst := some 113, op := Op.load 9 (Operand.tmp 112), type := 9, pos := "l4_stm.go:707", after := #[{ on := 4, ground := Ground.data }], guard := none } : Oper)) (v := _) rfl (by kernel_rfl) (by kernel_rfl) (by kernel_rfl) (fun _ _ _ h => h) (Or.inl ⟨by rfl, fun x hSw => ?hyz10_5⟩) hHeld ?restz10_5
        case hyz10_5 =>
          obtain ⟨k0, k1, k2, k3, k4, k5, k6, k7⟩ := hQ2.later hSw
          go_simp
          try with_reducible rfl
        try simp only [Act.put, List.setIfInBounds_toArray, List.set_cons_zero, List.set_cons_succ]
        refine' wpAnyH_take (i := 7) (oi := ({ dst := some 115, op := Op.fieldAddr 27 (Operand.tmp 1) 6, type := 0, pos := "l4_stm.go:707", after := #[], guard := none } : Oper)) (v := _) rfl (by kernel_rfl) (by kernel_rfl) (by kernel_rfl) (fun _ _ _ h => h) (Or.inl ⟨by rfl, fun x hSw => ?hyz10_7⟩) hHeld ?restz10_7
        case hyz10_7 =>
          obtain ⟨k0, k1, k2, k3, k4, k5, k6, k7⟩ := hQ2.later hSw
          go_simp
          try with_reducible rfl
        try simp only [Act.put, List.setIfInBounds_toArray, List.set_cons_zero, List.set_cons_succ]
        refine' wpAnyH_take (i := 8) (oi := ({ dst := some 116, op := Op.load 24 (Operand.tmp 115), type := 24, pos := "l4_stm.go:707", after := #[{ on := 7, ground := Ground.data }], guard := none } : Oper)) (v := _) rfl (by kernel_rfl) (by kernel_rfl) (by kernel_rfl) (fun _ _ _ h => h) (Or.inl ⟨by rfl, fun x hSw => ?hyz10_8⟩) hHeld ?restz10_8
        case hyz10_8 =>
          obtain ⟨k0, k1, k2, k3, k4, k5, k6, k7⟩ := hQ2.later hSw
          go_simp
          try with_reducible rfl
        try simp only [Act.put, List.setIfInBounds_toArray, List.set_cons_zero, List.set_cons_succ]
        refine wpAnyH_ready (rs := [1]) (by kernel_rfl) (by simp) ?_
        refine AllReadyH.cons (o := ({ dst := some 109, op := Op.call { callee := Callee.value (Operand.func 38), args := #[Operand.tmp 108], argTypes := #[71] }, type := 9, pos := "l4_stm.go:707", after := #[{ on := 0, ground := Ground.data }], guard := none } : Oper)) rfl (fun K hK => ?_) AllReadyH.nil
        go_simp
        refine (hX _ hHeld).mono ?_
        rintro e w5 ⟨rfl, rfl⟩
        refine hK.out _ _ (hHeld) (fun hHeld => ?_)
        clear hK K
        try simp only [Act.put, List.setIfInBounds_toArray, List.set_cons_zero, List.set_cons_succ]
        refine wpAnyH_take (i := 2) (oi := ({ dst := some 110, op := Op.binOp BinOp.add 9 (Operand.const (Value.string { data := #[115, 101, 108, 101, 99, 116, 32] })) (Operand.tmp 109) 9, type := 9, pos := "l4_stm.go:707", after := #[{ on := 1, ground := Ground.data }], guard := none } : Oper)) (v := .string (⟨#[115, 101, 108, 101, 99, 116, 32]⟩ ++ X)) rfl (by kernel_rfl) (by kernel_rfl) (by kernel_rfl) (fun _ _ _ h => h) (Or.inl ⟨by rfl, fun x hSw => (by go_simp; try omega)⟩) hHeld ?_
        try simp only [Act.put, List.setIfInBounds_toArray, List.set_cons_zero, List.set_cons_succ]
        refine wpAnyH_take (i := 3) (oi := ({ dst := some 111, op := Op.binOp BinOp.add 9 (Operand.tmp 110) (Operand.const (Value.string { data := #[32, 102, 114, 111, 109, 32] })) 9, type := 9, pos := "l4_stm.go:707", after := #[{ on := 2, ground := Ground.data }], guard := none } : Oper)) (v := .string (⟨#[115, 101, 108, 101, 99, 116, 32]⟩ ++ X ++ ⟨#[32, 102, 114, 111, 109, 32]⟩)) rfl (by kernel_rfl) (by kernel_rfl) (by kernel_rfl) (fun _ _ _ h => h) (Or.inl ⟨by rfl, fun x hSw => (by go_simp; try omega)⟩) hHeld ?_
        try simp only [Act.put, List.setIfInBounds_toArray, List.set_cons_zero, List.set_cons_succ]
        refine wpAnyH_take (i := 6) (oi := ({ dst := some 114, op := Op.binOp BinOp.add 9 (Operand.tmp 111) (Operand.tmp 113) 9, type := 9, pos := "l4_stm.go:707", after := #[{ on := 3, ground := Ground.data }, { on := 5, ground := Ground.data }], guard := none } : Oper)) (v := .string (⟨#[115, 101, 108, 101, 99, 116, 32]⟩ ++ X ++ ⟨#[32, 102, 114, 111, 109, 32]⟩ ++ d.tb)) rfl (by kernel_rfl) (by kernel_rfl) (by kernel_rfl) (fun _ _ _ h => h) (Or.inl ⟨by rfl, fun x hSw => (by go_simp; try omega)⟩) hHeld ?_
        try simp only [Act.put, List.setIfInBounds_toArray, List.set_cons_zero, List.set_cons_succ]
        refine wpAnyH_ready (rs := [9]) (by kernel_rfl) (by simp) ?_
        refine AllReadyH.cons (o := ({ dst := some 117, op := Op.call { callee := Callee.value (Operand.func 41), args := #[Operand.tmp 116], argTypes := #[24] }, type := 9, pos := "l4_stm.go:707", after := #[{ on := 8, ground := Ground.data }, { on := 1, ground := Ground.chain }], guard := none } : Oper)) rfl (fun K hK => ?_) AllReadyH.nil
        go_simp
        refine (hY _ (bstep hB2 hHeld)).mono ?_
        rintro e w6 ⟨rfl, hb6⟩
        refine hK.out _ _ (bstep hHeld hb6) (fun hHeld => ?_)
        clear hK K
        try simp only [Act.put, List.setIfInBounds_toArray, List.set_cons_zero, List.set_cons_succ]
        refine wpAnyH_take (i := 10) (oi := ({ dst := some 118, op := Op.binOp BinOp.add 9 (Operand.tmp 114) (Operand.tmp 117) 9, type := 9, pos := "l4_stm.go:707", after := #[{ on := 6, ground := Ground.data }, { on := 9, ground := Ground.data }], guard := none } : Oper)) (v := .string (⟨#[115, 101, 108, 101, 99, 116, 32]⟩ ++ X ++ ⟨#[32, 102, 114, 111, 109, 32]⟩ ++ d.tb ++ Y)) rfl (by kernel_rfl) (by kernel_rfl) (by kernel_rfl) (fun _ _ _ h => h) (Or.inl ⟨by rfl, fun x hSw => (by go_simp; try omega)⟩) hHeld ?_
        try simp only [Act.put, List.setIfInBounds_toArray, List.set_cons_zero, List.set_cons_succ]
        refine' wpAnyH_take (i := 11) (oi := ({ dst := some 2, op := Op.assign (Operand.tmp 118), type := 9, pos := "l4_stm.go:707", after := #[{ on := 10, ground := Ground.data }, { on := 9, ground := Ground.chain }, { on := 0, ground := Ground.phase }, { on := 1, ground := Ground.phase }, { on := 2, ground := Ground.phase }, { on := 3, ground := Ground.phase }, { on := 4, ground := Ground.phase }, { on := 5, ground := Ground.phase }, { on := 6, ground := Ground.phase }, { on := 7, ground := Ground.phase }, { on := 8, ground := Ground.phase }, { on := 9, ground := Ground.phase }, { on := 10, ground := Ground.phase }], guard := none } : Oper)) (v := _) rfl (by kernel_rfl) (by kernel_rfl) (by kernel_rfl) (fun _ _ _ h => h) (Or.inl ⟨by rfl, fun x hSw => ?hyz10_11⟩) hHeld ?restz10_11
        case hyz10_11 =>
          obtain ⟨k0, k1, k2, k3, k4, k5, k6, k7⟩ := hQ2.later hSw
          go_simp
          try with_reducible rfl
        try simp only [Act.put, List.setIfInBounds_toArray, List.set_cons_zero, List.set_cons_succ]
        refine wpAnyH_done (by kernel_rfl) ?_ _
        go_wp2
        go_ret
        exact ⟨by rw [HSS.out]; rfl, bstep hB2 hHeld⟩
set_option maxRecDepth 20000 in
set_option maxHeartbeats 2000000 in
theorem sPrint0 (d : St) (p : Sa) (w : World) (hM : SM w d p) (hok : okStm d = false) : Calls Tryz.prog 11 #[.agg (cs8 d p)] w fun e w' => e = .returned (.string ⟨#[]⟩) ∧ Below w.heap.size w w' := by
  have hb0 := bal w (.cells (cs8 d p) 27)
  go_enter Tryz.func11, Tryz.ntmps11
  go_wp2_with (go_at_call 37; refine (sStm d p _ (hM.later hb0)).mono ?_; rw [hok]; rintro e w1 ⟨rfl, hb1⟩)
  go_ret
  exact ⟨rfl, bstep hb0 hb1⟩
theorem sPrint (d : St) (p : Sa) (w : World) (hM : SM w d p) (hR : RG d) : Calls Tryz.prog 11 #[.agg (cs8 d p)] w fun e w' => e = .returned (.string (prS d)) ∧ Below w.heap.size w w' := by
  unfold prS
  rcases hok : okStm d
  · exact sPrint0 d p w hM hok
  rcases okK hok with e | e | e | e | e
  · exact sPrint1 d p w hM hR hok e
  · exact sPrint2 d p w hM hR hok e
  · exact sPrint3 d p w hM hR hok e
  · exact sPrint4 d p w hM hR hok e
  · exact sPrint5 d p w hM hR hok e
end Go.Proofs.YtnbgdfhfmbgbhaaGreatDoor
