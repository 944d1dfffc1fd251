/-
  Expressions as SQL, the specification's way.
-/
import Derived.Test.YtnbgdfhfmbgbhaaGreatDoorQh
namespace Go.Proofs.YtnbgdfhfmbgbhaaGreatDoor
open Go.RowKit Go.Maps Go.WideMaps
theorem str_cell {w : World} {base g r cap n : Nat} {L : List Tr} (h : w.ownsRow base 9 1 (.slice (some ⟨g, 0, none⟩) n cap) n (L.map fun t => Value.string t.sql)) (hn : L.length = n) (hr : r < n) : w.cell? ⟨g, r, none⟩ = some (.string (L.getD r (.num 0)).sql) := by
  have := h.cellAt r (by omega)
  rw [this]
  have hlt : r < L.length := by omega
  have e : L.getD r (.num 0) = L[r] := by simp [hlt]
  rw [List.getElem?_map, List.getElem?_eq_getElem hlt, e]
  rfl
set_option maxRecDepth 20000 in
set_option maxHeartbeats 16000000 in
theorem sExpT (a : Option Addr) (n c : Nat) (I : Nat → Itm) (w : World) (h : IL w a n I) (hok : okExp I n = true) (hr0 : ∀ k, k < n → rng (I k).m) :
    Calls Tryz.prog 40 #[.slice a n c] w fun e w' => e = .returned (.string (exS I n)) ∧ Below w.heap.size w w' := by
  have hb0 := Below.refl w.heap.size w
  obtain ⟨i0, hi, hz0, hz1, hz2⟩ := info_parts Tryz.infoStr
  have HI : Hid (Tryz.prog.info? 9 = some i0) := hi
  clear hi
  obtain ⟨h1s, h2s, h3s, h4s⟩ := exp_facts hok
  have hne : sh I n ≠ none := by rw [h1s]; simp
  have HN : Hid (sh I n ≠ none) := hne
  have HZ : Hid (∀ k, k ≤ n → lenT (stk I k) ≤ 420 * k) := stk_lenT hne h2s hr0
  have HR : Hid (∀ k, k < n → rng (I k).m) := hr0
  have HLn : Hid ((stk I n).length = 1) := by have := stk_len h1s; show _ = _; omega
  have HOK : Hid (okExp I n = true) := hok
  clear hne hr0 hok h2s h1s
  go_enter Tryz.func40, Tryz.ntmps40
  go_wp2
  go_loopw [3, 10] (fun v i wr => ∃ (k : Nat) (L : List Tr) (g cap : Nat), k ≤ n ∧ i = .int .i64 k ∧ v = .slice (some ⟨g, 0, none⟩) L.length cap ∧ wr.ownsRow w.heap.size 9 1 (.slice (some ⟨g, 0, none⟩) L.length cap) L.length (L.map fun t => Value.string t.sql) ∧ L = stk I k ∧ L.length ≤ k ∧ lenT L ≤ 42000 ∧ Below w.heap.size w wr) (fun _ i _ => n - (intOf i).toNat)
  case atStart =>
    refine ⟨0, [], w.heap.size, 0, by omega, rfl, rfl, ?_, rfl, by simp, Nat.zero_le _, bal _ _⟩
    exact World.ownsRow_made w #[] 0 (Nat.le_refl _) (by unfold maxLen; omega) rfl
  case round =>
    obtain ⟨k, L, g, cap, hk, rfl, rfl, hO, hL, hLk, hLz, hb⟩ := hrel
    have HL : Hid (L = stk I k) := hL
    clear hL
    by_cases hlt : k < n
    · obtain ⟨b, off, rfl, c0, c1, c2, hs⟩ := h.later hb k hlt
      obtain ⟨q, r, hq, hr⟩ := at_item HN.out hlt
      rw [← HL.out] at hr
      have hrk := HR.out k hlt
      have hgg := grow_le hO
      have hgl := (hO.lt g rfl).2
      have hcp := own_cap hO
      have hO1 := hO.alloc (.cells #[.int .i64 (I k).o, .int .i64 (I k).m, .string (I k).s] 85)
      have hb1 := bstep hb (bal wr (.cells #[.int .i64 (I k).o, .int .i64 (I k).m, .string (I k).s] 85))
      have hX1 : Bx3 wr.heap.size (I k) (wr.alloc (.cells #[.int .i64 (I k).o, .int .i64 (I k).m, .string (I k).s] 85)) := by
        obtain ⟨x0, x1, x2⟩ := kept3 (Below.refl (wr.alloc (.cells #[.int .i64 (I k).o, .int .i64 (I k).m, .string (I k).s] 85)).heap.size (wr.alloc (.cells #[.int .i64 (I k).o, .int .i64 (I k).m, .string (I k).s] 85)))
        exact ⟨x0, x1, x2⟩
      have hs1 : (wr.alloc (.cells #[.int .i64 (I k).o, .int .i64 (I k).m, .string (I k).s] 85)).heap.size = wr.heap.size + 1 := by simp
      have hsb := hb.size
      rcases opn_cases hq (by omega) with ⟨eq, h1⟩ | ⟨eq, h1⟩ | ⟨eq, h1⟩
      · obtain rfl : q = 0 := by omega
        rcases h1 with h1 | h1 | h1
        · have HND : mkN (I k).o (I k).m (I k).s (fun j => L.getD (r + j) (.num 0)) = Tr.num (I k).m := by unfold mkN; rw [if_pos h1]
          have QS := stk_step HL.out hq hr HND
          have Q1 : (L.take r ++ [Tr.num (I k).m]).length = r + 1 := by simp; omega
          have QZ : lenT (L.take r ++ [Tr.num (I k).m]) ≤ 42000 := by
            rw [QS]
            have := HZ.out (k + 1) (by omega)
            omega
          obtain rfl : r = L.length := by omega
          have n1 : ((I k).o == 1) = true := by simp; omega
          clear h1
          go_wp2_with (first | (go_at_call 88; refine (sDec (I k).m hrk _).mono ?_; rintro e w2 ⟨rfl, hb2⟩; have hO2 := own_below hO1 hb2; have hs2 := hb2.size; replace hb2 := bstep hb1 hb2) | (at_builtin; refine wpList_append_lies _ rfl _ _ _ rfl w.heap.size 9 i0 (.string ByteArray.empty) 1 16 Tryz.underlying71 HI.out hz0 hz1 hz2 rfl (by omega) _ L.length _ rfl (hO2.alloc _) ⟨w2.heap.size, 0, none⟩ 1 1 [.string (decB (I k).m)] rfl rfl (World.news_of_block (heap_alloc_new w2 _)) (ones _ rfl) (by omega) (by unfold maxLen; omega) (by omega) (by simp; omega) _ rfl ?_; intro g4 cap4 w4 hO4 hgr4 hat4 hlt4))
          have Q2 : w4.ownsRow w.heap.size 9 1 (.slice (some ⟨g4, 0, none⟩) (L.length + 1) cap4) (L.length + 1) ((L.take L.length ++ [Tr.num (I k).m]).map fun t => Value.string t.sql) := by
            rw [List.map_append, List.take_length]
            exact hO4
          have Q6 : Below w.heap.size w w4 := (hb2.alloc hb2.size _).grown hgr4 (by have := hb2.size; simp; omega) (fun j hj => by have e : g = j := Option.some.inj hj; omega)
          go_roundw
          case rel => exact ⟨k + 1, L.take L.length ++ [Tr.num (I k).m], g4, cap4, by omega, by go_num, by rw [Q1], by rw [Q1]; exact Q2, QS, by rw [Q1]; omega, QZ, Q6⟩
          case measure => simp [intOf]; omega
        · have HND : mkN (I k).o (I k).m (I k).s (fun j => L.getD (r + j) (.num 0)) = Tr.txt (I k).s := by unfold mkN; rw [if_neg (by omega), if_pos h1]
          have QS := stk_step HL.out hq hr HND
          have Q1 : (L.take r ++ [Tr.txt (I k).s]).length = r + 1 := by simp; omega
          have QZ : lenT (L.take r ++ [Tr.txt (I k).s]) ≤ 42000 := by
            rw [QS]
            have := HZ.out (k + 1) (by omega)
            omega
          obtain rfl : r = L.length := by omega
          have n1 : ((I k).o == 1) = false := by simp; omega
          have n2 : ((I k).o == 2) = true := by simp; omega
          clear h1
          have HNW : Hid (∀ j u, ([.string (quoB (I k).s)] : List Value)[j]? = some u → ((wr.alloc (.cells #[.int .i64 (I k).o, .int .i64 (I k).m, .string (I k).s] 85)).alloc (.cells #[.string (quoB (I k).s)] 9)).cell? ((⟨wr.heap.size + 1, 0, none⟩ : Addr).add j) = some u) := by
            have := World.news_of_block (heap_alloc_new (wr.alloc (.cells #[.int .i64 (I k).o, .int .i64 (I k).m, .string (I k).s] 85)) (.cells #[.string (quoB (I k).s)] 9))
            rw [hs1] at this
            exact this
          go_wp2_with (first | (go_at_call 89; refine (sQuote (I k).s _ hs).mono ?_; rintro e w2 ⟨rfl, rfl⟩) | (at_builtin; refine wpList_append_lies _ rfl _ _ _ rfl w.heap.size 9 i0 (.string ByteArray.empty) 1 16 Tryz.underlying71 HI.out hz0 hz1 hz2 rfl (by omega) _ L.length _ rfl (hO1.alloc _) ⟨wr.heap.size + 1, 0, none⟩ 1 1 [.string (quoB (I k).s)] rfl rfl HNW.out (ones _ rfl) (by omega) (by unfold maxLen; omega) (by omega) (by simp; omega) _ rfl ?_; intro g4 cap4 w4 hO4 hgr4 hat4 hlt4))
          have Q2 : w4.ownsRow w.heap.size 9 1 (.slice (some ⟨g4, 0, none⟩) (L.length + 1) cap4) (L.length + 1) ((L.take L.length ++ [Tr.txt (I k).s]).map fun t => Value.string t.sql) := by
            rw [List.map_append, List.take_length]
            exact hO4
          have Q6 : Below w.heap.size w w4 := (hb1.alloc hb1.size _).grown hgr4 (by have := hb1.size; simp; omega) (fun j hj => by have e : g = j := Option.some.inj hj; omega)
          go_roundw
          case rel => exact ⟨k + 1, L.take L.length ++ [Tr.txt (I k).s], g4, cap4, by omega, by go_num, by rw [Q1], by rw [Q1]; exact Q2, QS, by rw [Q1]; omega, QZ, Q6⟩
          case measure => simp [intOf]; omega
        · have HND : mkN (I k).o (I k).m (I k).s (fun j => L.getD (r + j) (.num 0)) = Tr.col (I k).s := by unfold mkN; rw [if_neg (by omega), if_neg (by omega), if_pos h1]
          have QS := stk_step HL.out hq hr HND
          have Q1 : (L.take r ++ [Tr.col (I k).s]).length = r + 1 := by simp; omega
          have QZ : lenT (L.take r ++ [Tr.col (I k).s]) ≤ 42000 := by
            rw [QS]
            have := HZ.out (k + 1) (by omega)
            omega
          obtain rfl : r = L.length := by omega
          have n1 : ((I k).o == 1) = false := by simp; omega
          have n2 : ((I k).o == 2) = false := by simp; omega
          have n3 : ((I k).o == 3) = true := by simp; omega
          clear h1
          have HNW : Hid (∀ j u, ([.string ((I k).s)] : List Value)[j]? = some u → ((wr.alloc (.cells #[.int .i64 (I k).o, .int .i64 (I k).m, .string (I k).s] 85)).alloc (.cells #[.string ((I k).s)] 9)).cell? ((⟨wr.heap.size + 1, 0, none⟩ : Addr).add j) = some u) := by
            have := World.news_of_block (heap_alloc_new (wr.alloc (.cells #[.int .i64 (I k).o, .int .i64 (I k).m, .string (I k).s] 85)) (.cells #[.string ((I k).s)] 9))
            rw [hs1] at this
            exact this
          go_wp2_with (first | (at_builtin; refine wpList_append_lies _ rfl _ _ _ rfl w.heap.size 9 i0 (.string ByteArray.empty) 1 16 Tryz.underlying71 HI.out hz0 hz1 hz2 rfl (by omega) _ L.length _ rfl (hO1.alloc _) ⟨wr.heap.size + 1, 0, none⟩ 1 1 [.string ((I k).s)] rfl rfl HNW.out (ones _ rfl) (by omega) (by unfold maxLen; omega) (by omega) (by simp; omega) _ rfl ?_; intro g4 cap4 w4 hO4 hgr4 hat4 hlt4))
          have Q2 : w4.ownsRow w.heap.size 9 1 (.slice (some ⟨g4, 0, none⟩) (L.length + 1) cap4) (L.length + 1) ((L.take L.length ++ [Tr.col (I k).s]).map fun t => Value.string t.sql) := by
            rw [List.map_append, List.take_length]
            exact hO4
          have Q6 : Below w.heap.size w w4 := (hb1.alloc hb1.size _).grown hgr4 (by have := hb1.size; simp; omega) (fun j hj => by have e : g = j := Option.some.inj hj; omega)
          go_roundw
          case rel => exact ⟨k + 1, L.take L.length ++ [Tr.col (I k).s], g4, cap4, by omega, by go_num, by rw [Q1], by rw [Q1]; exact Q2, QS, by rw [Q1]; omega, QZ, Q6⟩
          case measure => simp [intOf]; omega
      · obtain rfl : q = 1 := by omega
        obtain ⟨A, hA⟩ : ∃ A, (L.getD r (.num 0)).sql = A := ⟨_, rfl⟩
        have hc8 := str_cell hO1 rfl (show r < L.length by omega)
        rw [hA] at hc8
        have hAz : A.size ≤ 42000 := by
          have hl : r < L.length := by omega
          have e : L.getD r (.num 0) = L[r] := by simp [hl]
          rw [e] at hA
          rw [← hA]
          have := lenT_mem (List.getElem_mem hl)
          omega
        have d3 : wrap64 ((L.length : Int) - 1) = (r : Int) := by unfold wrap64; omega
        have d4 : IntKind.i64.wrap ((L.length : Int) - 1) = (r : Int) := by rw [IntKind.wrap_i64]; omega
        have i0r : (0 : Int) ≤ (r : Int) := by omega
        have i1r : (r : Int) ≤ (cap : Int) := by omega
        have i2r : (r : Int) < (L.length : Int) := by omega
        have i3r : r ≤ cap := by omega
        rcases h1 with h1 | h1
        · obtain ⟨nd, hnd⟩ : ∃ t : Tr, mkN (I k).o (I k).m (I k).s (fun j => L.getD (r + j) (.num 0)) = t := ⟨_, rfl⟩
          have HS : nd.sql = ⟨#[40, 110, 111, 116, 32]⟩ ++ A ++ ⟨#[41]⟩ := by
            rw [← hnd, ← hA]
            unfold mkN
            rw [if_neg (by omega), if_neg (by omega), if_neg (by omega), if_pos (by omega), sqlOne, if_neg (by omega)]
            rfl
          have QS := stk_step HL.out hq hr hnd
          have Q1 : (L.take r ++ [nd]).length = r + 1 := by simp; omega
          have QZ : lenT (L.take r ++ [nd]) ≤ 42000 := by
            rw [QS]
            have := HZ.out (k + 1) (by omega)
            omega
          clear hnd hA
          have n1 : ((I k).o == 1) = false := by simp; omega
          have n2 : ((I k).o == 2) = false := by simp; omega
          have n3 : ((I k).o == 3) = false := by simp; omega
          have n11 : ((I k).o == 11) = true := by simp; omega
          clear h1
          go_wp2
          have HNW : Hid (∀ j u, ([.string (⟨#[40, 110, 111, 116, 32]⟩ ++ A ++ ⟨#[41]⟩)] : List Value)[j]? = some u → ((wr.alloc (.cells #[.int .i64 (I k).o, .int .i64 (I k).m, .string (I k).s] 85)).drew.alloc (.cells #[.string (⟨#[40, 110, 111, 116, 32]⟩ ++ A ++ ⟨#[41]⟩)] 9)).cell? ((⟨wr.heap.size + 1, 0, none⟩ : Addr).add j) = some u) := by
            have := World.news_of_block (heap_alloc_new (wr.alloc (.cells #[.int .i64 (I k).o, .int .i64 (I k).m, .string (I k).s] 85)).drew (.cells #[.string (⟨#[40, 110, 111, 116, 32]⟩ ++ A ++ ⟨#[41]⟩)] 9))
            rw [show (wr.alloc (.cells #[.int .i64 (I k).o, .int .i64 (I k).m, .string (I k).s] 85)).drew.heap.size = wr.heap.size + 1 from hs1] at this
            exact this
          refine wp_region_held_drew (S := fun _ => True) (by kernel_rfl) (trivial) (fun hHeld => ?_)
          refine wpAnyH_take (i := 0) (oi := ({ dst := some 72, op := Op.move (Operand.tmp 3), type := 71, pos := "l4_stm.go:655", after := #[], guard := none } : Oper)) (v := .slice (some ⟨g, 0, none⟩) L.length cap) rfl (by kernel_rfl) (by kernel_rfl) (by kernel_rfl) (fun _ _ _ h => h) (Or.inl ⟨by rfl, fun x hSw => (by go_simp)⟩) hHeld ?_
          try simp only [Act.put, List.setIfInBounds_toArray, List.set_cons_zero, List.set_cons_succ]
          refine wpAnyH_take (i := 1) (oi := ({ dst := some 73, op := Op.move (Operand.tmp 6), type := 3, pos := "l4_stm.go:655", after := #[], guard := none } : Oper)) (v := .int .i64 (L.length : Int)) rfl (by kernel_rfl) (by kernel_rfl) (by kernel_rfl) (fun _ _ _ h => h) (Or.inl ⟨by rfl, fun x hSw => (by go_simp)⟩) hHeld ?_
          try simp only [Act.put, List.setIfInBounds_toArray, List.set_cons_zero, List.set_cons_succ]
          refine wpAnyH_take (i := 2) (oi := ({ dst := some 74, op := Op.binOp BinOp.sub 3 (Operand.tmp 73) (Operand.const (Value.int IntKind.i64 1)) 3, type := 3, pos := "l4_stm.go:655", after := #[{ on := 1, ground := Ground.data }], guard := none } : Oper)) (v := .int .i64 (r : Int)) rfl (by kernel_rfl) (by kernel_rfl) (by kernel_rfl) (fun _ _ _ h => h) (Or.inl ⟨by rfl, fun x hSw => (by go_simp)⟩) hHeld ?_
          try simp only [Act.put, List.setIfInBounds_toArray, List.set_cons_zero, List.set_cons_succ]
          refine wpAnyH_take (i := 3) (oi := ({ dst := some 75, op := Op.slice 71 (Operand.tmp 72) none (some (Operand.tmp 74)) none, type := 71, pos := "l4_stm.go:655", after := #[{ on := 0, ground := Ground.data }, { on := 2, ground := Ground.data }], guard := none } : Oper)) (v := .slice (some ⟨g, 0, none⟩) r cap) rfl (by kernel_rfl) (by kernel_rfl) (by kernel_rfl) (fun _ _ _ h => h) (Or.inl ⟨by rfl, fun x hSw => (by go_simp)⟩) hHeld ?_
          try simp only [Act.put, List.setIfInBounds_toArray, List.set_cons_zero, List.set_cons_succ]
          refine wpAnyH_take (i := 4) (oi := ({ dst := some 76, op := Op.move (Operand.tmp 3), type := 71, pos := "l4_stm.go:655", after := #[], guard := none } : Oper)) (v := .slice (some ⟨g, 0, none⟩) L.length cap) rfl (by kernel_rfl) (by kernel_rfl) (by kernel_rfl) (fun _ _ _ h => h) (Or.inl ⟨by rfl, fun x hSw => (by go_simp)⟩) hHeld ?_
          try simp only [Act.put, List.setIfInBounds_toArray, List.set_cons_zero, List.set_cons_succ]
          refine wpAnyH_take (i := 5) (oi := ({ dst := some 77, op := Op.move (Operand.tmp 6), type := 3, pos := "l4_stm.go:655", after := #[], guard := none } : Oper)) (v := .int .i64 (L.length : Int)) rfl (by kernel_rfl) (by kernel_rfl) (by kernel_rfl) (fun _ _ _ h => h) (Or.inl ⟨by rfl, fun x hSw => (by go_simp)⟩) hHeld ?_
          try simp only [Act.put, List.setIfInBounds_toArray, List.set_cons_zero, List.set_cons_succ]
          refine wpAnyH_take (i := 6) (oi := ({ dst := some 78, op := Op.binOp BinOp.sub 3 (Operand.tmp 77) (Operand.const (Value.int IntKind.i64 1)) 3, type := 3, pos := "l4_stm.go:655", after := #[{ on := 5, ground := Ground.data }], guard := none } : Oper)) (v := .int .i64 (r : Int)) rfl (by kernel_rfl) (by kernel_rfl) (by kernel_rfl) (fun _ _ _ h => h) (Or.inl ⟨by rfl, fun x hSw => (by go_simp)⟩) hHeld ?_
          try simp only [Act.put, List.setIfInBounds_toArray, List.set_cons_zero, List.set_cons_succ]
          refine wpAnyH_take (i := 7) (oi := ({ dst := some 79, op := Op.indexAddr 71 (Operand.tmp 76) (Operand.tmp 78), type := 0, pos := "l4_stm.go:655", after := #[{ on := 4, ground := Ground.data }, { on := 6, ground := Ground.data }], guard := none } : Oper)) (v := .pointer (some ⟨g, r, none⟩)) rfl (by kernel_rfl) (by kernel_rfl) (by kernel_rfl) (fun _ _ _ h => h) (Or.inl ⟨by rfl, fun x hSw => (by go_simp)⟩) hHeld ?_
          try simp only [Act.put, List.setIfInBounds_toArray, List.set_cons_zero, List.set_cons_succ]
          refine wpAnyH_ready (rs := [8]) (by kernel_rfl) (by simp) ?_
          refine AllReadyH.cons (o := ({ dst := some 80, op := Op.load 9 (Operand.tmp 79), type := 9, pos := "l4_stm.go:655", after := #[{ on := 7, ground := Ground.data }], guard := none } : Oper)) rfl (fun K hK => ?_) AllReadyH.nil
          go_simp
          refine hK.out _ _ (trivial) (fun hHeld => ?_)
          clear hK K
          try simp only [Act.put, List.setIfInBounds_toArray, List.set_cons_zero, List.set_cons_succ]
          refine wpAnyH_take (i := 9) (oi := ({ dst := some 81, op := Op.binOp BinOp.add 9 (Operand.const (Value.string { data := #[40, 110, 111, 116, 32] })) (Operand.tmp 80) 9, type := 9, pos := "l4_stm.go:655", after := #[{ on := 8, ground := Ground.data }], guard := none } : Oper)) (v := .string (⟨#[40, 110, 111, 116, 32]⟩ ++ A)) rfl (by kernel_rfl) (by kernel_rfl) (by kernel_rfl) (fun _ _ _ h => h) (Or.inl ⟨by rfl, fun x hSw => (by go_simp; try omega)⟩) hHeld ?_
          try simp only [Act.put, List.setIfInBounds_toArray, List.set_cons_zero, List.set_cons_succ]
          refine wpAnyH_take (i := 10) (oi := ({ dst := some 82, op := Op.binOp BinOp.add 9 (Operand.tmp 81) (Operand.const (Value.string { data := #[41] })) 9, type := 9, pos := "l4_stm.go:655", after := #[{ on := 9, ground := Ground.data }], guard := none } : Oper)) (v := .string (⟨#[40, 110, 111, 116, 32]⟩ ++ A ++ ⟨#[41]⟩)) rfl (by kernel_rfl) (by kernel_rfl) (by kernel_rfl) (fun _ _ _ h => h) (Or.inl ⟨by rfl, fun x hSw => (by go_simp; try omega)⟩) hHeld ?_
          try simp only [Act.put, List.setIfInBounds_toArray, List.set_cons_zero, List.set_cons_succ]
          refine wpAnyH_ready (rs := [11]) (by kernel_rfl) (by simp) ?_
          refine AllReadyH.cons (o := ({ dst := some 83, op := Op.buildSlice 71 1 #[(0, Operand.tmp 82)], type := 71, pos := "l4_stm.go:655", after := #[{ on := 10, ground := Ground.data }], guard := none } : Oper)) rfl (fun K hK => ?_) AllReadyH.nil
          go_simp
          refine hK.out _ _ (trivial) (fun hHeld => ?_)
          clear hK K
          try simp only [Act.put, List.setIfInBounds_toArray, List.set_cons_zero, List.set_cons_succ]
          refine wpAnyH_ready (rs := [12]) (by kernel_rfl) (by simp) ?_
          refine AllReadyH.cons (o := ({ dst := some 84, op := Op.call { callee := Callee.builtin Builtin.append, args := #[Operand.tmp 75, Operand.tmp 83], argTypes := #[71, 71] }, type := 71, pos := "l4_stm.go:655", after := #[{ on := 3, ground := Ground.data }, { on := 11, ground := Ground.data }], guard := none } : Oper)) rfl (fun K hK => ?_) AllReadyH.nil
          rw [if_pos (by kernel_rfl)]
          refine wp_append_lies _ _ _ _ rfl w.heap.size 9 i0 (.string ByteArray.empty) 1 16 Tryz.underlying71 HI.out hz0 hz1 hz2 rfl (by omega) (.slice (some ⟨g, 0, none⟩) r cap) r _ rfl ((own_take hO1.drew (r := r) (by omega)).alloc _) ⟨wr.heap.size + 1, 0, none⟩ 1 1 [.string (⟨#[40, 110, 111, 116, 32]⟩ ++ A ++ ⟨#[41]⟩)] rfl rfl HNW.out (ones _ rfl) (by omega) (by unfold maxLen; omega) (by omega) (by simp; omega) _ rfl ?_
          intro g4 cap4 w4 hO4 hgr4 hat4 hlt4
          refine hK.out _ _ (trivial) (fun hHeld => ?_)
          clear hK K
          try simp only [Act.put, List.setIfInBounds_toArray, List.set_cons_zero, List.set_cons_succ]
          refine wpAnyH_ready (rs := [13]) (by kernel_rfl) (by simp) ?_
          refine AllReadyH.cons (o := ({ dst := some 3, op := Op.assign (Operand.tmp 84), type := 71, pos := "l4_stm.go:655", after := #[{ on := 12, ground := Ground.data }, { on := 12, ground := Ground.chain }, { on := 0, ground := Ground.phase }, { on := 1, ground := Ground.phase }, { on := 2, ground := Ground.phase }, { on := 3, ground := Ground.phase }, { on := 4, ground := Ground.phase }, { on := 5, ground := Ground.phase }, { on := 6, ground := Ground.phase }, { on := 7, ground := Ground.phase }, { on := 8, ground := Ground.phase }, { on := 9, ground := Ground.phase }, { on := 10, ground := Ground.phase }, { on := 11, ground := Ground.phase }, { on := 12, ground := Ground.phase }], guard := none } : Oper)) rfl (fun K hK => ?_) AllReadyH.nil
          go_simp
          refine hK.out _ _ (trivial) (fun hHeld => ?_)
          clear hK K
          try simp only [Act.put, List.setIfInBounds_toArray, List.set_cons_zero, List.set_cons_succ]
          refine wpAnyH_done (by kernel_rfl) ?_ _
          have Q2 : w4.ownsRow w.heap.size 9 1 (.slice (some ⟨g4, 0, none⟩) (r + 1) cap4) (r + 1) ((L.take r ++ [nd]).map fun t => Value.string t.sql) := by
            rw [List.map_append, List.map_take, List.map_cons, List.map_nil, HS]
            exact hO4
          have Q6 : Below w.heap.size w w4 := by
            have x1 : Below w.heap.size w (wr.alloc (.cells #[.int .i64 (I k).o, .int .i64 (I k).m, .string (I k).s] 85)).drew := hb1.trans ((bdrew _).mono hb1.size)
            exact (x1.alloc x1.size _).grown hgr4 (by have := x1.size; simp; omega) (fun j hj => by have e : g = j := Option.some.inj hj; omega)
          clear hO4 hgr4 hat4 hHeld
          go_wp2
          go_roundw
          case rel => exact ⟨k + 1, L.take r ++ [nd], g4, cap4, by omega, by go_num, by first | (rw [Q1]; done) | rw [Q1, hr], by rw [Q1]; exact Q2, QS, by rw [Q1]; omega, QZ, Q6⟩
          case measure => simp [intOf]; omega
        · obtain ⟨nd, hnd⟩ : ∃ t : Tr, mkN (I k).o (I k).m (I k).s (fun j => L.getD (r + j) (.num 0)) = t := ⟨_, rfl⟩
          have HS : nd.sql = ⟨#[108, 101, 110, 40]⟩ ++ A ++ ⟨#[41]⟩ := by
            rw [← hnd, ← hA]
            unfold mkN
            rw [if_neg (by omega), if_neg (by omega), if_neg (by omega), if_pos (by omega), sqlOne, if_pos (by omega)]
            rfl
          have QS := stk_step HL.out hq hr hnd
          have Q1 : (L.take r ++ [nd]).length = r + 1 := by simp; omega
          have QZ : lenT (L.take r ++ [nd]) ≤ 42000 := by
            rw [QS]
            have := HZ.out (k + 1) (by omega)
            omega
          clear hnd hA
          have n1 : ((I k).o == 1) = false := by simp; omega
          have n2 : ((I k).o == 2) = false := by simp; omega
          have n3 : ((I k).o == 3) = false := by simp; omega
          have n11 : ((I k).o == 11) = false := by simp; omega
          have n13 : ((I k).o == 13) = true := by simp; omega
          clear h1
          go_wp2
          have HNW : Hid (∀ j u, ([.string (⟨#[108, 101, 110, 40]⟩ ++ A ++ ⟨#[41]⟩)] : List Value)[j]? = some u → ((wr.alloc (.cells #[.int .i64 (I k).o, .int .i64 (I k).m, .string (I k).s] 85)).drew.alloc (.cells #[.string (⟨#[108, 101, 110, 40]⟩ ++ A ++ ⟨#[41]⟩)] 9)).cell? ((⟨wr.heap.size + 1, 0, none⟩ : Addr).add j) = some u) := by
            have := World.news_of_block (heap_alloc_new (wr.alloc (.cells #[.int .i64 (I k).o, .int .i64 (I k).m, .string (I k).s] 85)).drew (.cells #[.string (⟨#[108, 101, 110, 40]⟩ ++ A ++ ⟨#[41]⟩)] 9))
            rw [show (wr.alloc (.cells #[.int .i64 (I k).o, .int .i64 (I k).m, .string (I k).s] 85)).drew.heap.size = wr.heap.size + 1 from hs1] at this
            exact this
          refine wp_region_held_drew (S := fun _ => True) (by kernel_rfl) (trivial) (fun hHeld => ?_)
          refine wpAnyH_take (i := 0) (oi := ({ dst := some 89, op := Op.move (Operand.tmp 3), type := 71, pos := "l4_stm.go:657", after := #[], guard := none } : Oper)) (v := .slice (some ⟨g, 0, none⟩) L.length cap) rfl (by kernel_rfl) (by kernel_rfl) (by kernel_rfl) (fun _ _ _ h => h) (Or.inl ⟨by rfl, fun x hSw => (by go_simp)⟩) hHeld ?_
          try simp only [Act.put, List.setIfInBounds_toArray, List.set_cons_zero, List.set_cons_succ]
          refine wpAnyH_take (i := 1) (oi := ({ dst := some 90, op := Op.move (Operand.tmp 6), type := 3, pos := "l4_stm.go:657", after := #[], guard := none } : Oper)) (v := .int .i64 (L.length : Int)) rfl (by kernel_rfl) (by kernel_rfl) (by kernel_rfl) (fun _ _ _ h => h) (Or.inl ⟨by rfl, fun x hSw => (by go_simp)⟩) hHeld ?_
          try simp only [Act.put, List.setIfInBounds_toArray, List.set_cons_zero, List.set_cons_succ]
          refine wpAnyH_take (i := 2) (oi := ({ dst := some 91, op := Op.binOp BinOp.sub 3 (Operand.tmp 90) (Operand.const (Value.int IntKind.i64 1)) 3, type := 3, pos := "l4_stm.go:657", after := #[{ on := 1, ground := Ground.data }], guard := none } : Oper)) (v := .int .i64 (r : Int)) rfl (by kernel_rfl) (by kernel_rfl) (by kernel_rfl) (fun _ _ _ h => h) (Or.inl ⟨by rfl, fun x hSw => (by go_simp)⟩) hHeld ?_
          try simp only [Act.put, List.setIfInBounds_toArray, List.set_cons_zero, List.set_cons_succ]
          refine wpAnyH_take (i := 3) (oi := ({ dst := some 92, op := Op.slice 71 (Operand.tmp 89) none (some (Operand.tmp 91)) none, type := 71, pos := "l4_stm.go:657", after := #[{ on := 0, ground := Ground.data }, { on := 2, ground := Ground.data }], guard := none } : Oper)) (v := .slice (some ⟨g, 0, none⟩) r cap) rfl (by kernel_rfl) (by kernel_rfl) (by kernel_rfl) (fun _ _ _ h => h) (Or.inl ⟨by rfl, fun x hSw => (by go_simp)⟩) hHeld ?_
          try simp only [Act.put, List.setIfInBounds_toArray, List.set_cons_zero, List.set_cons_succ]
          refine wpAnyH_take (i := 4) (oi := ({ dst := some 93, op := Op.move (Operand.tmp 3), type := 71, pos := "l4_stm.go:657", after := #[], guard := none } : Oper)) (v := .slice (some ⟨g, 0, none⟩) L.length cap) rfl (by kernel_rfl) (by kernel_rfl) (by kernel_rfl) (fun _ _ _ h => h) (Or.inl ⟨by rfl, fun x hSw => (by go_simp)⟩) hHeld ?_
          try simp only [Act.put, List.setIfInBounds_toArray, List.set_cons_zero, List.set_cons_succ]
          refine wpAnyH_take (i := 5) (oi := ({ dst := some 94, op := Op.move (Operand.tmp 6), type := 3, pos := "l4_stm.go:657", after := #[], guard := none } : Oper)) (v := .int .i64 (L.length : Int)) rfl (by kernel_rfl) (by kernel_rfl) (by kernel_rfl) (fun _ _ _ h => h) (Or.inl ⟨by rfl, fun x hSw => (by go_simp)⟩) hHeld ?_
          try simp only [Act.put, List.setIfInBounds_toArray, List.set_cons_zero, List.set_cons_succ]
          refine wpAnyH_take (i := 6) (oi := ({ dst := some 95, op := Op.binOp BinOp.sub 3 (Operand.tmp 94) (Operand.const (Value.int IntKind.i64 1)) 3, type := 3, pos := "l4_stm.go:657", after := #[{ on := 5, ground := Ground.data }], guard := none } : Oper)) (v := .int .i64 (r : Int)) rfl (by kernel_rfl) (by kernel_rfl) (by kernel_rfl) (fun _ _ _ h => h) (Or.inl ⟨by rfl, fun x hSw => (by go_simp)⟩) hHeld ?_
          try simp only [Act.put, List.setIfInBounds_toArray, List.set_cons_zero, List.set_cons_succ]
          refine wpAnyH_take (i := 7) (oi := ({ dst := some 96, op := Op.indexAddr 71 (Operand.tmp 93) (Operand.tmp 95), type := 0, pos := "l4_stm.go:657", after := #[{ on := 4, ground := Ground.data }, { on := 6, ground := Ground.data }], guard := none } : Oper)) (v := .pointer (some ⟨g, r, none⟩)) rfl (by kernel_rfl) (by kernel_rfl) (by kernel_rfl) (fun _ _ _ h => h) (Or.inl ⟨by rfl, fun x hSw => (by go_simp)⟩) hHeld ?_
          try simp only [Act.put, List.setIfInBounds_toArray, List.set_cons_zero, List.set_cons_succ]
          refine wpAnyH_ready (rs := [8]) (by kernel_rfl) (by simp) ?_
          refine AllReadyH.cons (o := ({ dst := some 97, op := Op.load 9 (Operand.tmp 96), type := 9, pos := "l4_stm.go:657", after := #[{ on := 7, ground := Ground.data }], guard := none } : Oper)) rfl (fun K hK => ?_) AllReadyH.nil
          go_simp
          refine hK.out _ _ (trivial) (fun hHeld => ?_)
          clear hK K
          try simp only [Act.put, List.setIfInBounds_toArray, List.set_cons_zero, List.set_cons_succ]
          refine wpAnyH_take (i := 9) (oi := ({ dst := some 98, op := Op.binOp BinOp.add 9 (Operand.const (Value.string { data := #[108, 101, 110, 40] })) (Operand.tmp 97) 9, type := 9, pos := "l4_stm.go:657", after := #[{ on := 8, ground := Ground.data }], guard := none } : Oper)) (v := .string (⟨#[108, 101, 110, 40]⟩ ++ A)) rfl (by kernel_rfl) (by kernel_rfl) (by kernel_rfl) (fun _ _ _ h => h) (Or.inl ⟨by rfl, fun x hSw => (by go_simp; try omega)⟩) hHeld ?_
          try simp only [Act.put, List.setIfInBounds_toArray, List.set_cons_zero, List.set_cons_succ]
          refine wpAnyH_take (i := 10) (oi := ({ dst := some 99, op := Op.binOp BinOp.add 9 (Operand.tmp 98) (Operand.const (Value.string { data := #[41] })) 9, type := 9, pos := "l4_stm.go:657", after := #[{ on := 9, ground := Ground.data }], guard := none } : Oper)) (v := .string (⟨#[108, 101, 110, 40]⟩ ++ A ++ ⟨#[41]⟩)) rfl (by kernel_rfl) (by kernel_rfl) (by kernel_rfl) (fun _ _ _ h => h) (Or.inl ⟨by rfl, fun x hSw => (by go_simp; try omega)⟩) hHeld ?_
          try simp only [Act.put, List.setIfInBounds_toArray, List.set_cons_zero, List.set_cons_succ]
          refine wpAnyH_ready (rs := [11]) (by kernel_rfl) (by simp) ?_
          refine AllReadyH.cons (o := ({ dst := some 100, op := Op.buildSlice 71 1 #[(0, Operand.tmp 99)], type := 71, pos := "l4_stm.go:657", after := #[{ on := 10, ground := Ground.data }], guard := none } : Oper)) rfl (fun K hK => ?_) AllReadyH.nil
          go_simp
          refine hK.out _ _ (trivial) (fun hHeld => ?_)
          clear hK K
          try simp only [Act.put, List.setIfInBounds_toArray, List.set_cons_zero, List.set_cons_succ]
          refine wpAnyH_ready (rs := [12]) (by kernel_rfl) (by simp) ?_
          refine AllReadyH.cons (o := ({ dst := some 101, op := Op.call { callee := Callee.builtin Builtin.append, args := #[Operand.tmp 92, Operand.tmp 100], argTypes := #[71, 71] }, type := 71, pos := "l4_stm.go:657", after := #[{ on := 3, ground := Ground.data }, { on := 11, ground := Ground.data }], guard := none } : Oper)) rfl (fun K hK => ?_) AllReadyH.nil
          rw [if_pos (by kernel_rfl)]
          refine wp_append_lies _ _ _ _ rfl w.heap.size 9 i0 (.string ByteArray.empty) 1 16 Tryz.underlying71 HI.out hz0 hz1 hz2 rfl (by omega) (.slice (some ⟨g, 0, none⟩) r cap) r _ rfl ((own_take hO1.drew (r := r) (by omega)).alloc _) ⟨wr.heap.size + 1, 0, none⟩ 1 1 [.string (⟨#[108, 101, 110, 40]⟩ ++ A ++ ⟨#[41]⟩)] rfl rfl HNW.out (ones _ rfl) (by omega) (by unfold maxLen; omega) (by omega) (by simp; omega) _ rfl ?_
          intro g4 cap4 w4 hO4 hgr4 hat4 hlt4
          refine hK.out _ _ (trivial) (fun hHeld => ?_)
          clear hK K
          try simp only [Act.put, List.setIfInBounds_toArray, List.set_cons_zero, List.set_cons_succ]
          refine wpAnyH_ready (rs := [13]) (by kernel_rfl) (by simp) ?_
          refine AllReadyH.cons (o := ({ dst := some 3, op := Op.assign (Operand.tmp 101), type := 71, pos := "l4_stm.go:657", after := #[{ on := 12, ground := Ground.data }, { on := 12, ground := Ground.chain }, { on := 0, ground := Ground.phase }, { on := 1, ground := Ground.phase }, { on := 2, ground := Ground.phase }, { on := 3, ground := Ground.phase }, { on := 4, ground := Ground.phase }, { on := 5, ground := Ground.phase }, { on := 6, ground := Ground.phase }, { on := 7, ground := Ground.phase }, { on := 8, ground := Ground.phase }, { on := 9, ground := Ground.phase }, { on := 10, ground := Ground.phase }, { on := 11, ground := Ground.phase }, { on := 12, ground := Ground.phase }], guard := none } : Oper)) rfl (fun K hK => ?_) AllReadyH.nil
          go_simp
          refine hK.out _ _ (trivial) (fun hHeld => ?_)
          clear hK K
          try simp only [Act.put, List.setIfInBounds_toArray, List.set_cons_zero, List.set_cons_succ]
          refine wpAnyH_done (by kernel_rfl) ?_ _
          have Q2 : w4.ownsRow w.heap.size 9 1 (.slice (some ⟨g4, 0, none⟩) (r + 1) cap4) (r + 1) ((L.take r ++ [nd]).map fun t => Value.string t.sql) := by
            rw [List.map_append, List.map_take, List.map_cons, List.map_nil, HS]
            exact hO4
          have Q6 : Below w.heap.size w w4 := by
            have x1 : Below w.heap.size w (wr.alloc (.cells #[.int .i64 (I k).o, .int .i64 (I k).m, .string (I k).s] 85)).drew := hb1.trans ((bdrew _).mono hb1.size)
            exact (x1.alloc x1.size _).grown hgr4 (by have := x1.size; simp; omega) (fun j hj => by have e : g = j := Option.some.inj hj; omega)
          clear hO4 hgr4 hat4 hHeld
          go_wp2
          go_roundw
          case rel => exact ⟨k + 1, L.take r ++ [nd], g4, cap4, by omega, by go_num, by first | (rw [Q1]; done) | rw [Q1, hr], by rw [Q1]; exact Q2, QS, by rw [Q1]; omega, QZ, Q6⟩
          case measure => simp [intOf]; omega
      · obtain rfl : q = 2 := by omega
        have h8 := sign_no h1
        obtain ⟨A, hA⟩ : ∃ A, (L.getD r (.num 0)).sql = A := ⟨_, rfl⟩
        obtain ⟨B, hB⟩ : ∃ B, (L.getD (r + 1) (.num 0)).sql = B := ⟨_, rfl⟩
        obtain ⟨G, hG⟩ : ∃ G, sgn3 (I k).o = G := ⟨_, rfl⟩
        have hc8 := str_cell hO1 rfl (show r < L.length by omega)
        have hc9 := str_cell hO1 rfl (show r + 1 < L.length by omega)
        rw [hA] at hc8
        rw [hB] at hc9
        have hsg := fun v => sSign3 (I k).o v h1
        rw [hG] at hsg
        have hGz : G.size ≤ 5 := by rw [← hG]; exact sgn3_size _
        have hAz : A.size ≤ 42000 := by
          have hl : r < L.length := by omega
          have e : L.getD r (.num 0) = L[r] := by simp [hl]
          rw [e] at hA
          rw [← hA]
          have := lenT_mem (List.getElem_mem hl)
          omega
        have hBz : B.size ≤ 42000 := by
          have hl : r + 1 < L.length := by omega
          have e : L.getD (r + 1) (.num 0) = L[r + 1] := by simp [hl]
          rw [e] at hB
          rw [← hB]
          have := lenT_mem (List.getElem_mem hl)
          omega
        have d4 : IntKind.i64.wrap ((L.length : Int) - 2) = (r : Int) := by rw [IntKind.wrap_i64]; omega
        have d5 : IntKind.i64.wrap ((L.length : Int) - 1) = (r : Int) + 1 := by rw [IntKind.wrap_i64]; omega
        have d6 : wrap64 ((L.length : Int) - 2) = (r : Int) := by unfold wrap64; omega
        have d7 : wrap64 ((L.length : Int) - 1) = (r : Int) + 1 := by unfold wrap64; omega
        have i0r : (0 : Int) ≤ (r : Int) := by omega
        have i1r : (r : Int) ≤ (cap : Int) := by omega
        have i2r : (r : Int) < (L.length : Int) := by omega
        have i3r : r ≤ cap := by omega
        have i4r : (r : Int) + 1 < (L.length : Int) := by omega
        have i5r : (0 : Int) ≤ (r : Int) + 1 := by omega
        obtain ⟨nd, hnd⟩ : ∃ t : Tr, mkN (I k).o (I k).m (I k).s (fun j => L.getD (r + j) (.num 0)) = t := ⟨_, rfl⟩
        have HS : nd.sql = ⟨#[40]⟩ ++ A ++ G ++ B ++ ⟨#[41]⟩ := by
          rw [← hnd, ← hA, ← hB, ← hG]
          unfold mkN
          rw [if_neg (by omega), if_neg (by omega), if_neg (by omega), if_neg (by omega), sqlTwo]
          rfl
        have QS := stk_step HL.out hq hr hnd
        have Q1 : (L.take r ++ [nd]).length = r + 1 := by simp; omega
        have QZ : lenT (L.take r ++ [nd]) ≤ 42000 := by
          rw [QS]
          have := HZ.out (k + 1) (by omega)
          omega
        clear hnd hA hB hG
        · have n1 : ((I k).o == 1) = false := by simp; omega
          have n2 : ((I k).o == 2) = false := by simp; omega
          have n3 : ((I k).o == 3) = false := by simp; omega
          have n11 : ((I k).o == 11) = false := by simp; omega
          have n13 : ((I k).o == 13) = false := by simp; omega
          go_wp2
          have HNW : Hid (∀ j u, ([.string (⟨#[40]⟩ ++ A ++ G ++ B ++ ⟨#[41]⟩)] : List Value)[j]? = some u → ((wr.alloc (.cells #[.int .i64 (I k).o, .int .i64 (I k).m, .string (I k).s] 85)).drew.alloc (.cells #[.string (⟨#[40]⟩ ++ A ++ G ++ B ++ ⟨#[41]⟩)] 9)).cell? ((⟨wr.heap.size + 1, 0, none⟩ : Addr).add j) = some u) := by
            have := World.news_of_block (heap_alloc_new (wr.alloc (.cells #[.int .i64 (I k).o, .int .i64 (I k).m, .string (I k).s] 85)).drew (.cells #[.string (⟨#[40]⟩ ++ A ++ G ++ B ++ ⟨#[41]⟩)] 9))
            rw [show (wr.alloc (.cells #[.int .i64 (I k).o, .int .i64 (I k).m, .string (I k).s] 85)).drew.heap.size = wr.heap.size + 1 from hs1] at this
            exact this
          refine wp_region_held_drew (S := Bx3 wr.heap.size (I k)) (by kernel_rfl) (hX1.drew) (fun hHeld => ?_)
          refine wpAnyH_take (i := 0) (oi := ({ dst := some 16, op := Op.move (Operand.tmp 3), type := 71, pos := "l4_stm.go:659", after := #[], guard := none } : Oper)) (v := .slice (some ⟨g, 0, none⟩) L.length cap) rfl (by kernel_rfl) (by kernel_rfl) (by kernel_rfl) (fun _ _ _ h => h) (Or.inl ⟨by rfl, fun x hSw => (by go_simp)⟩) hHeld ?_
          try simp only [Act.put, List.setIfInBounds_toArray, List.set_cons_zero, List.set_cons_succ]
          refine wpAnyH_take (i := 1) (oi := ({ dst := some 17, op := Op.move (Operand.tmp 6), type := 3, pos := "l4_stm.go:659", after := #[], guard := none } : Oper)) (v := .int .i64 (L.length : Int)) rfl (by kernel_rfl) (by kernel_rfl) (by kernel_rfl) (fun _ _ _ h => h) (Or.inl ⟨by rfl, fun x hSw => (by go_simp)⟩) hHeld ?_
          try simp only [Act.put, List.setIfInBounds_toArray, List.set_cons_zero, List.set_cons_succ]
          refine wpAnyH_take (i := 2) (oi := ({ dst := some 18, op := Op.binOp BinOp.sub 3 (Operand.tmp 17) (Operand.const (Value.int IntKind.i64 2)) 3, type := 3, pos := "l4_stm.go:659", after := #[{ on := 1, ground := Ground.data }], guard := none } : Oper)) (v := .int .i64 (r : Int)) rfl (by kernel_rfl) (by kernel_rfl) (by kernel_rfl) (fun _ _ _ h => h) (Or.inl ⟨by rfl, fun x hSw => (by go_simp)⟩) hHeld ?_
          try simp only [Act.put, List.setIfInBounds_toArray, List.set_cons_zero, List.set_cons_succ]
          refine wpAnyH_take (i := 3) (oi := ({ dst := some 19, op := Op.slice 71 (Operand.tmp 16) none (some (Operand.tmp 18)) none, type := 71, pos := "l4_stm.go:659", after := #[{ on := 0, ground := Ground.data }, { on := 2, ground := Ground.data }], guard := none } : Oper)) (v := .slice (some ⟨g, 0, none⟩) r cap) rfl (by kernel_rfl) (by kernel_rfl) (by kernel_rfl) (fun _ _ _ h => h) (Or.inl ⟨by rfl, fun x hSw => (by go_simp)⟩) hHeld ?_
          try simp only [Act.put, List.setIfInBounds_toArray, List.set_cons_zero, List.set_cons_succ]
          refine wpAnyH_take (i := 4) (oi := ({ dst := some 20, op := Op.move (Operand.tmp 3), type := 71, pos := "l4_stm.go:659", after := #[], guard := none } : Oper)) (v := .slice (some ⟨g, 0, none⟩) L.length cap) rfl (by kernel_rfl) (by kernel_rfl) (by kernel_rfl) (fun _ _ _ h => h) (Or.inl ⟨by rfl, fun x hSw => (by go_simp)⟩) hHeld ?_
          try simp only [Act.put, List.setIfInBounds_toArray, List.set_cons_zero, List.set_cons_succ]
          refine wpAnyH_take (i := 5) (oi := ({ dst := some 21, op := Op.move (Operand.tmp 6), type := 3, pos := "l4_stm.go:659", after := #[], guard := none } : Oper)) (v := .int .i64 (L.length : Int)) rfl (by kernel_rfl) (by kernel_rfl) (by kernel_rfl) (fun _ _ _ h => h) (Or.inl ⟨by rfl, fun x hSw => (by go_simp)⟩) hHeld ?_
          try simp only [Act.put, List.setIfInBounds_toArray, List.set_cons_zero, List.set_cons_succ]
          refine wpAnyH_take (i := 6) (oi := ({ dst := some 22, op := Op.binOp BinOp.sub 3 (Operand.tmp 21) (Operand.const (Value.int IntKind.i64 2)) 3, type := 3, pos := "l4_stm.go:659", after := #[{ on := 5, ground := Ground.data }], guard := none } : Oper)) (v := .int .i64 (r : Int)) rfl (by kernel_rfl) (by kernel_rfl) (by kernel_rfl) (fun _ _ _ h => h) (Or.inl ⟨by rfl, fun x hSw => (by go_simp)⟩) hHeld ?_
          try simp only [Act.put, List.setIfInBounds_toArray, List.set_cons_zero, List.set_cons_succ]
          refine wpAnyH_take (i := 7) (oi := ({ dst := some 23, op := Op.indexAddr 71 (Operand.tmp 20) (Operand.tmp 22), type := 0, pos := "l4_stm.go:659", after := #[{ on := 4, ground := Ground.data }, { on := 6, ground := Ground.data }], guard := none } : Oper)) (v := .pointer (some ⟨g, r, none⟩)) rfl (by kernel_rfl) (by kernel_rfl) (by kernel_rfl) (fun _ _ _ h => h) (Or.inl ⟨by rfl, fun x hSw => (by go_simp)⟩) hHeld ?_
          try simp only [Act.put, List.setIfInBounds_toArray, List.set_cons_zero, List.set_cons_succ]
          refine wpAnyH_take (i := 10) (oi := ({ dst := some 26, op := Op.fieldAddr 85 (Operand.tmp 5) 0, type := 0, pos := "l4_stm.go:659", after := #[], guard := none } : Oper)) (v := .pointer (some ⟨wr.heap.size, 0, none⟩)) rfl (by kernel_rfl) (by kernel_rfl) (by kernel_rfl) (fun _ _ _ h => h) (Or.inl ⟨by rfl, fun x hSw => (by go_simp)⟩) hHeld ?_
          try simp only [Act.put, List.setIfInBounds_toArray, List.set_cons_zero, List.set_cons_succ]
          refine wpAnyH_take (i := 11) (oi := ({ dst := some 27, op := Op.load 3 (Operand.tmp 26), type := 3, pos := "l4_stm.go:659", after := #[{ on := 10, ground := Ground.data }], guard := none } : Oper)) (v := .int .i64 (I k).o) rfl (by kernel_rfl) (by kernel_rfl) (by kernel_rfl) (fun _ _ _ h => h) (Or.inl ⟨by rfl, fun x hSw => (by obtain ⟨x0, x1, x2⟩ := hSw; go_simp)⟩) hHeld ?_
          try simp only [Act.put, List.setIfInBounds_toArray, List.set_cons_zero, List.set_cons_succ]
          refine wpAnyH_take (i := 14) (oi := ({ dst := some 30, op := Op.move (Operand.tmp 3), type := 71, pos := "l4_stm.go:659", after := #[], guard := none } : Oper)) (v := .slice (some ⟨g, 0, none⟩) L.length cap) rfl (by kernel_rfl) (by kernel_rfl) (by kernel_rfl) (fun _ _ _ h => h) (Or.inl ⟨by rfl, fun x hSw => (by go_simp)⟩) hHeld ?_
          try simp only [Act.put, List.setIfInBounds_toArray, List.set_cons_zero, List.set_cons_succ]
          refine wpAnyH_take (i := 15) (oi := ({ dst := some 31, op := Op.move (Operand.tmp 6), type := 3, pos := "l4_stm.go:659", after := #[], guard := none } : Oper)) (v := .int .i64 (L.length : Int)) rfl (by kernel_rfl) (by kernel_rfl) (by kernel_rfl) (fun _ _ _ h => h) (Or.inl ⟨by rfl, fun x hSw => (by go_simp)⟩) hHeld ?_
          try simp only [Act.put, List.setIfInBounds_toArray, List.set_cons_zero, List.set_cons_succ]
          refine wpAnyH_take (i := 16) (oi := ({ dst := some 32, op := Op.binOp BinOp.sub 3 (Operand.tmp 31) (Operand.const (Value.int IntKind.i64 1)) 3, type := 3, pos := "l4_stm.go:659", after := #[{ on := 15, ground := Ground.data }], guard := none } : Oper)) (v := .int .i64 ((r : Int) + 1)) rfl (by kernel_rfl) (by kernel_rfl) (by kernel_rfl) (fun _ _ _ h => h) (Or.inl ⟨by rfl, fun x hSw => (by go_simp)⟩) hHeld ?_
          try simp only [Act.put, List.setIfInBounds_toArray, List.set_cons_zero, List.set_cons_succ]
          refine wpAnyH_take (i := 17) (oi := ({ dst := some 33, op := Op.indexAddr 71 (Operand.tmp 30) (Operand.tmp 32), type := 0, pos := "l4_stm.go:659", after := #[{ on := 14, ground := Ground.data }, { on := 16, ground := Ground.data }], guard := none } : Oper)) (v := .pointer (some ⟨g, r + 1, none⟩)) rfl (by kernel_rfl) (by kernel_rfl) (by kernel_rfl) (fun _ _ _ h => h) (Or.inl ⟨by rfl, fun x hSw => (by go_simp)⟩) hHeld ?_
          try simp only [Act.put, List.setIfInBounds_toArray, List.set_cons_zero, List.set_cons_succ]
          refine wpAnyH_ready (rs := [8, 12, 18]) (by kernel_rfl) (by simp) ?_
          refine AllReadyH.cons (o := ({ dst := some 24, op := Op.load 9 (Operand.tmp 23), type := 9, pos := "l4_stm.go:659", after := #[{ on := 7, ground := Ground.data }], guard := none } : Oper)) rfl (fun K hK => ?_) (AllReadyH.cons (o := ({ dst := some 28, op := Op.call { callee := Callee.value (Operand.func 90), args := #[Operand.tmp 27], argTypes := #[3] }, type := 9, pos := "l4_stm.go:659", after := #[{ on := 11, ground := Ground.data }], guard := none } : Oper)) rfl (fun K hK => ?_) (AllReadyH.cons (o := ({ dst := some 34, op := Op.load 9 (Operand.tmp 33), type := 9, pos := "l4_stm.go:659", after := #[{ on := 17, ground := Ground.data }], guard := none } : Oper)) rfl (fun K hK => ?_) AllReadyH.nil))
          · go_simp
            refine hK.out _ _ (hHeld) (fun hHeld => ?_)
            clear hK K
            try simp only [Act.put, List.setIfInBounds_toArray, List.set_cons_zero, List.set_cons_succ]
            refine wpAnyH_take (i := 9) (oi := ({ dst := some 25, op := Op.binOp BinOp.add 9 (Operand.const (Value.string { data := #[40] })) (Operand.tmp 24) 9, type := 9, pos := "l4_stm.go:659", after := #[{ on := 8, ground := Ground.data }], guard := none } : Oper)) (v := .string (⟨#[40]⟩ ++ A)) rfl (by kernel_rfl) (by kernel_rfl) (by kernel_rfl) (fun _ _ _ h => h) (Or.inl ⟨by rfl, fun x hSw => (by go_simp; try omega)⟩) hHeld ?_
            try simp only [Act.put, List.setIfInBounds_toArray, List.set_cons_zero, List.set_cons_succ]
            refine wpAnyH_ready (rs := [12, 18]) (by kernel_rfl) (by simp) ?_
            refine AllReadyH.cons (o := ({ dst := some 28, op := Op.call { callee := Callee.value (Operand.func 90), args := #[Operand.tmp 27], argTypes := #[3] }, type := 9, pos := "l4_stm.go:659", after := #[{ on := 11, ground := Ground.data }], guard := none } : Oper)) rfl (fun K hK => ?_) (AllReadyH.cons (o := ({ dst := some 34, op := Op.load 9 (Operand.tmp 33), type := 9, pos := "l4_stm.go:659", after := #[{ on := 17, ground := Ground.data }], guard := none } : Oper)) rfl (fun K hK => ?_) AllReadyH.nil)
            · go_simp
              refine (hsg _).mono ?_
              rintro e w2 ⟨rfl, rfl⟩
              refine hK.out _ _ (hHeld) (fun hHeld => ?_)
              clear hK K
              try simp only [Act.put, List.setIfInBounds_toArray, List.set_cons_zero, List.set_cons_succ]
              refine wpAnyH_take (i := 13) (oi := ({ dst := some 29, op := Op.binOp BinOp.add 9 (Operand.tmp 25) (Operand.tmp 28) 9, type := 9, pos := "l4_stm.go:659", after := #[{ on := 9, ground := Ground.data }, { on := 12, ground := Ground.data }], guard := none } : Oper)) (v := .string (⟨#[40]⟩ ++ A ++ G)) rfl (by kernel_rfl) (by kernel_rfl) (by kernel_rfl) (fun _ _ _ h => h) (Or.inl ⟨by rfl, fun x hSw => (by go_simp; try omega)⟩) hHeld ?_
              try simp only [Act.put, List.setIfInBounds_toArray, List.set_cons_zero, List.set_cons_succ]
              refine wpAnyH_ready (rs := [18]) (by kernel_rfl) (by simp) ?_
              refine AllReadyH.cons (o := ({ dst := some 34, op := Op.load 9 (Operand.tmp 33), type := 9, pos := "l4_stm.go:659", after := #[{ on := 17, ground := Ground.data }], guard := none } : Oper)) rfl (fun K hK => ?_) AllReadyH.nil
              go_simp
              refine hK.out _ _ (hHeld) (fun hHeld => ?_)
              clear hK K
              try simp only [Act.put, List.setIfInBounds_toArray, List.set_cons_zero, List.set_cons_succ]
              refine wpAnyH_take (i := 19) (oi := ({ dst := some 35, op := Op.binOp BinOp.add 9 (Operand.tmp 29) (Operand.tmp 34) 9, type := 9, pos := "l4_stm.go:659", after := #[{ on := 13, ground := Ground.data }, { on := 18, ground := Ground.data }], guard := none } : Oper)) (v := .string (⟨#[40]⟩ ++ A ++ G ++ B)) rfl (by kernel_rfl) (by kernel_rfl) (by kernel_rfl) (fun _ _ _ h => h) (Or.inl ⟨by rfl, fun x hSw => (by go_simp; try omega)⟩) hHeld ?_
              try simp only [Act.put, List.setIfInBounds_toArray, List.set_cons_zero, List.set_cons_succ]
              refine wpAnyH_take (i := 20) (oi := ({ dst := some 36, op := Op.binOp BinOp.add 9 (Operand.tmp 35) (Operand.const (Value.string { data := #[41] })) 9, type := 9, pos := "l4_stm.go:659", after := #[{ on := 19, ground := Ground.data }], guard := none } : Oper)) (v := .string (⟨#[40]⟩ ++ A ++ G ++ B ++ ⟨#[41]⟩)) rfl (by kernel_rfl) (by kernel_rfl) (by kernel_rfl) (fun _ _ _ h => h) (Or.inl ⟨by rfl, fun x hSw => (by go_simp; try omega)⟩) hHeld ?_
              try simp only [Act.put, List.setIfInBounds_toArray, List.set_cons_zero, List.set_cons_succ]
              refine wpAnyH_ready (rs := [21]) (by kernel_rfl) (by simp) ?_
              refine AllReadyH.cons (o := ({ dst := some 37, op := Op.buildSlice 71 1 #[(0, Operand.tmp 36)], type := 71, pos := "l4_stm.go:659", after := #[{ on := 20, ground := Ground.data }], guard := none } : Oper)) rfl (fun K hK => ?_) AllReadyH.nil
              go_simp
              refine hK.out _ _ (hHeld.later (bal _ _)) (fun hHeld => ?_)
              clear hK K
              try simp only [Act.put, List.setIfInBounds_toArray, List.set_cons_zero, List.set_cons_succ]
              refine wpAnyH_ready (rs := [22]) (by kernel_rfl) (by simp) ?_
              refine AllReadyH.cons (o := ({ dst := some 38, op := Op.call { callee := Callee.builtin Builtin.append, args := #[Operand.tmp 19, Operand.tmp 37], argTypes := #[71, 71] }, type := 71, pos := "l4_stm.go:659", after := #[{ on := 3, ground := Ground.data }, { on := 21, ground := Ground.data }, { on := 12, ground := Ground.chain }], guard := none } : Oper)) rfl (fun K hK => ?_) AllReadyH.nil
              rw [if_pos (by kernel_rfl)]
              refine wp_append_lies _ _ _ _ rfl w.heap.size 9 i0 (.string ByteArray.empty) 1 16 Tryz.underlying71 HI.out hz0 hz1 hz2 rfl (by omega) (.slice (some ⟨g, 0, none⟩) r cap) r _ rfl ((own_take hO1.drew (r := r) (by omega)).alloc _) ⟨wr.heap.size + 1, 0, none⟩ 1 1 [.string (⟨#[40]⟩ ++ A ++ G ++ B ++ ⟨#[41]⟩)] rfl rfl HNW.out (ones _ rfl) (by omega) (by unfold maxLen; omega) (by omega) (by simp; omega) _ rfl ?_
              intro g4 cap4 w4 hO4 hgr4 hat4 hlt4
              refine hK.out _ _ (hHeld.grown hgr4 (by show some _ ≠ some g; simp; omega)) (fun hHeld => ?_)
              clear hK K
              try simp only [Act.put, List.setIfInBounds_toArray, List.set_cons_zero, List.set_cons_succ]
              refine wpAnyH_ready (rs := [23]) (by kernel_rfl) (by simp) ?_
              refine AllReadyH.cons (o := ({ dst := some 3, op := Op.assign (Operand.tmp 38), type := 71, pos := "l4_stm.go:659", after := #[{ on := 22, ground := Ground.data }, { on := 22, ground := Ground.chain }, { on := 0, ground := Ground.phase }, { on := 1, ground := Ground.phase }, { on := 2, ground := Ground.phase }, { on := 3, ground := Ground.phase }, { on := 4, ground := Ground.phase }, { on := 5, ground := Ground.phase }, { on := 6, ground := Ground.phase }, { on := 7, ground := Ground.phase }, { on := 8, ground := Ground.phase }, { on := 9, ground := Ground.phase }, { on := 10, ground := Ground.phase }, { on := 11, ground := Ground.phase }, { on := 12, ground := Ground.phase }, { on := 13, ground := Ground.phase }, { on := 14, ground := Ground.phase }, { on := 15, ground := Ground.phase }, { on := 16, ground := Ground.phase }, { on := 17, ground := Ground.phase }, { on := 18, ground := Ground.phase }, { on := 19, ground := Ground.phase }, { on := 20, ground := Ground.phase }, { on := 21, ground := Ground.phase }, { on := 22, ground := Ground.phase }], guard := none } : Oper)) rfl (fun K hK => ?_) AllReadyH.nil
              go_simp
              refine hK.out _ _ (hHeld) (fun hHeld => ?_)
              clear hK K
              try simp only [Act.put, List.setIfInBounds_toArray, List.set_cons_zero, List.set_cons_succ]
              refine wpAnyH_done (by kernel_rfl) ?_ _
              have Q2 : w4.ownsRow w.heap.size 9 1 (.slice (some ⟨g4, 0, none⟩) (r + 1) cap4) (r + 1) ((L.take r ++ [nd]).map fun t => Value.string t.sql) := by
                rw [List.map_append, List.map_take, List.map_cons, List.map_nil, HS]
                exact hO4
              have Q6 : Below w.heap.size w w4 := by
                have x1 : Below w.heap.size w (wr.alloc (.cells #[.int .i64 (I k).o, .int .i64 (I k).m, .string (I k).s] 85)).drew := hb1.trans ((bdrew _).mono hb1.size)
                exact (x1.alloc x1.size _).grown hgr4 (by have := x1.size; simp; omega) (fun j hj => by have e : g = j := Option.some.inj hj; omega)
              clear hO4 hgr4 hat4 hHeld
              go_wp2
              go_roundw
              case rel => exact ⟨k + 1, L.take r ++ [nd], g4, cap4, by omega, by go_num, by first | (rw [Q1]; done) | rw [Q1, hr], by rw [Q1]; exact Q2, QS, by rw [Q1]; omega, QZ, Q6⟩
              case measure => simp [intOf]; omega
            · go_simp
              refine hK.out _ _ (hHeld) (fun hHeld => ?_)
              clear hK K
              try simp only [Act.put, List.setIfInBounds_toArray, List.set_cons_zero, List.set_cons_succ]
              refine wpAnyH_ready (rs := [12]) (by kernel_rfl) (by simp) ?_
              refine AllReadyH.cons (o := ({ dst := some 28, op := Op.call { callee := Callee.value (Operand.func 90), args := #[Operand.tmp 27], argTypes := #[3] }, type := 9, pos := "l4_stm.go:659", after := #[{ on := 11, ground := Ground.data }], guard := none } : Oper)) rfl (fun K hK => ?_) AllReadyH.nil
              go_simp
              refine (hsg _).mono ?_
              rintro e w2 ⟨rfl, rfl⟩
              refine hK.out _ _ (hHeld) (fun hHeld => ?_)
              clear hK K
              try simp only [Act.put, List.setIfInBounds_toArray, List.set_cons_zero, List.set_cons_succ]
              refine wpAnyH_take (i := 13) (oi := ({ dst := some 29, op := Op.binOp BinOp.add 9 (Operand.tmp 25) (Operand.tmp 28) 9, type := 9, pos := "l4_stm.go:659", after := #[{ on := 9, ground := Ground.data }, { on := 12, ground := Ground.data }], guard := none } : Oper)) (v := .string (⟨#[40]⟩ ++ A ++ G)) rfl (by kernel_rfl) (by kernel_rfl) (by kernel_rfl) (fun _ _ _ h => h) (Or.inl ⟨by rfl, fun x hSw => (by go_simp; try omega)⟩) hHeld ?_
              try simp only [Act.put, List.setIfInBounds_toArray, List.set_cons_zero, List.set_cons_succ]
              refine wpAnyH_take (i := 19) (oi := ({ dst := some 35, op := Op.binOp BinOp.add 9 (Operand.tmp 29) (Operand.tmp 34) 9, type := 9, pos := "l4_stm.go:659", after := #[{ on := 13, ground := Ground.data }, { on := 18, ground := Ground.data }], guard := none } : Oper)) (v := .string (⟨#[40]⟩ ++ A ++ G ++ B)) rfl (by kernel_rfl) (by kernel_rfl) (by kernel_rfl) (fun _ _ _ h => h) (Or.inl ⟨by rfl, fun x hSw => (by go_simp; try omega)⟩) hHeld ?_
              try simp only [Act.put, List.setIfInBounds_toArray, List.set_cons_zero, List.set_cons_succ]
              refine wpAnyH_take (i := 20) (oi := ({ dst := some 36, op := Op.binOp BinOp.add 9 (Operand.tmp 35) (Operand.const (Value.string { data := #[41] })) 9, type := 9, pos := "l4_stm.go:659", after := #[{ on := 19, ground := Ground.data }], guard := none } : Oper)) (v := .string (⟨#[40]⟩ ++ A ++ G ++ B ++ ⟨#[41]⟩)) rfl (by kernel_rfl) (by kernel_rfl) (by kernel_rfl) (fun _ _ _ h => h) (Or.inl ⟨by rfl, fun x hSw => (by go_simp; try omega)⟩) hHeld ?_
              try simp only [Act.put, List.setIfInBounds_toArray, List.set_cons_zero, List.set_cons_succ]
              refine wpAnyH_ready (rs := [21]) (by kernel_rfl) (by simp) ?_
              refine AllReadyH.cons (o := ({ dst := some 37, op := Op.buildSlice 71 1 #[(0, Operand.tmp 36)], type := 71, pos := "l4_stm.go:659", after := #[{ on := 20, ground := Ground.data }], guard := none } : Oper)) rfl (fun K hK => ?_) AllReadyH.nil
              go_simp
              refine hK.out _ _ (hHeld.later (bal _ _)) (fun hHeld => ?_)
              clear hK K
              try simp only [Act.put, List.setIfInBounds_toArray, List.set_cons_zero, List.set_cons_succ]
              refine wpAnyH_ready (rs := [22]) (by kernel_rfl) (by simp) ?_
              refine AllReadyH.cons (o := ({ dst := some 38, op := Op.call { callee := Callee.builtin Builtin.append, args := #[Operand.tmp 19, Operand.tmp 37], argTypes := #[71, 71] }, type := 71, pos := "l4_stm.go:659", after := #[{ on := 3, ground := Ground.data }, { on := 21, ground := Ground.data }, { on := 12, ground := Ground.chain }], guard := none } : Oper)) rfl (fun K hK => ?_) AllReadyH.nil
              rw [if_pos (by kernel_rfl)]
              refine wp_append_lies _ _ _ _ rfl w.heap.size 9 i0 (.string ByteArray.empty) 1 16 Tryz.underlying71 HI.out hz0 hz1 hz2 rfl (by omega) (.slice (some ⟨g, 0, none⟩) r cap) r _ rfl ((own_take hO1.drew (r := r) (by omega)).alloc _) ⟨wr.heap.size + 1, 0, none⟩ 1 1 [.string (⟨#[40]⟩ ++ A ++ G ++ B ++ ⟨#[41]⟩)] rfl rfl HNW.out (ones _ rfl) (by omega) (by unfold maxLen; omega) (by omega) (by simp; omega) _ rfl ?_
              intro g4 cap4 w4 hO4 hgr4 hat4 hlt4
              refine hK.out _ _ (hHeld.grown hgr4 (by show some _ ≠ some g; simp; omega)) (fun hHeld => ?_)
              clear hK K
              try simp only [Act.put, List.setIfInBounds_toArray, List.set_cons_zero, List.set_cons_succ]
              refine wpAnyH_ready (rs := [23]) (by kernel_rfl) (by simp) ?_
              refine AllReadyH.cons (o := ({ dst := some 3, op := Op.assign (Operand.tmp 38), type := 71, pos := "l4_stm.go:659", after := #[{ on := 22, ground := Ground.data }, { on := 22, ground := Ground.chain }, { on := 0, ground := Ground.phase }, { on := 1, ground := Ground.phase }, { on := 2, ground := Ground.phase }, { on := 3, ground := Ground.phase }, { on := 4, ground := Ground.phase }, { on := 5, ground := Ground.phase }, { on := 6, ground := Ground.phase }, { on := 7, ground := Ground.phase }, { on := 8, ground := Ground.phase }, { on := 9, ground := Ground.phase }, { on := 10, ground := Ground.phase }, { on := 11, ground := Ground.phase }, { on := 12, ground := Ground.phase }, { on := 13, ground := Ground.phase }, { on := 14, ground := Ground.phase }, { on := 15, ground := Ground.phase }, { on := 16, ground := Ground.phase }, { on := 17, ground := Ground.phase }, { on := 18, ground := Ground.phase }, { on := 19, ground := Ground.phase }, { on := 20, ground := Ground.phase }, { on := 21, ground := Ground.phase }, { on := 22, ground := Ground.phase }], guard := none } : Oper)) rfl (fun K hK => ?_) AllReadyH.nil
              go_simp
              refine hK.out _ _ (hHeld) (fun hHeld => ?_)
              clear hK K
              try simp only [Act.put, List.setIfInBounds_toArray, List.set_cons_zero, List.set_cons_succ]
              refine wpAnyH_done (by kernel_rfl) ?_ _
              have Q2 : w4.ownsRow w.heap.size 9 1 (.slice (some ⟨g4, 0, none⟩) (r + 1) cap4) (r + 1) ((L.take r ++ [nd]).map fun t => Value.string t.sql) := by
                rw [List.map_append, List.map_take, List.map_cons, List.map_nil, HS]
                exact hO4
              have Q6 : Below w.heap.size w w4 := by
                have x1 : Below w.heap.size w (wr.alloc (.cells #[.int .i64 (I k).o, .int .i64 (I k).m, .string (I k).s] 85)).drew := hb1.trans ((bdrew _).mono hb1.size)
                exact (x1.alloc x1.size _).grown hgr4 (by have := x1.size; simp; omega) (fun j hj => by have e : g = j := Option.some.inj hj; omega)
              clear hO4 hgr4 hat4 hHeld
              go_wp2
              go_roundw
              case rel => exact ⟨k + 1, L.take r ++ [nd], g4, cap4, by omega, by go_num, by first | (rw [Q1]; done) | rw [Q1, hr], by rw [Q1]; exact Q2, QS, by rw [Q1]; omega, QZ, Q6⟩
              case measure => simp [intOf]; omega
          · go_simp
            refine (hsg _).mono ?_
            rintro e w2 ⟨rfl, rfl⟩
            refine hK.out _ _ (hHeld) (fun hHeld => ?_)
            clear hK K
            try simp only [Act.put, List.setIfInBounds_toArray, List.set_cons_zero, List.set_cons_succ]
            refine wpAnyH_ready (rs := [8, 18]) (by kernel_rfl) (by simp) ?_
            refine AllReadyH.cons (o := ({ dst := some 24, op := Op.load 9 (Operand.tmp 23), type := 9, pos := "l4_stm.go:659", after := #[{ on := 7, ground := Ground.data }], guard := none } : Oper)) rfl (fun K hK => ?_) (AllReadyH.cons (o := ({ dst := some 34, op := Op.load 9 (Operand.tmp 33), type := 9, pos := "l4_stm.go:659", after := #[{ on := 17, ground := Ground.data }], guard := none } : Oper)) rfl (fun K hK => ?_) AllReadyH.nil)
            · go_simp
              refine hK.out _ _ (hHeld) (fun hHeld => ?_)
              clear hK K
              try simp only [Act.put, List.setIfInBounds_toArray, List.set_cons_zero, List.set_cons_succ]
              refine wpAnyH_take (i := 9) (oi := ({ dst := some 25, op := Op.binOp BinOp.add 9 (Operand.const (Value.string { data := #[40] })) (Operand.tmp 24) 9, type := 9, pos := "l4_stm.go:659", after := #[{ on := 8, ground := Ground.data }], guard := none } : Oper)) (v := .string (⟨#[40]⟩ ++ A)) rfl (by kernel_rfl) (by kernel_rfl) (by kernel_rfl) (fun _ _ _ h => h) (Or.inl ⟨by rfl, fun x hSw => (by go_simp; try omega)⟩) hHeld ?_
              try simp only [Act.put, List.setIfInBounds_toArray, List.set_cons_zero, List.set_cons_succ]
              refine wpAnyH_take (i := 13) (oi := ({ dst := some 29, op := Op.binOp BinOp.add 9 (Operand.tmp 25) (Operand.tmp 28) 9, type := 9, pos := "l4_stm.go:659", after := #[{ on := 9, ground := Ground.data }, { on := 12, ground := Ground.data }], guard := none } : Oper)) (v := .string (⟨#[40]⟩ ++ A ++ G)) rfl (by kernel_rfl) (by kernel_rfl) (by kernel_rfl) (fun _ _ _ h => h) (Or.inl ⟨by rfl, fun x hSw => (by go_simp; try omega)⟩) hHeld ?_
              try simp only [Act.put, List.setIfInBounds_toArray, List.set_cons_zero, List.set_cons_succ]
              refine wpAnyH_ready (rs := [18]) (by kernel_rfl) (by simp) ?_
              refine AllReadyH.cons (o := ({ dst := some 34, op := Op.load 9 (Operand.tmp 33), type := 9, pos := "l4_stm.go:659", after := #[{ on := 17, ground := Ground.data }], guard := none } : Oper)) rfl (fun K hK => ?_) AllReadyH.nil
              go_simp
              refine hK.out _ _ (hHeld) (fun hHeld => ?_)
              clear hK K
              try simp only [Act.put, List.setIfInBounds_toArray, List.set_cons_zero, List.set_cons_succ]
              refine wpAnyH_take (i := 19) (oi := ({ dst := some 35, op := Op.binOp BinOp.add 9 (Operand.tmp 29) (Operand.tmp 34) 9, type := 9, pos := "l4_stm.go:659", after := #[{ on := 13, ground := Ground.data }, { on := 18, ground := Ground.data }], guard := none } : Oper)) (v := .string (⟨#[40]⟩ ++ A ++ G ++ B)) rfl (by kernel_rfl) (by kernel_rfl) (by kernel_rfl) (fun _ _ _ h => h) (Or.inl ⟨by rfl, fun x hSw => (by go_simp; try omega)⟩) hHeld ?_
              try simp only [Act.put, List.setIfInBounds_toArray, List.set_cons_zero, List.set_cons_succ]
              refine wpAnyH_take (i := 20) (oi := ({ dst := some 36, op := Op.binOp BinOp.add 9 (Operand.tmp 35) (Operand.const (Value.string { data := #[41] })) 9, type := 9, pos := "l4_stm.go:659", after := #[{ on := 19, ground := Ground.data }], guard := none } : Oper)) (v := .string (⟨#[40]⟩ ++ A ++ G ++ B ++ ⟨#[41]⟩)) rfl (by kernel_rfl) (by kernel_rfl) (by kernel_rfl) (fun _ _ _ h => h) (Or.inl ⟨by rfl, fun x hSw => (by go_simp; try omega)⟩) hHeld ?_
              try simp only [Act.put, List.setIfInBounds_toArray, List.set_cons_zero, List.set_cons_succ]
              refine wpAnyH_ready (rs := [21]) (by kernel_rfl) (by simp) ?_
              refine AllReadyH.cons (o := ({ dst := some 37, op := Op.buildSlice 71 1 #[(0, Operand.tmp 36)], type := 71, pos := "l4_stm.go:659", after := #[{ on := 20, ground := Ground.data }], guard := none } : Oper)) rfl (fun K hK => ?_) AllReadyH.nil
              go_simp
              refine hK.out _ _ (hHeld.later (bal _ _)) (fun hHeld => ?_)
              clear hK K
              try simp only [Act.put, List.setIfInBounds_toArray, List.set_cons_zero, List.set_cons_succ]
              refine wpAnyH_ready (rs := [22]) (by kernel_rfl) (by simp) ?_
              refine AllReadyH.cons (o := ({ dst := some 38, op := Op.call { callee := Callee.builtin Builtin.append, args := #[Operand.tmp 19, Operand.tmp 37], argTypes := #[71, 71] }, type := 71, pos := "l4_stm.go:659", after := #[{ on := 3, ground := Ground.data }, { on := 21, ground := Ground.data }, { on := 12, ground := Ground.chain }], guard := none } : Oper)) rfl (fun K hK => ?_) AllReadyH.nil
              rw [if_pos (by kernel_rfl)]
              refine wp_append_lies _ _ _ _ rfl w.heap.size 9 i0 (.string ByteArray.empty) 1 16 Tryz.underlying71 HI.out hz0 hz1 hz2 rfl (by omega) (.slice (some ⟨g, 0, none⟩) r cap) r _ rfl ((own_take hO1.drew (r := r) (by omega)).alloc _) ⟨wr.heap.size + 1, 0, none⟩ 1 1 [.string (⟨#[40]⟩ ++ A ++ G ++ B ++ ⟨#[41]⟩)] rfl rfl HNW.out (ones _ rfl) (by omega) (by unfold maxLen; omega) (by omega) (by simp; omega) _ rfl ?_
              intro g4 cap4 w4 hO4 hgr4 hat4 hlt4
              refine hK.out _ _ (hHeld.grown hgr4 (by show some _ ≠ some g; simp; omega)) (fun hHeld => ?_)
              clear hK K
              try simp only [Act.put, List.setIfInBounds_toArray, List.set_cons_zero, List.set_cons_succ]
              refine wpAnyH_ready (rs := [23]) (by kernel_rfl) (by simp) ?_
              refine AllReadyH.cons (o := ({ dst := some 3, op := Op.assign (Operand.tmp 38), type := 71, pos := "l4_stm.go:659", after := #[{ on := 22, ground := Ground.data }, { on := 22, ground := Ground.chain }, { on := 0, ground := Ground.phase }, { on := 1, ground := Ground.phase }, { on := 2, ground := Ground.phase }, { on := 3, ground := Ground.phase }, { on := 4, ground := Ground.phase }, { on := 5, ground := Ground.phase }, { on := 6, ground := Ground.phase }, { on := 7, ground := Ground.phase }, { on := 8, ground := Ground.phase }, { on := 9, ground := Ground.phase }, { on := 10, ground := Ground.phase }, { on := 11, ground := Ground.phase }, { on := 12, ground := Ground.phase }, { on := 13, ground := Ground.phase }, { on := 14, ground := Ground.phase }, { on := 15, ground := Ground.phase }, { on := 16, ground := Ground.phase }, { on := 17, ground := Ground.phase }, { on := 18, ground := Ground.phase }, { on := 19, ground := Ground.phase }, { on := 20, ground := Ground.phase }, { on := 21, ground := Ground.phase }, { on := 22, ground := Ground.phase }], guard := none } : Oper)) rfl (fun K hK => ?_) AllReadyH.nil
              go_simp
              refine hK.out _ _ (hHeld) (fun hHeld => ?_)
              clear hK K
              try simp only [Act.put, List.setIfInBounds_toArray, List.set_cons_zero, List.set_cons_succ]
              refine wpAnyH_done (by kernel_rfl) ?_ _
              have Q2 : w4.ownsRow w.heap.size 9 1 (.slice (some ⟨g4, 0, none⟩) (r + 1) cap4) (r + 1) ((L.take r ++ [nd]).map fun t => Value.string t.sql) := by
                rw [List.map_append, List.map_take, List.map_cons, List.map_nil, HS]
                exact hO4
              have Q6 : Below w.heap.size w w4 := by
                have x1 : Below w.heap.size w (wr.alloc (.cells #[.int .i64 (I k).o, .int .i64 (I k).m, .string (I k).s] 85)).drew := hb1.trans ((bdrew _).mono hb1.size)
                exact (x1.alloc x1.size _).grown hgr4 (by have := x1.size; simp; omega) (fun j hj => by have e : g = j := Option.some.inj hj; omega)
              clear hO4 hgr4 hat4 hHeld
              go_wp2
              go_roundw
              case rel => exact ⟨k + 1, L.take r ++ [nd], g4, cap4, by omega, by go_num, by first | (rw [Q1]; done) | rw [Q1, hr], by rw [Q1]; exact Q2, QS, by rw [Q1]; omega, QZ, Q6⟩
              case measure => simp [intOf]; omega
            · go_simp
              refine hK.out _ _ (hHeld) (fun hHeld => ?_)
              clear hK K
              try simp only [Act.put, List.setIfInBounds_toArray, List.set_cons_zero, List.set_cons_succ]
              refine wpAnyH_ready (rs := [8]) (by kernel_rfl) (by simp) ?_
              refine AllReadyH.cons (o := ({ dst := some 24, op := Op.load 9 (Operand.tmp 23), type := 9, pos := "l4_stm.go:659", after := #[{ on := 7, ground := Ground.data }], guard := none } : Oper)) rfl (fun K hK => ?_) AllReadyH.nil
              go_simp
              refine hK.out _ _ (hHeld) (fun hHeld => ?_)
              clear hK K
              try simp only [Act.put, List.setIfInBounds_toArray, List.set_cons_zero, List.set_cons_succ]
              refine wpAnyH_take (i := 9) (oi := ({ dst := some 25, op := Op.binOp BinOp.add 9 (Operand.const (Value.string { data := #[40] })) (Operand.tmp 24) 9, type := 9, pos := "l4_stm.go:659", after := #[{ on := 8, ground := Ground.data }], guard := none } : Oper)) (v := .string (⟨#[40]⟩ ++ A)) rfl (by kernel_rfl) (by kernel_rfl) (by kernel_rfl) (fun _ _ _ h => h) (Or.inl ⟨by rfl, fun x hSw => (by go_simp; try omega)⟩) hHeld ?_
              try simp only [Act.put, List.setIfInBounds_toArray, List.set_cons_zero, List.set_cons_succ]
              refine wpAnyH_take (i := 13) (oi := ({ dst := some 29, op := Op.binOp BinOp.add 9 (Operand.tmp 25) (Operand.tmp 28) 9, type := 9, pos := "l4_stm.go:659", after := #[{ on := 9, ground := Ground.data }, { on := 12, ground := Ground.data }], guard := none } : Oper)) (v := .string (⟨#[40]⟩ ++ A ++ G)) rfl (by kernel_rfl) (by kernel_rfl) (by kernel_rfl) (fun _ _ _ h => h) (Or.inl ⟨by rfl, fun x hSw => (by go_simp; try omega)⟩) hHeld ?_
              try simp only [Act.put, List.setIfInBounds_toArray, List.set_cons_zero, List.set_cons_succ]
              refine wpAnyH_take (i := 19) (oi := ({ dst := some 35, op := Op.binOp BinOp.add 9 (Operand.tmp 29) (Operand.tmp 34) 9, type := 9, pos := "l4_stm.go:659", after := #[{ on := 13, ground := Ground.data }, { on := 18, ground := Ground.data }], guard := none } : Oper)) (v := .string (⟨#[40]⟩ ++ A ++ G ++ B)) rfl (by kernel_rfl) (by kernel_rfl) (by kernel_rfl) (fun _ _ _ h => h) (Or.inl ⟨by rfl, fun x hSw => (by go_simp; try omega)⟩) hHeld ?_
              try simp only [Act.put, List.setIfInBounds_toArray, List.set_cons_zero, List.set_cons_succ]
              refine wpAnyH_take (i := 20) (oi := ({ dst := some 36, op := Op.binOp BinOp.add 9 (Operand.tmp 35) (Operand.const (Value.string { data := #[41] })) 9, type := 9, pos := "l4_stm.go:659", after := #[{ on := 19, ground := Ground.data }], guard := none } : Oper)) (v := .string (⟨#[40]⟩ ++ A ++ G ++ B ++ ⟨#[41]⟩)) rfl (by kernel_rfl) (by kernel_rfl) (by kernel_rfl) (fun _ _ _ h => h) (Or.inl ⟨by rfl, fun x hSw => (by go_simp; try omega)⟩) hHeld ?_
              try simp only [Act.put, List.setIfInBounds_toArray, List.set_cons_zero, List.set_cons_succ]
              refine wpAnyH_ready (rs := [21]) (by kernel_rfl) (by simp) ?_
              refine AllReadyH.cons (o := ({ dst := some 37, op := Op.buildSlice 71 1 #[(0, Operand.tmp 36)], type := 71, pos := "l4_stm.go:659", after := #[{ on := 20, ground := Ground.data }], guard := none } : Oper)) rfl (fun K hK => ?_) AllReadyH.nil
              go_simp
              refine hK.out _ _ (hHeld.later (bal _ _)) (fun hHeld => ?_)
              clear hK K
              try simp only [Act.put, List.setIfInBounds_toArray, List.set_cons_zero, List.set_cons_succ]
              refine wpAnyH_ready (rs := [22]) (by kernel_rfl) (by simp) ?_
              refine AllReadyH.cons (o := ({ dst := some 38, op := Op.call { callee := Callee.builtin Builtin.append, args := #[Operand.tmp 19, Operand.tmp 37], argTypes := #[71, 71] }, type := 71, pos := "l4_stm.go:659", after := #[{ on := 3, ground := Ground.data }, { on := 21, ground := Ground.data }, { on := 12, ground := Ground.chain }], guard := none } : Oper)) rfl (fun K hK => ?_) AllReadyH.nil
              rw [if_pos (by kernel_rfl)]
              refine wp_append_lies _ _ _ _ rfl w.heap.size 9 i0 (.string ByteArray.empty) 1 16 Tryz.underlying71 HI.out hz0 hz1 hz2 rfl (by omega) (.slice (some ⟨g, 0, none⟩) r cap) r _ rfl ((own_take hO1.drew (r := r) (by omega)).alloc _) ⟨wr.heap.size + 1, 0, none⟩ 1 1 [.string (⟨#[40]⟩ ++ A ++ G ++ B ++ ⟨#[41]⟩)] rfl rfl HNW.out (ones _ rfl) (by omega) (by unfold maxLen; omega) (by omega) (by simp; omega) _ rfl ?_
              intro g4 cap4 w4 hO4 hgr4 hat4 hlt4
              refine hK.out _ _ (hHeld.grown hgr4 (by show some _ ≠ some g; simp; omega)) (fun hHeld => ?_)
              clear hK K
              try simp only [Act.put, List.setIfInBounds_toArray, List.set_cons_zero, List.set_cons_succ]
              refine wpAnyH_ready (rs := [23]) (by kernel_rfl) (by simp) ?_
              refine AllReadyH.cons (o := ({ dst := some 3, op := Op.assign (Operand.tmp 38), type := 71, pos := "l4_stm.go:659", after := #[{ on := 22, ground := Ground.data }, { on := 22, ground := Ground.chain }, { on := 0, ground := Ground.phase }, { on := 1, ground := Ground.phase }, { on := 2, ground := Ground.phase }, { on := 3, ground := Ground.phase }, { on := 4, ground := Ground.phase }, { on := 5, ground := Ground.phase }, { on := 6, ground := Ground.phase }, { on := 7, ground := Ground.phase }, { on := 8, ground := Ground.phase }, { on := 9, ground := Ground.phase }, { on := 10, ground := Ground.phase }, { on := 11, ground := Ground.phase }, { on := 12, ground := Ground.phase }, { on := 13, ground := Ground.phase }, { on := 14, ground := Ground.phase }, { on := 15, ground := Ground.phase }, { on := 16, ground := Ground.phase }, { on := 17, ground := Ground.phase }, { on := 18, ground := Ground.phase }, { on := 19, ground := Ground.phase }, { on := 20, ground := Ground.phase }, { on := 21, ground := Ground.phase }, { on := 22, ground := Ground.phase }], guard := none } : Oper)) rfl (fun K hK => ?_) AllReadyH.nil
              go_simp
              refine hK.out _ _ (hHeld) (fun hHeld => ?_)
              clear hK K
              try simp only [Act.put, List.setIfInBounds_toArray, List.set_cons_zero, List.set_cons_succ]
              refine wpAnyH_done (by kernel_rfl) ?_ _
              have Q2 : w4.ownsRow w.heap.size 9 1 (.slice (some ⟨g4, 0, none⟩) (r + 1) cap4) (r + 1) ((L.take r ++ [nd]).map fun t => Value.string t.sql) := by
                rw [List.map_append, List.map_take, List.map_cons, List.map_nil, HS]
                exact hO4
              have Q6 : Below w.heap.size w w4 := by
                have x1 : Below w.heap.size w (wr.alloc (.cells #[.int .i64 (I k).o, .int .i64 (I k).m, .string (I k).s] 85)).drew := hb1.trans ((bdrew _).mono hb1.size)
                exact (x1.alloc x1.size _).grown hgr4 (by have := x1.size; simp; omega) (fun j hj => by have e : g = j := Option.some.inj hj; omega)
              clear hO4 hgr4 hat4 hHeld
              go_wp2
              go_roundw
              case rel => exact ⟨k + 1, L.take r ++ [nd], g4, cap4, by omega, by go_num, by first | (rw [Q1]; done) | rw [Q1, hr], by rw [Q1]; exact Q2, QS, by rw [Q1]; omega, QZ, Q6⟩
              case measure => simp [intOf]; omega
          · go_simp
            refine hK.out _ _ (hHeld) (fun hHeld => ?_)
            clear hK K
            try simp only [Act.put, List.setIfInBounds_toArray, List.set_cons_zero, List.set_cons_succ]
            refine wpAnyH_ready (rs := [8, 12]) (by kernel_rfl) (by simp) ?_
            refine AllReadyH.cons (o := ({ dst := some 24, op := Op.load 9 (Operand.tmp 23), type := 9, pos := "l4_stm.go:659", after := #[{ on := 7, ground := Ground.data }], guard := none } : Oper)) rfl (fun K hK => ?_) (AllReadyH.cons (o := ({ dst := some 28, op := Op.call { callee := Callee.value (Operand.func 90), args := #[Operand.tmp 27], argTypes := #[3] }, type := 9, pos := "l4_stm.go:659", after := #[{ on := 11, ground := Ground.data }], guard := none } : Oper)) rfl (fun K hK => ?_) AllReadyH.nil)
            · go_simp
              refine hK.out _ _ (hHeld) (fun hHeld => ?_)
              clear hK K
              try simp only [Act.put, List.setIfInBounds_toArray, List.set_cons_zero, List.set_cons_succ]
              refine wpAnyH_take (i := 9) (oi := ({ dst := some 25, op := Op.binOp BinOp.add 9 (Operand.const (Value.string { data := #[40] })) (Operand.tmp 24) 9, type := 9, pos := "l4_stm.go:659", after := #[{ on := 8, ground := Ground.data }], guard := none } : Oper)) (v := .string (⟨#[40]⟩ ++ A)) rfl (by kernel_rfl) (by kernel_rfl) (by kernel_rfl) (fun _ _ _ h => h) (Or.inl ⟨by rfl, fun x hSw => (by go_simp; try omega)⟩) hHeld ?_
              try simp only [Act.put, List.setIfInBounds_toArray, List.set_cons_zero, List.set_cons_succ]
              refine wpAnyH_ready (rs := [12]) (by kernel_rfl) (by simp) ?_
              refine AllReadyH.cons (o := ({ dst := some 28, op := Op.call { callee := Callee.value (Operand.func 90), args := #[Operand.tmp 27], argTypes := #[3] }, type := 9, pos := "l4_stm.go:659", after := #[{ on := 11, ground := Ground.data }], guard := none } : Oper)) rfl (fun K hK => ?_) AllReadyH.nil
              go_simp
              refine (hsg _).mono ?_
              rintro e w2 ⟨rfl, rfl⟩
              refine hK.out _ _ (hHeld) (fun hHeld => ?_)
              clear hK K
              try simp only [Act.put, List.setIfInBounds_toArray, List.set_cons_zero, List.set_cons_succ]
              refine wpAnyH_take (i := 13) (oi := ({ dst := some 29, op := Op.binOp BinOp.add 9 (Operand.tmp 25) (Operand.tmp 28) 9, type := 9, pos := "l4_stm.go:659", after := #[{ on := 9, ground := Ground.data }, { on := 12, ground := Ground.data }], guard := none } : Oper)) (v := .string (⟨#[40]⟩ ++ A ++ G)) rfl (by kernel_rfl) (by kernel_rfl) (by kernel_rfl) (fun _ _ _ h => h) (Or.inl ⟨by rfl, fun x hSw => (by go_simp; try omega)⟩) hHeld ?_
              try simp only [Act.put, List.setIfInBounds_toArray, List.set_cons_zero, List.set_cons_succ]
              refine wpAnyH_take (i := 19) (oi := ({ dst := some 35, op := Op.binOp BinOp.add 9 (Operand.tmp 29) (Operand.tmp 34) 9, type := 9, pos := "l4_stm.go:659", after := #[{ on := 13, ground := Ground.data }, { on := 18, ground := Ground.data }], guard := none } : Oper)) (v := .string (⟨#[40]⟩ ++ A ++ G ++ B)) rfl (by kernel_rfl) (by kernel_rfl) (by kernel_rfl) (fun _ _ _ h => h) (Or.inl ⟨by rfl, fun x hSw => (by go_simp; try omega)⟩) hHeld ?_
              try simp only [Act.put, List.setIfInBounds_toArray, List.set_cons_zero, List.set_cons_succ]
              refine wpAnyH_take (i := 20) (oi := ({ dst := some 36, op := Op.binOp BinOp.add 9 (Operand.tmp 35) (Operand.const (Value.string { data := #[41] })) 9, type := 9, pos := "l4_stm.go:659", after := #[{ on := 19, ground := Ground.data }], guard := none } : Oper)) (v := .string (⟨#[40]⟩ ++ A ++ G ++ B ++ ⟨#[41]⟩)) rfl (by kernel_rfl) (by kernel_rfl) (by kernel_rfl) (fun _ _ _ h => h) (Or.inl ⟨by rfl, fun x hSw => (by go_simp; try omega)⟩) hHeld ?_
              try simp only [Act.put, List.setIfInBounds_toArray, List.set_cons_zero, List.set_cons_succ]
              refine wpAnyH_ready (rs := [21]) (by kernel_rfl) (by simp) ?_
              refine AllReadyH.cons (o := ({ dst := some 37, op := Op.buildSlice 71 1 #[(0, Operand.tmp 36)], type := 71, pos := "l4_stm.go:659", after := #[{ on := 20, ground := Ground.data }], guard := none } : Oper)) rfl (fun K hK => ?_) AllReadyH.nil
              go_simp
              refine hK.out _ _ (hHeld.later (bal _ _)) (fun hHeld => ?_)
              clear hK K
              try simp only [Act.put, List.setIfInBounds_toArray, List.set_cons_zero, List.set_cons_succ]
              refine wpAnyH_ready (rs := [22]) (by kernel_rfl) (by simp) ?_
              refine AllReadyH.cons (o := ({ dst := some 38, op := Op.call { callee := Callee.builtin Builtin.append, args := #[Operand.tmp 19, Operand.tmp 37], argTypes := #[71, 71] }, type := 71, pos := "l4_stm.go:659", after := #[{ on := 3, ground := Ground.data }, { on := 21, ground := Ground.data }, { on := 12, ground := Ground.chain }], guard := none } : Oper)) rfl (fun K hK => ?_) AllReadyH.nil
              rw [if_pos (by kernel_rfl)]
              refine wp_append_lies _ _ _ _ rfl w.heap.size 9 i0 (.string ByteArray.empty) 1 16 Tryz.underlying71 HI.out hz0 hz1 hz2 rfl (by omega) (.slice (some ⟨g, 0, none⟩) r cap) r _ rfl ((own_take hO1.drew (r := r) (by omega)).alloc _) ⟨wr.heap.size + 1, 0, none⟩ 1 1 [.string (⟨#[40]⟩ ++ A ++ G ++ B ++ ⟨#[41]⟩)] rfl rfl HNW.out (ones _ rfl) (by omega) (by unfold maxLen; omega) (by omega) (by simp; omega) _ rfl ?_
              intro g4 cap4 w4 hO4 hgr4 hat4 hlt4
              refine hK.out _ _ (hHeld.grown hgr4 (by show some _ ≠ some g; simp; omega)) (fun hHeld => ?_)
              clear hK K
              try simp only [Act.put, List.setIfInBounds_toArray, List.set_cons_zero, List.set_cons_succ]
              refine wpAnyH_ready (rs := [23]) (by kernel_rfl) (by simp) ?_
              refine AllReadyH.cons (o := ({ dst := some 3, op := Op.assign (Operand.tmp 38), type := 71, pos := "l4_stm.go:659", after := #[{ on := 22, ground := Ground.data }, { on := 22, ground := Ground.chain }, { on := 0, ground := Ground.phase }, { on := 1, ground := Ground.phase }, { on := 2, ground := Ground.phase }, { on := 3, ground := Ground.phase }, { on := 4, ground := Ground.phase }, { on := 5, ground := Ground.phase }, { on := 6, ground := Ground.phase }, { on := 7, ground := Ground.phase }, { on := 8, ground := Ground.phase }, { on := 9, ground := Ground.phase }, { on := 10, ground := Ground.phase }, { on := 11, ground := Ground.phase }, { on := 12, ground := Ground.phase }, { on := 13, ground := Ground.phase }, { on := 14, ground := Ground.phase }, { on := 15, ground := Ground.phase }, { on := 16, ground := Ground.phase }, { on := 17, ground := Ground.phase }, { on := 18, ground := Ground.phase }, { on := 19, ground := Ground.phase }, { on := 20, ground := Ground.phase }, { on := 21, ground := Ground.phase }, { on := 22, ground := Ground.phase }], guard := none } : Oper)) rfl (fun K hK => ?_) AllReadyH.nil
              go_simp
              refine hK.out _ _ (hHeld) (fun hHeld => ?_)
              clear hK K
              try simp only [Act.put, List.setIfInBounds_toArray, List.set_cons_zero, List.set_cons_succ]
              refine wpAnyH_done (by kernel_rfl) ?_ _
              have Q2 : w4.ownsRow w.heap.size 9 1 (.slice (some ⟨g4, 0, none⟩) (r + 1) cap4) (r + 1) ((L.take r ++ [nd]).map fun t => Value.string t.sql) := by
                rw [List.map_append, List.map_take, List.map_cons, List.map_nil, HS]
                exact hO4
              have Q6 : Below w.heap.size w w4 := by
                have x1 : Below w.heap.size w (wr.alloc (.cells #[.int .i64 (I k).o, .int .i64 (I k).m, .string (I k).s] 85)).drew := hb1.trans ((bdrew _).mono hb1.size)
                exact (x1.alloc x1.size _).grown hgr4 (by have := x1.size; simp; omega) (fun j hj => by have e : g = j := Option.some.inj hj; omega)
              clear hO4 hgr4 hat4 hHeld
              go_wp2
              go_roundw
              case rel => exact ⟨k + 1, L.take r ++ [nd], g4, cap4, by omega, by go_num, by first | (rw [Q1]; done) | rw [Q1, hr], by rw [Q1]; exact Q2, QS, by rw [Q1]; omega, QZ, Q6⟩
              case measure => simp [intOf]; omega
            · go_simp
              refine (hsg _).mono ?_
              rintro e w2 ⟨rfl, rfl⟩
              refine hK.out _ _ (hHeld) (fun hHeld => ?_)
              clear hK K
              try simp only [Act.put, List.setIfInBounds_toArray, List.set_cons_zero, List.set_cons_succ]
              refine wpAnyH_ready (rs := [8]) (by kernel_rfl) (by simp) ?_
              refine AllReadyH.cons (o := ({ dst := some 24, op := Op.load 9 (Operand.tmp 23), type := 9, pos := "l4_stm.go:659", after := #[{ on := 7, ground := Ground.data }], guard := none } : Oper)) rfl (fun K hK => ?_) AllReadyH.nil
              go_simp
              refine hK.out _ _ (hHeld) (fun hHeld => ?_)
              clear hK K
              try simp only [Act.put, List.setIfInBounds_toArray, List.set_cons_zero, List.set_cons_succ]
              refine wpAnyH_take (i := 9) (oi := ({ dst := some 25, op := Op.binOp BinOp.add 9 (Operand.const (Value.string { data := #[40] })) (Operand.tmp 24) 9, type := 9, pos := "l4_stm.go:659", after := #[{ on := 8, ground := Ground.data }], guard := none } : Oper)) (v := .string (⟨#[40]⟩ ++ A)) rfl (by kernel_rfl) (by kernel_rfl) (by kernel_rfl) (fun _ _ _ h => h) (Or.inl ⟨by rfl, fun x hSw => (by go_simp; try omega)⟩) hHeld ?_
              try simp only [Act.put, List.setIfInBounds_toArray, List.set_cons_zero, List.set_cons_succ]
              refine wpAnyH_take (i := 13) (oi := ({ dst := some 29, op := Op.binOp BinOp.add 9 (Operand.tmp 25) (Operand.tmp 28) 9, type := 9, pos := "l4_stm.go:659", after := #[{ on := 9, ground := Ground.data }, { on := 12, ground := Ground.data }], guard := none } : Oper)) (v := .string (⟨#[40]⟩ ++ A ++ G)) rfl (by kernel_rfl) (by kernel_rfl) (by kernel_rfl) (fun _ _ _ h => h) (Or.inl ⟨by rfl, fun x hSw => (by go_simp; try omega)⟩) hHeld ?_
              try simp only [Act.put, List.setIfInBounds_toArray, List.set_cons_zero, List.set_cons_succ]
              refine wpAnyH_take (i := 19) (oi := ({ dst := some 35, op := Op.binOp BinOp.add 9 (Operand.tmp 29) (Operand.tmp 34) 9, type := 9, pos := "l4_stm.go:659", after := #[{ on := 13, ground := Ground.data }, { on := 18, ground := Ground.data }], guard := none } : Oper)) (v := .string (⟨#[40]⟩ ++ A ++ G ++ B)) rfl (by kernel_rfl) (by kernel_rfl) (by kernel_rfl) (fun _ _ _ h => h) (Or.inl ⟨by rfl, fun x hSw => (by go_simp; try omega)⟩) hHeld ?_
              try simp only [Act.put, List.setIfInBounds_toArray, List.set_cons_zero, List.set_cons_succ]
              refine wpAnyH_take (i := 20) (oi := ({ dst := some 36, op := Op.binOp BinOp.add 9 (Operand.tmp 35) (Operand.const (Value.string { data := #[41] })) 9, type := 9, pos := "l4_stm.go:659", after := #[{ on := 19, ground := Ground.data }], guard := none } : Oper)) (v := .string (⟨#[40]⟩ ++ A ++ G ++ B ++ ⟨#[41]⟩)) rfl (by kernel_rfl) (by kernel_rfl) (by kernel_rfl) (fun _ _ _ h => h) (Or.inl ⟨by rfl, fun x hSw => (by go_simp; try omega)⟩) hHeld ?_
              try simp only [Act.put, List.setIfInBounds_toArray, List.set_cons_zero, List.set_cons_succ]
              refine wpAnyH_ready (rs := [21]) (by kernel_rfl) (by simp) ?_
              refine AllReadyH.cons (o := ({ dst := some 37, op := Op.buildSlice 71 1 #[(0, Operand.tmp 36)], type := 71, pos := "l4_stm.go:659", after := #[{ on := 20, ground := Ground.data }], guard := none } : Oper)) rfl (fun K hK => ?_) AllReadyH.nil
              go_simp
              refine hK.out _ _ (hHeld.later (bal _ _)) (fun hHeld => ?_)
              clear hK K
              try simp only [Act.put, List.setIfInBounds_toArray, List.set_cons_zero, List.set_cons_succ]
              refine wpAnyH_ready (rs := [22]) (by kernel_rfl) (by simp) ?_
              refine AllReadyH.cons (o := ({ dst := some 38, op := Op.call { callee := Callee.builtin Builtin.append, args := #[Operand.tmp 19, Operand.tmp 37], argTypes := #[71, 71] }, type := 71, pos := "l4_stm.go:659", after := #[{ on := 3, ground := Ground.data }, { on := 21, ground := Ground.data }, { on := 12, ground := Ground.chain }], guard := none } : Oper)) rfl (fun K hK => ?_) AllReadyH.nil
              rw [if_pos (by kernel_rfl)]
              refine wp_append_lies _ _ _ _ rfl w.heap.size 9 i0 (.string ByteArray.empty) 1 16 Tryz.underlying71 HI.out hz0 hz1 hz2 rfl (by omega) (.slice (some ⟨g, 0, none⟩) r cap) r _ rfl ((own_take hO1.drew (r := r) (by omega)).alloc _) ⟨wr.heap.size + 1, 0, none⟩ 1 1 [.string (⟨#[40]⟩ ++ A ++ G ++ B ++ ⟨#[41]⟩)] rfl rfl HNW.out (ones _ rfl) (by omega) (by unfold maxLen; omega) (by omega) (by simp; omega) _ rfl ?_
              intro g4 cap4 w4 hO4 hgr4 hat4 hlt4
              refine hK.out _ _ (hHeld.grown hgr4 (by show some _ ≠ some g; simp; omega)) (fun hHeld => ?_)
              clear hK K
              try simp only [Act.put, List.setIfInBounds_toArray, List.set_cons_zero, List.set_cons_succ]
              refine wpAnyH_ready (rs := [23]) (by kernel_rfl) (by simp) ?_
              refine AllReadyH.cons (o := ({ dst := some 3, op := Op.assign (Operand.tmp 38), type := 71, pos := "l4_stm.go:659", after := #[{ on := 22, ground := Ground.data }, { on := 22, ground := Ground.chain }, { on := 0, ground := Ground.phase }, { on := 1, ground := Ground.phase }, { on := 2, ground := Ground.phase }, { on := 3, ground := Ground.phase }, { on := 4, ground := Ground.phase }, { on := 5, ground := Ground.phase }, { on := 6, ground := Ground.phase }, { on := 7, ground := Ground.phase }, { on := 8, ground := Ground.phase }, { on := 9, ground := Ground.phase }, { on := 10, ground := Ground.phase }, { on := 11, ground := Ground.phase }, { on := 12, ground := Ground.phase }, { on := 13, ground := Ground.phase }, { on := 14, ground := Ground.phase }, { on := 15, ground := Ground.phase }, { on := 16, ground := Ground.phase }, { on := 17, ground := Ground.phase }, { on := 18, ground := Ground.phase }, { on := 19, ground := Ground.phase }, { on := 20, ground := Ground.phase }, { on := 21, ground := Ground.phase }, { on := 22, ground := Ground.phase }], guard := none } : Oper)) rfl (fun K hK => ?_) AllReadyH.nil
              go_simp
              refine hK.out _ _ (hHeld) (fun hHeld => ?_)
              clear hK K
              try simp only [Act.put, List.setIfInBounds_toArray, List.set_cons_zero, List.set_cons_succ]
              refine wpAnyH_done (by kernel_rfl) ?_ _
              have Q2 : w4.ownsRow w.heap.size 9 1 (.slice (some ⟨g4, 0, none⟩) (r + 1) cap4) (r + 1) ((L.take r ++ [nd]).map fun t => Value.string t.sql) := by
                rw [List.map_append, List.map_take, List.map_cons, List.map_nil, HS]
                exact hO4
              have Q6 : Below w.heap.size w w4 := by
                have x1 : Below w.heap.size w (wr.alloc (.cells #[.int .i64 (I k).o, .int .i64 (I k).m, .string (I k).s] 85)).drew := hb1.trans ((bdrew _).mono hb1.size)
                exact (x1.alloc x1.size _).grown hgr4 (by have := x1.size; simp; omega) (fun j hj => by have e : g = j := Option.some.inj hj; omega)
              clear hO4 hgr4 hat4 hHeld
              go_wp2
              go_roundw
              case rel => exact ⟨k + 1, L.take r ++ [nd], g4, cap4, by omega, by go_num, by first | (rw [Q1]; done) | rw [Q1, hr], by rw [Q1]; exact Q2, QS, by rw [Q1]; omega, QZ, Q6⟩
              case measure => simp [intOf]; omega
    · obtain rfl : k = n := by omega
      have hl1 : L.length = 1 := by rw [HL.out]; exact HLn.out
      have hc := str_cell hO rfl (show 0 < L.length by omega)
      have HE : Hid (exS I k = (L.getD 0 (.num 0)).sql) := by show _ = _; unfold exS; rw [← HL.out]
      obtain ⟨X, hX⟩ : ∃ X, (L.getD 0 (.num 0)).sql = X := ⟨_, rfl⟩
      rw [hX] at hc HE
      clear hX
      have i0 : (0 : Int) < (L.length : Int) := by omega
      go_wp2
      go_ret
      exact ⟨by rw [HE.out]; rfl, hb⟩
end Go.Proofs.YtnbgdfhfmbgbhaaGreatDoor
