/-
  Statements: expressions as bytes (the specification's way): that they are short.
-/
import Derived.Test.YtjbbbfplephkpaaGreatDoorJc
import Derived.Test.YtjbbbfplephkpaaGreatDoorCb
import Derived.Lib.ConvBytes
import Derived.Lib.JoinLaws
import Derived.Lib.AppendStr
namespace Go.Proofs.YtjbbbfplephkpaaGreatDoor
open Go.RowKit
/-- A text of at most m bytes. -/
def IsT (m : Nat) (e : Ending) : Prop := ∃ T : ByteArray, e = .returned (.string T) ∧ T.size ≤ m
set_option maxRecDepth 20000 in
set_option maxHeartbeats 4000000 in
theorem nub_any (n v : Int) (w : World) (h0 : 0 ≤ n) (h8 : n ≤ 8) : Calls Tryz.prog 43 #[.int .i64 n, .int .i64 v] w fun e w' => IsT 8 e ∧ Below w.heap.size w w' := by
  obtain ⟨i0, hi, hz0, hz1, hz2⟩ := info_parts Tryz.info5
  have HI : Hid (Tryz.prog.info? 5 = some i0) := hi
  clear hi
  go_enter Tryz.func43, Tryz.ntmps43
  go_wp2
  go_loopw [5, 6] (fun o i wr => ∃ (k : Nat) (L : List UInt8) (g cap : Nat), (k : Int) ≤ n ∧ i = .int .i64 (n - 1 - k) ∧ o = .slice (some ⟨g, 0, none⟩) k cap ∧ L.length = k ∧ wr.ownsRow w.heap.size 5 1 (.slice (some ⟨g, 0, none⟩) k cap) k (cells8 L) ∧ Below w.heap.size w wr) (fun _ i _ => (intOf i + 1).toNat)
  case atStart => exact ⟨0, [], w.heap.size, 0, by omega, by simp, rfl, rfl, World.ownsRow_lit w #[] 0 (Nat.le_refl _) (by simp [maxLen]) rfl, bal _ _⟩
  case round =>
    obtain ⟨k, L, g, cap, hk, rfl, rfl, hL, hown, hb⟩ := hrel
    have HL : Hid (L.length = k) := hL
    have hg := grow_le hown
    clear hL
    by_cases hlt : (k : Int) < n
    · go_wp2
      go_loop [7, 8] (fun x q => ∃ (j : Nat) (y : Int), j + k + 1 ≤ n ∧ q = .int .i64 j ∧ x = .int .i64 y) (fun _ q => (n - intOf q).toNat)
      case atStart => exact ⟨0, v, by omega, rfl, rfl⟩
      case round =>
        obtain ⟨j, y, hj, rfl, rfl⟩ := hrel
        by_cases hjl : (j : Int) + k + 1 < n
        · go_wp2
          go_round
          case rel => exact ⟨j + 1, _, by omega, by go_num, rfl⟩
          case measure => simp [intOf]; omega
        · have hsz := hb.size
          go_wp2_with (at_builtin; refine wpList_append_lies _ rfl _ _ _ rfl w.heap.size 5 i0 (.int .u8 0) 1 1 Tryz.underlying22 HI.out hz0 hz1 hz2 rfl (by omega) _ k _ rfl (hown.alloc _) ⟨wr.heap.size, 0, none⟩ 1 1 [.int .u8 (y % 256)] rfl rfl (World.news_of_block (heap_alloc_new wr _)) (ones _ rfl) (by omega) (by unfold maxLen; omega) (by omega) (by simp; omega) _ rfl ?_; intro g1 cap1 w1 hown1 hgrow hat hlt1)
          go_roundw
          case rel => exact ⟨k + 1, L ++ [UInt8.ofNat (y % 256).toNat], g1, cap1, by omega, by go_num, rfl, by simp [HL.out], by rw [← cells8_put L (y % 256) (by omega) (by omega)]; simpa using hown1, (hb.alloc (by omega) _).grown hgrow (by simp; omega) (fun q hq => by have e : g = q := Option.some.inj hq; omega)⟩
          case measure => simp [intOf]; omega
    · obtain rfl : n = k := by omega
      have hc := conv_any wr w.heap.size g cap L (by rw [HL.out]; exact hown)
      rw [HL.out] at hc
      go_wp2
      go_ret
      exact ⟨⟨_, rfl, by show L.toArray.size ≤ 8; simp [HL.out]; omega⟩, hb⟩
set_option maxRecDepth 20000 in
set_option maxHeartbeats 1000000 in
theorem s8_any (s : ByteArray) (w : World) (hs : s.size ≤ 40) : Calls Tryz.prog 44 #[.string s] w fun e w' => IsT 48 e ∧ Below w.heap.size w w' := by
  go_enter Tryz.func44, Tryz.ntmps44
  go_wp2_with (go_at_call 43; refine (nub_any _ _ _ (by omega) (by omega)).mono ?_; rintro e w1 ⟨⟨T, rfl, hT⟩, hb1⟩)
  go_ret
  exact ⟨⟨_, rfl, by simp; omega⟩, hb1⟩
set_option maxRecDepth 20000 in
set_option maxHeartbeats 1000000 in
theorem s16_any (s : ByteArray) (w : World) (hs : s.size ≤ 40) : Calls Tryz.prog 45 #[.string s] w fun e w' => IsT 48 e ∧ Below w.heap.size w w' := by
  go_enter Tryz.func45, Tryz.ntmps45
  go_wp2_with (go_at_call 43; refine (nub_any _ _ _ (by omega) (by omega)).mono ?_; rintro e w1 ⟨⟨T, rfl, hT⟩, hb1⟩)
  go_ret
  exact ⟨⟨_, rfl, by simp; omega⟩, hb1⟩
end Go.Proofs.YtjbbbfplephkpaaGreatDoor
namespace Go.Proofs.YtjbbbfplephkpaaGreatDoor
open Go.RowKit
/-- Block g holds n bytes, the bytes of L, and room up to cap that may be written. -/
structure Rw (w : World) (B g n cap : Nat) (L : List UInt8) : Prop where
  hB : B ≤ g
  lt : g < w.heap.size
  len : L.length = n
  le : n ≤ cap
  cs : ∀ j (hj : j < L.length), w.cell? ⟨g, j, none⟩ = some (.int .u8 (L[j].toNat : Int))
  sp : ∀ j, j < cap → (w.cell? ⟨g, j, none⟩).isSome = true
  fz : ∀ j, n ≤ j → j < cap → w.frozen? ⟨g, j, none⟩ = false
theorem Rw.kept {w w' : World} {B g n cap : Nat} {L : List UInt8} {r : Option Nat} (h : Rw w B g n cap L) (hg : w.grownBy w' r) (hr : r ≠ some g) : Rw w' B g n cap L := by
  have e : w'.heap[g]? = w.heap[g]? := hg.block g h.lt (fun e => hr e.symm)
  have c : ∀ j, w'.cell? ⟨g, j, none⟩ = w.cell? ⟨g, j, none⟩ := fun j => World.cell?_of_block e
  have f : ∀ j, w'.frozen? ⟨g, j, none⟩ = w.frozen? ⟨g, j, none⟩ := fun j => World.frozen?_of_block e
  exact ⟨h.hB, Nat.lt_of_lt_of_le h.lt hg.size, h.len, h.le, fun j hj => (c j).trans (h.cs j hj), fun j hj => by rw [c]; exact h.sp j hj, fun j h1 h2 => by rw [f]; exact h.fz j h1 h2⟩
theorem Rw.later {w w' : World} {B g n cap : Nat} {L : List UInt8} (h : Rw w B g n cap L) (hb : Below w.heap.size w w') : Rw w' B g n cap L :=
  h.kept (r := none) ⟨hb.os, hb.tape, hb.output, hb.size, fun k hk _ => hb.block k hk⟩ (fun e => by cases e)
theorem addj (g j : Nat) : (⟨g, 0, none⟩ : Addr).add j = ⟨g, j, none⟩ := by unfold Addr.add; split <;> simp_all
set_option maxRecDepth 20000 in
theorem Rw.conv {w : World} {B g n cap : Nat} {L : List UInt8} (h : Rw w B g n cap L) : (convert 22 9 (.slice (some ⟨g, 0, none⟩) n cap)).run Tryz.prog w = .ok (.string ⟨L.toArray⟩) w := by
  obtain ⟨-, -, rfl, -, hc, -, -⟩ := h
  refine run_convert_bytes_back w 22 9 5 ⟨g, 0, none⟩ cap L Tryz.underlying22 Tryz.underlying5 Tryz.underlying9 (fun j hj => ?_)
  rw [addj]
  exact hc j hj
theorem bytesCells_size (w : World) (e : TypeId) (s : ByteArray) : (Lib.bytesCells w e s).size = grownCap w s.size 0 e := by
  have h1 : s.size ≤ grownCap w s.size 0 e := grownCap_ge w s.size 0 e
  have h2 : s.data.size = s.size := rfl
  unfold Lib.bytesCells
  simp only [Array.size_append, Array.size_map, Array.size_replicate]
  omega
theorem Rw.new (w : World) (s : ByteArray) : Rw (Lib.bytesWorld w 5 s) w.heap.size w.heap.size s.size (grownCap w s.size 0 5) s.data.toList := by
  have hz := bytesCells_size w 5 s
  have hn := Lib.bytesWorld_at_new w 5 s
  refine ⟨Nat.le_refl _, by rw [Lib.bytesWorld_size]; omega, by simp, grownCap_ge _ _ _ _, fun j hj => ?_, fun j hj => ?_, fun j h1 h2 => ?_⟩
  · have hj' : j < s.size := by simpa using hj
    rw [Lib.bytesWorld_cell w _ s j hj']
    have hj2 : j < s.data.size := by simpa using hj
    simp only [List.getD, Array.getElem?_toList, Array.getElem_toList]
    rw [Array.getElem?_eq_getElem hj2]
    rfl
  · rw [cell_of_row _ _ j _ _ _ hn, Array.getElem?_eq_getElem (by omega)]
    rfl
  · simp only [World.frozen?, hn, Bool.and_eq_false_iff, decide_eq_false_iff_not]
    left
    omega
theorem growB (w : World) (s : ByteArray) : Below w.heap.size w (Lib.bytesWorld w 5 s) :=
  ⟨rfl, rfl, rfl, by rw [Lib.bytesWorld_size]; omega, fun k hk => Lib.bytesWorld_at_old w _ s k hk⟩
theorem byteCells_len (s : ByteArray) : (byteCells s).length = s.size := by simp [byteCells]
theorem getElem_app (L : List UInt8) (s : ByteArray) (j : Nat) (hj : j < (L ++ s.data.toList).length) (h : L.length ≤ j) (h2 : j - L.length < (byteCells s).length) : (byteCells s)[j - L.length] = Value.int .u8 (((L ++ s.data.toList)[j]).toNat : Int) := by
  simp only [byteCells, List.getElem_map]
  rw [List.getElem_append_right h]
set_option maxRecDepth 20000 in
/-- A text is appended. -/
theorem wpList_app {ops : Array Oper} {rest : List Oper} {o : Oper} {a : Act} {Q : Exit → Act → World → Prop} {w : World} (hgd : o.guard = none) (sl x : Operand)
    (ho : o.op = .call { callee := .builtin .append, args := #[sl, x], argTypes := #[22, 9] })
    (B g n cap : Nat) (L : List UInt8) (hs : a.eval sl = .slice (some ⟨g, 0, none⟩) n cap) (hR : Rw w B g n cap L) (s : ByteArray) (hx : a.eval x = .string s) (hl : n + s.size ≤ 1048576) (hB : B ≤ w.heap.size)
    (h : ∀ g' cap' w', Rw w' B g' (n + s.size) cap' (L ++ s.data.toList) → w.grownBy w' (some g) → wpList Tryz.prog ops Q rest (a.put o.dst (.slice (some ⟨g', 0, none⟩) (n + s.size) cap')) w') : wpList Tryz.prog ops Q (o :: rest) a w := by
  obtain ⟨h1, h2, h3, h4, h5, h6, h7⟩ := id hR
  have hlen : (L ++ s.data.toList).length = n + s.size := by simp [h3]
  have hbl := byteCells_len s
  by_cases hroom : n + s.size ≤ cap
  · have hc : ∀ j, j < (byteCells s).length → (w.cell? ⟨g, 0 + n + j, none⟩).isSome = true := fun j hj => h6 _ (by omega)
    have hc' : ∀ j, j < (byteCells s).length → (w.cell? ⟨g, n + j, none⟩).isSome = true := fun j hj => h6 _ (by omega)
    refine wpList_append_room1 w hgd sl x 22 9 ho 5 (.int .u8 0) 1 Tryz.underlying22 Tryz.info5 g 0 n cap hs (.string s) hx s.size (byteCells s) (Src.ofString w Tryz.underlying9 s) hroom hc (fun j hj => h7 _ (by omega) (by omega)) ?_
    rw [Nat.zero_add]
    refine h g cap _ ⟨h1, by rw [size_setCells]; exact h2, hlen, hroom, fun j hj => ?_, fun j hj => World.isSome_setCells _ _ _ _ _ (h6 j hj), fun j ha hb => by rw [World.frozen?_setCells]; exact h7 j (by omega) hb⟩ ?_
    · by_cases hjn : j < n
      · rw [World.cell?_setCells_out _ _ _ _ _ (fun _ _ => Or.inl hjn)]
        have := h5 j (by omega)
        rw [this, List.getElem_append_left]
      · have := World.cell?_setCells_in g (byteCells s) n w hc' (j - n) (by omega)
        rw [show n + (j - n) = j by omega] at this
        rw [this]
        subst h3
        rw [getElem_app L s j hj (by omega)]
    · have hb := below_setCells n (byteCells s) (Below.refl g w) (Nat.le_refl g)
      exact ⟨hb.os, hb.tape, hb.output, hb.size, fun k _ hne => heap_setCells_other w g k (fun e => hne (by rw [e])) n (byteCells s)⟩
  · obtain ⟨i, hi, hz0, hz1, hz2⟩ := info_parts Tryz.info5
    have hr := Lib.run_append_grow_string (P := Tryz.prog) w 22 9 o.type 5 i (.int .u8 0) Tryz.underlying22 Tryz.underlying9 hi hz0 ⟨g, 0, none⟩ n cap (cells8 L) (by simp [cells8, h3, hz1]) (fun j v hv => by
      rw [addj]
      have hj : j < L.length := by
        rcases Nat.lt_or_ge j L.length with hlt | hge
        · exact hlt
        · simp [cells8, hge] at hv
      rw [h5 j hj]
      simpa [cells8, hj] using hv) s (by omega) (by omega) (by rw [hz2]; exact growslice_fits (by omega) (by omega))
    have hA : (cells8 L).toArray ++ (Lib.strCells s).toArray = (cells8 (L ++ s.data.toList)).toArray := by simp [cells8, Lib.strCells]
    have hge : n + s.size ≤ grownCap w (n + s.size) cap 5 := grownCap_ge _ _ _ _
    refine wpList_plain hgd fun K hK => ?_
    unfold Oper.wp execOp
    simp only [ho, resolve, invoke, builtin, Sem.run_bind, Sem.run_pure, Result.andThen_ok, List.map_toArray, List.map_cons, List.map_nil, hs, hx, hr]
    refine hK _ _ (h _ _ _ ⟨hB, by simp, hlen, hge, fun j hj => ?_, fun j hj => ?_, fun j _ _ => frozen_of_row _ _ j _ _ (heap_alloc_new w.drew _)⟩ ⟨rfl, rfl, rfl, by simp, fun k hk _ => Below.heap_alloc _ _ _ hk⟩)
    · rw [hA]
      refine (cell_of_row _ w.heap.size j _ _ _ (heap_alloc_new w.drew _)).trans ?_
      rw [Array.getElem?_append_left (by simpa [cells8] using hj), List.getElem?_toArray]
      unfold cells8
      rw [List.getElem?_map, List.getElem?_eq_getElem hj]
      rfl
    · rw [hA]
      refine Eq.trans (congrArg Option.isSome (cell_of_row _ w.heap.size j _ _ _ (heap_alloc_new w.drew _))) ?_
      rw [Array.getElem?_eq_getElem (by
        rw [Array.size_append, size_zeroCells]
        have e1 : (cells8 (L ++ s.data.toList)).toArray.size = n + s.size := by simpa [cells8] using hlen
        have e2 : (Value.int IntKind.u8 0).cells.size = 1 := rfl
        rw [e1, e2]
        omega)]
      rfl
end Go.Proofs.YtjbbbfplephkpaaGreatDoor
namespace Go.Proofs.YtjbbbfplephkpaaGreatDoor
open Go.RowKit
theorem bel_grow {w w' : World} {B : Nat} {r : Option Nat} (h : w.grownBy w' r) (hr : ∀ k, r = some k → B ≤ k) (hB : B ≤ w.heap.size) : Below B w w' :=
  ⟨h.os, h.tape, h.output, h.size, fun k hk => h.block k (by omega) (fun e => by have := hr k e.symm; omega)⟩
theorem keepG {w w' : World} {p : Addr} {v : Value} {r : Option Nat} (hg : w.grownBy w' r) (hc : w.cell? p = some v) (hne : some p.block ≠ r) : w'.cell? p = some v :=
  (World.cell?_of_block (hg.block p.block (World.block_lt_of_cell? _ _ hc) hne)).trans hc
set_option maxRecDepth 20000 in
set_option maxHeartbeats 2000000 in
theorem expBytes_any (a : Option Addr) (n c : Nat) (w : World) (h : It w a n) (hn : n ≤ 100) : Calls Tryz.prog 46 #[.slice a n c] w fun e w' => IsT 8192 e ∧ Below w.heap.size w w' := by
  go_enter Tryz.func46, Tryz.ntmps46
  go_wp2_with (go_at_call 43; refine (nub_any _ _ _ (by omega) (by omega)).mono ?_; rintro e w1 ⟨⟨T, rfl, hT⟩, hb1⟩; have hc := Lib.run_convert_string_bytes (P := Tryz.prog) w1 9 22 5 T Tryz.underlying9 Tryz.underlying22 Tryz.underlying5)
  have hR0 := Rw.new w1 T
  have hb2 := hb1.trans ((growB w1 T).mono hb1.size)
  have hsz := hb1.size
  go_loopw [3, 5, 12] (fun o _ i wr => ∃ (k m g cap : Nat) (L : List UInt8), k ≤ n ∧ i = .int .i64 k ∧ o = .slice (some ⟨g, 0, none⟩) m cap ∧ m ≤ 8 + 56 * k ∧ Rw wr w.heap.size g m cap L ∧ Below w.heap.size w wr) (fun _ _ i _ => n - (intOf i).toNat)
  case atStart => exact ⟨0, _, _, _, _, by omega, rfl, rfl, by omega, ⟨by omega, hR0.lt, hR0.len, hR0.le, hR0.cs, hR0.sp, hR0.fz⟩, hb2⟩
  case round =>
    clear hc
    obtain ⟨k, m, g, cap, L, hk, rfl, rfl, hm, hR, hb⟩ := hrel
    by_cases hlt : k < n
    · obtain ⟨b, off, o, q, s, rfl, c0, c1, c2, hs⟩ := h.later hb k hlt
      have hsr := hb.size
      have hlg := hR.lt
      have hone : True := trivial
      go_wp2_with (first | (go_at_call 43; have _h := hone; refine (nub_any 1 o _ (by omega) (by omega)).mono ?_; rintro e w2 ⟨⟨T1, rfl, hT1⟩, hb3⟩; obtain ⟨d0, d1, d2⟩ := kept3 hb3; have hR2 := (hR.later (bal wr _)).later hb3; replace hb3 := bj hb hb3) | (at_builtin; have hs2 := hb3.size; refine wpList_app rfl _ _ rfl w.heap.size g m cap L rfl hR2 T1 rfl (by omega) (by omega) ?_; intro g1 cap1 w3 hR3 hg3; replace d0 := keepG hg3 d0 (fun e => by have := Option.some.inj e; simp at this; omega); replace d1 := keepG hg3 d1 (fun e => by have := Option.some.inj e; simp at this; omega); replace d2 := keepG hg3 d2 (fun e => by have := Option.some.inj e; simp at this; omega); replace hg3 := hb3.trans (bel_grow hg3 (fun q hq => by have e : g = q := Option.some.inj hq; have := hR.hB; omega) hs2); clear hR2 hone))
      · go_wp2_with (first | (go_at_call 43; refine (nub_any _ _ _ (by omega) (by omega)).mono ?_; rintro e w4 ⟨⟨T2, rfl, hT2⟩, hb4⟩; have hR4 := hR3.later hb4; replace hb4 := hg3.trans (hb4.mono hg3.size)) | (at_builtin; have hs4 := hb4.size; refine wpList_app rfl _ _ rfl w.heap.size g1 (m + T1.size) cap1 _ rfl hR4 T2 rfl (by omega) (by omega) ?_; intro g2 cap2 w5 hR5 hg5; replace hg5 := hb4.trans (bel_grow hg5 (fun q hq => by have e : g1 = q := Option.some.inj hq; have := hR3.hB; omega) hs4)))
        go_roundw
        case rel => exact ⟨k + 1, m + T1.size + T2.size, g2, cap2, _, by omega, by go_num, rfl, by omega, hR5, hg5⟩
        case measure => simp [intOf]; omega
      · go_wp2_with (first | (go_at_call 45; refine (s16_any s _ (by omega)).mono ?_; rintro e w4 ⟨⟨T2, rfl, hT2⟩, hb4⟩; have hR4 := hR3.later hb4; replace hb4 := hg3.trans (hb4.mono hg3.size)) | (at_builtin; have hs4 := hb4.size; refine wpList_app rfl _ _ rfl w.heap.size g1 (m + T1.size) cap1 _ rfl hR4 T2 rfl (by omega) (by omega) ?_; intro g2 cap2 w5 hR5 hg5; replace hg5 := hb4.trans (bel_grow hg5 (fun q hq => by have e : g1 = q := Option.some.inj hq; have := hR3.hB; omega) hs4)))
        go_roundw
        case rel => exact ⟨k + 1, m + T1.size + T2.size, g2, cap2, _, by omega, by go_num, rfl, by omega, hR5, hg5⟩
        case measure => simp [intOf]; omega
      · go_wp2_with (first | (go_at_call 44; refine (s8_any s _ (by omega)).mono ?_; rintro e w4 ⟨⟨T2, rfl, hT2⟩, hb4⟩; have hR4 := hR3.later hb4; replace hb4 := hg3.trans (hb4.mono hg3.size)) | (at_builtin; have hs4 := hb4.size; refine wpList_app rfl _ _ rfl w.heap.size g1 (m + T1.size) cap1 _ rfl hR4 T2 rfl (by omega) (by omega) ?_; intro g2 cap2 w5 hR5 hg5; replace hg5 := hb4.trans (bel_grow hg5 (fun q hq => by have e : g1 = q := Option.some.inj hq; have := hR3.hB; omega) hs4)))
        go_roundw
        case rel => exact ⟨k + 1, m + T1.size + T2.size, g2, cap2, _, by omega, by go_num, rfl, by omega, hR5, hg5⟩
        case measure => simp [intOf]; omega
      · go_roundw
        case rel => exact ⟨k + 1, m + T1.size, g1, cap1, _, by omega, by go_num, rfl, by omega, hR3, hg3⟩
        case measure => simp [intOf]; omega
    · have hc := hR.conv
      have hle := hR.len
      go_wp2
      go_ret
      exact ⟨⟨_, rfl, by show L.toArray.size ≤ 8192; simp; omega⟩, hb⟩
end Go.Proofs.YtjbbbfplephkpaaGreatDoor
