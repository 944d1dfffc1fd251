/-
  A row of bytes that a text was turned into, and texts appended to it; statements as bytes: the specification's parts.
-/
import Derived.Test.YtfodndnkhgijmaaDoorEa
import Derived.Test.YtfodndnkhgijmaaDoorNr
import Derived.Lib.ConvBytes
import Derived.Lib.JoinLaws
import Derived.Lib.AppendStr
namespace Go.Proofs.YtfodndnkhgijmaaDoor
open Go.RowKit
theorem below_setCells {B g : Nat} {a w : World} (o : Nat) (vs : List Value) (hb : Below B a w) (hg : B ≤ g) : Below B a (w.setCells g o vs) := by
  induction vs generalizing o w with
  | nil => exact hb
  | cons v r ih => exact ih (o + 1) (hb.setCell hg v)
theorem heap_setCells_other (w : World) (g i : Nat) (h : i ≠ g) (o : Nat) (vs : List Value) : (w.setCells g o vs).heap[i]? = w.heap[i]? := by
  induction vs generalizing o w with
  | nil => rfl
  | cons v r ih => exact (ih _ _).trans (heap_setCell_other _ _ _ _ (by simpa using h))
theorem size_setCells (w : World) (g o : Nat) (vs : List Value) : (w.setCells g o vs).heap.size = w.heap.size := by
  induction vs generalizing o w with
  | nil => rfl
  | cons v r ih => exact (ih _ _).trans (by simp)
/-- Block g holds n bytes, the bytes of L, and room up to cap that may be written. -/
structure Rw (w : World) (B g n cap : Nat) (L : List UInt8) : Prop where
  hB : B ≤ g
  lt : g < w.heap.size
  len : L.length = n
  le : n ≤ cap
  cs : ∀ j (hj : j < L.length), w.cell? ⟨g, j, none⟩ = some (.int .u8 (L[j].toNat : Int))
  sp : ∀ j, j < cap → (w.cell? ⟨g, j, none⟩).isSome = true
  fz : ∀ j, n ≤ j → j < cap → w.frozen? ⟨g, j, none⟩ = false
theorem Rw.kept {w w' : World} {B g n cap : Nat} {L : List UInt8} {r : Option Nat} (h : Rw w B g n cap L) (hg : w.grownBy w' r) (hr : r ≠ some g) : Rw w' B g n cap L := by
  have e : w'.heap[g]? = w.heap[g]? := hg.block g h.lt (fun e => hr e.symm)
  have c : ∀ j, w'.cell? ⟨g, j, none⟩ = w.cell? ⟨g, j, none⟩ := fun j => World.cell?_of_block e
  have f : ∀ j, w'.frozen? ⟨g, j, none⟩ = w.frozen? ⟨g, j, none⟩ := fun j => World.frozen?_of_block e
  exact ⟨h.hB, Nat.lt_of_lt_of_le h.lt hg.size, h.len, h.le, fun j hj => (c j).trans (h.cs j hj), fun j hj => by rw [c]; exact h.sp j hj, fun j h1 h2 => by rw [f]; exact h.fz j h1 h2⟩
theorem Rw.later {w w' : World} {B g n cap : Nat} {L : List UInt8} (h : Rw w B g n cap L) (hb : Below w.heap.size w w') : Rw w' B g n cap L :=
  h.kept (r := none) ⟨hb.os, hb.tape, hb.output, hb.size, fun k hk _ => hb.block k hk⟩ (fun e => by cases e)
theorem addj (g j : Nat) : (⟨g, 0, none⟩ : Addr).add j = ⟨g, j, none⟩ := by unfold Addr.add; split <;> simp_all
theorem Rw.conv {w : World} {B g n cap : Nat} {L : List UInt8} (h : Rw w B g n cap L) : (convert 144 9 (.slice (some ⟨g, 0, none⟩) n cap)).run Tryd.prog w = .ok (.string ⟨L.toArray⟩) w := by
  obtain ⟨-, -, rfl, -, hc, -, -⟩ := h
  refine run_convert_bytes_back w 144 9 5 ⟨g, 0, none⟩ cap L Tryd.underlying144 Tryd.underlying5 Tryd.underlying9 (fun j hj => ?_)
  rw [addj]
  exact hc j hj
theorem bytesCells_size (w : World) (e : TypeId) (s : ByteArray) : (Lib.bytesCells w e s).size = grownCap w s.size 0 e := by
  have h1 : s.size ≤ grownCap w s.size 0 e := grownCap_ge w s.size 0 e
  have h2 : s.data.size = s.size := rfl
  unfold Lib.bytesCells
  simp only [Array.size_append, Array.size_map, Array.size_replicate]
  omega
theorem Rw.new (w : World) (s : ByteArray) : Rw (Lib.bytesWorld w 5 s) w.heap.size w.heap.size s.size (grownCap w s.size 0 5) s.data.toList := by
  have hz := bytesCells_size w 5 s
  have hn := Lib.bytesWorld_at_new w 5 s
  refine ⟨Nat.le_refl _, by rw [Lib.bytesWorld_size]; omega, by simp, grownCap_ge _ _ _ _, fun j hj => ?_, fun j hj => ?_, fun j h1 h2 => ?_⟩
  · have hj' : j < s.size := by simpa using hj
    rw [Lib.bytesWorld_cell w _ s j hj']
    have hj2 : j < s.data.size := by simpa using hj
    simp only [List.getD, Array.getElem?_toList, Array.getElem_toList]
    rw [Array.getElem?_eq_getElem hj2]
    rfl
  · rw [cell_of_row _ _ j _ _ _ hn, Array.getElem?_eq_getElem (by omega)]
    rfl
  · simp only [World.frozen?, hn, Bool.and_eq_false_iff, decide_eq_false_iff_not]
    left
    omega
theorem growB (w : World) (s : ByteArray) : Below w.heap.size w (Lib.bytesWorld w 5 s) :=
  ⟨rfl, rfl, rfl, by rw [Lib.bytesWorld_size]; omega, fun k hk => Lib.bytesWorld_at_old w _ s k hk⟩
theorem byteCells_len (s : ByteArray) : (byteCells s).length = s.size := by simp [byteCells]
theorem getElem_app (L : List UInt8) (s : ByteArray) (j : Nat) (hj : j < (L ++ s.data.toList).length) (h : L.length ≤ j) (h2 : j - L.length < (byteCells s).length) : (byteCells s)[j - L.length] = Value.int .u8 (((L ++ s.data.toList)[j]).toNat : Int) := by
  simp only [byteCells, List.getElem_map]
  rw [List.getElem_append_right h]
/-- A text is appended. -/
theorem wpList_app {ops : Array Oper} {rest : List Oper} {o : Oper} {a : Act} {Q : Exit → Act → World → Prop} {w : World} (hgd : o.guard = none) (sl x : Operand)
    (ho : o.op = .call { callee := .builtin .append, args := #[sl, x], argTypes := #[144, 9] })
    (B g n cap : Nat) (L : List UInt8) (hs : a.eval sl = .slice (some ⟨g, 0, none⟩) n cap) (hR : Rw w B g n cap L) (s : ByteArray) (hx : a.eval x = .string s) (hl : n + s.size ≤ 1048576) (hB : B ≤ w.heap.size)
    (h : ∀ g' cap' w', Rw w' B g' (n + s.size) cap' (L ++ s.data.toList) → w.grownBy w' (some g) → wpList Tryd.prog ops Q rest (a.put o.dst (.slice (some ⟨g', 0, none⟩) (n + s.size) cap')) w') : wpList Tryd.prog ops Q (o :: rest) a w := by
  obtain ⟨h1, h2, h3, h4, h5, h6, h7⟩ := id hR
  have hlen : (L ++ s.data.toList).length = n + s.size := by simp [h3]
  have hbl := byteCells_len s
  by_cases hroom : n + s.size ≤ cap
  · have hc : ∀ j, j < (byteCells s).length → (w.cell? ⟨g, 0 + n + j, none⟩).isSome = true := fun j hj => h6 _ (by omega)
    have hc' : ∀ j, j < (byteCells s).length → (w.cell? ⟨g, n + j, none⟩).isSome = true := fun j hj => h6 _ (by omega)
    refine wpList_append_room1 w hgd sl x 144 9 ho 5 (.int .u8 0) 1 Tryd.underlying144 Tryd.infoB g 0 n cap hs (.string s) hx s.size (byteCells s) (Src.ofString w Tryd.underlying9 s) hroom hc (fun j hj => h7 _ (by omega) (by omega)) ?_
    rw [Nat.zero_add]
    refine h g cap _ ⟨h1, by rw [size_setCells]; exact h2, hlen, hroom, fun j hj => ?_, fun j hj => World.isSome_setCells _ _ _ _ _ (h6 j hj), fun j ha hb => by rw [World.frozen?_setCells]; exact h7 j (by omega) hb⟩ ?_
    · by_cases hjn : j < n
      · rw [World.cell?_setCells_out _ _ _ _ _ (fun _ _ => Or.inl hjn)]
        have := h5 j (by omega)
        rw [this, List.getElem_append_left]
      · have := World.cell?_setCells_in g (byteCells s) n w hc' (j - n) (by omega)
        rw [show n + (j - n) = j by omega] at this
        rw [this]
        subst h3
        rw [getElem_app L s j hj (by omega)]
    · have hb := below_setCells n (byteCells s) (Below.refl g w) (Nat.le_refl g)
      exact ⟨hb.os, hb.tape, hb.output, hb.size, fun k _ hne => heap_setCells_other w g k (fun e => hne (by rw [e])) n (byteCells s)⟩
  · obtain ⟨i, hi, hz0, hz1, hz2⟩ := info_parts Tryd.infoB
    have hr := Lib.run_append_grow_string (P := Tryd.prog) w 144 9 o.type 5 i (.int .u8 0) Tryd.underlying144 Tryd.underlying9 hi hz0 ⟨g, 0, none⟩ n cap (cells8 L) (by simp [cells8, h3, hz1]) (fun j v hv => by
      rw [addj]
      have hj : j < L.length := by
        rcases Nat.lt_or_ge j L.length with hlt | hge
        · exact hlt
        · simp [cells8, hge] at hv
      rw [h5 j hj]
      simpa [cells8, hj] using hv) s (by omega) (by omega) (by rw [hz2]; exact growslice_fits (by omega) (by omega))
    have hA : (cells8 L).toArray ++ (Lib.strCells s).toArray = (cells8 (L ++ s.data.toList)).toArray := by simp [cells8, Lib.strCells]
    have hge : n + s.size ≤ grownCap w (n + s.size) cap 5 := grownCap_ge _ _ _ _
    refine wpList_plain hgd fun K hK => ?_
    unfold Oper.wp execOp
    simp only [ho, resolve, invoke, builtin, Sem.run_bind, Sem.run_pure, Result.andThen_ok, List.map_toArray, List.map_cons, List.map_nil, hs, hx, hr]
    refine hK _ _ (h _ _ _ ⟨hB, by simp, hlen, hge, fun j hj => ?_, fun j hj => ?_, fun j _ _ => frozen_of_row _ _ j _ _ (heap_alloc_new w.drew _)⟩ ⟨rfl, rfl, rfl, by simp, fun k hk _ => Below.heap_alloc _ _ _ hk⟩)
    · rw [hA]
      refine (cell_of_row _ w.heap.size j _ _ _ (heap_alloc_new w.drew _)).trans ?_
      rw [Array.getElem?_append_left (by simpa [cells8] using hj), List.getElem?_toArray]
      unfold cells8
      rw [List.getElem?_map, List.getElem?_eq_getElem hj]
      rfl
    · rw [hA]
      refine Eq.trans (congrArg Option.isSome (cell_of_row _ w.heap.size j _ _ _ (heap_alloc_new w.drew _))) ?_
      rw [Array.getElem?_eq_getElem (by
        rw [Array.size_append, size_zeroCells]
        have e1 : (cells8 (L ++ s.data.toList)).toArray.size = n + s.size := by simpa [cells8] using hlen
        have e2 : (Value.int IntKind.u8 0).cells.size = 1 := rfl
        rw [e1, e2]
        omega)]
      rfl
theorem bel_grow {w w' : World} {B : Nat} {r : Option Nat} (h : w.grownBy w' r) (hr : ∀ k, r = some k → B ≤ k) (hB : B ≤ w.heap.size) : Below B w w' :=
  ⟨h.os, h.tape, h.output, h.size, fun k hk => h.block k (by omega) (fun e => by have := hr k e.symm; omega)⟩
theorem keepG {w w' : World} {p : Addr} {v : Value} {r : Option Nat} (hg : w.grownBy w' r) (hc : w.cell? p = some v) (hne : some p.block ≠ r) : w'.cell? p = some v :=
  (World.cell?_of_block (hg.block p.block (World.block_lt_of_cell? _ _ hc) hne)).trans hc
theorem bs_size (L : List UInt8) : (bs L).size = L.length := by show L.toArray.size = _; simp
theorem bs_data (L : List UInt8) : (bs L).data.toList = L := by simp [bs]
theorem bs_of (s : ByteArray) : bs s.data.toList = s := by simp [bs]
theorem bs_app (L M : List UInt8) : bs L ++ bs M = bs (L ++ M) := by
  apply ByteArray.ext
  simp [bs, ByteArray.data_append]
theorem bs_apps (L : List UInt8) (s : ByteArray) : bs L ++ s = bs (L ++ s.data.toList) := by rw [← bs_app, bs_of]
def s8 (s : ByteArray) : List UInt8 := numI 1 s.size ++ s.data.toList
def s16 (s : ByteArray) : List UInt8 := numI 2 s.size ++ s.data.toList
theorem s8_len (s : ByteArray) : (s8 s).length = 1 + s.size := by simp [s8, numI_len]
theorem s16_len (s : ByteArray) : (s16 s).length = 2 + s.size := by simp [s16, numI_len]
set_option maxRecDepth 20000 in
set_option maxHeartbeats 1000000 in
theorem sS8 (s : ByteArray) (w : World) (hs : s.size ≤ 1048576) : Calls Tryd.prog 54 #[.string s] w fun e w' => e = .returned (.string (bs (s8 s))) ∧ Below w.heap.size w w' := by
  go_enter Tryd.func54, Tryd.ntmps54
  go_wp2_with (go_at_call 53; refine (sNum1 s.size _).mono ?_; rintro e w1 ⟨rfl, hb1⟩; have hz : (bs (numI 1 (s.size : Int))).size = 1 := (by rw [bs_size, numI_len]))
  go_ret
  exact ⟨congrArg (fun x => Ending.returned (.string x)) (bs_apps _ _), hb1⟩
set_option maxRecDepth 20000 in
set_option maxHeartbeats 1000000 in
theorem sS16 (s : ByteArray) (w : World) (hs : s.size ≤ 1048576) : Calls Tryd.prog 55 #[.string s] w fun e w' => e = .returned (.string (bs (s16 s))) ∧ Below w.heap.size w w' := by
  go_enter Tryd.func55, Tryd.ntmps55
  go_wp2_with (go_at_call 53; refine (sNum2 s.size _).mono ?_; rintro e w1 ⟨rfl, hb1⟩; have hz : (bs (numI 2 (s.size : Int))).size = 2 := (by rw [bs_size, numI_len]))
  go_ret
  exact ⟨congrArg (fun x => Ending.returned (.string x)) (bs_apps _ _), hb1⟩
def itmB (i : Itm) : List UInt8 := numI 1 i.o ++ (if i.o = 1 then numI 8 i.m else if i.o = 2 then s16 i.s else if i.o = 3 then s8 i.s else [])
def listB (B : Nat → List UInt8) : Nat → List UInt8
  | 0 => []
  | k + 1 => listB B k ++ B k
def expB (I : Nat → Itm) (n : Nat) : List UInt8 := numI 2 n ++ listB (fun k => itmB (I k)) n
theorem itmB_len (i : Itm) (h : i.s.size ≤ 200) : (itmB i).length ≤ 300 := by
  unfold itmB
  rw [List.length_append, numI_len]
  (repeat' split) <;> simp [numI_len, s8_len, s16_len] <;> omega
theorem listB_len {B : Nat → List UInt8} {c : Nat} : ∀ {n : Nat}, (∀ k, k < n → (B k).length ≤ c) → (listB B n).length ≤ n * c
  | 0, _ => by simp [listB]
  | n + 1, h => by
    have h1 := listB_len (n := n) (fun k hk => h k (by omega))
    have h2 := h n (by omega)
    rw [listB, List.length_append, Nat.add_mul]
    omega
theorem expB_len {I : Nat → Itm} {n : Nat} (hn : n ≤ 100) (h : ∀ k, k < n → (I k).s.size ≤ 200) : (expB I n).length ≤ 30002 := by
  have := listB_len (B := fun k => itmB (I k)) (c := 300) (n := n) (fun k hk => itmB_len _ (h k hk))
  have h2 : n * 300 ≤ 100 * 300 := Nat.mul_le_mul_right 300 hn
  rw [expB, List.length_append, numI_len]
  omega
set_option maxRecDepth 20000 in
set_option maxHeartbeats 4000000 in
theorem sExpB (a : Option Addr) (n c : Nat) (I : Nat → Itm) (w : World) (h : IL w a n I) (hn : n ≤ 100) (hs : ∀ k, k < n → (I k).s.size ≤ 200) : Calls Tryd.prog 56 #[.slice a n c] w fun e w' => e = .returned (.string (bs (expB I n))) ∧ Below w.heap.size w w' := by
  go_enter Tryd.func56, Tryd.ntmps56
  go_wp2_with (go_at_call 53; refine (sNum2 n _).mono ?_; rintro e w1 ⟨rfl, hb1⟩; have hc := Lib.run_convert_string_bytes (P := Tryd.prog) w1 9 144 5 (bs (numI 2 n)) Tryd.underlying9 Tryd.underlying144 Tryd.underlying5)
  have hT : (bs (numI 2 (n : Int))).size ≤ 2 := by rw [bs_size, numI_len]; omega
  have hR0 := Rw.new w1 (bs (numI 2 n))
  have hb2 := hb1.trans ((growB w1 (bs (numI 2 n))).mono hb1.size)
  have hsz := hb1.size
  rw [bs_data] at hR0
  go_loopw [3, 5, 12] (fun o _ i wr => ∃ (k m g cap : Nat), k ≤ n ∧ i = .int .i64 k ∧ o = .slice (some ⟨g, 0, none⟩) m cap ∧ m ≤ 2 + 300 * k ∧ Rw wr w.heap.size g m cap (numI 2 n ++ listB (fun k => itmB (I k)) k) ∧ Below w.heap.size w wr) (fun _ _ i _ => n - (intOf i).toNat)
  case atStart => exact ⟨0, _, _, _, by omega, rfl, rfl, by omega, ⟨by omega, hR0.lt, by rw [listB, List.append_nil]; exact hR0.len, hR0.le, by rw [listB, List.append_nil]; exact hR0.cs, hR0.sp, hR0.fz⟩, hb2⟩
  case round =>
    clear hc
    obtain ⟨k, m, g, cap, hk, rfl, rfl, hm, hR, hb⟩ := hrel
    by_cases hlt : k < n
    · have hsk := hs k hlt
      have HL : Hid (listB (fun k => itmB (I k)) (k + 1) = listB (fun k => itmB (I k)) k ++ itmB (I k)) := rfl
      obtain ⟨b, off, rfl, c0, c1, c2, -⟩ := h.later hb k hlt
      have hsr := hb.size
      have hlg := hR.lt
      have hone : True := trivial
      have z1 : (bs (numI 1 (I k).o)).size ≤ 1 := by rw [bs_size, numI_len]; omega
      have z8 : (bs (numI 8 (I k).m)).size ≤ 8 := by rw [bs_size, numI_len]; omega
      have zs : (bs (s16 (I k).s)).size ≤ 202 := by rw [bs_size, s16_len]; omega
      have zt : (bs (s8 (I k).s)).size ≤ 201 := by rw [bs_size, s8_len]; omega
      go_wp2_with (first | (go_at_call 53; have _h := hone; refine (sNum1 (I k).o _).mono ?_; rintro e w2 ⟨rfl, hb3⟩; obtain ⟨d0, d1, d2⟩ := kept3 hb3; have hR2 := (hR.later (bal wr _)).later hb3; replace hb3 := bj hb hb3) | (at_builtin; have hs2 := hb3.size; refine wpList_app rfl _ _ rfl w.heap.size g m cap _ rfl hR2 (bs (numI 1 (I k).o)) rfl (by omega) (by omega) ?_; intro g1 cap1 w3 hR3 hg3; rw [bs_data] at hR3; replace d0 := keepG hg3 d0 (fun e => by have := Option.some.inj e; simp at this; omega); replace d1 := keepG hg3 d1 (fun e => by have := Option.some.inj e; simp at this; omega); replace d2 := keepG hg3 d2 (fun e => by have := Option.some.inj e; simp at this; omega); replace hg3 := hb3.trans (bel_grow hg3 (fun q hq => by have e : g = q := Option.some.inj hq; have := hR.hB; omega) hs2); clear hR2 hone))
      · go_wp2_with (first | (go_at_call 53; refine (sNum8 (I k).m _).mono ?_; rintro e w4 ⟨rfl, hb4⟩; have hR4 := hR3.later hb4; replace hb4 := hg3.trans (hb4.mono hg3.size)) | (at_builtin; have hs4 := hb4.size; refine wpList_app rfl _ _ rfl w.heap.size g1 _ cap1 _ rfl hR4 (bs (numI 8 (I k).m)) rfl (by omega) (by omega) ?_; intro g2 cap2 w5 hR5 hg5; rw [bs_data] at hR5; replace hg5 := hb4.trans (bel_grow hg5 (fun q hq => by have e : g1 = q := Option.some.inj hq; have := hR3.hB; omega) hs4)))
        have HQ : Hid (itmB (I k) = numI 1 (I k).o ++ numI 8 (I k).m) := by
          simp only [beq_iff_eq] at *
          simp [Hid, itmB, *]
        go_roundw
        case rel => exact ⟨k + 1, _, g2, cap2, by omega, by go_num, rfl, by omega, by rw [HL.out, HQ.out]; simpa using hR5, hg5⟩
        case measure => simp [intOf]; omega
      · go_wp2_with (first | (go_at_call 55; refine (sS16 (I k).s _ (by omega)).mono ?_; rintro e w4 ⟨rfl, hb4⟩; have hR4 := hR3.later hb4; replace hb4 := hg3.trans (hb4.mono hg3.size)) | (at_builtin; have hs4 := hb4.size; refine wpList_app rfl _ _ rfl w.heap.size g1 _ cap1 _ rfl hR4 (bs (s16 (I k).s)) rfl (by omega) (by omega) ?_; intro g2 cap2 w5 hR5 hg5; rw [bs_data] at hR5; replace hg5 := hb4.trans (bel_grow hg5 (fun q hq => by have e : g1 = q := Option.some.inj hq; have := hR3.hB; omega) hs4)))
        have HQ : Hid (itmB (I k) = numI 1 (I k).o ++ s16 (I k).s) := by
          simp only [beq_iff_eq, beq_eq_false_iff_ne, ne_eq] at *
          simp [Hid, itmB, *]
        go_roundw
        case rel => exact ⟨k + 1, _, g2, cap2, by omega, by go_num, rfl, by omega, by rw [HL.out, HQ.out]; simpa using hR5, hg5⟩
        case measure => simp [intOf]; omega
      · go_wp2_with (first | (go_at_call 54; refine (sS8 (I k).s _ (by omega)).mono ?_; rintro e w4 ⟨rfl, hb4⟩; have hR4 := hR3.later hb4; replace hb4 := hg3.trans (hb4.mono hg3.size)) | (at_builtin; have hs4 := hb4.size; refine wpList_app rfl _ _ rfl w.heap.size g1 _ cap1 _ rfl hR4 (bs (s8 (I k).s)) rfl (by omega) (by omega) ?_; intro g2 cap2 w5 hR5 hg5; rw [bs_data] at hR5; replace hg5 := hb4.trans (bel_grow hg5 (fun q hq => by have e : g1 = q := Option.some.inj hq; have := hR3.hB; omega) hs4)))
        have HQ : Hid (itmB (I k) = numI 1 (I k).o ++ s8 (I k).s) := by
          simp only [beq_iff_eq, beq_eq_false_iff_ne, ne_eq] at *
          simp [Hid, itmB, *]
        go_roundw
        case rel => exact ⟨k + 1, _, g2, cap2, by omega, by go_num, rfl, by omega, by rw [HL.out, HQ.out]; simpa using hR5, hg5⟩
        case measure => simp [intOf]; omega
      · have HQ : Hid (itmB (I k) = numI 1 (I k).o ++ []) := by
          simp only [beq_eq_false_iff_ne, ne_eq] at *
          simp [Hid, itmB, *]
        go_roundw
        case rel => exact ⟨k + 1, _, g1, cap1, by omega, by go_num, rfl, by omega, by rw [HL.out, HQ.out]; simpa using hR3, hg3⟩
        case measure => simp [intOf]; omega
    · obtain rfl : k = n := by omega
      have hc := hR.conv
      go_wp2
      go_ret
      exact ⟨rfl, hb⟩
end Go.Proofs.YtfodndnkhgijmaaDoor
