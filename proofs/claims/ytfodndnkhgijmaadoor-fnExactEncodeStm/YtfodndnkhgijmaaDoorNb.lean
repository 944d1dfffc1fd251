/-
  Keywords and names: both sides, exactly.
-/
import Derived.Test.YtfodndnkhgijmaaDoorNa
import Derived.Maps.OwnSet
import Derived.Lib.Fields
namespace Go.Proofs.YtfodndnkhgijmaaDoor
open Go.RowKit Go.Maps
def kws : List ByteArray := [⟨#[99, 114, 101, 97, 116, 101]⟩, ⟨#[116, 97, 98, 108, 101]⟩, ⟨#[105, 110, 115, 101, 114, 116]⟩, ⟨#[105, 110, 116, 111]⟩, ⟨#[118, 97, 108, 117, 101, 115]⟩, ⟨#[117, 112, 100, 97, 116, 101]⟩, ⟨#[115, 101, 116]⟩, ⟨#[100, 101, 108, 101, 116, 101]⟩, ⟨#[102, 114, 111, 109]⟩, ⟨#[119, 104, 101, 114, 101]⟩, ⟨#[115, 101, 108, 101, 99, 116]⟩, ⟨#[97, 110, 100]⟩, ⟨#[111, 114]⟩, ⟨#[110, 111, 116]⟩, ⟨#[108, 101, 110]⟩, ⟨#[105, 110, 116]⟩, ⟨#[116, 101, 120, 116]⟩]
def isIn (s : ByteArray) (L : List ByteArray) : Bool := L.any fun x => decide (x = s)
theorem isIn_true {s : ByteArray} {L : List ByteArray} {k : Nat} (hk : k < L.length) (h : L[k] = s) : isIn s L = true := by
  unfold isIn
  rw [List.any_eq_true]
  exact ⟨L[k], List.getElem_mem _, by simp [h]⟩
theorem isIn_false {s : ByteArray} {L : List ByteArray} (h : ∀ k (hk : k < L.length), ¬ L[k] = s) : isIn s L = false := by
  unfold isIn
  rw [List.any_eq_false]
  intro x hx
  obtain ⟨j, hj, rfl⟩ := List.getElem_of_mem hx
  simp [h j hj]
def okName (s : ByteArray) : Bool := okWord s && !isIn s kws
theorem bal (w : World) (o : Obj) : Below w.heap.size w (w.alloc o) := (Below.refl _ _).alloc (Nat.le_refl _) _
theorem bal2 {w w1 : World} {o : Obj} (h : Below (w.alloc o).heap.size (w.alloc o) w1) : Below w.heap.size w w1 := (bal w o).trans (h.mono (bal w o).size)
theorem bstep {a b c : World} (h : Below a.heap.size a b) (k : Below b.heap.size b c) : Below a.heap.size a c := h.trans (k.mono h.size)
theorem keepB {w w' : World} {p : Addr} {v : Value} (hb : Below w.heap.size w w') (hc : w.cell? p = some v) : w'.cell? p = some v := (hb.cell (World.block_lt_of_cell? w _ hc)).trans hc
/-- The strings of L lie there. -/
def SL (w : World) (a : Option Addr) (L : List ByteArray) : Prop := ∀ k (h : k < L.length), ∃ b off, a = some ⟨b, off, none⟩ ∧ w.cell? ⟨b, off + k, none⟩ = some (.string L[k])
theorem sl_new (w : World) (L : List ByteArray) (t : TypeId) : SL (w.alloc (.cells (L.map Value.string).toArray t)) (some ⟨w.heap.size, 0, none⟩) L := fun k hk =>
  ⟨w.heap.size, 0, rfl, by rw [Nat.zero_add]; exact (cell_of_row _ _ k _ _ _ (heap_alloc_new w _)).trans (by simp [hk])⟩
set_option maxRecDepth 20000 in
set_option maxHeartbeats 2000000 in
theorem sKeywords (w : World) : Calls Tryd.prog 85 #[] w fun e w' => ∃ a, e = .returned (.slice a 17 17) ∧ SL w' a kws ∧ Below w.heap.size w w' := by
  go_enter Tryd.func85, Tryd.ntmps85
  go_wp2
  go_ret
  exact ⟨_, rfl, sl_new w kws _, (Below.refl _ _).alloc (Nat.le_refl _) _⟩
set_option maxRecDepth 20000 in
set_option maxHeartbeats 2000000 in
theorem sHas (a : Option Addr) (n c : Nat) (L : List ByteArray) (hn : L.length = n) (s : ByteArray) (w : World) (h : SL w a L) (hn2 : n ≤ 1048576) : Calls Tryd.prog 84 #[.slice a n c, .string s] w fun e w' => e = .returned (.bool (isIn s L)) ∧ w' = w := by
  go_enter Tryd.func84, Tryd.ntmps84
  go_wp2
  go_loop [6, 9] (fun _ i => ∃ k : Nat, k ≤ n ∧ i = .int .i64 k ∧ ∀ j (hj : j < L.length), j < k → ¬ L[j] = s) (fun _ i => n - (intOf i).toNat)
  case atStart => exact ⟨0, by omega, rfl, fun j _ h => by omega⟩
  case round =>
    obtain ⟨k, hk, rfl, hall⟩ := hrel
    by_cases hlt : k < n
    · obtain ⟨b, off, rfl, hc⟩ := h k (by omega)
      by_cases he : L[k] = s
      · have he2 : (L[k].toList == s.toList) = true := by rw [eqS]; simp [he]
        go_wp2
        go_ret
        exact ⟨retB (isIn_true (by omega) he).symm, rfl⟩
      · have he2 : (L[k].toList == s.toList) = false := by rw [eqS]; simp [he]
        go_wp2
        go_round
        case rel => exact ⟨k + 1, by omega, by go_num, fun j hj hjk => by
          by_cases e : j = k
          · subst e; exact he
          · exact hall j hj (by omega)⟩
        case measure => simp [intOf]; omega
    · go_wp2
      go_ret
      exact ⟨retB (isIn_false fun j hj => hall j hj (by omega)).symm, rfl⟩
set_option maxRecDepth 20000 in
set_option maxHeartbeats 4000000 in
theorem sName (s : ByteArray) (w : World) (hs : s.size ≤ 1048576) : Calls Tryd.prog 31 #[.string s] w fun e w' => e = .returned (.bool (okName s)) ∧ Below w.heap.size w w' := by
  have hb0 := Below.refl w.heap.size w
  go_enter Tryd.func31, Tryd.ntmps31
  by_cases h0 : 0 < s.size
  · go_wp2_with (first | (go_at_call 66; refine (sBetween _ 1 30 _).mono ?_; rintro e w1 ⟨rfl, rfl⟩; rcases hbt : btw s.size 1 30) | (go_at_call 83; refine (sLetter _ _).mono ?_; rintro e w1 ⟨rfl, rfl⟩; rcases hl : isLet s[0].toNat) | (go_at_call 85; refine (sKeywords _).mono ?_; rintro e w1 ⟨a, rfl, hk1, hb2⟩) | (go_at_call 84; refine (sHas _ 17 17 kws rfl s _ hk1 (by omega)).mono ?_; rintro e w2 ⟨rfl, rfl⟩; rcases hm : isIn s kws))
    · go_ret
      exact ⟨retB (by simp [btw] at hbt; simp [okName, okWord, head0_eq h0] <;> omega), hb0⟩
    · go_ret
      exact ⟨retB (by simp [okName, okWord, head0_eq h0, hl]), hb0⟩
    · go_loop [3] (fun i => ∃ k : Nat, k ≤ s.size ∧ i = .int .i64 k ∧ ∀ j (h : j < s.size), j < k → isInn s[j].toNat = true) (fun i => s.size - (intOf i).toNat)
      case atStart => exact ⟨0, by omega, rfl, fun j _ h => by omega⟩
      case round =>
        obtain ⟨k, hk, rfl, hall⟩ := hrel
        by_cases hlt : k < s.size
        · go_wp2_with (go_at_call 86; refine (sInner _ _).mono ?_; rintro e w1 ⟨rfl, rfl⟩; rcases hb : isInn s[k].toNat)
          · go_ret
            exact ⟨retB (by simp [okName, okWord, allB_false (p := isInn) hlt hb]), hb2⟩
          · go_round
            case rel => exact ⟨k + 1, by omega, by go_num, fun j h hj => by
              by_cases e : j = k
              · subst e; exact hb
              · exact hall j h (by omega)⟩
            case measure => simp [intOf]; omega
        · go_wp2
          go_ret
          exact ⟨retB (by simp [btw] at hbt; simp [okName, okWord, allB_true (p := isInn) (fun j h => hall j h (by omega)), head0_eq h0, hl, h0, hm]; omega), hb2⟩
    · go_ret
      exact ⟨retB (by simp [okName, hm]), hb2⟩
  · have hbt : btw s.size 1 30 = false := by simp [btw]; omega
    go_wp2_with (go_at_call 66; refine (sBetween _ 1 30 _).mono ?_; rintro e w1 ⟨rfl, rfl⟩; rw [hbt])
    go_ret
    exact ⟨retB (by simp [okName, okWord, h0]), hb0⟩
end Go.Proofs.YtfodndnkhgijmaaDoor
