/-
  Statements: expressions (the specification's way): that its test answers.
-/
import Derived.Test.YtjbbbfplephkpaaGreatDoorProg
import Derived.WalkKit
import Derived.ProofKit
import Derived.Laws.CopyOwn
import Derived.Deep.QuietTactic
import Derived.BigQuiet
namespace Go.Proofs.YtjbbbfplephkpaaGreatDoor
open Go.RowKit
/-- A yes or a no. -/
def IsB (e : Ending) : Prop := ∃ b, e = .returned (.bool b)
set_option maxRecDepth 20000 in
set_option maxHeartbeats 1000000 in
theorem letter_any (c : Int) (w : World) : Calls Tryz.prog 99 #[.int .u8 c] w fun e w' => IsB e ∧ w' = w := by
  go_enter Tryz.func99, Tryz.ntmps99
  go_wp2
  all_goals
    go_ret
    exact ⟨⟨_, rfl⟩, rfl⟩
set_option maxRecDepth 20000 in
set_option maxHeartbeats 1000000 in
theorem inner_any (c : Int) (w : World) : Calls Tryz.prog 102 #[.int .u8 c] w fun e w' => IsB e ∧ w' = w := by
  go_enter Tryz.func102, Tryz.ntmps102
  go_wp2_with (go_at_call 99; refine (letter_any c _).mono ?_; rintro e w1 ⟨⟨b, rfl⟩, rfl⟩; cases b)
  all_goals
    go_ret
    exact ⟨⟨_, rfl⟩, rfl⟩
set_option maxRecDepth 20000 in
set_option maxHeartbeats 1000000 in
theorem number_any (n : Int) (w : World) : Calls Tryz.prog 103 #[.int .i64 n] w fun e w' => IsB e ∧ w' = w := by
  go_enter Tryz.func103, Tryz.ntmps103
  go_wp2
  go_ret
  exact ⟨⟨_, rfl⟩, rfl⟩
set_option maxRecDepth 20000 in
set_option maxHeartbeats 1000000 in
theorem type_any (n : Int) (w : World) : Calls Tryz.prog 65 #[.int .i64 n] w fun e w' => IsB e ∧ w' = w := by
  go_enter Tryz.func65, Tryz.ntmps65
  go_wp2
  all_goals
    go_ret
    exact ⟨⟨_, rfl⟩, rfl⟩
/-- A number from 0 to 2. -/
def Is2 (e : Ending) : Prop := ∃ r : Int, 0 ≤ r ∧ r ≤ 2 ∧ e = .returned (.int .i64 r)
set_option maxRecDepth 20000 in
set_option maxHeartbeats 1000000 in
theorem arity_any (n : Int) (w : World) : Calls Tryz.prog 71 #[.int .i64 n] w fun e w' => Is2 e ∧ w' = w := by
  go_enter Tryz.func71, Tryz.ntmps71
  go_wp2
  all_goals
    go_ret
    exact ⟨⟨_, by omega, by omega, rfl⟩, rfl⟩
set_option maxRecDepth 20000 in
set_option maxHeartbeats 1000000 in
theorem between_any (x lo hi : Int) (w : World) : Calls Tryz.prog 24 #[.int .i64 x, .int .i64 lo, .int .i64 hi] w fun e w' => ((e = .returned (.bool true) ∧ lo ≤ x ∧ x ≤ hi) ∨ e = .returned (.bool false)) ∧ w' = w := by
  by_cases h1 : lo ≤ x
  · by_cases h2 : x ≤ hi
    · go_enter Tryz.func24, Tryz.ntmps24
      go_wp2
      go_ret
      exact ⟨Or.inl ⟨rfl, h1, h2⟩, rfl⟩
    · go_enter Tryz.func24, Tryz.ntmps24
      go_wp2
      go_ret
      exact ⟨Or.inr rfl, rfl⟩
  · go_enter Tryz.func24, Tryz.ntmps24
    go_wp2
    go_ret
    exact ⟨Or.inr rfl, rfl⟩
set_option maxRecDepth 20000 in
set_option maxHeartbeats 2000000 in
theorem txt_any (s : ByteArray) (w : World) (hs : s.size ≤ 1048576) : Calls Tryz.prog 104 #[.string s] w fun e w' => IsB e ∧ w' = w := by
  go_enter Tryz.func104, Tryz.ntmps104
  go_wp2
  · go_ret
    exact ⟨⟨_, rfl⟩, rfl⟩
  · go_loop [3] (fun i => ∃ k : Nat, k ≤ s.size ∧ i = .int .i64 k) (fun i => s.size - (intOf i).toNat)
    case atStart => exact ⟨0, by omega, rfl⟩
    case round =>
      obtain ⟨k, hk, rfl⟩ := hrel
      by_cases hlt : k < s.size
      · go_wp2_with (go_at_call 24; refine (between_any _ 32 126 _).mono ?_; rintro e w1 ⟨⟨rfl, -⟩ | rfl, rfl⟩)
        · go_round
          case rel => exact ⟨k + 1, by omega, by go_num⟩
          case measure => simp [intOf]; omega
        · go_ret
          exact ⟨⟨_, rfl⟩, rfl⟩
      · go_wp2
        go_ret
        exact ⟨⟨_, rfl⟩, rfl⟩
end Go.Proofs.YtjbbbfplephkpaaGreatDoor
namespace Go.Proofs.YtjbbbfplephkpaaGreatDoor
open Go.RowKit
/-- A slice of n strings that are not long. -/
def Ks (w : World) (a : Option Addr) (n : Nat) : Prop :=
  ∀ k, k < n → ∃ b off s, a = some ⟨b, off, none⟩ ∧ w.cell? ⟨b, off + k, none⟩ = some (.string s) ∧ s.size ≤ 1048576
def isS : Value → Bool
  | .string s => decide (s.size ≤ 40)
  | _ => false
theorem all_S (A : Array Value) (h : A.toList.all isS = true) (k : Nat) (hk : k < A.size) : ∃ s : ByteArray, A[k]? = some (.string s) ∧ s.size ≤ 40 := by
  have := List.all_eq_true.1 h A[k] (by simp)
  rw [Array.getElem?_eq_getElem hk]
  generalize A[k] = v at this
  cases v with
  | string s => exact ⟨s, rfl, by simpa [isS] using this⟩
  | _ => simp [isS] at this
theorem ks_new (w : World) (A : Array Value) (t : TypeId) (h : A.toList.all isS = true) : Ks (w.alloc (.cells A t)) (some ⟨w.heap.size, 0, none⟩) A.size := fun k hk => by
  obtain ⟨s, e, hs⟩ := all_S A h k hk
  exact ⟨w.heap.size, 0, s, rfl, by rw [Nat.zero_add]; exact (cell_of_row _ _ k _ _ _ (heap_alloc_new w _)).trans e, by omega⟩
theorem cell_new (w : World) (A : Array Value) (t : TypeId) (h : A.toList.all isS = true) (k : Nat) (hk : k < A.size) : ∃ s : ByteArray, (w.alloc (.cells A t)).cell? ⟨w.heap.size, k, none⟩ = some (.string s) ∧ s.size ≤ 40 := by
  obtain ⟨s, e, hs⟩ := all_S A h k hk
  exact ⟨s, (cell_of_row _ _ k _ _ _ (heap_alloc_new w _)).trans e, hs⟩
theorem bal (w : World) (o : Obj) : Below w.heap.size w (w.alloc o) := (Below.refl _ _).alloc (Nat.le_refl _) _
theorem bal2 {w w1 : World} {o : Obj} (h : Below (w.alloc o).heap.size (w.alloc o) w1) : Below w.heap.size w w1 := (bal w o).trans (h.mono (bal w o).size)
set_option maxRecDepth 20000 in
set_option maxHeartbeats 2000000 in
theorem keywords_any (w : World) : Calls Tryz.prog 101 #[] w fun e w' => ∃ a, e = .returned (.slice a 17 17) ∧ Ks w' a 17 ∧ Below w.heap.size w w' := by
  go_enter Tryz.func101, Tryz.ntmps101
  go_wp2
  go_ret
  exact ⟨_, rfl, ks_new w _ _ (by kernel_rfl), (Below.refl _ _).alloc (Nat.le_refl _) _⟩
set_option maxRecDepth 20000 in
set_option maxHeartbeats 2000000 in
theorem has_any (a : Option Addr) (n c : Nat) (s : ByteArray) (w : World) (h : Ks w a n) (hn : n ≤ 1048576) : Calls Tryz.prog 100 #[.slice a n c, .string s] w fun e w' => IsB e ∧ w' = w := by
  go_enter Tryz.func100, Tryz.ntmps100
  go_wp2
  go_loop [6, 9] (fun _ i => ∃ k : Nat, k ≤ n ∧ i = .int .i64 k) (fun _ i => n - (intOf i).toNat)
  case atStart => exact ⟨0, by omega, rfl⟩
  case round =>
    obtain ⟨k, hk, rfl⟩ := hrel
    by_cases hlt : k < n
    · obtain ⟨b, off, t, rfl, hc, -⟩ := h k hlt
      go_wp2
      · go_ret
        exact ⟨⟨_, rfl⟩, rfl⟩
      · go_round
        case rel => exact ⟨k + 1, by omega, by go_num⟩
        case measure => simp [intOf]; omega
    · go_wp2
      go_ret
      exact ⟨⟨_, rfl⟩, rfl⟩
set_option maxRecDepth 20000 in
set_option maxHeartbeats 4000000 in
theorem name_any (s : ByteArray) (w : World) (hs : s.size ≤ 1048576) : Calls Tryz.prog 64 #[.string s] w fun e w' => IsB e ∧ Below w.heap.size w w' := by
  have hb0 := Below.refl w.heap.size w
  go_enter Tryz.func64, Tryz.ntmps64
  go_wp2_with (first | (go_at_call 24; refine (between_any _ 1 30 _).mono ?_; rintro e w1 ⟨⟨rfl, hb1⟩ | rfl, rfl⟩) | (go_at_call 99; refine (letter_any _ _).mono ?_; rintro e w1 ⟨⟨b, rfl⟩, rfl⟩; cases b) | (go_at_call 101; refine (keywords_any _).mono ?_; rintro e w1 ⟨a, rfl, hk1, hb2⟩) | (go_at_call 100; refine (has_any _ 17 17 s _ hk1 (by omega)).mono ?_; rintro e w2 ⟨⟨b, rfl⟩, rfl⟩; cases b))
  all_goals try (go_ret; first | exact ⟨⟨_, rfl⟩, hb0⟩ | exact ⟨⟨_, rfl⟩, hb2⟩)
  go_loop [3] (fun i => ∃ k : Nat, k ≤ s.size ∧ i = .int .i64 k) (fun i => s.size - (intOf i).toNat)
  case atStart => exact ⟨0, by omega, rfl⟩
  case round =>
    obtain ⟨k, hk, rfl⟩ := hrel
    by_cases hlt : k < s.size
    · go_wp2_with (go_at_call 102; refine (inner_any _ _).mono ?_; rintro e w1 ⟨⟨b, rfl⟩, rfl⟩; cases b)
      · go_ret
        exact ⟨⟨_, rfl⟩, hb2⟩
      · go_round
        case rel => exact ⟨k + 1, by omega, by go_num⟩
        case measure => simp [intOf]; omega
    · go_wp2
      go_ret
      exact ⟨⟨_, rfl⟩, hb2⟩
set_option maxRecDepth 20000 in
set_option maxHeartbeats 2000000 in
theorem value_any (k m : Int) (s : ByteArray) (w : World) (hs : s.size ≤ 1048576) : Calls Tryz.prog 66 #[.agg #[.int .i64 k, .int .i64 m, .string s]] w fun e w' => IsB e ∧ Below w.heap.size w w' := by
  go_enter Tryz.func66, Tryz.ntmps66
  go_wp2_with (first | (go_at_call 103; refine (number_any _ _).mono ?_; rintro e w1 ⟨⟨b, rfl⟩, rfl⟩; cases b) | (go_at_call 104; refine (txt_any s _ hs).mono ?_; rintro e w1 ⟨⟨b, rfl⟩, rfl⟩; cases b))
  all_goals
    go_ret
    exact ⟨⟨_, rfl⟩, bal _ _⟩
set_option maxRecDepth 20000 in
set_option maxHeartbeats 2000000 in
theorem item_any (k m : Int) (s : ByteArray) (w : World) (hs : s.size ≤ 1048576) : Calls Tryz.prog 105 #[.agg #[.int .i64 k, .int .i64 m, .string s]] w fun e w' => IsB e ∧ Below w.heap.size w w' := by
  go_enter Tryz.func105, Tryz.ntmps105
  go_wp2_with (first | (go_at_call 103; refine (number_any _ _).mono ?_; rintro e w1 ⟨⟨b, rfl⟩, rfl⟩; cases b) | (go_at_call 24; refine (between_any _ _ _ _).mono ?_; rintro e w1 ⟨⟨rfl, -⟩ | rfl, rfl⟩) | (go_at_call 104; refine (txt_any s _ hs).mono ?_; rintro e w1 ⟨⟨b, rfl⟩, rfl⟩; cases b) | (go_at_call 64; refine (name_any s _ hs).mono ?_; rintro e w1 ⟨⟨b, rfl⟩, hb2⟩; cases b))
  all_goals
    go_ret
    first
      | exact ⟨⟨_, rfl⟩, bal _ _⟩
      | exact ⟨⟨_, rfl⟩, bal2 hb2⟩
end Go.Proofs.YtjbbbfplephkpaaGreatDoor
namespace Go.Proofs.YtjbbbfplephkpaaGreatDoor
open Go.RowKit
/-- n items lie there. -/
def It (w : World) (a : Option Addr) (n : Nat) : Prop :=
  ∀ k, k < n → ∃ b off o m s, a = some ⟨b, off, none⟩ ∧ w.cell? ⟨b, off + k * 3, none⟩ = some (.int .i64 o) ∧ w.cell? ⟨b, off + k * 3 + 1, none⟩ = some (.int .i64 m) ∧ w.cell? ⟨b, off + k * 3 + 2, none⟩ = some (.string s) ∧ s.size ≤ 40
theorem It.later {w w' : World} {a : Option Addr} {n : Nat} (h : It w a n) (hb : Below w.heap.size w w') : It w' a n := fun k hk => by
  obtain ⟨b, off, o, m, s, e, h0, h1, h2, hs⟩ := h k hk
  exact ⟨b, off, o, m, s, e, (hb.cell (World.block_lt_of_cell? w _ h0)).trans h0, (hb.cell (World.block_lt_of_cell? w _ h1)).trans h1, (hb.cell (World.block_lt_of_cell? w _ h2)).trans h2, hs⟩
theorem kept3 {w w2 : World} {x y z : Value} {t : TypeId} (hb : Below (w.alloc (.cells #[x, y, z] t)).heap.size (w.alloc (.cells #[x, y, z] t)) w2) :
    w2.cell? ⟨w.heap.size, 0, none⟩ = some x ∧ w2.cell? ⟨w.heap.size, 1, none⟩ = some y ∧ w2.cell? ⟨w.heap.size, 2, none⟩ = some z := by
  have h0 : (w.alloc (.cells #[x, y, z] t)).cell? ⟨w.heap.size, 0, none⟩ = some x := (cell_of_row _ _ 0 _ _ _ (heap_alloc_new w _)).trans rfl
  have h1 : (w.alloc (.cells #[x, y, z] t)).cell? ⟨w.heap.size, 1, none⟩ = some y := (cell_of_row _ _ 1 _ _ _ (heap_alloc_new w _)).trans rfl
  have h2 : (w.alloc (.cells #[x, y, z] t)).cell? ⟨w.heap.size, 2, none⟩ = some z := (cell_of_row _ _ 2 _ _ _ (heap_alloc_new w _)).trans rfl
  exact ⟨(hb.cell (World.block_lt_of_cell? _ _ h0)).trans h0, (hb.cell (World.block_lt_of_cell? _ _ h1)).trans h1, (hb.cell (World.block_lt_of_cell? _ _ h2)).trans h2⟩
theorem bj {w wr w2 : World} {o : Obj} (hb : Below w.heap.size w wr) (h : Below (wr.alloc o).heap.size (wr.alloc o) w2) : Below w.heap.size w w2 := hb.trans ((bal2 h).mono hb.size)
set_option maxRecDepth 20000 in
set_option maxHeartbeats 4000000 in
theorem exp_any (a : Option Addr) (n c : Nat) (w : World) (h : It w a n) (hn : n ≤ 1048576) : Calls Tryz.prog 67 #[.slice a n c] w fun e w' => IsB e ∧ Below w.heap.size w w' := by
  have hb0 := Below.refl w.heap.size w
  go_enter Tryz.func67, Tryz.ntmps67
  go_wp2_with (go_at_call 24; refine (between_any _ _ _ _).mono ?_; rintro e w1 ⟨⟨rfl, -⟩ | rfl, rfl⟩)
  · go_loopw [3, 5, 12] (fun d _ i wr => ∃ (k : Nat) (x : Int), k ≤ n ∧ i = .int .i64 k ∧ d = .int .i64 x ∧ - (2 * (k : Int)) ≤ x ∧ x ≤ k ∧ Below w1.heap.size w1 wr) (fun _ _ i _ => n - (intOf i).toNat)
    case atStart => exact ⟨0, 0, by omega, rfl, rfl, by omega, by omega, hb0⟩
    case round =>
      obtain ⟨k, x, hk, rfl, rfl, hx0, hx1, hb⟩ := hrel
      by_cases hlt : k < n
      · obtain ⟨b, off, o, m, s, rfl, c0, c1, c2, hs⟩ := h.later hb k hlt
        go_wp2_with (first | (go_at_call 105; refine (item_any o m s _ (by omega)).mono ?_; rintro e w2 ⟨⟨b2, rfl⟩, hb2⟩; obtain ⟨d0, d1, d2⟩ := kept3 hb2; replace hb2 := bj hb hb2; cases b2) | (go_at_call 71; refine (arity_any o _).mono ?_; rintro e w3 ⟨⟨r, hr0, hr1, rfl⟩, rfl⟩))
        · go_ret
          exact ⟨⟨_, rfl⟩, hb2⟩
        · go_ret
          exact ⟨⟨_, rfl⟩, hb2⟩
        · go_roundw
          case rel => exact ⟨k + 1, x + (1 - r), by omega, by go_num, rfl, by omega, by omega, hb2⟩
          case measure => simp [intOf]; omega
      · go_wp2
        go_ret
        exact ⟨⟨_, rfl⟩, hb⟩
  · go_ret
    exact ⟨⟨_, rfl⟩, hb0⟩
set_option maxRecDepth 20000 in
set_option maxHeartbeats 1000000 in
theorem where_any (a : Option Addr) (n c : Nat) (w : World) (h : It w a n) (hn : n ≤ 1048576) : Calls Tryz.prog 68 #[.slice a n c] w fun e w' => IsB e ∧ Below w.heap.size w w' := by
  have hb0 := Below.refl w.heap.size w
  go_enter Tryz.func68, Tryz.ntmps68
  go_wp2_with (go_at_call 67; refine (exp_any a n c _ h hn).mono ?_; rintro e w1 ⟨⟨b, rfl⟩, hb1⟩; cases b)
  all_goals
    go_ret
    first
      | exact ⟨⟨_, rfl⟩, hb1⟩
      | exact ⟨⟨_, rfl⟩, hb0⟩
end Go.Proofs.YtjbbbfplephkpaaGreatDoor
