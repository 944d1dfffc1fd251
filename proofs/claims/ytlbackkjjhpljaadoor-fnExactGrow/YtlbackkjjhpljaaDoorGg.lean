/-
  What both Grows answer, in one form; a tree's Peaks marked.
-/
import Derived.Test.YtlbackkjjhpljaaDoorGe
import Derived.Test.YtlbackkjjhpljaaDoorGf
namespace Go.Proofs.YtlbackkjjhpljaaDoor
open Go.RowKit Go.ChangeMaps
/-- The tree can grow. -/
def can (k z : Int) (n : Nat) (S : Nat → ByteArray) : Prop := okB k z n S = true ∧ z < 2000
def gz (k z : Int) (n : Nat) (S : Nat → ByteArray) : Int := if okB k z n S = true ∧ z < 2000 then z + 1 else 0
def gn (k z : Int) (n : Nat) (S : Nat → ByteArray) : Nat := if okB k z n S = true ∧ z < 2000 then n - lows z.toNat + 1 else 0
/-- A slice of n strings T that a call has made: nil, or a row of its own. -/
def OwnT (w : World) (B : Nat) (ga : Option Addr) (n cap : Nat) (T : Nat → ByteArray) : Prop :=
  (n = 0 ∧ ga = none) ∨ ∃ g, ga = some ⟨g, 0, none⟩ ∧ w.ownsRow B 9 1 (.slice (some ⟨g, 0, none⟩) n cap) n (strs T n)
theorem OwnT.sl {w : World} {B : Nat} {ga : Option Addr} {n cap : Nat} {T : Nat → ByteArray} (h : OwnT w B ga n cap T) (hn : n ≤ 1048576) (hs : ∀ k, k < n → (T k).size ≤ 9223372036854775807) : Sl w ga n T := by
  rcases h with ⟨rfl, _⟩ | ⟨g, rfl, ho⟩
  · exact ⟨Nat.zero_le _, fun k hk => absurd hk (Nat.not_lt_zero _)⟩
  · exact own_sl ho hn hs
theorem OwnT.later {w w' : World} {B : Nat} {ga : Option Addr} {n cap : Nat} {T : Nat → ByteArray} (h : OwnT w B ga n cap T) (hb : Below w.heap.size w w') : OwnT w' B ga n cap T := by
  rcases h with h0 | ⟨g, e, ho⟩
  · exact .inl h0
  · exact .inr ⟨g, e, own_later ho hb⟩
theorem OwnT.at {w : World} {B : Nat} {ga : Option Addr} {n cap : Nat} {T : Nat → ByteArray} (h : OwnT w B ga n cap T) (P off : Nat) (e : ga = some ⟨P, off, none⟩) : B ≤ P ∧ P < w.heap.size := by
  rcases h with ⟨_, rfl⟩ | ⟨g, rfl, ho⟩
  · cases e
  · obtain ⟨rfl, rfl⟩ : g = P ∧ 0 = off := by simpa using e
    exact ⟨(own_cap ho).2.1, (own_cap ho).2.2.1⟩
theorem own_other {w w' : World} {B g n cap : Nat} {xs : List Value} {r : Option Nat} (h : w.ownsRow B 9 1 (.slice (some ⟨g, 0, none⟩) n cap) n xs) (hg : w.grownBy w' r) (hne : some g ≠ r) : w'.ownsRow B 9 1 (.slice (some ⟨g, 0, none⟩) n cap) n xs :=
  h.kept hg (Or.inr (by simpa [Value.ownBlock] using hne))
theorem OwnT.other {w w' : World} {B : Nat} {ga : Option Addr} {n cap : Nat} {T : Nat → ByteArray} {r : Option Nat} (h : OwnT w B ga n cap T) (hg : w.grownBy w' r) (hne : ∀ P, r = some P → P < B) : OwnT w' B ga n cap T := by
  rcases h with h0 | ⟨g, e, ho⟩
  · exact .inl h0
  · exact .inr ⟨g, e, own_other ho hg (fun e => by have := hne g e.symm; have := (own_cap ho).2.1; omega)⟩
theorem own_weak {w : World} {B B' g n cap : Nat} {xs : List Value} (h : w.ownsRow B 9 1 (.slice (some ⟨g, 0, none⟩) n cap) n xs) (hB : B' ≤ B) : w.ownsRow B' 9 1 (.slice (some ⟨g, 0, none⟩) n cap) n xs := own_base h hB
set_option maxRecDepth 20000 in
theorem specGrow_any (k z : Int) (a : Option Addr) (n c : Nat) (S : Nat → ByteArray) (x : ByteArray) (w : World) (h : Sl w a n S) (hx : x.size ≤ 1048576) :
    Calls Tryd.prog 23 #[.int .i64 k, .agg #[.int .i64 z, .slice a n c], .string x] w fun e w' => ∃ ga cap, e = .returned (.agg #[.int .i64 (gz k z n S), .slice ga (gn k z n S) cap]) ∧ OwnT w' w.heap.size ga (gn k z n S) cap (grownS k S n x (lows z.toNat)) ∧ Below w.heap.size w w' := by
  by_cases hc : okB k z n S = true ∧ z < 2000
  · have e1 : gz k z n S = z + 1 := by unfold gz; rw [if_pos hc]
    have e2 : gn k z n S = n - lows z.toNat + 1 := by unfold gn; rw [if_pos hc]
    rw [e1, e2]
    refine (specGrow_good k z a n c S x w h hc.1 hc.2 hx _ rfl).mono fun e w' ⟨g, cap, he, ho, hb⟩ => ⟨_, cap, he, .inr ⟨g, rfl, own_base ho (by omega)⟩, hb⟩
  · have e1 : gz k z n S = 0 := by unfold gz; rw [if_neg hc]
    have e2 : gn k z n S = 0 := by unfold gn; rw [if_neg hc]
    rw [e1, e2]
    have hbad : okB k z n S = false ∨ z = 2000 := by
      cases ho : okB k z n S
      · exact .inl rfl
      · right
        have := (okB_out ho).2.2.1
        have : ¬ z < 2000 := fun h2 => hc ⟨ho, h2⟩
        omega
    exact (specGrow_bad k z a n c S x w h hbad).mono fun e w' ⟨he, hb⟩ => ⟨none, 0, he, .inl ⟨rfl, rfl⟩, hb⟩
theorem gn_le (k z : Int) (n : Nat) (S : Nat → ByteArray) : gn k z n S ≤ 13 := by
  unfold gn
  split
  · rename_i h
    have := (okB_out h.1).2.2.2.1
    have := on_le z.toNat
    omega
  · omega
theorem gT_size (k z : Int) (n : Nat) (S : Nat → ByteArray) (x : ByteArray) : ∀ j, j < gn k z n S → (grownS k S n x (lows z.toNat) j).size ≤ 9223372036854775807 := by
  intro j hj
  unfold gn at hj
  split at hj
  · rename_i h
    obtain ⟨hk, _, _, hn, hs⟩ := okB_out h.1
    unfold grownS
    have hw := wid_le k
    split
    · rename_i h2
      rw [hs j (by omega)]
      omega
    · rw [gl_wid k S n x hk]
      omega
  · omega
set_option maxRecDepth 20000 in
set_option maxHeartbeats 2000000 in
theorem markTree_any (z : Int) (B : Nat) (ga : Option Addr) (n cap : Nat) (T : Nat → ByteArray) (w : World) (h : OwnT w B ga n cap T) (hn : n ≤ 1048576) :
    Calls Tryd.prog 25 #[.agg #[.int .i64 z, .slice ga n cap], .int .i64 1] w fun e w' => e = .returned (.int .i64 ((1 + n : Nat) : Int)) ∧ OwnT w' B ga n cap marks ∧ w.grownBy w' (ga.map (·.block)) := by
  rcases h with ⟨rfl, rfl⟩ | ⟨g, rfl, ho⟩
  · go_enter Tryd.func25, Tryd.ntmps25
    go_wp2_with (go_at_call 46; refine (markStrs_zero _ _ _).mono ?_; rintro e w1 ⟨rfl, rfl⟩)
    go_ret
    exact ⟨rfl, .inl ⟨rfl, rfl⟩, World.grownBy_alloc _ _ _⟩
  · have ho2 := own_later ho (below1 w (.cells #[.int .i64 z, .slice (some ⟨g, 0, none⟩) n cap] 31))
    go_enter Tryd.func25, Tryd.ntmps25
    go_wp2_with (go_at_call 46; refine (markStrs_row B g n cap _ _ ho2 hn).mono ?_; rintro e w1 ⟨rfl, ho3, hg3⟩)
    go_ret
    exact ⟨rfl, .inr ⟨g, rfl, ho3⟩, grown_same (World.grownBy_alloc w _ (some g)) hg3⟩
set_option maxRecDepth 20000 in
set_option maxHeartbeats 2000000 in
theorem heldTree_any (z : Int) (ga : Option Addr) (n cap : Nat) (w : World) (h : Sl w ga n marks) (hn : n ≤ 1048576) :
    Calls Tryd.prog 26 #[.agg #[.int .i64 z, .slice ga n cap], .int .i64 1] w fun e w' => e = .returned (.int .i64 ((1 + n : Nat) : Int)) ∧ Below w.heap.size w w' := by
  have h2 := h.later (below1 w (.cells #[.int .i64 z, .slice ga n cap] 31))
  go_enter Tryd.func26, Tryd.ntmps26
  go_wp2_with (go_at_call 47; refine (heldStrs_any _ _ _ _ h2 hn).mono ?_; rintro e w1 ⟨rfl, hb1⟩)
  go_ret
  exact ⟨rfl, (below1 _ _).trans (hb1.mono (by simp))⟩
end Go.Proofs.YtlbackkjjhpljaaDoor
