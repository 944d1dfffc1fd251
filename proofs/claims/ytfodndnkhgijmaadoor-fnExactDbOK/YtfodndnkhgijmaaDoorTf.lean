/-
  The tables of an argument, copied by the law.
-/
import Derived.Test.YtfodndnkhgijmaaDoorTe
namespace Go.Proofs.YtfodndnkhgijmaaDoor
open Go.RowKit Go.Maps Go.WideMaps
/-- The three boxes of a copying. -/
structure D3 (V : World) (B : Nat) (A Z X : Array Value) : Prop where
  a : V.heap[B]? = some (.cells A 24 (0, 0))
  z : V.heap[B + 1]? = some (.cells Z 29 (0, 0))
  x : V.heap[B + 1 + 1]? = some (.cells X 29 (0, 0))
theorem D3.later {V V' : World} {B : Nat} {A Z X : Array Value} (h : D3 V B A Z X) (hb : Below V.heap.size V V') : D3 V' B A Z X := ⟨rowL h.a hb, rowL h.z hb, rowL h.x hb⟩
theorem D3.set {V : World} {B i : Nat} {A Z X : Array Value} {v : Value} (h : D3 V B A Z X) : D3 (V.setCell ⟨B + 1 + 1, i, none⟩ v) B A Z (X.setIfInBounds i v) := ⟨rowO h.a (by omega), rowO h.z (by omega), heap_setCell_same _ _ _ _ _ _ h.x⟩
theorem D3.new (w : World) (A Z X : Array Value) : D3 (((w.alloc (.cells A 24)).alloc (.cells Z 29)).alloc (.cells X 29)) w.heap.size A Z X := by
  have e1 : (w.alloc (.cells A 24)).heap.size = w.heap.size + 1 := by simp
  have e2 : ((w.alloc (.cells A 24)).alloc (.cells Z 29)).heap.size = w.heap.size + 1 + 1 := by simp
  have h1 := heap_alloc_new w (.cells A 24)
  have h2 := heap_alloc_new (w.alloc (.cells A 24)) (.cells Z 29)
  have h3 := heap_alloc_new ((w.alloc (.cells A 24)).alloc (.cells Z 29)) (.cells X 29)
  rw [e1] at h2
  rw [e2] at h3
  exact ⟨rowL (rowL h1 (bal _ _)) (bal _ _), rowL h2 (bal _ _), h3⟩
/-- n tables whose columns fill their room. -/
def TC (w : World) (g n : Nat) (T : Nat → Td) : Prop :=
  ∀ k, k < n → ∃ g1 ar cr, w.cell? ⟨g, k * 3, none⟩ = some (.string (T k).s) ∧ w.cell? ⟨g, k * 3 + 1, none⟩ = some (.slice (some ⟨g1, 0, none⟩) (T k).n (T k).n) ∧ w.cell? ⟨g, k * 3 + 2, none⟩ = some (.slice ar (T k).r cr) ∧ CL w (some ⟨g1, 0, none⟩) (T k).n (T k).C ∧ OL w ar (T k).r (T k).m (T k).R ∧ Sm3 (T k)
theorem TC.later {w w' : World} {g n : Nat} {T : Nat → Td} (h : TC w g n T) (hb : Below w.heap.size w w') : TC w' g n T := fun k hk => by
  obtain ⟨g1, ar, cr, h0, h1, h2, hC, hO, hs⟩ := h k hk
  exact ⟨g1, ar, cr, keepB hb h0, keepB hb h1, keepB hb h2, hC.later hb, hO.later hb, hs⟩
theorem TC.tl {w : World} {g n : Nat} {T : Nat → Td} (h : TC w g n T) : TL w (some ⟨g, 0, none⟩) n T := fun j hj => by
  obtain ⟨g1, ar, cr, c0, c1, c2, hC, hO, hs⟩ := h j hj
  exact ⟨g, 0, _, _, _, _, rfl, by rw [Nat.zero_add]; exact c0, by rw [Nat.zero_add]; exact c1, by rw [Nat.zero_add]; exact c2, hC, hO, hs⟩
theorem TF.tc {G g n : Nat} {w : World} {T : Nat → Td} (h : TF G w g n T) : TC w g n T := fun j hj => by
  obtain ⟨g1, g2, h1, h2, c0, c1, c2, hC, hO, hs⟩ := h j hj
  exact ⟨g1, _, _, c0, c1, c2, hC, hO.ol, hs⟩
set_option maxRecDepth 20000 in
set_option maxHeartbeats 4000000 in
theorem toDb_any (a : Option Addr) (n c : Nat) (T : Nat → Td) (w : World) (h : TL w a n T) (hn : n ≤ 1048576) :
    Calls Tryd.prog 8 #[.agg #[.slice a n c]] w fun e w' => ∃ g, e = .returned (.agg #[.slice (some ⟨g, 0, none⟩) n n]) ∧ TC w' g n T ∧ Below w.heap.size w w' := by
  have hR0 := D3.new w #[.slice a n c] #[.slice none 0 0] #[.slice none 0 0]
  have hbW : Below w.heap.size w (((w.alloc (.cells #[.slice a n c] 24)).alloc (.cells #[.slice none 0 0] 29)).alloc (.cells #[.slice none 0 0] 29)) := below3 _ _ _ _
  have hW : (((w.alloc (.cells #[.slice a n c] 24)).alloc (.cells #[.slice none 0 0] 29)).alloc (.cells #[.slice none 0 0] 29)).heap.size = w.heap.size + 1 + 1 + 1 := by simp
  obtain ⟨G, hG⟩ : ∃ G : Nat, G = w.heap.size + 1 + 1 + 1 := ⟨_, rfl⟩
  go_enter Tryd.func8, Tryd.ntmps8
  go_wp2_with (go_at_call 20; refine (toTabs _ _ _ T _ (h.later hbW) hn).mono ?_; rintro e w1 ⟨g1, hg1, rfl, hL1, hb1⟩; have r1 : D3 w1 w.heap.size #[.slice a n c] #[.slice none 0 0] #[.slice none 0 0] := hR0.later hb1; have B1 : Below w.heap.size w w1 := bstep hbW hb1; have hG1 : G ≤ g1 := (by omega); have hGs : G ≤ (((w.alloc (.cells #[.slice a n c] 24)).alloc (.cells #[.slice none 0 0] 29)).alloc (.cells #[.slice none 0 0] 29)).heap.size := (by omega); have m1 : w1.cell? ⟨w.heap.size + 1 + 1, 0, none⟩ = some (.slice none 0 0) := (cell_of_row _ _ 0 _ _ _ r1.x).trans rfl; have f1 : w1.frozen? ⟨w.heap.size + 1 + 1, 0, none⟩ = false := frozen_of_row _ _ 0 _ _ r1.x; have z1 : w1.cell? ⟨w.heap.size + 1, 0, none⟩ = some (.slice none 0 0) := (cell_of_row _ _ 0 _ _ _ r1.z).trans rfl; have zf1 : w1.frozen? ⟨w.heap.size + 1, 0, none⟩ = false := frozen_of_row _ _ 0 _ _ r1.z)
  have KV : ∀ v0 v1, Kp G w1 ((w1.setCell ⟨w.heap.size + 1 + 1, 0, none⟩ v0).setCell ⟨w.heap.size + 1, 0, none⟩ v1) := fun v0 v1 => (Kp.set (by omega)).trans (Kp.set (by omega))
  have BV : ∀ v0 v1, Below w.heap.size w ((w1.setCell ⟨w.heap.size + 1 + 1, 0, none⟩ v0).setCell ⟨w.heap.size + 1, 0, none⟩ v1) := fun v0 v1 => bset (bset B1 (by omega)) (by omega)
  have RV := fun v0 v1 => heap_setCell_same _ _ 0 _ _ v1 (rowO (B := w.heap.size + 1 + 1) (B' := w.heap.size + 1) (i := 0) (v := v0) r1.z (by omega))
  refine bodyPost_ret (v := .agg #[.slice (some ⟨g1, 0, none⟩) n n]) (results_cell_row Tryd.results8 _ _ (w.heap.size + 1) 29 _ (0, 0) _ rfl (RV _ _) Tryd.underlying29 rfl (by kernel_rfl)) rfl ⟨g1, rfl, ?_, BV _ _⟩
  exact (hL1.kp (KV _ _) hG1 hGs).tc
end Go.Proofs.YtfodndnkhgijmaaDoor
