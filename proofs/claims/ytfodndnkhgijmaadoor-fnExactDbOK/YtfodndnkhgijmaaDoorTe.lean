/-
  Lists of tables: copied by the law, held against each other.
-/
import Derived.Test.YtfodndnkhgijmaaDoorTc
namespace Go.Proofs.YtfodndnkhgijmaaDoor
open Go.RowKit Go.Maps Go.WideMaps
theorem Tryd.infoTab : (Tryd.prog.info? 54).map (fun i => (i.zero, i.size, i.bytes)) = some (some (.agg #[.string ByteArray.empty, .slice none 0 0, .slice none 0 0]), 3, 64) := by kernel_rfl
theorem Kp.mono {G H : Nat} {w w' : World} (h : Kp G w w') (hG : G ≤ H) : Kp H w w' := fun a v ha hc => h a v (by omega) hc
/-- n tables, all of them in blocks from G on. -/
def TF (G : Nat) (w : World) (g n : Nat) (T : Nat → Td) : Prop :=
  ∀ k, k < n → ∃ g1 g2, G ≤ g1 ∧ G ≤ g2 ∧ w.cell? ⟨g, k * 3, none⟩ = some (.string (T k).s) ∧ w.cell? ⟨g, k * 3 + 1, none⟩ = some (.slice (some ⟨g1, 0, none⟩) (T k).n (T k).n) ∧ w.cell? ⟨g, k * 3 + 2, none⟩ = some (.slice (some ⟨g2, 0, none⟩) (T k).r (T k).r) ∧ CL w (some ⟨g1, 0, none⟩) (T k).n (T k).C ∧ OF G w g2 (T k).r (T k).m (T k).R ∧ Sm3 (T k)
theorem TF.kp {G H g n : Nat} {w w' : World} {T : Nat → Td} (h : TF G w g n T) (k : Kp H w w') (hg : H ≤ g) (hG : H ≤ G) : TF G w' g n T := fun j hj => by
  obtain ⟨g1, g2, h1, h2, c0, c1, c2, hC, hO, hs⟩ := h j hj
  exact ⟨g1, g2, h1, h2, k _ _ hg c0, k _ _ hg c1, k _ _ hg c2, hC.kp k (by omega), hO.kp k (by omega) hG, hs⟩
theorem TF.tl {G g n : Nat} {w : World} {T : Nat → Td} (h : TF G w g n T) : TL w (some ⟨g, 0, none⟩) n T := fun j hj => by
  obtain ⟨g1, g2, h1, h2, c0, c1, c2, hC, hO, hs⟩ := h j hj
  exact ⟨g, 0, _, _, _, _, rfl, by rw [Nat.zero_add]; exact c0, by rw [Nat.zero_add]; exact c1, by rw [Nat.zero_add]; exact c2, hC, hO.ol, hs⟩
set_option maxRecDepth 20000 in
set_option maxHeartbeats 8000000 in
theorem toTabs (a : Option Addr) (n c : Nat) (T : Nat → Td) (w : World) (h : TL w a n T) (hn : n ≤ 1048576) :
    Calls Tryd.prog 20 #[.slice a n c] w fun e w' => ∃ g, w.heap.size ≤ g ∧ e = .returned (.slice (some ⟨g, 0, none⟩) n n) ∧ TF w.heap.size w' g n T ∧ Below w.heap.size w w' := by
  have hmk := make_any (t := 27) Tryd.underlying27 Tryd.infoTab n hn (by omega)
  go_enter Tryd.func20, Tryd.ntmps20
  go_wp2
  clear hmk
  go_loopw [4] (fun i wr => ∃ (k : Nat) (cur : Array Value), k ≤ n ∧ i = .int .i64 k ∧ wr.heap[w.heap.size]? = some (.cells cur 54 (0, 0)) ∧ cur.size = n * 3 ∧ (∀ j, j < k → ∃ g1 g2, w.heap.size + 1 ≤ g1 ∧ w.heap.size + 1 ≤ g2 ∧ cur[j * 3]? = some (.string (T j).s) ∧ cur[j * 3 + 1]? = some (.slice (some ⟨g1, 0, none⟩) (T j).n (T j).n) ∧ cur[j * 3 + 2]? = some (.slice (some ⟨g2, 0, none⟩) (T j).r (T j).r) ∧ CL wr (some ⟨g1, 0, none⟩) (T j).n (T j).C ∧ OF (w.heap.size + 1) wr g2 (T j).r (T j).m (T j).R) ∧ Below w.heap.size w wr) (fun i _ => n - (intOf i).toNat)
  case atStart => exact ⟨0, _, by omega, rfl, heap_alloc_new _ _, made_size _ _, fun j hj => by omega, bal _ _⟩
  case round =>
    obtain ⟨k, cur, hk, rfl, hG, hsz, hall, hb⟩ := hrel
    have HG : Hid (wr.heap[w.heap.size]? = some (.cells cur 54 (0, 0))) := hG
    clear hG
    by_cases hlt : k < n
    · obtain ⟨b, off, ac, cc, ar, cr, rfl, c0, c1, c2, hC, hO, hs⟩ := h.later hb k hlt
      obtain ⟨v0, hv0⟩ := there (A := cur) (k := k * 3) (by omega)
      obtain ⟨v1, hv1⟩ := there (A := cur) (k := k * 3 + 1) (by omega)
      obtain ⟨v2, hv2⟩ := there (A := cur) (k := k * 3 + 2) (by omega)
      have hlw := (Array.getElem?_eq_some_iff.1 HG.out).1
      go_wp2_with (go_at_call 70; refine (toTab _ _ _ _ _ _ ac cc ar cr _ hC hO hs.co.1 hs.ro.1).mono ?_; rintro e w1 ⟨g1, g2, hg1, hg2, rfl, hC1, hO1, hb1⟩; have HG1 : Hid (w1.heap[w.heap.size]? = some (.cells cur 54 (0, 0))) := (hb1.block _ hlw).trans HG.out; have e0 : w1.cell? ⟨w.heap.size, k * 3, none⟩ = some v0 := (cell_of_row w1 _ _ _ _ _ HG1.out).trans hv0; have f0 : w1.frozen? ⟨w.heap.size, k * 3, none⟩ = false := frozen_of_row w1 _ _ _ _ HG1.out; have e1 : w1.cell? ⟨w.heap.size, k * 3 + 1, none⟩ = some v1 := (cell_of_row w1 _ _ _ _ _ HG1.out).trans hv1; have f1 : w1.frozen? ⟨w.heap.size, k * 3 + 1, none⟩ = false := frozen_of_row w1 _ _ _ _ HG1.out; have e2 : w1.cell? ⟨w.heap.size, k * 3 + 2, none⟩ = some v2 := (cell_of_row w1 _ _ _ _ _ HG1.out).trans hv2; have f2 : w1.frozen? ⟨w.heap.size, k * 3 + 2, none⟩ = false := frozen_of_row w1 _ _ _ _ HG1.out; have hbo := hb1; replace hb1 := bstep hb hb1)
      have KV : ∀ u0 u1 u2, Kp (w.heap.size + 1) w1 (((w1.setCell ⟨w.heap.size, k * 3, none⟩ u0).setCell ⟨w.heap.size, k * 3 + 1, none⟩ u1).setCell ⟨w.heap.size, k * 3 + 2, none⟩ u2) := fun u0 u1 u2 => ((Kp.set (by omega)).trans (Kp.set (by omega))).trans (Kp.set (by omega))
      have KO : Kp (w.heap.size + 1) wr w1 := Kp.of _ hbo
      go_roundw
      case rel =>
        refine ⟨k + 1, (((cur.setIfInBounds (k * 3) (.string (T k).s)).setIfInBounds (k * 3 + 1) (.slice (some ⟨g1, 0, none⟩) (T k).n (T k).n)).setIfInBounds (k * 3 + 2) (.slice (some ⟨g2, 0, none⟩) (T k).r (T k).r)), by omega, by go_num, (heap_setCell_same _ _ _ _ _ _ (heap_setCell_same _ _ _ _ _ _ (heap_setCell_same _ _ _ _ _ _ HG1.out))), by simpa using hsz, fun j hj => ?_, (((hb1.setCell (by simp) _).setCell (by simp) _).setCell (by simp) _)⟩
        by_cases e : j = k
        · subst e
          refine ⟨g1, g2, by omega, by omega, (setA (setA (setS (by omega)) (by omega)) (by omega)), (setA (setS (by simp only [Array.size_setIfInBounds]; omega)) (by omega)), (setS (by simp only [Array.size_setIfInBounds]; omega)), hC1.kp (KV _ _ _) (by omega), ?_⟩
          have hq := hO1.kp (KV (.string (T j).s) (.slice (some ⟨g1, 0, none⟩) (T j).n (T j).n) (.slice (some ⟨g2, 0, none⟩) (T j).r (T j).r)) (by omega) (by omega)
          exact fun q hq' => by
            obtain ⟨x, h1, h2, h3, h4⟩ := hq q hq'
            exact ⟨x, by omega, h2, h3, h4⟩
        · obtain ⟨p1, p2, hp1, hp2, x0, x1, x2, hC2, hO2⟩ := hall j (by omega)
          exact ⟨p1, p2, hp1, hp2, (setA (setA (setA x0 (by omega)) (by omega)) (by omega)), (setA (setA (setA x1 (by omega)) (by omega)) (by omega)), (setA (setA (setA x2 (by omega)) (by omega)) (by omega)), hC2.kp (KO.trans (KV _ _ _)) hp1, hO2.kp (KO.trans (KV _ _ _)) hp2 (Nat.le_refl _)⟩
      case measure => simp [intOf]; omega
    · obtain rfl : k = n := by omega
      go_wp2
      go_ret
      refine ⟨_, Nat.le_refl _, rfl, fun j hj => ?_, hb⟩
      obtain ⟨p1, p2, hp1, hp2, x0, x1, x2, hC2, hO2⟩ := hall j hj
      obtain ⟨_, _, _, _, _, _, _, _, _, _, _, _, hs⟩ := h j hj
      exact ⟨p1, p2, by omega, by omega, by rw [cell_of_row wr _ _ _ _ _ HG.out]; exact x0, by rw [cell_of_row wr _ _ _ _ _ HG.out]; exact x1, by rw [cell_of_row wr _ _ _ _ _ HG.out]; exact x2, hC2, fun q hq => by
        obtain ⟨x, h1, h2, h3, h4⟩ := hO2 q hq
        exact ⟨x, by omega, h2, h3, h4⟩, hs⟩
set_option maxRecDepth 20000 in
set_option maxHeartbeats 4000000 in
theorem eqTab (s : ByteArray) (n : Nat) (C : Nat → Clm) (r : Nat) (m : Nat → Nat) (R : Nat → Nat → Itm) (ac : Option Addr) (cc : Nat) (ar : Option Addr) (cr : Nat) (ac' : Option Addr) (cc' : Nat) (ar' : Option Addr) (cr' : Nat) (w : World) (hC : CL w ac n C) (hR : OL w ar r m R) (hC' : CL w ac' n C) (hR' : OL w ar' r m R) (hn : n ≤ 1048576) (hr : r ≤ 1048576) :
    Calls Tryd.prog 79 #[.agg #[.string s, .slice ac n cc, .slice ar r cr], .agg #[.string s, .slice ac' n cc', .slice ar' r cr']] w fun e w' => e = .returned (.bool true) ∧ Below w.heap.size w w' := by
  have hss := eqS_same s
  have hb0 := bstep (bal w (.cells #[.string s, .slice ac n cc, .slice ar r cr] 54)) (bal _ (.cells #[.string s, .slice ac' n cc', .slice ar' r cr'] 54))
  have hC0 := hC.later hb0
  have hC0' := hC'.later hb0
  have hR0 := hR.later hb0
  have hR0' := hR'.later hb0
  have es : (w.alloc (.cells #[.string s, .slice ac n cc, .slice ar r cr] 54)).heap.size = w.heap.size + 1 := by simp
  have g2 := keepB (bal _ (.cells #[.string s, .slice ac' n cc', .slice ar' r cr'] 54)) ((cell_of_row _ _ 2 _ _ _ (heap_alloc_new w (.cells #[.string s, .slice ac n cc, .slice ar r cr] 54))).trans (show _ = some (Value.slice ar r cr) from rfl))
  have k2 := (cell_of_row _ _ 2 _ _ _ (heap_alloc_new (w.alloc (.cells #[.string s, .slice ac n cc, .slice ar r cr] 54)) (.cells #[.string s, .slice ac' n cc', .slice ar' r cr'] 54))).trans (show _ = some (Value.slice ar' r cr') from rfl)
  rw [es] at k2
  go_enter Tryd.func79, Tryd.ntmps79
  go_wp2_with (first | (go_at_call 49; refine (eqCols _ _ _ _ _ _ _ hC0 hC0' hn).mono ?_; rintro e w1 ⟨rfl, hb1⟩; have g2' := keepB hb1 g2; have k2' := keepB hb1 k2; have hR1 := hR0.later hb1; have hR1' := hR0'.later hb1; replace hb1 := bstep hb0 hb1) | (go_at_call 114; refine (eqRows _ _ _ _ _ _ _ _ hR1 hR1' hr).mono ?_; rintro e w2 ⟨rfl, hb2⟩; replace hb2 := bstep hb1 hb2))
  go_ret
  exact ⟨rfl, hb2⟩
set_option maxRecDepth 20000 in
set_option maxHeartbeats 4000000 in
theorem eqTabs (a a' : Option Addr) (n c c' : Nat) (T : Nat → Td) (w : World) (h : TL w a n T) (h' : TL w a' n T) (hn : n ≤ 1048576) :
    Calls Tryd.prog 26 #[.slice a n c, .slice a' n c'] w fun e w' => e = .returned (.bool true) ∧ Below w.heap.size w w' := by
  have hb0 := Below.refl w.heap.size w
  go_enter Tryd.func26, Tryd.ntmps26
  go_wp2
  go_loopw [5] (fun i wr => ∃ k : Nat, k ≤ n ∧ i = .int .i64 k ∧ Below w.heap.size w wr) (fun i _ => n - (intOf i).toNat)
  case atStart => exact ⟨0, by omega, rfl, hb0⟩
  case round =>
    obtain ⟨k, hk, rfl, hb⟩ := hrel
    by_cases hlt : k < n
    · have hkk : (k : Int) < n := by omega
      obtain ⟨b, off, ac, cc, ar, cr, rfl, c0, c1, c2, hC, hO, hs⟩ := h.later hb k hlt
      obtain ⟨b', off', ac', cc', ar', cr', rfl, d0, d1, d2, hC', hO', -⟩ := h'.later hb k hlt
      go_wp2
      go_region_with (go_at_call 79; refine (eqTab _ _ _ _ _ _ ac cc ar cr ac' cc' ar' cr' wr.drew hC hO hC' hO' hs.co.1 hs.ro.1).mono ?_; rintro e w1 ⟨rfl, hb1⟩)
      all_goals
        go_wp2
        go_roundw
        case rel => exact ⟨k + 1, by omega, by go_num, bstep hb (undrew hb1)⟩
        case measure => simp [intOf]; omega
    · obtain rfl : k = n := by omega
      go_wp2
      go_ret
      exact ⟨rfl, hb⟩
set_option maxRecDepth 20000 in
set_option maxHeartbeats 4000000 in
theorem eqDb_any (a a' : Option Addr) (n c c' : Nat) (T : Nat → Td) (w : World) (h : TL w a n T) (h' : TL w a' n T) (hn : n ≤ 1048576) :
    Calls Tryd.prog 10 #[.agg #[.slice a n c], .agg #[.slice a' n c']] w fun e w' => e = .returned (.bool true) ∧ Below w.heap.size w w' := by
  have hb0 := bstep (bal w (.cells #[.slice a n c] 29)) (bal _ (.cells #[.slice a' n c'] 29))
  have h0 := h.later hb0
  have h0' := h'.later hb0
  go_enter Tryd.func10, Tryd.ntmps10
  go_wp2_with (go_at_call 26; refine (eqTabs _ _ _ _ _ _ _ h0 h0' hn).mono ?_; rintro e w1 ⟨rfl, hb1⟩; replace hb1 := bstep hb0 hb1)
  go_ret
  exact ⟨rfl, hb1⟩
end Go.Proofs.YtfodndnkhgijmaaDoor
