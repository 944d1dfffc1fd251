/-
  The model's keys and words.
-/
import Derived.Test.YtjbbbfplephkpaaGreatDoorWg
import Derived.Deep.RegionLaw
namespace Go.Proofs.YtjbbbfplephkpaaGreatDoor
open Go.RowKit
def cells32 (l : List Nat) : List Value := l.map fun n => .int .u32 (n : Nat)
theorem cells32_get (l : List Nat) (i : Nat) (h : i < l.length) : (cells32 l)[i]? = some (.int .u32 (l.getD i 0 : Nat)) := by
  simp [cells32, h]
def keysV : Array Value := (cells32 keysL).toArray
set_option maxHeartbeats 1000000 in
set_option maxRecDepth 20000 in
theorem keys_any (w : World) :
    Calls Tryz.prog 77 #[] w fun e w' => e = .returned (.slice (some ⟨w.heap.size, 0, none⟩) 64 64) ∧ w' = w.alloc (.cells keysV 87) := by
  go_enter Tryz.func77, Tryz.ntmps77
  go_wp2
  go_ret
  exact ⟨rfl, rfl⟩
def wl (s : ByteArray) (t : Nat) : List Nat := (List.range t).map (wd s)
theorem wl_len (s : ByteArray) (t : Nat) : (wl s t).length = t := by simp [wl]
theorem wl_snoc (s : ByteArray) (t : Nat) : cells32 (wl s t) ++ [.int .u32 (wd s t : Nat)] = cells32 (wl s (t + 1)) := by
  simp [wl, cells32, List.range_succ]
theorem wl_get (s : ByteArray) (t i : Nat) (h : i < t) : (cells32 (wl s t))[i]? = some (.int .u32 (wd s i : Nat)) := by
  simp [wl, cells32, h]
theorem owns_heap {w w' : World} {B : Nat} {e : TypeId} {size : Nat} {v : Value} {n : Nat} {xs : List Value} (he : w'.heap = w.heap) (h : w.ownsRow B e size v n xs) : w'.ownsRow B e size v n xs := by
  unfold World.ownsRow at h ⊢
  rw [he]; exact h
theorem news_heap {w w' : World} {cs : Array Value} {t : TypeId} (he : w'.heap = (w.alloc (.cells cs t)).heap) : ∀ j u, cs.toList[j]? = some u → w'.cell? ((⟨w.heap.size, 0, none⟩ : Addr).add j) = some u :=
  World.news_of_block (w := w') (by rw [he]; exact heap_alloc_new w _)
theorem grown_below {o : Obj} {B : Nat} {w wr wa w1 : World} {g n cap : Nat} (hb : Below B w wr) (he : wa.heap = (wr.alloc o).heap) (h1 : wa.os = wr.os) (h2 : wa.tape = wr.tape) (h3 : wa.output = wr.output) (hgrow : wa.grownBy w1 (Value.slice (some ⟨g, 0, none⟩) n cap).ownBlock) (hB : B ≤ wr.heap.size) (hg : B ≤ g) : Below B w w1 := by
  have hba : Below B w wa := by
    have := hb.alloc hB o
    exact ⟨h1.trans hb.os, h2.trans hb.tape, h3.trans hb.output, by rw [he]; exact this.size, fun k hk => by rw [he]; exact this.block k hk⟩
  refine hba.grown hgrow ?_ (fun q hq => ?_)
  · rw [he]; simp; omega
  · have e : g = q := Option.some.inj hq
    omega
attribute [local go_sem ↓] Go.wp_at_zero Go.wp_at_succ
set_option maxHeartbeats 2000000 in
set_option maxRecDepth 20000 in
theorem specWords_any (s : ByteArray) (w : World) (hs : s.size = 64) :
    Calls Tryz.prog 78 #[.string s] w fun e w' => ∃ g cap, e = .returned (.slice (some ⟨g, 0, none⟩) 64 cap) ∧ w'.ownsRow w.heap.size 87 1 (.slice (some ⟨g, 0, none⟩) 64 cap) 64 (cells32 (wl s 64)) ∧ Below w.heap.size w w' := by
  obtain ⟨i0, hi, hz0, hz1, hz2⟩ := info_parts Tryz.info87
  have HI : Hid (Tryz.prog.info? 87 = some i0) := hi
  clear hi
  have HS : Hid (s.size = 64) := hs
  clear hs
  go_enter Tryz.func78, Tryz.ntmps78
  go_wp2
  go_loopw [3, 4] (fun o i wr => ∃ t g cap : Nat, t ≤ 64 ∧ i = .int .i64 t ∧ o = .slice (some ⟨g, 0, none⟩) t cap ∧ wr.ownsRow w.heap.size 87 1 (.slice (some ⟨g, 0, none⟩) t cap) t (cells32 (wl s t)) ∧ Below w.heap.size w wr) (fun _ i _ => 64 - (intOf i).toNat)
  case atStart => exact ⟨0, w.heap.size, 0, by omega, rfl, rfl, World.ownsRow_lit w #[] 0 (Nat.le_refl _) (by simp [maxLen]) rfl, (Below.refl _ _).alloc (Nat.le_refl _) _⟩
  case round =>
    obtain ⟨t, g, cap, ht, rfl, rfl, hown, hb⟩ := hrel
    have hg := grow_le hown
    by_cases hlt : t < 64
    · by_cases h16 : t < 16
      · have HW : Hid (wd s t = be s (4 * t) 4) := wd_low s t h16
        have hsz := hb.size
        have hbe := be4_lt s (4 * t)
        obtain ⟨x, hx⟩ : ∃ x, be s (4 * t) 4 = x := ⟨_, rfl⟩
        have HO : Hid (wr.ownsRow w.heap.size 87 1 (.slice (some ⟨g, 0, none⟩) t cap) t (cells32 (wl s t))) := hown
        clear hown
        go_wp2_with (first | (go_at_call 117; refine (get_any s (4 * t) _ (by rw [HS.out]; omega) (by rw [HS.out]; omega)).mono ?_; rw [hx]; rintro e w' ⟨rfl, rfl⟩) | (at_builtin; refine wpList_append_lies _ rfl _ _ _ rfl w.heap.size 87 i0 (.int .u32 0) 1 4 Tryz.underlying95 HI.out hz0 hz1 hz2 rfl (by omega) _ t _ rfl (HO.out.alloc _) ⟨_, 0, none⟩ 1 1 [.int .u32 (x : Nat)] rfl rfl (World.news_of_block (heap_alloc_new _ _)) (ones _ rfl) (by omega) (by unfold maxLen; omega) (by omega) (by simp; omega) _ rfl ?_; intro g1 cap1 w1 hown1 hgrow hat hlt1))
        go_roundw
        case rel =>
          refine ⟨t + 1, g1, cap1, by omega, by go_num, rfl, ?_, grown_below hb rfl rfl rfl rfl hgrow hsz hg⟩
          rw [← wl_snoc, HW.out, hx]
          exact hown1
        case measure => simp [intOf]; omega
      · have HW : Hid (wd s t = add (add (add (wd s (t - 16)) (s0 (wd s (t - 15)))) (wd s (t - 7))) (s1 (wd s (t - 2)))) := wd_high s t (by omega)
        have hsz := hb.size
        obtain ⟨j0, e0⟩ : ∃ j, t - 16 = j := ⟨_, rfl⟩
        obtain ⟨j1, e1⟩ : ∃ j, t - 15 = j := ⟨_, rfl⟩
        obtain ⟨j9, e9⟩ : ∃ j, t - 7 = j := ⟨_, rfl⟩
        obtain ⟨j14, e14⟩ : ∃ j, t - 2 = j := ⟨_, rfl⟩
        rw [e0, e1, e9, e14] at HW
        have cell : ∀ i, i < t → wr.cell? ⟨g, i, none⟩ = some (.int .u32 (wd s i : Nat)) := fun i hi => (hown.cellAt i (by omega)).trans (wl_get s t i hi)
        have c0 := cell j0 (by omega)
        have c1 := cell j1 (by omega)
        have c9 := cell j9 (by omega)
        have c14 := cell j14 (by omega)
        have g0 : IntKind.i64.wrap ((t : Int) - 16) = (j0 : Int) := by rw [IntKind.wrap_i64]; omega
        have g9 : IntKind.i64.wrap ((t : Int) - 7) = (j9 : Int) := by rw [IntKind.wrap_i64]; omega
        have g1 : (t : Int) - 15 = (j1 : Int) := by omega
        have g14 : (t : Int) - 2 = (j14 : Int) := by omega
        have q0 : (j0 : Int) < (t : Int) := by omega
        have q1 : (j1 : Int) < (t : Int) := by omega
        have q9 : (j9 : Int) < (t : Int) := by omega
        have q14 : (j14 : Int) < (t : Int) := by omega
        clear e0 e1 e9 e14 cell
        have l1 := wd_lt s j1
        have l14 := wd_lt s j14
        obtain ⟨a0, e0⟩ : ∃ a, wd s j0 = a := ⟨_, rfl⟩
        obtain ⟨a1, e1⟩ : ∃ a, wd s j1 = a := ⟨_, rfl⟩
        obtain ⟨a9, e9⟩ : ∃ a, wd s j9 = a := ⟨_, rfl⟩
        obtain ⟨a14, e14⟩ : ∃ a, wd s j14 = a := ⟨_, rfl⟩
        rw [e0] at c0; rw [e1] at c1 l1; rw [e9] at c9; rw [e14] at c14 l14
        rw [e0, e1, e9, e14] at HW
        clear e0 e1 e9 e14
        have x1 := w_xor (rot a1 7) (rot a1 18) (rot_lt _ _ l1) (rot_lt _ _ l1)
        have x2 : bits .xor .u32 ((xo (rot a1 7) (rot a1 18) : Nat) : Int) ((a1 : Int) / 8) = ((s0 a1 : Nat) : Int) := by
          rw [show (a1 : Int) / 8 = ((a1 / 8 : Nat) : Int) by omega]
          exact w_xor _ _ (xo_lt _ _ (rot_lt _ _ l1) (rot_lt _ _ l1)) (div_lt32 _ _ l1)
        have x3 := w_xor (rot a14 17) (rot a14 19) (rot_lt _ _ l14) (rot_lt _ _ l14)
        have x4 : bits .xor .u32 ((xo (rot a14 17) (rot a14 19) : Nat) : Int) ((a14 : Int) / 1024) = ((s1 a14 : Nat) : Int) := by
          rw [show (a14 : Int) / 1024 = ((a14 / 1024 : Nat) : Int) by omega]
          exact w_xor _ _ (xo_lt _ _ (rot_lt _ _ l14) (rot_lt _ _ l14)) (div_lt32 _ _ l14)
        have HO : Hid (wr.ownsRow w.heap.size 87 1 (.slice (some ⟨g, 0, none⟩) t cap) t (cells32 (wl s t))) := hown
        clear hown
        go_wp2_with (go_at_call 79; refine (turn_any _ _ _ (by assumption) (by decide) (by decide)).mono ?_; rintro e w' ⟨rfl, q, rfl⟩)
        rename_i qa qb qc
        obtain ⟨V, hV⟩ : ∃ V, V = wr.drewN (qa + qb + qc + q) := ⟨_, rfl⟩
        rw [← hV]
        replace c0 : V.cell? ⟨g, j0, none⟩ = some (.int .u32 (a0 : Nat)) := by rw [hV]; exact c0
        replace c9 : V.cell? ⟨g, j9, none⟩ = some (.int .u32 (a9 : Nat)) := by rw [hV]; exact c9
        have HOV : Hid (V.ownsRow w.heap.size 87 1 (.slice (some ⟨g, 0, none⟩) t cap) t (cells32 (wl s t))) := by
          show World.ownsRow _ _ _ _ _ _ _
          rw [hV]; exact owns_heap rfl HO.out
        have hbV : Below w.heap.size w V := by rw [hV]; exact bdrew hb _
        have hszV := hbV.size
        clear hV HO hb hsz c1 c14 x1 x2 x3 x4
        have b1 : IntKind.u32.wrap ((a0 : Int) + ((s0 a1 : Nat) : Int)) = ((add a0 (s0 a1) : Nat) : Int) := wr_add _ _
        have b2 : IntKind.u32.wrap (((add a0 (s0 a1) : Nat) : Int) + (a9 : Int)) = ((add (add a0 (s0 a1)) a9 : Nat) : Int) := wr_add _ _
        have b3 : IntKind.u32.wrap (((add (add a0 (s0 a1)) a9 : Nat) : Int) + ((s1 a14 : Nat) : Int)) = ((add (add (add a0 (s0 a1)) a9) (s1 a14) : Nat) : Int) := wr_add _ _
        have hw1 : wd s t < 4294967296 := wd_lt s t
        rw [HW.out] at hw1
        go_region_law ((refine step_append_lies _ (by rfl) _ _ _ (by rfl) w.heap.size 87 i0 (.int .u32 0) 1 4 Tryz.underlying95 HI.out hz0 hz1 hz2 rfl (by omega) _ t _ (by rfl) (owns_heap (w := V.alloc (.cells #[.int .u32 (add (add (add a0 (s0 a1)) a9) (s1 a14) : Nat)] 87)) rfl (HOV.out.alloc _)) ⟨V.heap.size, 0, none⟩ 1 1 [.int .u32 (add (add (add a0 (s0 a1)) a9) (s1 a14) : Nat)] (by rfl) rfl (news_heap (w := V) (cs := #[.int .u32 (add (add (add a0 (s0 a1)) a9) (s1 a14) : Nat)]) (t := 87) rfl) (ones _ rfl) (by omega) (by unfold maxLen; omega) (by omega) (by simp; omega) _ rfl ?_; intro g1 cap1 w1 hown1 hgrow hat hlt1))
        all_goals
          have R1 : w1.ownsRow w.heap.size 87 1 (.slice (some ⟨g1, 0, none⟩) (t + 1) cap1) (t + 1) (cells32 (wl s (t + 1))) := by
            rw [← wl_snoc, HW.out]; exact hown1
          have R2 : Below w.heap.size w w1 := grown_below (o := .cells #[.int .u32 (add (add (add a0 (s0 a1)) a9) (s1 a14) : Nat)] 87) hbV (by rfl) (by rfl) (by rfl) (by rfl) hgrow hszV hg
          clear hown1 hgrow hat b1 b2 b3 c0 c9
          go_wp2
          go_roundw
          case rel => exact ⟨t + 1, g1, cap1, by omega, by go_num, rfl, R1, R2⟩
          case measure => simp [intOf]; omega
    · obtain rfl : t = 64 := by omega
      go_wp2
      go_ret
      exact ⟨g, cap, rfl, hown, hb⟩
end Go.Proofs.YtjbbbfplephkpaaGreatDoor
