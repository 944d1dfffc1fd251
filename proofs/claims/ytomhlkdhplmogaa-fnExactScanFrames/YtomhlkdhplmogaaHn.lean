/-
  The law on ScanFrames.
-/
import Derived.Test.YtomhlkdhplmogaaHe
import Derived.Test.YtomhlkdhplmogaaHm
import Derived.Deep.DeepCutAuto
namespace Go.Proofs.Ytomhlkdhplmogaa
open Go.RowKit
def nth (L : List ByteArray) : Nat → ByteArray := fun k => L.getD k ByteArray.empty
theorem Ch.small {s : ByteArray} {L : List ByteArray} {a b : Nat} (h : Ch s a L b) (hb : b ≤ s.size) : a ≤ b ∧ ∀ x ∈ L, x.size ≤ s.size := by
  induction L generalizing a with
  | nil =>
    obtain rfl : a = b := h
    exact ⟨Nat.le_refl _, fun x hx => by cases hx⟩
  | cons y ys ih =>
    obtain ⟨_, _, h3⟩ := h
    obtain ⟨h4, h5⟩ := ih h3
    refine ⟨by omega, fun x hx => ?_⟩
    rcases List.mem_cons.1 hx with rfl | hx
    · omega
    · exact h5 x hx
theorem OwnS.sl {w : World} {B g cap : Nat} {L : List ByteArray} (h : OwnS w B g cap L) (hl : L.length ≤ 1048576) (hs : ∀ x ∈ L, x.size ≤ 1048576) : Sl w (some ⟨g, 0, none⟩) L.length (nth L) := by
  refine ⟨by omega, fun k hk => ?_⟩
  have e : nth L k = L[k] := by simp [nth, hk]
  rw [e]
  refine ⟨by have := hs L[k] (List.getElem_mem hk); omega, g, 0, rfl, ?_⟩
  rw [Nat.zero_add]
  exact own_cell h k _ (by simp [hk])
theorem strs_nth (L : List ByteArray) : strs (nth L) L.length = L.map Value.string := by
  apply List.ext_getElem
  · simp [strs]
  · intro i h1 h2
    simp at h2
    simp [strs, nth, h2]
theorem neqI (x : Int) : (x != x) = false := by simp
set_option maxRecDepth 20000 in
set_option maxHeartbeats 4000000 in
theorem lawScan (s : ByteArray) (w : World) (_w0 : s.size ≤ maxLen) : Calls Try.prog 4 #[.string s] w fun e w' => e = .returned (.bool true) ∧ Below w.heap.size w w' := by
  by_cases hs : s.size ≤ 1048576
  · obtain ⟨xs, b, hC, hE, hb, hl⟩ := Ch.there s 0 (by omega)
    have hsm := (hC.small hb).2
    have hsx : ∀ x ∈ xs, x.size ≤ 1048576 := fun x hx => by have := hsm x hx; omega
    have hxl : xs.length ≤ 1048576 := by omega
    have hq := neqI (b : Int)
    have hq2 := neqI ((1 + xs.length : Nat) : Int)
    go_enter Try.func4, Try.ntmps4
    go_upto_region 4 with (go_at_call 11; refine (sScan s _ hs).mono ?_; rintro e w1 ⟨L, b', gs, cs, rfl, hO1, hC', hE', -, -, hb1⟩; obtain ⟨rfl, rfl⟩ := hC'.same hC hE' hE)
    have hg1 := own_cap hO1
    go_upto_region 5 with (go_at_call 12; refine (iScan s hs L b' hC hE hb (by omega) _).mono ?_; rintro e w2 ⟨g, cap, rfl, hO2, hb2⟩)
    have hg2 := own_cap hO2
    have hO12 := own_below hO1 hb2
    have hS1 := OwnS.sl hO12 hxl hsx
    have hS2 := OwnS.sl hO2 hxl hsx
    go_upto_region 8 with (go_at_call 13; refine (eqStrs_any _ _ _ _ _ _ _ _ hS2 hS1 (fun _ _ => rfl)).mono ?_; rintro e w3 ⟨rfl, q, rfl⟩)
    have hO3 := own_below hO2 (undrewN q)
    have hO13 := own_below hO12 (undrewN q)
    go_upto_region 10 with (go_at_call 14; refine (markStrs_row _ g _ cap _ _ hO3 hxl).mono ?_; rintro e w4 ⟨rfl, hO4, hgr4⟩)
    have hS4 : Sl w4 (some ⟨g, 0, none⟩) L.length marks := ⟨by omega, fun k hk => ⟨by have := mtx_size (1 + k); show (mtx (1 + k)).size ≤ _; omega, g, 0, rfl, by rw [Nat.zero_add]; exact own_cell hO4 k _ (strs_get _ _ _ hk)⟩⟩
    have hO14 : OwnS w4 w.heap.size gs cs L := World.ownsRow.kept hO13 hgr4 (.inr (by simp [Value.ownBlock]; omega))
    have hB4 : Below w.heap.size w w4 := ((bstep hb1 hb2).trans ((undrewN q).mono (bstep hb1 hb2).size)).grown hgr4 (by have := (bstep hb1 hb2).size; exact this) (fun k e => by cases e; omega)
    go_upto_region 15 with (go_at_call 15; refine (heldStrs_any _ _ _ _ hS4 hxl).mono ?_; rintro e w5 ⟨rfl, hb5⟩)
    have hO15 := own_below hO14 hb5
    go_upto_region 16 with (go_at_call 12; refine (iScan s hs L b' hC hE hb (by omega) _).mono ?_; rintro e w6 ⟨g6, cap6, rfl, hO6, hb6⟩)
    have hS6 := OwnS.sl hO6 hxl hsx
    have hS16 := OwnS.sl (own_below hO15 hb6) hxl hsx
    go_wp2_with (go_at_call 13; refine (eqStrs_any _ _ _ _ _ _ _ _ hS6 hS16 (fun _ _ => rfl)).mono ?_; rintro e w7 ⟨rfl, q7, rfl⟩)
    go_ret
    exact ⟨rfl, (hB4.trans ((bstep hb5 hb6).mono hB4.size)).trans ((undrewN q7).mono (by have := (bstep hb5 hb6).size; have := hB4.size; omega))⟩
  · have hs' : (1048576 : Int) < (s.size : Int) := by omega
    go_enter Try.func4, Try.ntmps4
    go_wp2
    go_ret
    exact ⟨rfl, Below.refl _ _⟩
end Go.Proofs.Ytomhlkdhplmogaa
