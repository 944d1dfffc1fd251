/-
  FsStep, the program's side: the disk; create.
-/
import Derived.Test.YtdbcihebhgpblaaOg
namespace Go.Proofs.Ytdbcihebhgpblaa
open Go.RowKit
/-- A disk at p with these files. -/
def Dk (w : World) (p B : Nat) (L : List Fil) (x1 x2 x3 x4 : Int) (x5 : Bool) : Prop := ∃ g cap, DkAt w p (.slice (some ⟨g, 0, none⟩) L.length cap) x1 x2 x3 x4 x5 ∧ OwnL w B (.slice (some ⟨g, 0, none⟩) L.length cap) L ∧ B ≤ p
theorem OwnL.in {w : World} {B g n cap : Nat} {L : List Fil} (h : OwnL w B (.slice (some ⟨g, 0, none⟩) n cap) L) : B ≤ g ∧ ∃ cur, w.heap[g]? = some (.cells cur 69 (0, 0)) := by
  rcases h.2 with ⟨e, _⟩ | ⟨g', cap', cur, e, hB, hg, _⟩
  · cases e
  · obtain ⟨rfl, _⟩ : g = g' ∧ _ := by simpa using e
    exact ⟨hB, cur, hg⟩
theorem OwnL.at_ {w w' : World} {B g n cap : Nat} {L : List Fil} (h : OwnL w B (.slice (some ⟨g, 0, none⟩) n cap) L) (hk : w'.heap[g]? = w.heap[g]?) : OwnL w' B (.slice (some ⟨g, 0, none⟩) n cap) L := by
  refine ⟨h.1, ?_⟩
  rcases h.2 with ⟨e, _⟩ | ⟨g', cap', cur, e, hB, hg, hr⟩
  · cases e
  · obtain ⟨rfl, rfl, rfl⟩ : g = g' ∧ n = L.length ∧ cap = cap' := by simpa using e
    exact Or.inr ⟨g, cap, cur, rfl, hB, hk.trans hg, hr⟩
theorem OwnL.later {w w' : World} {B g n cap : Nat} {L : List Fil} (h : OwnL w B (.slice (some ⟨g, 0, none⟩) n cap) L) (hb : Below w.heap.size w w') : OwnL w' B (.slice (some ⟨g, 0, none⟩) n cap) L := by
  obtain ⟨_, cur, hg⟩ := h.in
  exact h.at_ (hb.block g (Array.getElem?_eq_some_iff.1 hg).1)
theorem DkAt.apart {w : World} {p B g n cap : Nat} {v : Value} {L : List Fil} {x1 x2 x3 x4 : Int} {x5 : Bool} (h : DkAt w p v x1 x2 x3 x4 x5) (hO : OwnL w B (.slice (some ⟨g, 0, none⟩) n cap) L) : g ≠ p := by
  rintro rfl
  obtain ⟨_, cur, hg⟩ := hO.in
  unfold DkAt at h
  rw [h] at hg
  cases hg
theorem Dk.put {W : World} {p B g cap : Nat} {v : Value} {L : List Fil} {x1 x2 x3 x4 : Int} {x5 : Bool} (hd : DkAt W p v x1 x2 x3 x4 x5) (hO : OwnL W B (.slice (some ⟨g, 0, none⟩) L.length cap) L) (hB : B ≤ p) : Dk (W.setCell ⟨p, 4, none⟩ (.slice (some ⟨g, 0, none⟩) L.length cap)) p B L x1 x2 x3 x4 x5 := by
  refine ⟨g, cap, ?_, hO.at_ ?_, hB⟩
  · exact heap_setCell_same _ _ 4 _ _ _ hd
  · exact Below.heap_setCell W _ _ g (hd.apart hO)
set_option maxRecDepth 20000 in
set_option maxHeartbeats 4000000 in
theorem iCreate (p B : Nat) (L : List Fil) (x1 x2 x3 x4 : Int) (x5 : Bool) (nm dt : ByteArray) (sz r : Int) (w : World) (h : Dk w p B L x1 x2 x3 x4 x5) (hs : Srt L) (hne : ∀ g ∈ L, g.s ≠ ⟨#[]⟩) (hn : L.length ≤ 300) (hr : FdAt L nm r) :
    Calls Try.prog 80 #[.pointer (some ⟨p, 0, none⟩), .string nm] w fun e w' => e = .returned (.int .i64 (doS L x1 1 nm dt sz r).2) ∧ Dk w' p B (doS L x1 1 nm dt sz r).1 x1 x2 x3 x4 x5 ∧ Below B w w' := by
  obtain ⟨g, cap, hd, hO, hB⟩ := h
  have hpw : p < w.heap.size := (Array.getElem?_eq_some_iff.1 hd).1
  obtain ⟨n, hLn⟩ : ∃ n, L.length = n := ⟨_, rfl⟩
  have hfl : FL w (some ⟨g, 0, none⟩) n (nthF L) := by rw [← hLn]; exact hO.f.fl
  have hmm := hs.mono nm
  rw [hLn] at hd hO hn hmm
  go_enter Try.func80, Try.ntmps80
  go_upto_region 2 with (go_at_call 81; refine (iPlace p _ n cap (nthF L) nm x1 x2 x3 x4 x5 _ hd hfl (by omega) hmm).mono ?_; rintro e w1 ⟨i, rfl, hlo, hb1⟩)
  have hd1 := hd.later hb1
  have hO1 := hO.later hb1
  have hpw1 := Nat.lt_of_lt_of_le hpw hb1.size
  have hbB : Below B w w1 := hb1.mono (by omega)
  have hlo' : LoB (nthF L) L.length nm i := by rw [hLn]; exact hlo
  obtain ⟨hc0, hc1, hc2, hc3, hc4, hc5⟩ := hd1.box
  have hf4 : w1.frozen? ⟨p, 4, none⟩ = false := frozen_of_row _ _ 4 _ _ hd1
  rcases hh : hitB (nthF L) n nm i
  · have hh' : hitB (nthF L) L.length nm i = false := by rw [hLn]; exact hh
    obtain rfl : r = -1 := fd_same hr (fd_miss hlo' hh' hs)
    by_cases h3 : n = 300
    · have hD : Hid (doS L x1 1 nm dt sz (-1) = (L, 13)) := by show _ = _; unfold doS; rw [if_pos rfl, if_neg (by omega), if_pos (by omega)]
      have h3' : ((n : Int) == 300) = true := by simp [h3]
      clear h3
      go_wp2
      go_ret
      rw [hD.out]
      exact ⟨rfl, ⟨g, cap, by rw [hLn]; exact hd1, by rw [hLn]; exact hO1, hB⟩, hbB⟩
    · have hD : Hid (doS L x1 1 nm dt sz (-1) = (L.take i ++ (⟨nm, ⟨#[]⟩, 0⟩ : Fil) :: L.drop i, 0)) := by
        show _ = _; unfold doS; rw [if_pos rfl, if_neg (by omega), if_neg (by omega), wth_ins hlo' hh' hs ⟨nm, ⟨#[]⟩, 0⟩ rfl ⟨#[]⟩ hne]
      have h3' : ((n : Int) == 300) = false := by simp; omega
      have hba := bal w1 (.cells #[.string nm, .string ⟨#[]⟩, .int .i64 0] 69)
      have hins := iInsert L ⟨nm, ⟨#[]⟩, 0⟩ i g cap B w1.heap.size (w1.alloc (.cells #[.string nm, .string ⟨#[]⟩, .int .i64 0] 69)) (by have := hlo.1; omega) (by rw [hLn]; exact hO1.later hba) (heap_alloc_new w1 _) (by obtain ⟨_, cur, hg⟩ := hO1.in; have := (Array.getElem?_eq_some_iff.1 hg).1; omega) (by have := hba.size; omega) (by omega)
      rw [hLn] at hins
      have hlen : (L.take i ++ (⟨nm, ⟨#[]⟩, 0⟩ : Fil) :: L.drop i).length = n + 1 := by have := hlo.1; simp; omega
      have hgp : some p ≠ some g := fun e => hd1.apart hO1 (Option.some.inj e).symm
      have hd1' := hd1.later hba
      have hBg := hO1.in.1
      clear h3
      go_wp2_with (go_at_call 95; refine hins.mono ?_; rintro e w2 ⟨g', cap', rfl, hO2, hgr2⟩; have hd2 : DkAt w2 p _ x1 x2 x3 x4 x5 := rowG hd1' hgr2 hgp; have hc4' : w2.cell? ⟨p, 4, none⟩ = some _ := hd2.box.c4; have hf4' : w2.frozen? ⟨p, 4, none⟩ = false := frozen_of_row _ _ 4 _ _ hd2)
      go_ret
      rw [hD.out]
      refine ⟨rfl, ?_, ?_⟩
      · rw [← hlen] at hO2 ⊢
        exact Dk.put hd2 hO2 hB
      · exact (Below.grown (hbB.trans (hba.mono (by omega))) hgr2 (by have := hba.size; omega) (fun k e => by cases e; exact hBg)).setCell hB _
  · have hh' : hitB (nthF L) L.length nm i = true := by rw [hLn]; exact hh
    obtain rfl : r = (i : Int) := fd_same hr (fd_hit hlo' hh')
    have hD : Hid (doS L x1 1 nm dt sz (i : Int) = (L, 15)) := by show _ = _; unfold doS; rw [if_pos rfl, if_pos (by omega)]
    go_wp2
    go_ret
    rw [hD.out]
    exact ⟨rfl, ⟨g, cap, by rw [hLn]; exact hd1, by rw [hLn]; exact hO1, hB⟩, hbB⟩
end Go.Proofs.Ytdbcihebhgpblaa
