/-
  AppendEntry: one answer of both sides, whatever comes in.
-/
import Derived.Test.YtdbcihebhgpblaaDoorPg
import Derived.Test.YtdbcihebhgpblaaDoorPi
import Derived.Test.YtdbcihebhgpblaaDoorPj
import Derived.Test.YtdbcihebhgpblaaDoorPk
import Derived.Test.YtdbcihebhgpblaaDoorPl
import Derived.Test.YtdbcihebhgpblaaDoorPm
namespace Go.Proofs.YtdbcihebhgpblaaDoor
open Go.RowKit
theorem fd_ex (L : List Fil) (nm : ByteArray) : ∃ r, FdAt L nm r := by
  induction L with
  | nil => exact ⟨-1, Or.inl ⟨rfl, fun k hk => absurd hk (Nat.not_lt_zero _)⟩⟩
  | cons g L ih =>
    by_cases h : g.s = nm
    · exact ⟨0, Or.inr ⟨0, by simp, rfl, h, fun j hj => absurd hj (Nat.not_lt_zero _)⟩⟩
    · obtain ⟨r, ⟨rfl, h1⟩ | ⟨k, hk, rfl, h2, h3⟩⟩ := ih
      · refine ⟨-1, Or.inl ⟨rfl, fun k hk => ?_⟩⟩
        cases k with
        | zero => exact h
        | succ k => exact h1 k (by simpa using hk)
      · refine ⟨(k + 1 : Nat), Or.inr ⟨k + 1, by simpa using hk, rfl, h2, fun j hj => ?_⟩⟩
        cases j with
        | zero => exact h
        | succ j => exact h3 j (by omega)
/-- A step there is. -/
theorem st_ex (L : List Fil) (x1 x2 x3 x4 : Int) (x5 : Bool) (kd : Int) (nm dt : ByteArray) (sz : Int) : ∃ r M z2 z5 zc, FdAt L nm r ∧ stS L x1 x2 x3 x4 x5 kd nm dt sz r = (M, z2, z5, zc) := by
  obtain ⟨r, hr⟩ := fd_ex L nm
  exact ⟨r, _, _, _, _, hr, rfl⟩
def BothA (L : List Fil) (x1 x2 x3 x4 : Int) (x5 : Bool) (l s : Int) (en : ByteArray) (mo : Int) : Prop := ∃ M z1 z2 z3 z4 z5 l' s' zc, M.length ≤ 2097152 ∧
    (∀ w b c, FL w (some ⟨b, 0, none⟩) L.length (nthF L) → Calls Tryd.prog 6 #[.agg #[.slice (some ⟨b, 0, none⟩) L.length c, .int .i64 x1, .int .i64 x2, .int .i64 x3, .int .i64 x4, .bool x5], .agg #[.int .i64 l, .int .i64 s], .string en, .int .i64 mo] w (RE M z1 z2 z3 z4 z5 l' s' zc w)) ∧
    (∀ w b c, T10 w → FL w (some ⟨b, 0, none⟩) L.length (nthF L) → Calls Tryd.prog 9 #[.agg #[.slice (some ⟨b, 0, none⟩) L.length c, .int .i64 x1, .int .i64 x2, .int .i64 x3, .int .i64 x4, .bool x5], .agg #[.int .i64 l, .int .i64 s], .string en, .int .i64 mo] w (RE M z1 z2 z3 z4 z5 l' s' zc w))
set_option maxRecDepth 100000 in
theorem bothWa (L : List Fil) (x1 x2 x3 x4 : Int) (x5 : Bool) (ln : Nat) (s : Int) (en f : ByteArray) (hf : frm en = f) (mo : Int) (hen : en.size ≤ 1048576) (hsm : Small L.length (nthF L)) (hq : f.size ≠ 0) (hfz : f.size ≤ 65536) (hbl : btw (ln : Int) 1 9999 = true) (hbs : btw s 0 1000000000 = true) (hlg : logB (ln : Int) s = true) (hmo : btw mo 1 1000000000 = true) (hs0 : 0 ≤ s) (hs1 : s ≤ 1000000000) (hl0 : 1 ≤ (ln : Int)) (hl1 : (ln : Int) ≤ 9999) (hv : okFs L.length (nthF L) x1 x2 x3 x4 = true) (hok : Ok6 L x1 x2 1048576) (h3 : 0 ≤ x3 ∧ x3 ≤ 1000000000000000) (h4 : 0 ≤ x4 ∧ x4 ≤ 1000000000000000) (hx1 : s = 0) : BothA L x1 x2 x3 x4 x5 (ln : Int) s en mo := by
  obtain ⟨r1, L1, y1, d1, g1, hr1, e1⟩ := st_ex L x1 x2 x3 x4 x5 2 (seg ln) f 0
  have ok1 := hok.step hr1 (seg_ok _) e1
  by_cases hc10 : g1 = 0
  · subst hc10
    obtain ⟨r2, L2, y2, d2, g2, hr2, e2⟩ := st_ex L1 x1 y1 x3 x4 d1 3 (seg ln) ⟨#[]⟩ 0
    have ok2 := ok1.step hr2 (seg_ok _) e2
    by_cases hc20 : g2 = 0
    · subst hc20
      exact ⟨L2, x1, y2, x3, x4, d2, (ln : Int), (s + (f.size : Int)), 0, (by have := (ok2.good.len); omega), fun w b c h => sHdWa b 0 c L x1 x2 x3 x4 x5 (ln : Int) s en f hf mo w _ h hen hsm hq hfz hbl hbs hmo hs0 hs1 hl0 hl1 hx1 (fun K wf hK hX hL h8 h9 hc hFL => sTlA K b 0 c L x1 x2 x3 x4 x5 (ln : Int) s f w wf ln L1 y1 d1 L2 y2 d2 r1 hr1 e1 r2 hr2 e2 hK hX hL h8 h9 hc hFL hfz hs0 hs1 hok h3 h4 rfl (by omega)), fun w b c hT h => iApW0a b 0 c L x1 x2 x3 x4 x5 (ln : Int) s en f hf mo w h hen hsm hq hfz hlg hmo hs0 hs1 hl0 hl1 hx1 hv hok hT L2 y2 d2 (fun p B w hD hT => iWriteA p B L x1 x2 x3 x4 x5 ln s f w hD hok (by omega) hfz hT L1 y1 d1 L2 y2 d2 r1 hr1 e1 r2 hr2 e2)⟩
    by_cases hc211 : g2 = 11
    · subst hc211
      exact ⟨L2, x1, y2, x3, x4, d2, (ln : Int), s, 11, (by have := (ok2.good.len); omega), fun w b c h => sHdWa b 0 c L x1 x2 x3 x4 x5 (ln : Int) s en f hf mo w _ h hen hsm hq hfz hbl hbs hmo hs0 hs1 hl0 hl1 hx1 (fun K wf hK hX hL h8 h9 hc hFL => sTlB K b 0 c L x1 x2 x3 x4 x5 (ln : Int) s f w wf ln L1 y1 d1 L2 y2 d2 r1 hr1 e1 r2 hr2 e2 hK hX hL h8 h9 hc hFL hfz hs0 hs1 hok h3 h4 rfl (by omega)), fun w b c hT h => iApW1a b 0 c L x1 x2 x3 x4 x5 (ln : Int) s en f hf mo w h hen hsm hq hfz hlg hmo hs0 hs1 hl0 hl1 hx1 hv hok hT L2 y2 d2 11 (by omega) (fun p B w hD hT => iWriteB p B L x1 x2 x3 x4 x5 ln s f w hD hok (by omega) hfz hT L1 y1 d1 L2 y2 d2 r1 hr1 e1 r2 hr2 e2)⟩
    obtain ⟨r3, L3, y3, d3, g3, hr3, e3⟩ := st_ex L2 x1 y2 x3 x4 d2 4 (seg ln) ⟨#[]⟩ s
    have ok3 := ok2.step hr3 (seg_ok _) e3
    by_cases hc30 : g3 = 0
    · subst hc30
      exact ⟨L3, x1, y3, x3, x4, d3, (ln : Int), s, g2, (by have := (ok3.good.len); omega), fun w b c h => sHdWa b 0 c L x1 x2 x3 x4 x5 (ln : Int) s en f hf mo w _ h hen hsm hq hfz hbl hbs hmo hs0 hs1 hl0 hl1 hx1 (fun K wf hK hX hL h8 h9 hc hFL => sTlC0 K b 0 c L x1 x2 x3 x4 x5 (ln : Int) s f w wf ln L1 y1 d1 L2 y2 d2 g2 hc20 hc211 L3 y3 d3 r1 hr1 e1 r2 hr2 e2 r3 hr3 e3 hK hX hL h8 h9 hc hFL hfz hs0 hs1 hok h3 h4 rfl (by omega)), fun w b c hT h => iApW1a b 0 c L x1 x2 x3 x4 x5 (ln : Int) s en f hf mo w h hen hsm hq hfz hlg hmo hs0 hs1 hl0 hl1 hx1 hv hok hT L3 y3 d3 g2 hc20 (fun p B w hD hT => iWriteC0 p B L x1 x2 x3 x4 x5 ln s f w hD hok (by omega) hfz hT L1 y1 d1 L2 y2 d2 L3 y3 d3 g2 hc20 hc211 r1 hr1 e1 r2 hr2 e2 r3 hr3 e3)⟩
    by_cases hc311 : g3 = 11
    · subst hc311
      exact ⟨L3, x1, y3, x3, x4, d3, (ln : Int), s, 11, (by have := (ok3.good.len); omega), fun w b c h => sHdWa b 0 c L x1 x2 x3 x4 x5 (ln : Int) s en f hf mo w _ h hen hsm hq hfz hbl hbs hmo hs0 hs1 hl0 hl1 hx1 (fun K wf hK hX hL h8 h9 hc hFL => sTlC1 K b 0 c L x1 x2 x3 x4 x5 (ln : Int) s f w wf ln L1 y1 d1 L2 y2 d2 g2 hc20 hc211 L3 y3 d3 r1 hr1 e1 r2 hr2 e2 r3 hr3 e3 hK hX hL h8 h9 hc hFL hfz hs0 hs1 hok h3 h4 rfl (by omega)), fun w b c hT h => iApW1a b 0 c L x1 x2 x3 x4 x5 (ln : Int) s en f hf mo w h hen hsm hq hfz hlg hmo hs0 hs1 hl0 hl1 hx1 hv hok hT L3 y3 d3 11 (by omega) (fun p B w hD hT => iWriteC1 p B L x1 x2 x3 x4 x5 ln s f w hD hok (by omega) hfz hT L1 y1 d1 L2 y2 d2 L3 y3 d3 g2 hc20 hc211 r1 hr1 e1 r2 hr2 e2 r3 hr3 e3)⟩
    exact ⟨L3, x1, y3, x3, x4, d3, (ln : Int), s, 20, (by have := (ok3.good.len); omega), fun w b c h => sHdWa b 0 c L x1 x2 x3 x4 x5 (ln : Int) s en f hf mo w _ h hen hsm hq hfz hbl hbs hmo hs0 hs1 hl0 hl1 hx1 (fun K wf hK hX hL h8 h9 hc hFL => sTlC2 K b 0 c L x1 x2 x3 x4 x5 (ln : Int) s f w wf ln L1 y1 d1 L2 y2 d2 g2 hc20 hc211 L3 y3 d3 g3 hc30 hc311 r1 hr1 e1 r2 hr2 e2 r3 hr3 e3 hK hX hL h8 h9 hc hFL hfz hs0 hs1 hok h3 h4 rfl (by omega)), fun w b c hT h => iApW1a b 0 c L x1 x2 x3 x4 x5 (ln : Int) s en f hf mo w h hen hsm hq hfz hlg hmo hs0 hs1 hl0 hl1 hx1 hv hok hT L3 y3 d3 20 (by omega) (fun p B w hD hT => iWriteC2 p B L x1 x2 x3 x4 x5 ln s f w hD hok (by omega) hfz hT L1 y1 d1 L2 y2 d2 L3 y3 d3 g2 hc20 hc211 g3 hc30 hc311 r1 hr1 e1 r2 hr2 e2 r3 hr3 e3)⟩
  by_cases hc111 : g1 = 11
  · subst hc111
    exact ⟨L1, x1, y1, x3, x4, d1, (ln : Int), s, 11, (by have := (ok1.good.len); omega), fun w b c h => sHdWa b 0 c L x1 x2 x3 x4 x5 (ln : Int) s en f hf mo w _ h hen hsm hq hfz hbl hbs hmo hs0 hs1 hl0 hl1 hx1 (fun K wf hK hX hL h8 h9 hc hFL => sTlD K b 0 c L x1 x2 x3 x4 x5 (ln : Int) s f w wf ln L1 y1 d1 r1 hr1 e1 hK hX hL h8 h9 hc hFL hfz hs0 hs1 hok h3 h4 rfl (by omega)), fun w b c hT h => iApW1a b 0 c L x1 x2 x3 x4 x5 (ln : Int) s en f hf mo w h hen hsm hq hfz hlg hmo hs0 hs1 hl0 hl1 hx1 hv hok hT L1 y1 d1 11 (by omega) (fun p B w hD hT => iWriteD p B L x1 x2 x3 x4 x5 ln s f w hD hok (by omega) hfz hT L1 y1 d1 r1 hr1 e1)⟩
  obtain ⟨r2, L2, y2, d2, g2, hr2, e2⟩ := st_ex L1 x1 y1 x3 x4 d1 4 (seg ln) ⟨#[]⟩ s
  have ok2 := ok1.step hr2 (seg_ok _) e2
  by_cases hc30 : g2 = 0
  · subst hc30
    exact ⟨L2, x1, y2, x3, x4, d2, (ln : Int), s, g1, (by have := (ok2.good.len); omega), fun w b c h => sHdWa b 0 c L x1 x2 x3 x4 x5 (ln : Int) s en f hf mo w _ h hen hsm hq hfz hbl hbs hmo hs0 hs1 hl0 hl1 hx1 (fun K wf hK hX hL h8 h9 hc hFL => sTlE0 K b 0 c L x1 x2 x3 x4 x5 (ln : Int) s f w wf ln L1 y1 d1 g1 hc10 hc111 L2 y2 d2 r1 hr1 e1 r2 hr2 e2 hK hX hL h8 h9 hc hFL hfz hs0 hs1 hok h3 h4 rfl (by omega)), fun w b c hT h => iApW1a b 0 c L x1 x2 x3 x4 x5 (ln : Int) s en f hf mo w h hen hsm hq hfz hlg hmo hs0 hs1 hl0 hl1 hx1 hv hok hT L2 y2 d2 g1 hc10 (fun p B w hD hT => iWriteE0 p B L x1 x2 x3 x4 x5 ln s f w hD hok (by omega) hfz hT L1 y1 d1 L2 y2 d2 g1 hc10 hc111 r1 hr1 e1 r2 hr2 e2)⟩
  by_cases hc311 : g2 = 11
  · subst hc311
    exact ⟨L2, x1, y2, x3, x4, d2, (ln : Int), s, 11, (by have := (ok2.good.len); omega), fun w b c h => sHdWa b 0 c L x1 x2 x3 x4 x5 (ln : Int) s en f hf mo w _ h hen hsm hq hfz hbl hbs hmo hs0 hs1 hl0 hl1 hx1 (fun K wf hK hX hL h8 h9 hc hFL => sTlE1 K b 0 c L x1 x2 x3 x4 x5 (ln : Int) s f w wf ln L1 y1 d1 g1 hc10 hc111 L2 y2 d2 r1 hr1 e1 r2 hr2 e2 hK hX hL h8 h9 hc hFL hfz hs0 hs1 hok h3 h4 rfl (by omega)), fun w b c hT h => iApW1a b 0 c L x1 x2 x3 x4 x5 (ln : Int) s en f hf mo w h hen hsm hq hfz hlg hmo hs0 hs1 hl0 hl1 hx1 hv hok hT L2 y2 d2 11 (by omega) (fun p B w hD hT => iWriteE1 p B L x1 x2 x3 x4 x5 ln s f w hD hok (by omega) hfz hT L1 y1 d1 L2 y2 d2 g1 hc10 hc111 r1 hr1 e1 r2 hr2 e2)⟩
  exact ⟨L2, x1, y2, x3, x4, d2, (ln : Int), s, 20, (by have := (ok2.good.len); omega), fun w b c h => sHdWa b 0 c L x1 x2 x3 x4 x5 (ln : Int) s en f hf mo w _ h hen hsm hq hfz hbl hbs hmo hs0 hs1 hl0 hl1 hx1 (fun K wf hK hX hL h8 h9 hc hFL => sTlE2 K b 0 c L x1 x2 x3 x4 x5 (ln : Int) s f w wf ln L1 y1 d1 g1 hc10 hc111 L2 y2 d2 g2 hc30 hc311 r1 hr1 e1 r2 hr2 e2 hK hX hL h8 h9 hc hFL hfz hs0 hs1 hok h3 h4 rfl (by omega)), fun w b c hT h => iApW1a b 0 c L x1 x2 x3 x4 x5 (ln : Int) s en f hf mo w h hen hsm hq hfz hlg hmo hs0 hs1 hl0 hl1 hx1 hv hok hT L2 y2 d2 20 (by omega) (fun p B w hD hT => iWriteE2 p B L x1 x2 x3 x4 x5 ln s f w hD hok (by omega) hfz hT L1 y1 d1 L2 y2 d2 g1 hc10 hc111 g2 hc30 hc311 r1 hr1 e1 r2 hr2 e2)⟩
set_option maxRecDepth 100000 in
theorem bothWb (L : List Fil) (x1 x2 x3 x4 : Int) (x5 : Bool) (ln : Nat) (s : Int) (en f : ByteArray) (hf : frm en = f) (mo : Int) (hen : en.size ≤ 1048576) (hsm : Small L.length (nthF L)) (hq : f.size ≠ 0) (hfz : f.size ≤ 65536) (hbl : btw (ln : Int) 1 9999 = true) (hbs : btw s 0 1000000000 = true) (hlg : logB (ln : Int) s = true) (hmo : btw mo 1 1000000000 = true) (hs0 : 0 ≤ s) (hs1 : s ≤ 1000000000) (hl0 : 1 ≤ (ln : Int)) (hl1 : (ln : Int) ≤ 9999) (hv : okFs L.length (nthF L) x1 x2 x3 x4 = true) (hok : Ok6 L x1 x2 1048576) (h3 : 0 ≤ x3 ∧ x3 ≤ 1000000000000000) (h4 : 0 ≤ x4 ∧ x4 ≤ 1000000000000000) (hx1 : s ≠ 0) (hx2 : ¬ mo < s + (f.size : Int)) : BothA L x1 x2 x3 x4 x5 (ln : Int) s en mo := by
  obtain ⟨r1, L1, y1, d1, g1, hr1, e1⟩ := st_ex L x1 x2 x3 x4 x5 2 (seg ln) f 0
  have ok1 := hok.step hr1 (seg_ok _) e1
  by_cases hc10 : g1 = 0
  · subst hc10
    obtain ⟨r2, L2, y2, d2, g2, hr2, e2⟩ := st_ex L1 x1 y1 x3 x4 d1 3 (seg ln) ⟨#[]⟩ 0
    have ok2 := ok1.step hr2 (seg_ok _) e2
    by_cases hc20 : g2 = 0
    · subst hc20
      exact ⟨L2, x1, y2, x3, x4, d2, (ln : Int), (s + (f.size : Int)), 0, (by have := (ok2.good.len); omega), fun w b c h => sHdWb b 0 c L x1 x2 x3 x4 x5 (ln : Int) s en f hf mo w _ h hen hsm hq hfz hbl hbs hmo hs0 hs1 hl0 hl1 hx1 hx2 (fun K wf hK hX hL h8 h9 hc hFL => sTlA K b 0 c L x1 x2 x3 x4 x5 (ln : Int) s f w wf ln L1 y1 d1 L2 y2 d2 r1 hr1 e1 r2 hr2 e2 hK hX hL h8 h9 hc hFL hfz hs0 hs1 hok h3 h4 rfl (by omega)), fun w b c hT h => iApW0b b 0 c L x1 x2 x3 x4 x5 (ln : Int) s en f hf mo w h hen hsm hq hfz hlg hmo hs0 hs1 hl0 hl1 hx1 hx2 hv hok hT L2 y2 d2 (fun p B w hD hT => iWriteA p B L x1 x2 x3 x4 x5 ln s f w hD hok (by omega) hfz hT L1 y1 d1 L2 y2 d2 r1 hr1 e1 r2 hr2 e2)⟩
    by_cases hc211 : g2 = 11
    · subst hc211
      exact ⟨L2, x1, y2, x3, x4, d2, (ln : Int), s, 11, (by have := (ok2.good.len); omega), fun w b c h => sHdWb b 0 c L x1 x2 x3 x4 x5 (ln : Int) s en f hf mo w _ h hen hsm hq hfz hbl hbs hmo hs0 hs1 hl0 hl1 hx1 hx2 (fun K wf hK hX hL h8 h9 hc hFL => sTlB K b 0 c L x1 x2 x3 x4 x5 (ln : Int) s f w wf ln L1 y1 d1 L2 y2 d2 r1 hr1 e1 r2 hr2 e2 hK hX hL h8 h9 hc hFL hfz hs0 hs1 hok h3 h4 rfl (by omega)), fun w b c hT h => iApW1b b 0 c L x1 x2 x3 x4 x5 (ln : Int) s en f hf mo w h hen hsm hq hfz hlg hmo hs0 hs1 hl0 hl1 hx1 hx2 hv hok hT L2 y2 d2 11 (by omega) (fun p B w hD hT => iWriteB p B L x1 x2 x3 x4 x5 ln s f w hD hok (by omega) hfz hT L1 y1 d1 L2 y2 d2 r1 hr1 e1 r2 hr2 e2)⟩
    obtain ⟨r3, L3, y3, d3, g3, hr3, e3⟩ := st_ex L2 x1 y2 x3 x4 d2 4 (seg ln) ⟨#[]⟩ s
    have ok3 := ok2.step hr3 (seg_ok _) e3
    by_cases hc30 : g3 = 0
    · subst hc30
      exact ⟨L3, x1, y3, x3, x4, d3, (ln : Int), s, g2, (by have := (ok3.good.len); omega), fun w b c h => sHdWb b 0 c L x1 x2 x3 x4 x5 (ln : Int) s en f hf mo w _ h hen hsm hq hfz hbl hbs hmo hs0 hs1 hl0 hl1 hx1 hx2 (fun K wf hK hX hL h8 h9 hc hFL => sTlC0 K b 0 c L x1 x2 x3 x4 x5 (ln : Int) s f w wf ln L1 y1 d1 L2 y2 d2 g2 hc20 hc211 L3 y3 d3 r1 hr1 e1 r2 hr2 e2 r3 hr3 e3 hK hX hL h8 h9 hc hFL hfz hs0 hs1 hok h3 h4 rfl (by omega)), fun w b c hT h => iApW1b b 0 c L x1 x2 x3 x4 x5 (ln : Int) s en f hf mo w h hen hsm hq hfz hlg hmo hs0 hs1 hl0 hl1 hx1 hx2 hv hok hT L3 y3 d3 g2 hc20 (fun p B w hD hT => iWriteC0 p B L x1 x2 x3 x4 x5 ln s f w hD hok (by omega) hfz hT L1 y1 d1 L2 y2 d2 L3 y3 d3 g2 hc20 hc211 r1 hr1 e1 r2 hr2 e2 r3 hr3 e3)⟩
    by_cases hc311 : g3 = 11
    · subst hc311
      exact ⟨L3, x1, y3, x3, x4, d3, (ln : Int), s, 11, (by have := (ok3.good.len); omega), fun w b c h => sHdWb b 0 c L x1 x2 x3 x4 x5 (ln : Int) s en f hf mo w _ h hen hsm hq hfz hbl hbs hmo hs0 hs1 hl0 hl1 hx1 hx2 (fun K wf hK hX hL h8 h9 hc hFL => sTlC1 K b 0 c L x1 x2 x3 x4 x5 (ln : Int) s f w wf ln L1 y1 d1 L2 y2 d2 g2 hc20 hc211 L3 y3 d3 r1 hr1 e1 r2 hr2 e2 r3 hr3 e3 hK hX hL h8 h9 hc hFL hfz hs0 hs1 hok h3 h4 rfl (by omega)), fun w b c hT h => iApW1b b 0 c L x1 x2 x3 x4 x5 (ln : Int) s en f hf mo w h hen hsm hq hfz hlg hmo hs0 hs1 hl0 hl1 hx1 hx2 hv hok hT L3 y3 d3 11 (by omega) (fun p B w hD hT => iWriteC1 p B L x1 x2 x3 x4 x5 ln s f w hD hok (by omega) hfz hT L1 y1 d1 L2 y2 d2 L3 y3 d3 g2 hc20 hc211 r1 hr1 e1 r2 hr2 e2 r3 hr3 e3)⟩
    exact ⟨L3, x1, y3, x3, x4, d3, (ln : Int), s, 20, (by have := (ok3.good.len); omega), fun w b c h => sHdWb b 0 c L x1 x2 x3 x4 x5 (ln : Int) s en f hf mo w _ h hen hsm hq hfz hbl hbs hmo hs0 hs1 hl0 hl1 hx1 hx2 (fun K wf hK hX hL h8 h9 hc hFL => sTlC2 K b 0 c L x1 x2 x3 x4 x5 (ln : Int) s f w wf ln L1 y1 d1 L2 y2 d2 g2 hc20 hc211 L3 y3 d3 g3 hc30 hc311 r1 hr1 e1 r2 hr2 e2 r3 hr3 e3 hK hX hL h8 h9 hc hFL hfz hs0 hs1 hok h3 h4 rfl (by omega)), fun w b c hT h => iApW1b b 0 c L x1 x2 x3 x4 x5 (ln : Int) s en f hf mo w h hen hsm hq hfz hlg hmo hs0 hs1 hl0 hl1 hx1 hx2 hv hok hT L3 y3 d3 20 (by omega) (fun p B w hD hT => iWriteC2 p B L x1 x2 x3 x4 x5 ln s f w hD hok (by omega) hfz hT L1 y1 d1 L2 y2 d2 L3 y3 d3 g2 hc20 hc211 g3 hc30 hc311 r1 hr1 e1 r2 hr2 e2 r3 hr3 e3)⟩
  by_cases hc111 : g1 = 11
  · subst hc111
    exact ⟨L1, x1, y1, x3, x4, d1, (ln : Int), s, 11, (by have := (ok1.good.len); omega), fun w b c h => sHdWb b 0 c L x1 x2 x3 x4 x5 (ln : Int) s en f hf mo w _ h hen hsm hq hfz hbl hbs hmo hs0 hs1 hl0 hl1 hx1 hx2 (fun K wf hK hX hL h8 h9 hc hFL => sTlD K b 0 c L x1 x2 x3 x4 x5 (ln : Int) s f w wf ln L1 y1 d1 r1 hr1 e1 hK hX hL h8 h9 hc hFL hfz hs0 hs1 hok h3 h4 rfl (by omega)), fun w b c hT h => iApW1b b 0 c L x1 x2 x3 x4 x5 (ln : Int) s en f hf mo w h hen hsm hq hfz hlg hmo hs0 hs1 hl0 hl1 hx1 hx2 hv hok hT L1 y1 d1 11 (by omega) (fun p B w hD hT => iWriteD p B L x1 x2 x3 x4 x5 ln s f w hD hok (by omega) hfz hT L1 y1 d1 r1 hr1 e1)⟩
  obtain ⟨r2, L2, y2, d2, g2, hr2, e2⟩ := st_ex L1 x1 y1 x3 x4 d1 4 (seg ln) ⟨#[]⟩ s
  have ok2 := ok1.step hr2 (seg_ok _) e2
  by_cases hc30 : g2 = 0
  · subst hc30
    exact ⟨L2, x1, y2, x3, x4, d2, (ln : Int), s, g1, (by have := (ok2.good.len); omega), fun w b c h => sHdWb b 0 c L x1 x2 x3 x4 x5 (ln : Int) s en f hf mo w _ h hen hsm hq hfz hbl hbs hmo hs0 hs1 hl0 hl1 hx1 hx2 (fun K wf hK hX hL h8 h9 hc hFL => sTlE0 K b 0 c L x1 x2 x3 x4 x5 (ln : Int) s f w wf ln L1 y1 d1 g1 hc10 hc111 L2 y2 d2 r1 hr1 e1 r2 hr2 e2 hK hX hL h8 h9 hc hFL hfz hs0 hs1 hok h3 h4 rfl (by omega)), fun w b c hT h => iApW1b b 0 c L x1 x2 x3 x4 x5 (ln : Int) s en f hf mo w h hen hsm hq hfz hlg hmo hs0 hs1 hl0 hl1 hx1 hx2 hv hok hT L2 y2 d2 g1 hc10 (fun p B w hD hT => iWriteE0 p B L x1 x2 x3 x4 x5 ln s f w hD hok (by omega) hfz hT L1 y1 d1 L2 y2 d2 g1 hc10 hc111 r1 hr1 e1 r2 hr2 e2)⟩
  by_cases hc311 : g2 = 11
  · subst hc311
    exact ⟨L2, x1, y2, x3, x4, d2, (ln : Int), s, 11, (by have := (ok2.good.len); omega), fun w b c h => sHdWb b 0 c L x1 x2 x3 x4 x5 (ln : Int) s en f hf mo w _ h hen hsm hq hfz hbl hbs hmo hs0 hs1 hl0 hl1 hx1 hx2 (fun K wf hK hX hL h8 h9 hc hFL => sTlE1 K b 0 c L x1 x2 x3 x4 x5 (ln : Int) s f w wf ln L1 y1 d1 g1 hc10 hc111 L2 y2 d2 r1 hr1 e1 r2 hr2 e2 hK hX hL h8 h9 hc hFL hfz hs0 hs1 hok h3 h4 rfl (by omega)), fun w b c hT h => iApW1b b 0 c L x1 x2 x3 x4 x5 (ln : Int) s en f hf mo w h hen hsm hq hfz hlg hmo hs0 hs1 hl0 hl1 hx1 hx2 hv hok hT L2 y2 d2 11 (by omega) (fun p B w hD hT => iWriteE1 p B L x1 x2 x3 x4 x5 ln s f w hD hok (by omega) hfz hT L1 y1 d1 L2 y2 d2 g1 hc10 hc111 r1 hr1 e1 r2 hr2 e2)⟩
  exact ⟨L2, x1, y2, x3, x4, d2, (ln : Int), s, 20, (by have := (ok2.good.len); omega), fun w b c h => sHdWb b 0 c L x1 x2 x3 x4 x5 (ln : Int) s en f hf mo w _ h hen hsm hq hfz hbl hbs hmo hs0 hs1 hl0 hl1 hx1 hx2 (fun K wf hK hX hL h8 h9 hc hFL => sTlE2 K b 0 c L x1 x2 x3 x4 x5 (ln : Int) s f w wf ln L1 y1 d1 g1 hc10 hc111 L2 y2 d2 g2 hc30 hc311 r1 hr1 e1 r2 hr2 e2 hK hX hL h8 h9 hc hFL hfz hs0 hs1 hok h3 h4 rfl (by omega)), fun w b c hT h => iApW1b b 0 c L x1 x2 x3 x4 x5 (ln : Int) s en f hf mo w h hen hsm hq hfz hlg hmo hs0 hs1 hl0 hl1 hx1 hx2 hv hok hT L2 y2 d2 20 (by omega) (fun p B w hD hT => iWriteE2 p B L x1 x2 x3 x4 x5 ln s f w hD hok (by omega) hfz hT L1 y1 d1 L2 y2 d2 g1 hc10 hc111 g2 hc30 hc311 r1 hr1 e1 r2 hr2 e2)⟩
set_option maxRecDepth 100000 in
theorem bothN (L : List Fil) (x1 x2 x3 x4 : Int) (x5 : Bool) (ln : Nat) (s : Int) (en f : ByteArray) (hf : frm en = f) (mo : Int) (hen : en.size ≤ 1048576) (hsm : Small L.length (nthF L)) (hq : f.size ≠ 0) (hfz : f.size ≤ 65536) (hbl : btw (ln : Int) 1 9999 = true) (hbs : btw s 0 1000000000 = true) (hlg : logB (ln : Int) s = true) (hmo : btw mo 1 1000000000 = true) (hs0 : 0 ≤ s) (hs1 : s ≤ 1000000000) (hl0 : 1 ≤ (ln : Int)) (hl1 : (ln : Int) ≤ 9999) (hv : okFs L.length (nthF L) x1 x2 x3 x4 = true) (hok : Ok6 L x1 x2 1048576) (h3 : 0 ≤ x3 ∧ x3 ≤ 1000000000000000) (h4 : 0 ≤ x4 ∧ x4 ≤ 1000000000000000) (hx1 : s ≠ 0) (hx2 : mo < s + (f.size : Int)) (h99 : (ln : Int) ≠ 9999) : BothA L x1 x2 x3 x4 x5 (ln : Int) s en mo := by
  obtain ⟨r0, K0, k2, k5, g0, hr0, e0⟩ := st_ex L x1 x2 x3 x4 x5 1 (seg (ln + 1)) ⟨#[]⟩ 0
  have ok0 := hok.step hr0 (seg_ok _) e0
  by_cases hcc : g0 = 0
  · subst hcc
    obtain ⟨r1, L1, y1, d1, g1, hr1, e1⟩ := st_ex K0 x1 k2 x3 x4 k5 2 (seg (ln + 1)) f 0
    have ok1 := ok0.step hr1 (seg_ok _) e1
    by_cases hc10 : g1 = 0
    · subst hc10
      obtain ⟨r2, L2, y2, d2, g2, hr2, e2⟩ := st_ex L1 x1 y1 x3 x4 d1 3 (seg (ln + 1)) ⟨#[]⟩ 0
      have ok2 := ok1.step hr2 (seg_ok _) e2
      by_cases hc20 : g2 = 0
      · subst hc20
        exact ⟨L2, x1, y2, x3, x4, d2, ((ln : Int) + 1), (0 + (f.size : Int)), 0, (by have := (ok2.good.len); omega), fun w b c h => sHdN b 0 c L x1 x2 x3 x4 x5 (ln : Int) s en f hf mo w _ h hen hsm hq hfz hbl hbs hmo hs0 hs1 hl0 hl1 hx1 hx2 h99 hok h3 h4 ln rfl K0 k2 k5 r0 hr0 e0 (fun K wf gc cpc hK hX hL h8 h9 hc hFL => sTlA K gc 0 cpc K0 x1 k2 x3 x4 k5 ((ln : Int) + 1) 0 f w wf (ln + 1) L1 y1 d1 L2 y2 d2 r1 hr1 e1 r2 hr2 e2 hK hX hL h8 h9 hc hFL hfz (by omega) (by omega) (ok0.wk (Nat.le_refl _)) h3 h4 rfl (by omega)), fun w b c hT h => by rw [Int.zero_add]; exact iApN0 b 0 c L x1 x2 x3 x4 x5 (ln : Int) s en f hf mo w h hen hsm hq hfz hlg hmo hs0 hs1 hl0 hl1 hx1 hx2 h99 hv hok hT ln rfl r0 hr0 K0 k2 k5 e0 L2 y2 d2 (fun p B w hD hT => iWriteA p B K0 x1 k2 x3 x4 k5 (ln + 1) 0 f w hD (ok0.wk (Nat.le_refl _)) (by omega) hfz hT L1 y1 d1 L2 y2 d2 r1 hr1 e1 r2 hr2 e2)⟩
      by_cases hc211 : g2 = 11
      · subst hc211
        exact ⟨L2, x1, y2, x3, x4, d2, ((ln : Int) + 1), 0, 11, (by have := (ok2.good.len); omega), fun w b c h => sHdN b 0 c L x1 x2 x3 x4 x5 (ln : Int) s en f hf mo w _ h hen hsm hq hfz hbl hbs hmo hs0 hs1 hl0 hl1 hx1 hx2 h99 hok h3 h4 ln rfl K0 k2 k5 r0 hr0 e0 (fun K wf gc cpc hK hX hL h8 h9 hc hFL => sTlB K gc 0 cpc K0 x1 k2 x3 x4 k5 ((ln : Int) + 1) 0 f w wf (ln + 1) L1 y1 d1 L2 y2 d2 r1 hr1 e1 r2 hr2 e2 hK hX hL h8 h9 hc hFL hfz (by omega) (by omega) (ok0.wk (Nat.le_refl _)) h3 h4 rfl (by omega)), fun w b c hT h => iApN1 b 0 c L x1 x2 x3 x4 x5 (ln : Int) s en f hf mo w h hen hsm hq hfz hlg hmo hs0 hs1 hl0 hl1 hx1 hx2 h99 hv hok hT ln rfl r0 hr0 K0 k2 k5 e0 L2 y2 d2 11 (by omega) (fun p B w hD hT => iWriteB p B K0 x1 k2 x3 x4 k5 (ln + 1) 0 f w hD (ok0.wk (Nat.le_refl _)) (by omega) hfz hT L1 y1 d1 L2 y2 d2 r1 hr1 e1 r2 hr2 e2)⟩
      obtain ⟨r3, L3, y3, d3, g3, hr3, e3⟩ := st_ex L2 x1 y2 x3 x4 d2 4 (seg (ln + 1)) ⟨#[]⟩ 0
      have ok3 := ok2.step hr3 (seg_ok _) e3
      by_cases hc30 : g3 = 0
      · subst hc30
        exact ⟨L3, x1, y3, x3, x4, d3, ((ln : Int) + 1), 0, g2, (by have := (ok3.good.len); omega), fun w b c h => sHdN b 0 c L x1 x2 x3 x4 x5 (ln : Int) s en f hf mo w _ h hen hsm hq hfz hbl hbs hmo hs0 hs1 hl0 hl1 hx1 hx2 h99 hok h3 h4 ln rfl K0 k2 k5 r0 hr0 e0 (fun K wf gc cpc hK hX hL h8 h9 hc hFL => sTlC0 K gc 0 cpc K0 x1 k2 x3 x4 k5 ((ln : Int) + 1) 0 f w wf (ln + 1) L1 y1 d1 L2 y2 d2 g2 hc20 hc211 L3 y3 d3 r1 hr1 e1 r2 hr2 e2 r3 hr3 e3 hK hX hL h8 h9 hc hFL hfz (by omega) (by omega) (ok0.wk (Nat.le_refl _)) h3 h4 rfl (by omega)), fun w b c hT h => iApN1 b 0 c L x1 x2 x3 x4 x5 (ln : Int) s en f hf mo w h hen hsm hq hfz hlg hmo hs0 hs1 hl0 hl1 hx1 hx2 h99 hv hok hT ln rfl r0 hr0 K0 k2 k5 e0 L3 y3 d3 g2 hc20 (fun p B w hD hT => iWriteC0 p B K0 x1 k2 x3 x4 k5 (ln + 1) 0 f w hD (ok0.wk (Nat.le_refl _)) (by omega) hfz hT L1 y1 d1 L2 y2 d2 L3 y3 d3 g2 hc20 hc211 r1 hr1 e1 r2 hr2 e2 r3 hr3 e3)⟩
      by_cases hc311 : g3 = 11
      · subst hc311
        exact ⟨L3, x1, y3, x3, x4, d3, ((ln : Int) + 1), 0, 11, (by have := (ok3.good.len); omega), fun w b c h => sHdN b 0 c L x1 x2 x3 x4 x5 (ln : Int) s en f hf mo w _ h hen hsm hq hfz hbl hbs hmo hs0 hs1 hl0 hl1 hx1 hx2 h99 hok h3 h4 ln rfl K0 k2 k5 r0 hr0 e0 (fun K wf gc cpc hK hX hL h8 h9 hc hFL => sTlC1 K gc 0 cpc K0 x1 k2 x3 x4 k5 ((ln : Int) + 1) 0 f w wf (ln + 1) L1 y1 d1 L2 y2 d2 g2 hc20 hc211 L3 y3 d3 r1 hr1 e1 r2 hr2 e2 r3 hr3 e3 hK hX hL h8 h9 hc hFL hfz (by omega) (by omega) (ok0.wk (Nat.le_refl _)) h3 h4 rfl (by omega)), fun w b c hT h => iApN1 b 0 c L x1 x2 x3 x4 x5 (ln : Int) s en f hf mo w h hen hsm hq hfz hlg hmo hs0 hs1 hl0 hl1 hx1 hx2 h99 hv hok hT ln rfl r0 hr0 K0 k2 k5 e0 L3 y3 d3 11 (by omega) (fun p B w hD hT => iWriteC1 p B K0 x1 k2 x3 x4 k5 (ln + 1) 0 f w hD (ok0.wk (Nat.le_refl _)) (by omega) hfz hT L1 y1 d1 L2 y2 d2 L3 y3 d3 g2 hc20 hc211 r1 hr1 e1 r2 hr2 e2 r3 hr3 e3)⟩
      exact ⟨L3, x1, y3, x3, x4, d3, ((ln : Int) + 1), 0, 20, (by have := (ok3.good.len); omega), fun w b c h => sHdN b 0 c L x1 x2 x3 x4 x5 (ln : Int) s en f hf mo w _ h hen hsm hq hfz hbl hbs hmo hs0 hs1 hl0 hl1 hx1 hx2 h99 hok h3 h4 ln rfl K0 k2 k5 r0 hr0 e0 (fun K wf gc cpc hK hX hL h8 h9 hc hFL => sTlC2 K gc 0 cpc K0 x1 k2 x3 x4 k5 ((ln : Int) + 1) 0 f w wf (ln + 1) L1 y1 d1 L2 y2 d2 g2 hc20 hc211 L3 y3 d3 g3 hc30 hc311 r1 hr1 e1 r2 hr2 e2 r3 hr3 e3 hK hX hL h8 h9 hc hFL hfz (by omega) (by omega) (ok0.wk (Nat.le_refl _)) h3 h4 rfl (by omega)), fun w b c hT h => iApN1 b 0 c L x1 x2 x3 x4 x5 (ln : Int) s en f hf mo w h hen hsm hq hfz hlg hmo hs0 hs1 hl0 hl1 hx1 hx2 h99 hv hok hT ln rfl r0 hr0 K0 k2 k5 e0 L3 y3 d3 20 (by omega) (fun p B w hD hT => iWriteC2 p B K0 x1 k2 x3 x4 k5 (ln + 1) 0 f w hD (ok0.wk (Nat.le_refl _)) (by omega) hfz hT L1 y1 d1 L2 y2 d2 L3 y3 d3 g2 hc20 hc211 g3 hc30 hc311 r1 hr1 e1 r2 hr2 e2 r3 hr3 e3)⟩
    by_cases hc111 : g1 = 11
    · subst hc111
      exact ⟨L1, x1, y1, x3, x4, d1, ((ln : Int) + 1), 0, 11, (by have := (ok1.good.len); omega), fun w b c h => sHdN b 0 c L x1 x2 x3 x4 x5 (ln : Int) s en f hf mo w _ h hen hsm hq hfz hbl hbs hmo hs0 hs1 hl0 hl1 hx1 hx2 h99 hok h3 h4 ln rfl K0 k2 k5 r0 hr0 e0 (fun K wf gc cpc hK hX hL h8 h9 hc hFL => sTlD K gc 0 cpc K0 x1 k2 x3 x4 k5 ((ln : Int) + 1) 0 f w wf (ln + 1) L1 y1 d1 r1 hr1 e1 hK hX hL h8 h9 hc hFL hfz (by omega) (by omega) (ok0.wk (Nat.le_refl _)) h3 h4 rfl (by omega)), fun w b c hT h => iApN1 b 0 c L x1 x2 x3 x4 x5 (ln : Int) s en f hf mo w h hen hsm hq hfz hlg hmo hs0 hs1 hl0 hl1 hx1 hx2 h99 hv hok hT ln rfl r0 hr0 K0 k2 k5 e0 L1 y1 d1 11 (by omega) (fun p B w hD hT => iWriteD p B K0 x1 k2 x3 x4 k5 (ln + 1) 0 f w hD (ok0.wk (Nat.le_refl _)) (by omega) hfz hT L1 y1 d1 r1 hr1 e1)⟩
    obtain ⟨r2, L2, y2, d2, g2, hr2, e2⟩ := st_ex L1 x1 y1 x3 x4 d1 4 (seg (ln + 1)) ⟨#[]⟩ 0
    have ok2 := ok1.step hr2 (seg_ok _) e2
    by_cases hc30 : g2 = 0
    · subst hc30
      exact ⟨L2, x1, y2, x3, x4, d2, ((ln : Int) + 1), 0, g1, (by have := (ok2.good.len); omega), fun w b c h => sHdN b 0 c L x1 x2 x3 x4 x5 (ln : Int) s en f hf mo w _ h hen hsm hq hfz hbl hbs hmo hs0 hs1 hl0 hl1 hx1 hx2 h99 hok h3 h4 ln rfl K0 k2 k5 r0 hr0 e0 (fun K wf gc cpc hK hX hL h8 h9 hc hFL => sTlE0 K gc 0 cpc K0 x1 k2 x3 x4 k5 ((ln : Int) + 1) 0 f w wf (ln + 1) L1 y1 d1 g1 hc10 hc111 L2 y2 d2 r1 hr1 e1 r2 hr2 e2 hK hX hL h8 h9 hc hFL hfz (by omega) (by omega) (ok0.wk (Nat.le_refl _)) h3 h4 rfl (by omega)), fun w b c hT h => iApN1 b 0 c L x1 x2 x3 x4 x5 (ln : Int) s en f hf mo w h hen hsm hq hfz hlg hmo hs0 hs1 hl0 hl1 hx1 hx2 h99 hv hok hT ln rfl r0 hr0 K0 k2 k5 e0 L2 y2 d2 g1 hc10 (fun p B w hD hT => iWriteE0 p B K0 x1 k2 x3 x4 k5 (ln + 1) 0 f w hD (ok0.wk (Nat.le_refl _)) (by omega) hfz hT L1 y1 d1 L2 y2 d2 g1 hc10 hc111 r1 hr1 e1 r2 hr2 e2)⟩
    by_cases hc311 : g2 = 11
    · subst hc311
      exact ⟨L2, x1, y2, x3, x4, d2, ((ln : Int) + 1), 0, 11, (by have := (ok2.good.len); omega), fun w b c h => sHdN b 0 c L x1 x2 x3 x4 x5 (ln : Int) s en f hf mo w _ h hen hsm hq hfz hbl hbs hmo hs0 hs1 hl0 hl1 hx1 hx2 h99 hok h3 h4 ln rfl K0 k2 k5 r0 hr0 e0 (fun K wf gc cpc hK hX hL h8 h9 hc hFL => sTlE1 K gc 0 cpc K0 x1 k2 x3 x4 k5 ((ln : Int) + 1) 0 f w wf (ln + 1) L1 y1 d1 g1 hc10 hc111 L2 y2 d2 r1 hr1 e1 r2 hr2 e2 hK hX hL h8 h9 hc hFL hfz (by omega) (by omega) (ok0.wk (Nat.le_refl _)) h3 h4 rfl (by omega)), fun w b c hT h => iApN1 b 0 c L x1 x2 x3 x4 x5 (ln : Int) s en f hf mo w h hen hsm hq hfz hlg hmo hs0 hs1 hl0 hl1 hx1 hx2 h99 hv hok hT ln rfl r0 hr0 K0 k2 k5 e0 L2 y2 d2 11 (by omega) (fun p B w hD hT => iWriteE1 p B K0 x1 k2 x3 x4 k5 (ln + 1) 0 f w hD (ok0.wk (Nat.le_refl _)) (by omega) hfz hT L1 y1 d1 L2 y2 d2 g1 hc10 hc111 r1 hr1 e1 r2 hr2 e2)⟩
    exact ⟨L2, x1, y2, x3, x4, d2, ((ln : Int) + 1), 0, 20, (by have := (ok2.good.len); omega), fun w b c h => sHdN b 0 c L x1 x2 x3 x4 x5 (ln : Int) s en f hf mo w _ h hen hsm hq hfz hbl hbs hmo hs0 hs1 hl0 hl1 hx1 hx2 h99 hok h3 h4 ln rfl K0 k2 k5 r0 hr0 e0 (fun K wf gc cpc hK hX hL h8 h9 hc hFL => sTlE2 K gc 0 cpc K0 x1 k2 x3 x4 k5 ((ln : Int) + 1) 0 f w wf (ln + 1) L1 y1 d1 g1 hc10 hc111 L2 y2 d2 g2 hc30 hc311 r1 hr1 e1 r2 hr2 e2 hK hX hL h8 h9 hc hFL hfz (by omega) (by omega) (ok0.wk (Nat.le_refl _)) h3 h4 rfl (by omega)), fun w b c hT h => iApN1 b 0 c L x1 x2 x3 x4 x5 (ln : Int) s en f hf mo w h hen hsm hq hfz hlg hmo hs0 hs1 hl0 hl1 hx1 hx2 h99 hv hok hT ln rfl r0 hr0 K0 k2 k5 e0 L2 y2 d2 20 (by omega) (fun p B w hD hT => iWriteE2 p B K0 x1 k2 x3 x4 k5 (ln + 1) 0 f w hD (ok0.wk (Nat.le_refl _)) (by omega) hfz hT L1 y1 d1 L2 y2 d2 g1 hc10 hc111 g2 hc30 hc311 r1 hr1 e1 r2 hr2 e2)⟩
  exact ⟨K0, x1, k2, x3, x4, k5, (ln : Int), s, g0, (by have := ok0.good.len; omega), fun w b c h => sApC b 0 c L x1 x2 x3 x4 x5 (ln : Int) s en f hf mo w h hen hsm hq hfz hbl hbs hmo hs0 hs1 hl0 hl1 hx1 hx2 h99 hok h3 h4 ln rfl g0 hcc K0 k2 k5 r0 hr0 e0, fun w b c hT h => iApC b 0 c L x1 x2 x3 x4 x5 (ln : Int) s en f hf mo w h hen hsm hq hfz hlg hmo hs0 hs1 hl0 hl1 hx1 hx2 h99 hv hok hT ln rfl g0 hcc r0 hr0 K0 k2 k5 e0⟩
theorem bothA (L : List Fil) (x1 x2 x3 x4 : Int) (x5 : Bool) (l s : Int) (en : ByteArray) (mo : Int) (hen : en.size ≤ 1048576) (hsm : Small L.length (nthF L)) (hsum : sumL L ≤ 1048576) : BothA L x1 x2 x3 x4 x5 l s en mo := by
  obtain ⟨f, hf⟩ : ∃ f, frm en = f := ⟨_, rfl⟩
  by_cases hq : f.size = 0
  · exact ⟨L, x1, x2, x3, x4, x5, l, s, 22, hsm.n, fun w b c h => sAp22a b 0 c L x1 x2 x3 x4 x5 l s en f hf mo w h hen hsm hq, fun w b c hT h => iAp22a b 0 c L x1 x2 x3 x4 x5 l s en f hf mo w h hen hsm hq⟩
  rcases hbl : btw l 1 9999
  · exact ⟨L, x1, x2, x3, x4, x5, l, s, 22, hsm.n, fun w b c h => sAp22b b 0 c L x1 x2 x3 x4 x5 l s en f hf mo w h hen hsm hq hbl, fun w b c hT h => iAp22b b 0 c L x1 x2 x3 x4 x5 l s en f hf mo w h hen hsm hq (by unfold logB; rw [hbl]; rfl)⟩
  rcases hbs : btw s 0 1000000000
  · exact ⟨L, x1, x2, x3, x4, x5, l, s, 22, hsm.n, fun w b c h => sAp22d b 0 c L x1 x2 x3 x4 x5 l s en f hf mo w h hen hsm hq hbl hbs, fun w b c hT h => iAp22b b 0 c L x1 x2 x3 x4 x5 l s en f hf mo w h hen hsm hq (by unfold logB; rw [hbl, hbs]; rfl)⟩
  have hlg : logB l s = true := by unfold logB; rw [hbl, hbs]; rfl
  rcases hmo : btw mo 1 1000000000
  · exact ⟨L, x1, x2, x3, x4, x5, l, s, 22, hsm.n, fun w b c h => sAp22c b 0 c L x1 x2 x3 x4 x5 l s en f hf mo w h hen hsm hq hbl hbs hmo, fun w b c hT h => iAp22c b 0 c L x1 x2 x3 x4 x5 l s en f hf mo w h hen hsm hq hlg hmo⟩
  have hfz : f.size ≤ 65536 := by have h1 := frm_size en; rw [hf] at h1; omega
  have hbl' := hbl
  have hbs' := hbs
  unfold btw at hbl' hbs'
  simp only [Bool.and_eq_true, decide_eq_true_eq] at hbl' hbs'
  obtain ⟨ln, rfl⟩ : ∃ ln : Nat, l = (ln : Int) := ⟨l.toNat, by omega⟩
  obtain ⟨hl0, hl1⟩ := hbl'
  obtain ⟨hs0, hs1⟩ := hbs'
  by_cases hx1 : s = 0
  · rcases hv : okFs L.length (nthF L) x1 x2 x3 x4
    · exact ⟨[], 0, 0, 0, 0, false, (ln : Int), s, 16, (Nat.zero_le _), fun w b c h => sAp16a b 0 c L x1 x2 x3 x4 x5 (ln : Int) s en f hf mo w h hen hsm hq hfz hbl hbs hmo hs0 hs1 hl0 hl1 hx1 hv ln rfl, fun w b c hT h => iAp16a b 0 c L x1 x2 x3 x4 x5 (ln : Int) s en f hf mo w h hen hsm hq hfz hlg hmo hs0 hs1 hl0 hl1 hx1 hv⟩
    · obtain ⟨hG, hX1, hX2, hX3, hX4⟩ := (okFs_iff L x1 x2 x3 x4).1 hv
      exact bothWa L x1 x2 x3 x4 x5 ln s en f hf mo hen hsm hq hfz hbl hbs hlg hmo hs0 hs1 hl0 hl1 hv ⟨hG, hX1.2, hX2.1, hX2.2, hsum⟩ hX3 hX4 hx1
  by_cases hx2 : mo < s + (f.size : Int)
  · by_cases h99 : (ln : Int) = 9999
    · exact ⟨L, x1, x2, x3, x4, x5, (ln : Int), s, 21, hsm.n, fun w b c h => sAp21 b 0 c L x1 x2 x3 x4 x5 (ln : Int) s en f hf mo w h hen hsm hq hfz hbl hbs hmo hs0 hs1 hl0 hl1 hx1 hx2 h99, fun w b c hT h => iAp21 b 0 c L x1 x2 x3 x4 x5 (ln : Int) s en f hf mo w h hen hsm hq hfz hlg hmo hs0 hs1 hl0 hl1 hx1 hx2 h99⟩
    · rcases hv : okFs L.length (nthF L) x1 x2 x3 x4
      · exact ⟨[], 0, 0, 0, 0, false, (ln : Int), s, 16, (Nat.zero_le _), fun w b c h => sAp16y b 0 c L x1 x2 x3 x4 x5 (ln : Int) s en f hf mo w h hen hsm hq hfz hbl hbs hmo hs0 hs1 hl0 hl1 hx1 hx2 h99 hv ln rfl, fun w b c hT h => iAp16y b 0 c L x1 x2 x3 x4 x5 (ln : Int) s en f hf mo w h hen hsm hq hfz hlg hmo hs0 hs1 hl0 hl1 hx1 hx2 h99 hv⟩
      · obtain ⟨hG, hX1, hX2, hX3, hX4⟩ := (okFs_iff L x1 x2 x3 x4).1 hv
        exact bothN L x1 x2 x3 x4 x5 ln s en f hf mo hen hsm hq hfz hbl hbs hlg hmo hs0 hs1 hl0 hl1 hv ⟨hG, hX1.2, hX2.1, hX2.2, hsum⟩ hX3 hX4 hx1 hx2 h99
  · rcases hv : okFs L.length (nthF L) x1 x2 x3 x4
    · exact ⟨[], 0, 0, 0, 0, false, (ln : Int), s, 16, (Nat.zero_le _), fun w b c h => sAp16b b 0 c L x1 x2 x3 x4 x5 (ln : Int) s en f hf mo w h hen hsm hq hfz hbl hbs hmo hs0 hs1 hl0 hl1 hx1 hx2 hv ln rfl, fun w b c hT h => iAp16b b 0 c L x1 x2 x3 x4 x5 (ln : Int) s en f hf mo w h hen hsm hq hfz hlg hmo hs0 hs1 hl0 hl1 hx1 hx2 hv⟩
    · obtain ⟨hG, hX1, hX2, hX3, hX4⟩ := (okFs_iff L x1 x2 x3 x4).1 hv
      exact bothWb L x1 x2 x3 x4 x5 ln s en f hf mo hen hsm hq hfz hbl hbs hlg hmo hs0 hs1 hl0 hl1 hv ⟨hG, hX1.2, hX2.1, hX2.2, hsum⟩ hX3 hX4 hx1 hx2
end Go.Proofs.YtdbcihebhgpblaaDoor
